import PyProof.Rows.All
import Wide.All
import OpenK.AllK
import Wide.FinOn
import Lean
import PyProof.EqAt
import PyProof.EqKinds
import PyProof.TupleCall
import PyProof.NeKinds
import PyProof.FactsAll.tuple
import PySem.Challenge.RW_lotwander_k18_texts_there_and_back
set_option Elab.async false
set_option linter.all false
set_option maxRecDepth 100000
set_option maxHeartbeats 4000000
/-! THE HAND LAYER, for ints, bools, texts, own classes, LISTS and tuples (index, slices, in, append, pop ..), calls, loops. Paste it whole ahead of your own text; what your proof does not reach may be deleted. -/
namespace L2
open PySem PySem.Spec PyProof.Rows

/-- a key: an int or a str -/
abbrev Key := Sum Int Str
def keyIs : Key → Value → Bool
  | .inl k, v => Value.isInt k v
  | .inr x, v => Value.isStrOf x v
def keyH (w : World) : Key → Int
  | .inl k => hashInt k
  | .inr x => hashStr w x
theorem keyIs_shape : ∀ {k : Key} {v : Value}, keyIs k v = true → (∃ i t, k = Sum.inl i ∧ v = Value.int i t) ∨ (∃ x t, k = Sum.inr x ∧ v = Value.str x t)
  | .inl i, v, h => by
    obtain ⟨t, e⟩ := Value.isInt_shape (k := i) (v := v) h
    exact .inl ⟨i, t, rfl, e⟩
  | .inr x, v, h => by
    obtain ⟨t, e⟩ := Value.isStrOf_shape (x := x) (v := v) h
    exact .inr ⟨x, t, rfl, e⟩
theorem keyIs_int (i : Int) (t : Tok) : keyIs (.inl i) (.int i t) = true := by simp [keyIs, Value.isInt]
theorem keyIs_str (x : Str) (t : Tok) : keyIs (.inr x) (.str x t) = true := by simp [keyIs, Value.isStrOf]
theorem key_ll (a b : Int) : decide ((Sum.inl a : Key) = Sum.inl b) = (a == b) := by
  by_cases e : a = b
  · subst e; simp
  · have h : ¬ (Sum.inl a : Key) = Sum.inl b := fun q => e (Sum.inl.inj q)
    rw [decide_eq_false h]
    exact (beq_eq_false_iff_ne.mpr e).symm
theorem key_rr (a b : Str) : decide ((Sum.inr a : Key) = Sum.inr b) = decide (a = b) := by
  by_cases e : a = b
  · subst e; simp
  · have h : ¬ (Sum.inr a : Key) = Sum.inr b := fun q => e (Sum.inr.inj q)
    rw [decide_eq_false h, decide_eq_false e]
theorem key_lr (a : Int) (b : Str) : decide ((Sum.inl a : Key) = Sum.inr b) = false := decide_eq_false (fun q => nomatch q)
theorem key_rl (a : Str) (b : Int) : decide ((Sum.inr a : Key) = Sum.inl b) = false := decide_eq_false (fun q => nomatch q)

def mixKind (prog : Program) (w : World) : PySem.KeyKind prog w Key where
  is := keyIs
  hash := keyH w
  inj := fun v a b ha hb => by
    rcases keyIs_shape ha with ⟨i, t, rfl, rfl⟩ | ⟨x, t, rfl, rfl⟩
    · rcases keyIs_shape hb with ⟨j, u, rfl, e⟩ | ⟨y, u, rfl, e⟩
      · injection e with e1 _; rw [e1]
      · exact nomatch e
    · rcases keyIs_shape hb with ⟨j, u, rfl, e⟩ | ⟨y, u, rfl, e⟩
      · exact nomatch e
      · injection e with e1 _; rw [e1]
  byValue := fun k v h => by
    rcases keyIs_shape h with ⟨i, t, rfl, rfl⟩ | ⟨x, t, rfl, rfl⟩ <;> rfl
  pyHash := fun hv h => by
    rcases keyIs_shape hv with ⟨i, t, rfl, rfl⟩ | ⟨x, t, rfl, rfl⟩
    · exact wpAny_pyHash_int h
    · exact wpAny_pyHash_str h
  eqBool := fun hu hv h => by
    rcases keyIs_shape hu with ⟨i, t, rfl, rfl⟩ | ⟨x, t, rfl, rfl⟩
    · rcases keyIs_shape hv with ⟨j, u, rfl, rfl⟩ | ⟨y, u, rfl, rfl⟩
      · rw [key_ll] at h; exact wpAny_eqBool_int h
      · rw [key_lr] at h; exact SeqAt.EqAt.int_str i t y u _ _ _ _ h
    · rcases keyIs_shape hv with ⟨j, u, rfl, rfl⟩ | ⟨y, u, rfl, rfl⟩
      · rw [key_rl] at h; exact SeqAt.EqAt.str_int x t j u _ _ _ _ h
      · rw [key_rr] at h; exact wpAny_eqBool_str h
  «strs» := fun k x t v h => by
    rcases keyIs_shape h with ⟨i, u, rfl, e⟩ | ⟨y, u, rfl, e⟩
    · exact nomatch e
    · injection e with e1 _
      subst e1
      cases v <;> rfl

theorem mixKind_int (prog : Program) (w : World) (i : Int) (t : Tok) : (mixKind prog w).is (.inl i) (.int i t) = true := keyIs_int i t
theorem mixKind_str (prog : Program) (w : World) (x : Str) (t : Tok) : (mixKind prog w).is (.inr x) (.str x t) = true := keyIs_str x t
end L2

namespace L2
open PySem PySem.Spec PyProof.Rows

/-- a value, without the heap -/
inductive V where
  | non | bl (b : Bool) | int (i : Int) | str (x : Str) | byt (b : Array UInt8) | flt (b : UInt64) | ref (a : Addr) | ty (n : String)
  deriving DecidableEq

def RelV : V → Value → Prop
  | .non, u => u = Value.none
  | .bl b, u => u = Value.bool b
  | .int i, u => ∃ t, u = Value.int i t
  | .str x, u => ∃ t, u = Value.str x t
  | .byt b, u => ∃ t, u = Value.bytes b t
  | .flt b, u => ∃ t, u = Value.float b t
  | .ref a, u => u = Value.ref a
  | .ty n, u => u = Value.type n

abbrev Vals : List V → List Value → Prop := Paired RelV
theorem Vals.length {xs : List V} {us : List Value} (r : Vals xs us) : xs.length = us.length := Paired.length r
theorem Vals.get : ∀ {xs : List V} {us : List Value} {i : Nat} {x : V}, Vals xs us → xs[i]? = some x → ∃ u, us[i]? = some u ∧ RelV x u
  | _, _, _, _, .nil, e => by simp at e
  | _, _, 0, _, .cons r _, e => by simp at e; subst e; exact ⟨_, rfl, r⟩
  | _, _, i + 1, x, .cons _ t, e => by
    obtain ⟨u, h1, h2⟩ := Vals.get (i := i) (x := x) t (by simpa using e)
    exact ⟨u, by simpa using h1, h2⟩
theorem Vals.append : ∀ {xs ys : List V} {us ws : List Value}, Vals xs us → Vals ys ws → Vals (xs ++ ys) (us ++ ws)
  | _, _, _, _, .nil, s => s
  | _, _, _, _, .cons r t, s => .cons r (Vals.append t s)

def RelO : Option V → Option Value → Prop
  | some v, some u => RelV v u
  | none, none => True
  | _, _ => False
def KV {κ : Type} : List (κ × V) → List (κ × Value) → Prop := Paired fun (p : κ × V) (q : κ × Value) => p.1 = q.1 ∧ RelV p.2 q.2

/-- a key of a dict (00_mix): an int or a text -/
def kV : Key → V
  | .inl i => .int i
  | .inr x => .str x

/-- what stands at a tracked address -/
inductive HO where
  /-- a list -/
  | lst (xs : List V)
  /-- a tuple (never changes) -/
  | tup (xs : List V)
  /-- a dict whose keys are ints and texts; one whose keys are tuples of ints and texts (the empty one is both) -/
  | dK (kvs : List (Key × V)) | dT (kvs : List (List Key × V))
  /-- a set of ints: its members, its size -/
  | set (S : Int → Bool) (n : Nat)
  /-- an instance of the class at C, its dict at dx, its attributes -/
  | ins (C dx : Addr) (fs : List (Str × V))
  /-- the dict of the instance at x -/
  | own (x : Addr)
  /-- the dict of an exception -/
  | xd (fs : List (Str × V))
  /-- a bound method, f of x -/
  | met (f x : Addr)
  /-- a range object lo, lo + 1, .. below hi -/
  | rng (lo hi : Int)
  /-- a thing that is known to the object (the script; a dict while a loop walks it): read, never written while it is so -/
  | frz (o : Obj) (u : HO)
  /-- a code object's table -/
  | tbl (ps : Array Value)
  /-- any other thing, by what is true of its one object (a def of one's own: SetO a S n := HO.ext fun h => ..) -/
  | ext (φ : Heap → Prop)

abbrev Hp := Addr → Option HO
def upd (H : Hp) (a : Addr) (o : HO) : Hp := fun b => if b = a then some o else H b
theorem upd_same {H : Hp} {a : Addr} {o : HO} : upd H a o a = some o := by unfold upd; rw [if_pos rfl]
theorem upd_ne {H : Hp} {a b : Addr} {o : HO} (h : b ≠ a) : upd H a o b = H b := by unfold upd; rw [if_neg h]
/-- two objects of different content stand apart -/
theorem ne_of {H : Hp} {a b : Addr} {o u : HO} (h : H a = some o) (h' : H b = some u) (d : o ≠ u) : a ≠ b := by
  intro e; subst e; rw [h] at h'; exact d (Option.some.inj h')
theorem ne_of_none {H : Hp} {a b : Addr} {o : HO} (h : H a = some o) (h' : H b = none) : a ≠ b := by
  intro e; subst e; rw [h] at h'; cases h'

section
variable (P : Program) (w : World)
def ObjOk (H : Hp) (h : Heap) (a : Addr) : HO → Prop
  | .lst xs => xs.length ≤ sizeLine ∧ ∃ (its : List Value) (n : Nat), Vals xs its ∧ h.get? a = some { cls := .type "list", data := .seq its.toArray n }
  | .tup xs => xs.length ≤ sizeLine ∧ ∃ its : List Value, Vals xs its ∧ IsTup h a its.toArray
  | .dK kvs => kvs.length ≤ sizeLine ∧ (a == sysModules) = false ∧ ∃ vs, KV kvs vs ∧ h.DictOf (mixKind P w) a vs
  | .dT kvs => kvs.length ≤ sizeLine ∧ (a == sysModules) = false ∧ ∃ xs : List (List Key × Addr × Value),
      Paired (fun (p : List Key × V) (q : List Key × Addr × Value) => p.1 = q.1 ∧ H q.2.1 = some (.tup (p.1.map kV)) ∧ RelV p.2 q.2.2) kvs xs ∧
      ∃ o es ep, h.get? a = some o ∧ o.ExactDict ∧ o.data = .dict es ep ∧ es.toList = xs.map (entryOfKey (tupleKind (mixKind P w))) ∧ (xs.map (·.1)).Nodup
  | .set S n => h.SetOf (intKind P w) a S n
  | .ins C dx fs => H dx = some (.own a) ∧ fs.length ≤ 1000 ∧ dx ≠ a ∧ h.get? a = some (PySem.W.instObj C dx) ∧
      ∃ mA, h.Ns1 dx mA ∧ (∀ f, RelO (fs.lookup f) (mA f)) ∧ PySem.Within mA (fs.map (·.1))
  | .own _ => ∃ o, h.get? a = some o
  | .xd fs => ∃ mA, h.Ns1 a mA ∧ ∀ f, RelO (fs.lookup f) (mA f)
  | .rng lo hi => ∃ t u v, h.get? a = some { cls := .type "range", data := .fields #[.int lo t, .int hi u, .int 1 v] }
  | .frz o u => h.get? a = some o ∧ ObjOk H h a u
  | .tbl ps => h.get? a = some { cls := .none, data := .fields ps }
  | .met f x => h.get? a = some (PySem.W.methodObj (.ref f) (.ref x))
  | .ext φ => φ h ∧ (∃ o, h.get? a = some o) ∧ ∀ h1 h2 : Heap, φ h1 → (∀ o, h1.get? a = some o → h2.get? a = some o) → φ h2
/-- the abstract heap is held -/
def HOk (H : Hp) (h : Heap) : Prop := ∀ a o, H a = some o → ObjOk P w H h a o
end

section
variable {P : Program} {w : World} {H H' : Hp} {h h' : Heap} {a : Addr} {o : HO}
theorem ObjOk.lt (x : ObjOk P w H h a o) : a < h.objs.size := by
  cases o with
  | lst xs => obtain ⟨_, _, _, _, e⟩ := x; exact Heap.lt_size e
  | tup xs => obtain ⟨_, _, _, p⟩ := x; exact p.lt
  | dK kvs => obtain ⟨_, _, _, _, o, _, _, e, _⟩ := x; exact Heap.lt_size e
  | dT kvs => obtain ⟨_, _, _, _, o, _, _, e, _⟩ := x; exact Heap.lt_size e
  | set S n => obtain ⟨o, _, _, _, e, _⟩ := x; exact Heap.lt_size e
  | ins C dx fs => obtain ⟨_, _, _, e, _⟩ := x; exact Heap.lt_size e
  | own y => obtain ⟨_, e⟩ := x; exact Heap.lt_size e
  | xd fs => obtain ⟨_, ⟨_, _, _, e, _⟩, _⟩ := x; exact Heap.lt_size e
  | rng lo hi => obtain ⟨_, _, _, e⟩ := x; exact Heap.lt_size e
  | frz ob u => obtain ⟨e, _⟩ := x; exact Heap.lt_size e
  | tbl ps => exact Heap.lt_size (show h.get? a = some _ from x)
  | met f y => exact Heap.lt_size (show h.get? a = some _ from x)
  | ext φ => obtain ⟨_, ⟨_, e⟩, _⟩ := x; exact Heap.lt_size e
theorem Paired.mapP {α β : Type} {F G : α → β → Prop} : ∀ {l₁ : List α} {l₂ : List β}, Paired F l₁ l₂ → (∀ a b, F a b → G a b) → Paired G l₁ l₂
  | _, _, .nil, _ => .nil
  | _, _, .cons r t, f => .cons (f _ _ r) (Paired.mapP t f)
/-- what an object's description leans on: its own object, its own dict, the tuples -/
theorem ObjOk.stay (x : ObjOk P w H h a o) (k : ∀ b u, (b = a ∨ H b = some (.own a)) → h.get? b = some u → h'.get? b = some u)
    (ho : ∀ b, H b = some (.own a) → H' b = some (.own a)) (ht : ∀ b xs, H b = some (.tup xs) → H' b = some (.tup xs)) : ObjOk P w H' h' a o := by
  induction o with
  | lst xs => obtain ⟨z, its, n, r, e⟩ := x; exact ⟨z, its, n, r, k _ _ (.inl rfl) e⟩
  | tup xs => obtain ⟨z, its, r, ob, e, c⟩ := x; exact ⟨z, its, r, ob, k _ _ (.inl rfl) e, c⟩
  | dK kvs => obtain ⟨z, y, vs, r, ob, es, ep, e, c⟩ := x; exact ⟨z, y, vs, r, ob, es, ep, k _ _ (.inl rfl) e, c⟩
  | dT kvs =>
    obtain ⟨z, y, xs, r, ob, es, ep, e, c⟩ := x
    exact ⟨z, y, xs, Paired.mapP r fun p q z => ⟨z.1, ht _ _ z.2.1, z.2.2⟩, ob, es, ep, k _ _ (.inl rfl) e, c⟩
  | set S n => obtain ⟨ob, es, ep, t, e, c⟩ := x; exact ⟨ob, es, ep, t, k _ _ (.inl rfl) e, c⟩
  | ins C dx fs =>
    obtain ⟨d, z, ne, e, mA, ⟨od, es, ep, e2, c⟩, r⟩ := x
    exact ⟨ho _ d, z, ne, k _ _ (.inl rfl) e, mA, ⟨od, es, ep, k _ _ (.inr d) e2, c⟩, r⟩
  | own y => obtain ⟨ob, e⟩ := x; exact ⟨ob, k _ _ (.inl rfl) e⟩
  | xd fs => obtain ⟨mA, ⟨od, es, ep, e, c⟩, r⟩ := x; exact ⟨mA, ⟨od, es, ep, k _ _ (.inl rfl) e, c⟩, r⟩
  | rng lo hi => obtain ⟨t, u, v, e⟩ := x; exact ⟨t, u, v, k _ _ (.inl rfl) e⟩
  | frz ob u ih => obtain ⟨e, q⟩ := x; exact ⟨k _ _ (.inl rfl) e, ih q⟩
  | tbl ps =>
    have e : h.get? a = some { cls := .none, data := .fields ps } := x
    show h'.get? a = some { cls := .none, data := .fields ps }
    exact k a _ (.inl rfl) e
  | met f y =>
    have e : h.get? a = some (PySem.W.methodObj (.ref f) (.ref y)) := x
    show h'.get? a = some (PySem.W.methodObj (.ref f) (.ref y))
    exact k a _ (.inl rfl) e
  | ext φ => obtain ⟨p, ⟨o, e⟩, st⟩ := x; exact ⟨st _ _ p fun o q => k _ _ (.inl rfl) q, ⟨o, k _ _ (.inl rfl) e⟩, st⟩
theorem HOk.lt (x : HOk P w H h) (e : H a = some o) : a < h.objs.size := (x a o e).lt
theorem HOk.fresh (x : HOk P w H h) (e : h.objs.size ≤ a) : H a = none := by
  cases q : H a with
  | none => rfl
  | some u => exact absurd (Nat.lt_of_lt_of_le (x.lt q) e) (Nat.lt_irrefl _)
/-- every object of the heap is kept -/
theorem HOk.kept (x : HOk P w H h) (k : ∀ b u, h.get? b = some u → h'.get? b = some u) : HOk P w H h' := fun a o e =>
  (x a o e).stay (fun b u _ q => k b u q) (fun _ q => q) fun _ _ q => q
/-- a new object is laid and tracked -/
theorem HOk.laid (x : HOk P w H h) (k : ∀ b u, h.get? b = some u → h'.get? b = some u) (hp : h.objs.size ≤ a) (new : ObjOk P w (upd H a o) h' a o) : HOk P w (upd H a o) h' := fun b u e => by
  have hn := x.fresh hp
  by_cases hb : b = a
  · subst hb; rw [upd_same] at e; cases e; exact new
  · rw [upd_ne hb] at e
    exact (x b u e).stay (fun c v _ q => k c v q) (fun c q => by rw [upd_ne (ne_of_none q hn)]; exact q) fun c xs q => by rw [upd_ne (ne_of_none q hn)]; exact q
end

/-- what may be read as u: it is u, or a known u -/
def Rd (H : Hp) (a : Addr) (u : HO) : Prop := H a = some u ∨ ∃ o, H a = some (.frz o u)
theorem Rd.ok {P : Program} {w : World} {H : Hp} {h : Heap} {a : Addr} {u : HO} (r : Rd H a u) (x : HOk P w H h) : ObjOk P w H h a u := by
  rcases r with r | ⟨o, r⟩
  · exact x a u r
  · obtain ⟨_, q⟩ := x a _ r
    exact q
/-- what may be written -/
def Mut : Option HO → Prop
  | some (.lst _) => True
  | some (.dK _) => True
  | some (.dT _) => True
  | some (.set _ _) => True
  | some (.ins _ _ _) => True
  | some (.ext _) => True
  | _ => False
section
variable {P : Program} {w : World} {H : Hp} {h h' : Heap} {x e : Addr} {o' : HO}
/-- the object at e is changed: x itself, or the dict of the instance x -/
theorem HOk.write (ok : HOk P w H h) (mu : Mut (H x)) (he : e = x ∨ H e = some (.own x)) (k : ∀ b u, b ≠ e → h.get? b = some u → h'.get? b = some u) (heo : ∃ u, h'.get? e = some u)
    (new : ObjOk P w (upd H x o') h' x o') : HOk P w (upd H x o') h' := fun b u q => by
  have nown : ∀ c y, H c = some (.own y) → c ≠ x := fun c y r z => by subst z; rw [r] at mu; exact mu
  have ntup : ∀ c xs, H c = some (.tup xs) → c ≠ x := fun c xs r z => by subst z; rw [r] at mu; exact mu
  by_cases hb : b = x
  · subst hb; rw [upd_same] at q; cases q; exact new
  · rw [upd_ne hb] at q
    by_cases hbe : b = e
    · have q' : H b = some (.own x) := by
        rcases he with z | z
        · exact absurd (hbe.trans z) hb
        · rw [hbe]; exact z
      rw [q] at q'; cases q'
      obtain ⟨v, hv⟩ := heo
      exact ⟨v, by rw [hbe]; exact hv⟩
    · refine (ok b u q).stay (fun c v hc r => k c v ?_ r) (fun c r => by rw [upd_ne (nown c b r)]; exact r) fun c xs r => by rw [upd_ne (ntup c xs r)]; exact r
      rcases hc with rfl | hc
      · exact hbe
      · rintro rfl
        rcases he with z | z
        · exact nown c b hc z
        · rw [hc] at z; cases z; exact hb rfl
end

/-! ### kept unless tracked; of the frames at fs (the callers') the slots may change (an exception that passes writes there); of the records at ex (iterators) nothing is said -/
structure Un (fs ex : List Addr) (H H' : Hp) (h h' : Heap) : Prop where
  keep : ∀ b o, h.get? b = some o → H b = none → b ∉ fs → b ∉ ex → h'.get? b = some o
  slot : ∀ b o, h.get? b = some o → H b = none → b ∈ fs → b ∉ ex → ∃ sl, h'.get? b = some { o with slots := sl }
  free : ∀ b o, h.get? b = some o → H b = none → b ∉ ex → H' b = none
  there : ∀ b o, h.get? b = some o → b ∉ ex → ∃ o', h'.get? b = some o'
  tups : ∀ b xs, H b = some (.tup xs) → H' b = some (.tup xs)
  frzs : ∀ b o u, H b = some (.frz o u) → H' b = some (.frz o u)
  tbls : ∀ b ps, H b = some (.tbl ps) → ∃ more, H' b = some (.tbl (ps ++ more))
section
variable {fs fs' ex ex' : List Addr} {H H1 H2 : Hp} {h h1 h2 h' : Heap} {a x e : Addr} {o : HO}
theorem Un.any (u : Un fs ex H H1 h h1) {b : Addr} {ob : Obj} (q : h.get? b = some ob) (n : H b = none) (hx : b ∉ ex) : ∃ sl, h1.get? b = some { ob with slots := sl } := by
  by_cases hb : b ∈ fs
  · exact u.slot b ob q n hb hx
  · exact ⟨ob.slots, u.keep b ob q n hb hx⟩
theorem Un.kept (k : ∀ b u, h.get? b = some u → h'.get? b = some u) : Un fs ex H H h h' :=
  ⟨fun b ob q _ _ _ => k b ob q, fun b ob q _ _ _ => ⟨ob.slots, k b ob q⟩, fun _ _ _ n _ => n, fun b ob q _ => ⟨ob, k b ob q⟩, fun _ _ q => q, fun _ _ _ q => q, fun _ ps q => ⟨#[], by rw [q]; simp⟩⟩
theorem Un.refl : Un fs ex H H h h := Un.kept fun _ _ q => q
theorem Un.laid (k : ∀ b u, h.get? b = some u → h'.get? b = some u) (hp : h.objs.size ≤ a) (hn : H a = none) : Un fs ex H (upd H a o) h h' where
  keep := fun b u q _ _ _ => k b u q
  slot := fun b u q _ _ _ => ⟨u.slots, k b u q⟩
  free := fun b u q n _ => by rw [upd_ne (Nat.ne_of_lt (Nat.lt_of_lt_of_le (Heap.lt_size q) hp))]; exact n
  there := fun b u q _ => ⟨u, k b u q⟩
  tups := fun b xs q => by rw [upd_ne (ne_of_none q hn)]; exact q
  frzs := fun b u xs q => by rw [upd_ne (ne_of_none q hn)]; exact q
  tbls := fun b ps q => ⟨#[], by rw [upd_ne (ne_of_none q hn), q]; simp⟩
theorem Un.write (mu : Mut (H x)) (he : e = x ∨ H e = some (.own x)) (k : ∀ b u, b ≠ e → h.get? b = some u → h'.get? b = some u) (heo : ∃ u, h'.get? e = some u) : Un fs ex H (upd H x o) h h' := by
  have hx : ∀ b, H b = none → b ≠ x := fun b n z => by subst z; rw [n] at mu; exact mu
  have hb : ∀ b, H b = none → b ≠ e := fun b n z => by
    subst z
    rcases he with r | r
    · exact hx b n r
    · rw [n] at r; cases r
  have hm : ∀ b u, H b = some u → ¬ Mut (some u) → b ≠ x := fun b u q nm z => by subst z; rw [q] at mu; exact nm mu
  refine ⟨fun b u q n _ _ => k b u (hb b n) q, fun b u q n _ _ => ⟨u.slots, k b u (hb b n) q⟩, fun b u q n _ => by rw [upd_ne (hx b n)]; exact n, fun b u q _ => ?_,
    fun b xs q => by rw [upd_ne (hm b _ q fun z => z)]; exact q, fun b u xs q => by rw [upd_ne (hm b _ q fun z => z)]; exact q, fun b ps q => ⟨#[], by rw [upd_ne (hm b _ q fun z => z), q]; simp⟩⟩
  by_cases hbe : b = e
  · subst hbe; exact heo
  · exact ⟨u, k b u hbe q⟩
end

/-! ### the heap without what is tracked -/
def trk (h : Heap) (H : Hp) : List Addr := (List.range h.objs.size).filter fun a => (H a).isSome
def hidT (h : Heap) (H : Hp) : Heap := PySem.W.hideAll h (trk h H)
theorem hidT_size (h : Heap) (H : Hp) : (hidT h H).objs.size = h.objs.size := PySem.W.hideAll_size _ _
theorem hidT_get {h : Heap} {H : Hp} {b : Addr} {o : Obj} (e : h.get? b = some o) (n : H b = none) : (hidT h H).get? b = some o :=
  PySem.W.hideAll_get _ e fun hm => by
    have q : (H b).isSome = true := (List.mem_filter.mp hm).2
    rw [n] at q; simp at q
theorem of_hidT {h : Heap} {H : Hp} {b : Addr} {o : Obj} (e : (hidT h H).get? b = some o) : h.get? b = some o ∧ H b = none := by
  have e' : h.get? b = some o := PySem.W.of_hideAll (trk h H) e
  refine ⟨e', ?_⟩
  cases q : H b with
  | none => rfl
  | some x =>
    have hm : b ∈ trk h H := List.mem_filter.mpr ⟨List.mem_range.mpr (Heap.lt_size e'), by simp [q]⟩
    have z : (hidT h H).get? b = none := PySem.W.hideAll_none (trk h H) hm
    rw [z] at e; cases e

/-! ### OpenK's ledger, filled with every new object but one -/
def allNews (g h : Heap) (L : Addr) : List (Addr × Obj) := (List.range h.objs.size).filterMap fun a => if a = L ∨ (g.get? a).isSome = true then none else (h.get? a).map fun o => (a, o)
def rest (g h : Heap) (L d : Addr) : List (Addr × Obj) := (allNews g h L).filter fun p => decide (p.1 ≠ d)
end L2

namespace L2
open PySem PySem.Spec PyProof.Rows

/-- the module's facts, over the base: the heap at the law's entry without what is tracked there -/
structure Mod (K : PySem.W.Frag) (mg : Str → Option Value) (base : Heap) : Prop where
  kin : K.In base
  glob : base.Ns mainGlobals mg
  blt : ∃ mb, base.Ns builtinsNs mb ∧ ∀ x : Str, x ≠ "__name__" → mb x = bootBuiltins x
  nolimit : base.NoLimit

/-- the context: a def's body (or a comprehension's block) running. base: fixed through the whole law; s₀, H₀: the entry; outer: the frames whose slots others may change (a def's callers); stack: all frames that run;
   ex: iterators that were made ahead of the entry and are walked here (a comprehension's); fn: the names whose cells were made at the entry (a def: all; a comprehension's block: its own); calm: not within an except suite; pn: pins that every state bears; xe: what is wanted of an exception that leaves the code -/
structure Cx where
  prog : Program
  w : World
  K : PySem.W.Frag
  mg : Str → Option Value
  base : Heap
  A : Around
  N : List Str
  s₀ : Shared
  H₀ : Hp
  env : Env
  outer : List Env
  stack : List Env
  ex : List Addr
  fn : Str → Bool
  calm : Bool
  pn : List (Addr × Obj)
  xe : Value → Shared → Prop
/-- the callers' frames -/
def frs (l : List Env) : List Addr := l.filterMap (·.frame)
abbrev Cx.fs (X : Cx) : List Addr := frs X.outer

def Vis (sc : Scope) (x : Str) : Prop := sc.names.lookup x = some .local ∨ sc.names.lookup x = some .cell ∨ sc.names.lookup x = some .free
def Loc (sc : Scope) (x : Str) : Prop := sc.names.lookup x = some .local ∨ sc.names.lookup x = some .cell
def Look (env : Env) (h : Heap) (m : Str → Option Value) (x : Str) (u : Value) : Prop :=
  (env.kindOf x = some .local ∧ m x = some u) ∨ ((env.kindOf x = some .cell ∨ env.kindOf x = some .free) ∧ ∃ c, env.cells.lookup x = some c ∧ h.IsCell c (some u))

structure Cx.Ok (X : Cx) : Prop where
  mod : Mod X.K X.mg X.base
  kind : X.env.scope.kind = .function
  glob : X.env.globals = mainGlobals
  blt : X.env.builtins = builtinsNs
  above : X.s₀.heap.objs.size ≤ X.env.locals
  inj : ∀ x y c, X.env.cells.lookup x = some c → X.env.cells.lookup y = some c → x = y
  has : ∀ x, (X.env.kindOf x = some .cell ∨ X.env.kindOf x = some .free) → ∃ c, X.env.cells.lookup x = some c
  cab : ∀ x c, X.fn x = true → X.env.cells.lookup x = some c → X.s₀.heap.objs.size ≤ c
  hd : X.calm = true → X.A.handled = none
  frames : X.A.frames = some X.stack
  stk : X.stack = X.outer ∨ (X.stack = X.env :: X.outer ∧ X.env.frame = some X.env.locals)
  exf : ∀ b ∈ X.ex, b ≠ X.env.locals ∧ ∀ x c, X.env.cells.lookup x = some c → c ≠ b
  bs : ∀ b o, X.base.get? b = some o → X.s₀.heap.get? b = some o ∧ X.H₀ b = none
  bsz : X.base.objs.size ≤ X.s₀.heap.objs.size
  noex : ∀ b o, X.base.get? b = some o → b ∉ X.ex
  exfs : ∀ b ∈ X.ex, b ∉ X.fs
  funs : X.s₀.heap.FunFrames X.base X.outer
  frf : ∀ b ∈ X.fs, X.H₀ b = none

structure Inv (X : Cx) (pins : List (Addr × Obj)) (σ : List (Option V)) (H : Hp) (s : Shared) : Prop where
  ok : X.Ok
  os : s.os = X.s₀.os
  bare : AllBare s.gens
  base : Un X.fs X.ex X.H₀ H X.s₀.heap s.heap
  loc : ∃ m, s.heap.Ns X.env.locals m ∧ ∀ (i : Nat) (x : Str) (v : V), X.N[i]? = some x → σ[i]? = some (some v) → Vis X.env.scope x → ∃ u, RelV v u ∧ Look X.env s.heap m x u
  cell : ∀ x c, X.env.cells.lookup x = some c → ∃ v, s.heap.IsCell c v
  free : H X.env.locals = none
  freeC : ∀ x c, X.env.cells.lookup x = some c → H c = none
  pin : ∀ p ∈ X.pn ++ pins, s.heap.get? p.1 = some p.2 ∧ H p.1 = none ∧ p.1 ≠ X.env.locals ∧ p.1 ∉ X.fs ∧ ∀ v, p.2.data ≠ .cell v
  hok : HOk X.prog X.w H s.heap
  len : σ.length = X.N.length

section
variable {X : Cx} {pins : List (Addr × Obj)} {σ : List (Option V)} {H H' : Hp} {s : Shared} {h' : Heap}

theorem Cx.Ok.nofr (ok : X.Ok) {b : Addr} {o : Obj} (e : X.base.get? b = some o) : b ∉ X.fs := fun hb => by
  have := (ok.funs.mem hb).1
  rw [e] at this; cases this
theorem Inv.bs (I : Inv X pins σ H s) : ∀ b o, X.base.get? b = some o → s.heap.get? b = some o ∧ H b = none := fun b o e =>
  ⟨I.base.keep b o (I.ok.bs b o e).1 (I.ok.bs b o e).2 (I.ok.nofr e) (I.ok.noex b o e), I.base.free b o (I.ok.bs b o e).1 (I.ok.bs b o e).2 (I.ok.noex b o e)⟩
theorem Inv.bk (I : Inv X pins σ H s) : ∀ b o, X.base.get? b = some o → s.heap.get? b = some o := fun b o e => (I.bs b o e).1
theorem Inv.mod (I : Inv X pins σ H s) : Mod X.K X.mg X.base := I.ok.mod
theorem Inv.kIn (I : Inv X pins σ H s) : X.K.In s.heap := I.ok.mod.kin.keeps I.bk
theorem Inv.lt (I : Inv X pins σ H s) : X.env.locals < s.heap.objs.size := let ⟨_, hn, _⟩ := I.loc; hn.lt
theorem Inv.sz (I : Inv X pins σ H s) : X.s₀.heap.objs.size ≤ s.heap.objs.size := Nat.le_trans I.ok.above (Nat.le_of_lt I.lt)
theorem Inv.nofs (I : Inv X pins σ H s) {a : Addr} (h : s.heap.objs.size ≤ a) : a ∉ X.fs := fun hb => by
  obtain ⟨_, o, ho, _⟩ := I.ok.funs.mem hb
  exact absurd (Nat.lt_of_lt_of_le (Heap.lt_size ho) (Nat.le_trans I.sz h)) (Nat.lt_irrefl _)
theorem Inv.cne (I : Inv X pins σ H s) : ∀ x c, X.env.cells.lookup x = some c → c ≠ X.env.locals := fun x c e z => by
  obtain ⟨v, o, ho, hd⟩ := I.cell x c e
  obtain ⟨m, ⟨o', es, ep, ho', hd', _⟩, _⟩ := I.loc
  rw [z, ho'] at ho; cases ho; rw [hd'] at hd; cases hd
theorem Inv.funs (I : Inv X pins σ H s) : s.heap.FunFrames X.base X.outer := by
  have all : ∀ (l : List Env), (∀ b ∈ frs l, b ∈ X.fs) → X.s₀.heap.FunFrames X.base l → s.heap.FunFrames X.base l := by
    intro l
    induction l with
    | nil => intro _ _; trivial
    | cons env r ih =>
      intro hs hl
      obtain ⟨hk, ⟨L, o, hf, hn, ho, hd⟩, hr⟩ := hl
      have hL : L ∈ X.fs := hs L (by unfold frs; rw [List.filterMap_cons, hf]; exact List.mem_cons_self)
      obtain ⟨sl, e⟩ := I.base.slot L o ho (I.ok.frf L hL) hL fun z => I.ok.exfs L z hL
      exact ⟨hk, ⟨L, _, hf, hn, e, hd⟩, ih (fun b hb => hs b (by unfold frs; rw [List.filterMap_cons, hf]; exact List.mem_cons_of_mem _ hb)) hr⟩
  exact all X.outer (fun _ hb => hb) I.ok.funs

/-- the frames that run, for a call -/
theorem Inv.stack (I : Inv X pins σ H s) : s.heap.FunFrames X.base X.stack := by
  rcases I.ok.stk with e | ⟨e, hf⟩
  · rw [e]; exact I.funs
  · rw [e]
    obtain ⟨m, hn, _⟩ := I.loc
    refine .cons (by rw [I.ok.kind]; decide) hf hn ?_ I.funs
    exact Heap.get?_none_of_le (Nat.le_trans I.ok.bsz I.ok.above)
theorem Inv.stkSub (I : Inv X pins σ H s) : ∀ b ∈ frs X.stack, b ∈ X.env.locals :: X.fs := fun b hb => by
  rcases I.ok.stk with e | ⟨e, hf⟩
  · rw [e] at hb; exact List.mem_cons_of_mem _ hb
  · rw [e] at hb
    unfold frs at hb
    rw [List.filterMap_cons, hf] at hb
    exact hb
theorem Inv.stkFree (I : Inv X pins σ H s) : ∀ b ∈ frs X.stack, H b = none := fun b hb => by
  rcases List.mem_cons.mp (I.stkSub b hb) with e | hb
  · rw [e]; exact I.free
  · obtain ⟨_, o, ho, _⟩ := I.ok.funs.mem hb
    exact I.base.free b o ho (I.ok.frf b hb) fun z => I.ok.exfs b z hb

/-- THE STEP: the untracked objects but the frame and the records at ch are kept (the callers' frames up to slots), the frame's map is kept, the new abstract heap is held -/
theorem Inv.step {g' : Array GenState} {t' : Nat} {d' : Drawn} {ch : List Addr} (I : Inv X pins σ H s)
    (hch : ∀ b ∈ ch, (b ∈ X.ex ∨ X.s₀.heap.objs.size ≤ b) ∧ b ≠ X.env.locals ∧ (∀ x c, X.env.cells.lookup x = some c → c ≠ b) ∧ ∀ p ∈ X.pn ++ pins, p.1 ≠ b)
    (keep : ∀ b o, b ≠ X.env.locals → b ∉ X.fs → b ∉ ch → s.heap.get? b = some o → H b = none → h'.get? b = some o)
    (slot : ∀ b o, b ≠ X.env.locals → b ∈ X.fs → b ∉ ch → s.heap.get? b = some o → H b = none → ∃ sl, h'.get? b = some { o with slots := sl }) (free : ∀ b o, b ∉ ch → s.heap.get? b = some o → H b = none → H' b = none)
    (there : ∀ b o, b ∉ ch → s.heap.get? b = some o → ∃ o', h'.get? b = some o')
    (tups : ∀ b xs, H b = some (.tup xs) → H' b = some (.tup xs)) (frzs : ∀ b o u, H b = some (.frz o u) → H' b = some (.frz o u)) (tbls : ∀ b ps, H b = some (.tbl ps) → ∃ more, H' b = some (.tbl (ps ++ more)))
    (ns : ∀ m, s.heap.Ns X.env.locals m → h'.Ns X.env.locals m) (hok : HOk X.prog X.w H' h') (hg : AllBare g') :
    Inv X pins σ H' { s with heap := h', gens := g', drawn := d', toks := t' } := by
  have neL : ∀ b o, X.s₀.heap.get? b = some o → b ≠ X.env.locals := fun b o e => Nat.ne_of_lt (Nat.lt_of_lt_of_le (Heap.lt_size e) I.ok.above)
  have neC : ∀ b o, X.s₀.heap.get? b = some o → b ∉ X.ex → b ∉ ch := fun b o e hx hb => by
    rcases (hch b hb).1 with z | z
    · exact hx z
    · exact absurd (Nat.lt_of_lt_of_le (Heap.lt_size e) z) (Nat.lt_irrefl _)
  have cellK : ∀ x c, X.env.cells.lookup x = some c → ∀ v, s.heap.IsCell c v → h'.IsCell c v := fun x c e v ⟨o, ho, hd⟩ => by
    have nch : c ∉ ch := fun z => (hch c z).2.2.1 x c e rfl
    by_cases hc : c ∈ X.fs
    · obtain ⟨sl, q⟩ := slot c o (I.cne x c e) hc nch ho (I.freeC x c e)
      exact ⟨_, q, hd⟩
    · exact ⟨o, keep c o (I.cne x c e) hc nch ho (I.freeC x c e), hd⟩
  refine ⟨I.ok, I.os, hg, ⟨fun b o e n hb hx => ?_, fun b o e n hb hx => ?_, fun b o e n hx => ?_, fun b o e hx => ?_, fun b xs e => tups b xs (I.base.tups b xs e), fun b o xs e => frzs b o xs (I.base.frzs b o xs e), fun b ps e => ?_⟩, ?_, fun x c e => ?_, ?_, fun x c e => ?_, fun p hp => ?_, hok, I.len⟩
  · exact keep b o (neL b o e) hb (neC b o e hx) (I.base.keep b o e n hb hx) (I.base.free b o e n hx)
  · obtain ⟨sl, e1⟩ := I.base.slot b o e n hb hx
    obtain ⟨sl', e2⟩ := slot b _ (neL b o e) hb (neC b o e hx) e1 (I.base.free b o e n hx)
    exact ⟨sl', e2⟩
  · obtain ⟨o', e1⟩ := I.base.there b o e hx
    exact free b o' (neC b o e hx) e1 (I.base.free b o e n hx)
  · obtain ⟨o', e1⟩ := I.base.there b o e hx
    exact there b o' (neC b o e hx) e1
  · obtain ⟨m1, e1⟩ := I.base.tbls b ps e
    obtain ⟨m2, e2⟩ := tbls b _ e1
    exact ⟨m1 ++ m2, by rw [e2, Array.append_assoc]⟩
  · obtain ⟨m, hn, hl⟩ := I.loc
    refine ⟨m, ns m hn, fun i x v e1 e2 e3 => ?_⟩
    obtain ⟨u, r, l⟩ := hl i x v e1 e2 e3
    refine ⟨u, r, ?_⟩
    rcases l with l | ⟨k, c, e, z⟩
    · exact .inl l
    · exact .inr ⟨k, c, e, cellK x c e _ z⟩
  · obtain ⟨v, z⟩ := I.cell x c e
    exact ⟨v, cellK x c e v z⟩
  · obtain ⟨m, ⟨o, _, _, ho, _⟩, _⟩ := I.loc
    exact free _ o (fun z => (hch _ z).2.1 rfl) ho I.free
  · obtain ⟨v, o, ho, hd⟩ := I.cell x c e
    exact free c o (fun z => (hch c z).2.2.1 x c e rfl) ho (I.freeC x c e)
  · obtain ⟨e, n, ne, nf, d⟩ := I.pin p hp
    have nch : p.1 ∉ ch := fun z => (hch p.1 z).2.2.2 p hp rfl
    exact ⟨keep p.1 p.2 ne nf nch e n, free p.1 p.2 nch e n, ne, nf, d⟩
/-- .. where the frame's own object is kept too -/
theorem Inv.un {t' : Nat} (I : Inv X pins σ H s) (u : Un X.fs [] H H' s.heap h') (hok : HOk X.prog X.w H' h') : Inv X pins σ H' { s with heap := h', toks := t' } := by
  obtain ⟨m, ⟨o, es, ep, ho, r⟩, _⟩ := id I.loc
  obtain ⟨sl, hL⟩ := u.any ho I.free (by simp)
  exact I.step (g' := s.gens) (d' := s.drawn) (ch := []) (fun _ z => nomatch z) (fun b o _ hb _ e n => u.keep b o e n hb (by simp)) (fun b o _ hb _ e n => u.slot b o e n hb (by simp)) (fun b o _ e n => u.free b o e n (by simp)) (fun b o _ e => u.there b o e (by simp)) u.tups u.frzs u.tbls (fun m' hm => by
    obtain ⟨o', es', ep', ho', r'⟩ := hm
    rw [ho] at ho'; cases ho'
    exact ⟨_, es', ep', hL, r'⟩) hok I.bare
/-- behind a call (or a comprehension's block): the slots of this frame may have changed too, the records at ch may have turned -/
theorem Inv.call {g' : Array GenState} {t' : Nat} {d' : Drawn} {ch : List Addr} (I : Inv X pins σ H s) (u : Un (frs X.stack) ch H H' s.heap h') (hok : HOk X.prog X.w H' h') (hg : AllBare g')
    (hch : ∀ b ∈ ch, (b ∈ X.ex ∨ X.s₀.heap.objs.size ≤ b) ∧ b ≠ X.env.locals ∧ (∀ x c, X.env.cells.lookup x = some c → c ≠ b) ∧ ∀ p ∈ X.pn ++ pins, p.1 ≠ b) :
    Inv X pins σ H' { s with heap := h', gens := g', drawn := d', toks := t' } := by
  obtain ⟨m, ⟨o, es, ep, ho, r⟩, _⟩ := id I.loc
  obtain ⟨sl, hL⟩ := u.any ho I.free fun z => (hch _ z).2.1 rfl
  exact I.step (ch := ch) hch (fun b o hL hb hc e n => u.keep b o e n (fun z => (List.mem_cons.mp (I.stkSub b z)).elim hL hb) hc) (fun b o _ _ hc e n => u.any e n hc) (fun b o hc e n => u.free b o e n hc) (fun b o hc e => u.there b o e hc) u.tups u.frzs u.tbls (fun m' hm => by
    obtain ⟨o', es', ep', ho', r'⟩ := hm
    rw [ho] at ho'; cases ho'
    exact ⟨_, es', ep', hL, r'⟩) hok hg
/-- an untracked record of ours (an iterator) has turned -/
theorem Inv.turned {t' : Nat} {it : Addr} (I : Inv X pins σ H s) (k : ∀ b o, b ≠ it → s.heap.get? b = some o → h'.get? b = some o) (hn : H it = none) (hL : it ≠ X.env.locals)
    (h1 : it ∈ X.ex ∨ X.s₀.heap.objs.size ≤ it) (h2 : ∀ x c, X.env.cells.lookup x = some c → c ≠ it) (h3 : ∀ p ∈ X.pn ++ pins, p.1 ≠ it) : Inv X pins σ H { s with heap := h', toks := t' } := by
  have nit : ∀ b u, H b = some u → b ≠ it := fun b u e z => by rw [z, hn] at e; cases e
  refine I.step (g' := s.gens) (d' := s.drawn) (ch := [it]) (fun b hb => ?_) (fun b o _ _ hc e _ => k b o (fun z => hc (by simp [z])) e) (fun b o _ _ hc e _ => ⟨o.slots, k b o (fun z => hc (by simp [z])) e⟩) (fun _ _ _ _ n => n)
    (fun b o hc e => ⟨o, k b o (fun z => hc (by simp [z])) e⟩) (fun _ _ e => e) (fun _ _ _ e => e) (fun b ps e => ⟨#[], by rw [e]; simp⟩) (fun m hm => ?_) (fun b u e => ?_) I.bare
  · have e : b = it := by simpa using hb
    subst e
    exact ⟨h1, hL, h2, h3⟩
  · obtain ⟨o, es, ep, ho, r⟩ := hm
    exact ⟨o, es, ep, k _ o (Ne.symm hL) ho, r⟩
  · refine (I.hok b u e).stay (fun c v hc q => k c v ?_ q) (fun _ q => q) fun _ _ q => q
    rcases hc with z | z
    · rw [z]; exact nit b u e
    · exact nit c _ z
theorem Inv.tok (I : Inv X pins σ H s) (t : Nat) : Inv X pins σ H { s with toks := t } := I.un (h' := s.heap) (t' := t) Un.refl I.hok
/-- all objects kept -/
theorem Inv.kept {t' : Nat} (I : Inv X pins σ H s) (k : ∀ b u, s.heap.get? b = some u → h'.get? b = some u) : Inv X pins σ H { s with heap := h', toks := t' } := I.un (Un.kept k) (I.hok.kept k)
/-- a new object laid and tracked -/
theorem Inv.laid {a : Addr} {o : HO} {t' : Nat} (I : Inv X pins σ H s) (k : ∀ b u, s.heap.get? b = some u → h'.get? b = some u) (hp : s.heap.objs.size ≤ a) (new : ObjOk X.prog X.w (upd H a o) h' a o) :
    Inv X pins σ (upd H a o) { s with heap := h', toks := t' } := I.un (Un.laid k hp (I.hok.fresh hp)) (I.hok.laid k hp new)
/-- an object written -/
theorem Inv.write {x e : Addr} {o : HO} {t' : Nat} (I : Inv X pins σ H s) (mu : Mut (H x)) (he : e = x ∨ H e = some (.own x)) (k : ∀ b u, b ≠ e → s.heap.get? b = some u → h'.get? b = some u) (heo : ∃ u, h'.get? e = some u)
    (new : ObjOk X.prog X.w (upd H x o) h' x o) : Inv X pins σ (upd H x o) { s with heap := h', toks := t' } := I.un (Un.write mu he k heo) (I.hok.write mu he k heo new)
/-- forgetting slots, pins -/
theorem Inv.weak {σ' : List (Option V)} (I : Inv X pins σ H s) (hl : σ'.length = σ.length) (w : ∀ (i : Nat) v, σ'[i]? = some (some v) → σ[i]? = some (some v)) : Inv X pins σ' H s :=
  ⟨I.ok, I.os, I.bare, I.base, let ⟨m, hn, hl'⟩ := I.loc; ⟨m, hn, fun i x v e1 e2 e3 => hl' i x v e1 (w i v e2) e3⟩, I.cell, I.free, I.freeC, I.pin, I.hok, hl.trans I.len⟩
theorem Inv.pins_of {pins' : List (Addr × Obj)} (I : Inv X pins σ H s) (h : ∀ p ∈ pins', s.heap.get? p.1 = some p.2 ∧ H p.1 = none ∧ p.1 ≠ X.env.locals ∧ p.1 ∉ X.fs ∧ ∀ v, p.2.data ≠ .cell v) : Inv X pins' σ H s :=
  ⟨I.ok, I.os, I.bare, I.base, I.loc, I.cell, I.free, I.freeC, fun p hp => (List.mem_append.mp hp).elim (fun z => I.pin p (List.mem_append_left _ z)) (h p), I.hok, I.len⟩

theorem nodup_ix {N : List Str} (hN : N.Nodup) {i j : Nat} {x : Str} (a : N[i]? = some x) (b : N[j]? = some x) : i = j := by
  obtain ⟨h1, e1⟩ := List.getElem?_eq_some_iff.mp a
  obtain ⟨h2, e2⟩ := List.getElem?_eq_some_iff.mp b
  exact (List.getElem_inj hN).mp (e1.trans e2.symm)

/-- a name is stored; what changed -/
theorem store_ok2 {M : Model} {A : Around} {E : Value → Shared → Prop} {i : Nat} {x : Str} {v : V} {u : Value} {Q : Unit → Shared → Prop} (I : Inv X pins σ H s) (hN : X.N.Nodup) (hi : X.N[i]? = some x) (hx : Loc X.env.scope x) (r : RelV v u)
    (h : ∀ s', Inv X pins (σ.set i (some v)) H s' → (∃ a, Heap.SameBut a s.heap s'.heap ∧ (a = X.env.locals ∨ X.env.cells.lookup x = some a)) → Q () s') (hf : X.fn x = true ∨ X.env.scope.names.lookup x = some .local := by first | exact .inl rfl | exact .inr rfl | assumption) : wpAny M A (storeName X.env x u) Q E s := by
  obtain ⟨m, hn, hl⟩ := id I.loc
  have hcls : (X.env.scope.kind == .class || (X.env.scope.kind == .module && X.env.locals != X.env.globals)) = false := by rw [I.ok.kind]; rfl
  have hiσ : i < σ.length := by rw [I.len]; exact (List.getElem?_eq_some_iff.mp hi).1
  have cne := I.cne
  have tracked : ∀ {a : Addr} {h' : Heap}, (∃ o, s.heap.get? a = some o ∧ H a = none) → Heap.SameBut a s.heap h' → HOk X.prog X.w H h' := fun {a h'} ha hs b ob e => by
    obtain ⟨_, _, hfree⟩ := ha
    refine (I.hok b ob e).stay (fun c w' hc q => (hs.2 c ?_).trans q) (fun _ q => q) fun _ _ q => q
    rintro rfl
    rcases hc with rfl | hc
    · rw [hfree] at e; cases e
    · rw [hfree] at hc; cases hc
  rcases hx with hk | hk
  · refine wpAny_storeName_local hk hn (fun h' hn' hs => ?_) hcls
    obtain ⟨oL, _, _, hoL, _⟩ := id hn
    refine h _ ⟨I.ok, I.os, I.bare, ⟨fun b o e n hb hx => ?_, fun b o e n hb hx => ?_, I.base.free, fun b o e hx => ?_, I.base.tups, I.base.frzs, I.base.tbls⟩, ⟨_, hn', fun j y v' e1 e2 e3 => ?_⟩, fun y c e => ?_, I.free, I.freeC, fun p hp => ?_, tracked ⟨oL, hoL, I.free⟩ hs, by simpa using I.len⟩ ⟨_, hs, .inl rfl⟩
    · exact (hs.2 b (Nat.ne_of_lt (Nat.lt_of_lt_of_le (Heap.lt_size e) I.ok.above))).trans (I.base.keep b o e n hb hx)
    · obtain ⟨sl, e1⟩ := I.base.slot b o e n hb hx
      exact ⟨sl, (hs.2 b (Nat.ne_of_lt (Nat.lt_of_lt_of_le (Heap.lt_size e) I.ok.above))).trans e1⟩
    · obtain ⟨o', e1⟩ := I.base.there b o e hx
      exact ⟨o', (hs.2 b (Nat.ne_of_lt (Nat.lt_of_lt_of_le (Heap.lt_size e) I.ok.above))).trans e1⟩
    · by_cases hj : j = i
      · subst hj
        rw [hi] at e1; cases e1
        rw [List.getElem?_set_self hiσ] at e2
        cases e2
        exact ⟨u, r, .inl ⟨hk, by simp⟩⟩
      · rw [List.getElem?_set_ne (Ne.symm hj)] at e2
        obtain ⟨u', r', q⟩ := hl j y v' e1 e2 e3
        refine ⟨u', r', ?_⟩
        rcases q with ⟨k, e⟩ | ⟨k, c, e, z⟩
        · refine .inl ⟨k, ?_⟩
          have : y ≠ x := fun e => hj (nodup_ix hN e1 (e ▸ hi))
          simp [this, e]
        · exact .inr ⟨k, c, e, z.sameBut hs (cne y c e)⟩
    · obtain ⟨w', z⟩ := I.cell y c e
      exact ⟨w', z.sameBut hs (cne y c e)⟩
    · obtain ⟨e, n, ne, nf, d⟩ := I.pin p hp
      exact ⟨(hs.2 p.1 ne).trans e, n, ne, nf, d⟩
  · have hfn : X.fn x = true := by
      rcases hf with z | z
      · exact z
      · rw [z] at hk; cases hk
    obtain ⟨c, hc⟩ := I.ok.has x (.inl hk)
    obtain ⟨w', z⟩ := I.cell x c hc
    refine wpAny_storeName_cell I.ok.kind hk hc z (fun h' hc' hs => ?_)
    obtain ⟨oc, hoc, hocd⟩ := id z
    refine h { s with heap := h' } ⟨I.ok, I.os, I.bare, ⟨fun b o e n hb hx => ?_, fun b o e n hb hx => ?_, I.base.free, fun b o e hx => ?_, I.base.tups, I.base.frzs, I.base.tbls⟩, ⟨m, hn.sameBut hs (Ne.symm (cne x c hc)), fun j y v' e1 e2 e3 => ?_⟩, fun y c' e => ?_, I.free, I.freeC, fun p hp => ?_, tracked ⟨oc, hoc, I.freeC x c hc⟩ hs, by simpa using I.len⟩ ⟨c, hs, .inr hc⟩
    · exact (hs.2 b (Nat.ne_of_lt (Nat.lt_of_lt_of_le (Heap.lt_size e) (I.ok.cab x c hfn hc)))).trans (I.base.keep b o e n hb hx)
    · obtain ⟨sl, e1⟩ := I.base.slot b o e n hb hx
      exact ⟨sl, (hs.2 b (Nat.ne_of_lt (Nat.lt_of_lt_of_le (Heap.lt_size e) (I.ok.cab x c hfn hc)))).trans e1⟩
    · obtain ⟨o', e1⟩ := I.base.there b o e hx
      exact ⟨o', (hs.2 b (Nat.ne_of_lt (Nat.lt_of_lt_of_le (Heap.lt_size e) (I.ok.cab x c hfn hc)))).trans e1⟩
    · by_cases hj : j = i
      · subst hj
        rw [hi] at e1; cases e1
        rw [List.getElem?_set_self hiσ] at e2
        cases e2
        exact ⟨u, r, .inr ⟨.inl hk, c, hc, hc'⟩⟩
      · rw [List.getElem?_set_ne (Ne.symm hj)] at e2
        obtain ⟨u', r', q⟩ := hl j y v' e1 e2 e3
        refine ⟨u', r', ?_⟩
        rcases q with q | ⟨k, c', e, z'⟩
        · exact .inl q
        · refine .inr ⟨k, c', e, z'.sameBut hs ?_⟩
          rintro rfl
          exact hj (nodup_ix hN e1 (I.ok.inj _ _ _ e hc ▸ hi))
    · by_cases hcc : c' = c
      · subst hcc; exact ⟨_, hc'⟩
      · obtain ⟨w2, z2⟩ := I.cell y c' e
        exact ⟨w2, z2.sameBut hs hcc⟩
    · obtain ⟨e, n, ne, nf, d⟩ := I.pin p hp
      refine ⟨(hs.2 p.1 ?_).trans e, n, ne, nf, d⟩
      intro q
      rw [q, hoc] at e
      have q' : oc = p.2 := Option.some.inj e
      exact d w' (by rw [← q']; exact hocd)
theorem store_ok {M : Model} {A : Around} {E : Value → Shared → Prop} {i : Nat} {x : Str} {v : V} {u : Value} {Q : Unit → Shared → Prop} (I : Inv X pins σ H s) (hN : X.N.Nodup) (hi : X.N[i]? = some x) (hx : Loc X.env.scope x) (r : RelV v u)
    (h : ∀ s', Inv X pins (σ.set i (some v)) H s' → Q () s') (hf : X.fn x = true ∨ X.env.scope.names.lookup x = some .local := by first | exact .inl rfl | exact .inr rfl | assumption) : wpAny M A (storeName X.env x u) Q E s :=
  store_ok2 I hN hi hx r (fun s' I' _ => h s' I') hf
/-- behind a call or a block, the state as it is -/
theorem Inv.call' {s' : Shared} {ch : List Addr} (I : Inv X pins σ H s) (ho : s'.os = s.os) (u : Un (frs X.stack) ch H H' s.heap s'.heap) (hok : HOk X.prog X.w H' s'.heap) (hg : AllBare s'.gens)
    (hch : ∀ b ∈ ch, (b ∈ X.ex ∨ X.s₀.heap.objs.size ≤ b) ∧ b ≠ X.env.locals ∧ (∀ x c, X.env.cells.lookup x = some c → c ≠ b) ∧ ∀ p ∈ X.pn ++ pins, p.1 ≠ b) : Inv X pins σ H' s' := by
  obtain ⟨h', g', d', t', o'⟩ := s'
  have e : o' = s.os := ho
  subst e
  exact I.call (g' := g') (t' := t') (d' := d') u hok hg hch
end

/-! ### the judgements -/
/-- an exception: its class, its own dict's address (where it has one), the abstract heap behind it -/
abbrev XK := Value → Option Addr → Hp → Prop
abbrev St := List (Option V)
abbrev VK := V → Hp → Prop
/-- an expression's reading; a test's; an argument list's -/
abbrev TE := St → Hp → VK → Prop
abbrev TT := St → Hp → (Bool → Hp → Prop) → Prop
abbrev TA := St → Hp → (List V → Hp → Prop) → Prop
/-- what is wanted behind a statement -/
structure Ends where
  nx : St → Hp → Prop
  rt : VK
  bk : St → Hp → Prop := fun _ _ => False
  ct : St → Hp → Prop := fun _ _ => False
abbrev TS := Ends → St → Hp → Prop

def EP (X : Cx) (pins : List (Addr × Obj)) (σ : St) (Q : VK) (u : Value) (s' : Shared) : Prop := ∃ v H', Inv X pins σ H' s' ∧ RelV v u ∧ Q v H'
def TP (X : Cx) (pins : List (Addr × Obj)) (σ : St) (Q : Bool → Hp → Prop) (b : Bool) (s' : Shared) : Prop := ∃ H', Inv X pins σ H' s' ∧ Q b H'
def AP (X : Cx) (pins : List (Addr × Obj)) (σ : St) (Q : List V → Hp → Prop) (us : List Value) (s' : Shared) : Prop := ∃ vs H', Inv X pins σ H' s' ∧ Vals vs us ∧ Q vs H'
def SP (X : Cx) (pins : List (Addr × Obj)) (D : Ends) (f : Flow) (s' : Shared) : Prop :=
  match f with
  | .next => ∃ σ' H', Inv X pins σ' H' s' ∧ D.nx σ' H'
  | .brk => ∃ σ' H', Inv X pins σ' H' s' ∧ D.bk σ' H'
  | .cont => ∃ σ' H', Inv X pins σ' H' s' ∧ D.ct σ' H'
  | .ret u => ∃ v σ' H', Inv X pins σ' H' s' ∧ RelV v u ∧ D.rt v H'

def PE (X : Cx) (e : Expr) (t : TE) : Prop :=
  ∀ (pins : List (Addr × Obj)) (s : Shared) (σ : St) (H : Hp) (Q : VK), Inv X pins σ H s → t σ H Q → wpAny (model X.prog X.w) X.A (eval e X.env) (EP X pins σ Q) X.xe s
def PT (X : Cx) (e : Expr) (t : TT) : Prop :=
  ∀ (pins : List (Addr × Obj)) (s : Shared) (σ : St) (H : Hp) (Q : Bool → Hp → Prop), Inv X pins σ H s → t σ H Q → wpAny (model X.prog X.w) X.A (isTrue e X.env (eval e X.env)) (TP X pins σ Q) X.xe s
/-- a test whatever its 'whole' is (and, or) -/
def PW (X : Cx) (e : Expr) (t : TT) : Prop :=
  ∀ (whole : Sem Value) (pins : List (Addr × Obj)) (s : Shared) (σ : St) (H : Hp) (Q : Bool → Hp → Prop), Inv X pins σ H s → t σ H Q → wpAny (model X.prog X.w) X.A (isTrue e X.env whole) (TP X pins σ Q) X.xe s
theorem PW.pt {X : Cx} {e : Expr} {t : TT} (h : PW X e t) : PT X e t := h _
/-- an argument list (no star), from the left -/
def PA (X : Cx) (es : List Expr) (t : TA) : Prop :=
  ∀ (pos : Pos) (pins : List (Addr × Obj)) (s : Shared) (σ : St) (H : Hp) (Q : List V → Hp → Prop), Inv X pins σ H s → t σ H Q → wpAny (model X.prog X.w) X.A (spliced (backTo pos (starEach es X.env))) (AP X pins σ Q) X.xe s
def PS (X : Cx) (st : Stmt) (t : TS) : Prop :=
  ∀ (pins : List (Addr × Obj)) (s : Shared) (σ : St) (H : Hp) (D : Ends), Inv X pins σ H s → t D σ H → wpAny (model X.prog X.w) X.A (exec st X.env) (SP X pins D) X.xe s
def PSs (X : Cx) (st : List Stmt) (t : TS) : Prop :=
  ∀ (pins : List (Addr × Obj)) (s : Shared) (σ : St) (H : Hp) (D : Ends), Inv X pins σ H s → t D σ H → wpAny (model X.prog X.w) X.A (execs st X.env) (SP X pins D) X.xe s
/-- weaken the end -/
theorem thn {α : Type} {t : Sem α} {Q Q' : α → Shared → Prop} {M : Model} {A : Around} {E : Value → Shared → Prop} {s : Shared} (h : wpAny M A t Q E s) (hQ : ∀ a s, Q a s → Q' a s) : wpAny M A t Q' E s := wpAny_mono h hQ fun _ _ x => x
end L2

namespace L2
open PySem PySem.Spec PyProof.Rows
section
variable {X : Cx}


/-! ### names and constants -/
def tVar (i : Nat) : TE := fun σ H Q => ∃ v, σ[i]? = some (some v) ∧ Q v H
def tC (v : V) : TE := fun _ H Q => Q v H
theorem pe_var {i : Nat} {x : Str} {pos : Pos} (hN : X.N[i]? = some x) (hv : Vis X.env.scope x) (hd : (x == ("__debug__" : Str)) = false := by decide) (hcd : (x == ("__classdict__" : Str)) = false := by decide) : PE X (.Name x pos) (tVar i) := by
  intro pins s σ H Q I h
  obtain ⟨v, e, h⟩ := h
  obtain ⟨m, hn, hl⟩ := I.loc
  obtain ⟨u, r, l⟩ := hl i x v hN e hv
  have fin : EP X pins σ Q u s := ⟨v, H, I, r, h⟩
  rcases l with ⟨hk, hm⟩ | ⟨hk, c, hc, hcell⟩
  · exact wpAny_Name (wpAny_loadName_local I.ok.kind hk hn hm fin) hd
  · rcases hk with hk | hk
    · exact wpAny_Name (wpAny_loadName_cell I.ok.kind hk hc hcell fin) hd
    · exact wpAny_Name (wpAny_loadName_free I.ok.kind hk hc hcell fin hcd) hd
theorem pe_int {i j pos} : PE X (.Constant (.int i) j pos) (tC (.int i)) := fun _ _ _ H _ I h => wpAny_Constant_int ⟨.int i, H, I.tok _, ⟨_, rfl⟩, h⟩
theorem pe_bl {b j pos} : PE X (.Constant (.bool b) j pos) (tC (.bl b)) := fun _ _ _ H _ I h => Constant_bool ⟨.bl b, H, I, rfl, h⟩
theorem pe_str {x j pos} : PE X (.Constant (.str x) j pos) (tC (.str x)) := fun _ _ _ H _ I h => Calls.Constant_str ⟨.str x, H, I.tok _, ⟨_, rfl⟩, h⟩

/-- a global name of the def -/
def Gl (X : Cx) (x : Str) : Prop := X.env.kindOf x = some .globalImplicit
theorem ld_glob {E : Value → Shared → Prop} {pins : List (Addr × Obj)} {s : Shared} {σ : St} {H : Hp} {x : Str} {u : Value} {pos : Pos} {Q : Value → Shared → Prop} (I : Inv X pins σ H s) (hg : Gl X x) (hm : X.mg x = some u) (h : Q u s)
    (hd : (x == ("__debug__" : Str)) = false := by decide) : wpAny (model X.prog X.w) X.A (eval (.Name x pos) X.env) Q E s :=
  Calls.Name_function_global I.ok.kind hg (Calls.loadGlobal_global (by rw [I.ok.glob]; exact I.mod.glob.keeps I.bk) hm h) hd
theorem ld_blt {E : Value → Shared → Prop} {pins : List (Addr × Obj)} {s : Shared} {σ : St} {H : Hp} {x : Str} {u : Value} {pos : Pos} {Q : Value → Shared → Prop} (I : Inv X pins σ H s) (hg : Gl X x) (hm : X.mg x = none) (hv : bootBuiltins x = some u) (h : Q u s)
    (hn : x ≠ "__name__" := by decide) (hd : (x == ("__debug__" : Str)) = false := by decide) : wpAny (model X.prog X.w) X.A (eval (.Name x pos) X.env) Q E s := by
  obtain ⟨mb, h1, h2⟩ := I.mod.blt
  exact Calls.Name_function_global I.ok.kind hg (Calls.loadGlobal_builtin (by rw [I.ok.glob]; exact I.mod.glob.keeps I.bk) hm (by rw [I.ok.blt]; exact h1.keeps I.bk) ((h2 x hn).trans hv) h) hd
/-- a module's constant, a class, a function, as a value -/
theorem pe_glob {x : Str} {v : V} {u : Value} {pos : Pos} (hg : Gl X x) (hm : X.mg x = some u) (r : RelV v u) (hd : (x == ("__debug__" : Str)) = false := by decide) : PE X (.Name x pos) (tC v) :=
  fun _ _ _ H _ I h => ld_glob I hg hm ⟨v, H, I, r, h⟩ hd
theorem pe_bltn {x : Str} {v : V} {u : Value} {pos : Pos} (hg : Gl X x) (hm : X.mg x = none) (hv : bootBuiltins x = some u) (r : RelV v u) (hn : x ≠ "__name__" := by decide) (hd : (x == ("__debug__" : Str)) = false := by decide) : PE X (.Name x pos) (tC v) :=
  fun _ _ _ H _ I h => ld_blt I hg hm hv ⟨v, H, I, r, h⟩ hn hd

/-! ### arithmetic -/
variable {a b : Expr} {ta tb : TE} {pos : Pos}

/-! ### comparisons -/
/-- a comparison as a value, as a test -/
def tB (t : TE) : TT := fun σ H Q => t σ H fun x H1 => ∃ c, x = .bl c ∧ Q c H1
/-- an expression whose value is a bool, as a test -/
theorem pt_val {e : Expr} {t : TE} (h : PE X e t) (he : ∀ whole, isTrue e X.env whole = (do let v ← whole; standAt e.pos; holding [v] (truthy v)) := by intro _; rfl) : PT X e (tB t) := by
  intro pins s σ H Q I hw
  refine isTrue_plain (thn (h pins s σ H _ I hw) fun v s1 ⟨x, H1, I1, r1, q1⟩ => ?_) (he _)
  obtain ⟨d, rfl, q⟩ := q1
  cases r1
  exact wpAny_truthy_bool ⟨H1, I1, q⟩

/-! ### and, or, not -/
variable {tA tB' : TT} {rest : List Expr}
def tOr (t u : TT) : TT := fun σ H Q => t σ H fun c H1 => if c = true then Q true H1 else u σ H1 Q
def tNot (t : TT) : TT := fun σ H Q => t σ H fun c H1 => Q (!c) H1
theorem pw_or1 (ha : PT X a tA) : PW X (.BoolOp .Or [a] pos) tA := by
  intro wh pins s σ H Q I h
  refine isTrue_or (thn (ha pins s σ H Q I h) fun c s1 e => ?_)
  cases c with
  | false => exact isTrue_or_nil e
  | true => exact e
theorem pw_or (ha : PT X a tA) (hb : PW X (.BoolOp .Or (b :: rest) pos) tB') : PW X (.BoolOp .Or (a :: b :: rest) pos) (tOr tA tB') := by
  intro wh pins s σ H Q I h
  refine isTrue_or (thn (ha pins s σ H _ I h) fun c s1 ⟨H1, I1, q1⟩ => ?_)
  cases c with
  | true => exact ⟨H1, I1, q1⟩
  | false => exact hb wh pins s1 σ H1 Q I1 q1
theorem pt_not (ha : PT X a tA) : PT X (.UnaryOp .Not a pos) (tNot tA) := by
  intro pins s σ H Q I h
  exact isTrue_not (ha pins s σ H (fun c H1 => Q (!c) H1) I h)
/-- .. as values (bools) -/
def tAndV (ta tb : TE) : TE := fun σ H Q => ta σ H fun x H1 => ∃ c, x = .bl c ∧ if c = true then tb σ H1 Q else Q (.bl false) H1
def tNotV (ta : TE) : TE := fun σ H Q => ta σ H fun x H1 => ∃ c, x = .bl c ∧ Q (.bl (!c)) H1
theorem pe_one {op} {t : TE} (h : PE X a t) : PE X (.BoolOp op [a] pos) t := fun pins s σ H Q I hw => BoolOp_one (h pins s σ H Q I hw)
theorem pe_and (ha : PE X a ta) (hb : PE X (.BoolOp .And (b :: rest) pos) tb) : PE X (.BoolOp .And (a :: b :: rest) pos) (tAndV ta tb) := by
  intro pins s σ H Q I h
  refine BoolOp_and (thn (ha pins s σ H _ I h) fun v s1 ⟨x, H1, I1, r1, q1⟩ => ?_)
  obtain ⟨c, rfl, q1⟩ := q1
  cases r1
  refine wpAny_truthy_bool ?_
  cases c with
  | true => exact hb pins s1 σ H1 Q I1 q1
  | false => exact ⟨.bl false, H1, I1, rfl, q1⟩
theorem pe_not (ha : PE X a ta) : PE X (.UnaryOp .Not a pos) (tNotV ta) := by
  intro pins s σ H Q I h
  refine UnaryOp_ (thn (ha pins s σ H _ I h) fun v s1 ⟨x, H1, I1, r1, q1⟩ => ?_)
  obtain ⟨c, rfl, q1⟩ := q1
  cases r1
  exact not_of (wpAny_truthy_bool ⟨.bl (!c), H1, I1, rfl, q1⟩)
end
end L2

namespace L2
open PySem PySem.Spec PyProof.Rows

/-! ### a list, a tuple that is read: tracked, frozen, or an object of the module -/
def SqL (K : PySem.W.Frag) (H : Hp) (a : Addr) (xs : List V) : Prop :=
  Rd H a (.lst xs) ∨
    ∃ (o : Obj) (its : Array Value) (n : Nat), K.lookup a = some o ∧ o.cls = .type "list" ∧ o.dict = none ∧ o.data = .seq its n ∧ its.size ≤ sizeLine ∧ Vals xs its.toList
def SqT (K : PySem.W.Frag) (H : Hp) (a : Addr) (xs : List V) : Prop :=
  Rd H a (.tup xs) ∨
    ∃ (o : Obj) (its : Array Value) (n : Nat), K.lookup a = some o ∧ o.cls = .type "tuple" ∧ o.data = .seq its n ∧ its.size ≤ sizeLine ∧ Vals xs its.toList
def absV : Value → Option V
  | .none => some .non
  | .bool b => some (.bl b)
  | .int i _ => some (.int i)
  | .str x _ => some (.str x)
  | .bytes b _ => some (.byt b)
  | .float b _ => some (.flt b)
  | .ref a => some (.ref a)
  | .type n => some (.ty n)
  | _ => none
theorem RelV.abs {x : V} {u : Value} (r : RelV x u) : absV u = some x := by
  cases x with
  | non => cases r; rfl
  | bl _ => cases r; rfl
  | int _ => obtain ⟨t, rfl⟩ := r; rfl
  | str _ => obtain ⟨t, rfl⟩ := r; rfl
  | byt _ => obtain ⟨t, rfl⟩ := r; rfl
  | flt _ => obtain ⟨t, rfl⟩ := r; rfl
  | ref _ => cases r; rfl
  | ty _ => cases r; rfl
theorem RelV.inj {x y : V} {u : Value} (r : RelV x u) (q : RelV y u) : x = y := Option.some.inj (r.abs.symm.trans q.abs)
theorem Vals.inj : ∀ {xs ys : List V} {us : List Value}, Vals xs us → Vals ys us → xs = ys
  | _, _, _, .nil, .nil => rfl
  | _, _, _, .cons r t, .cons r' t' => by rw [r.inj r', Vals.inj t t']
section
variable {X : Cx} {pins : List (Addr × Obj)} {σ : St} {H : Hp} {s : Shared} {a : Addr} {xs ys : List V}
theorem SqL.of {K : PySem.W.Frag} (h : H a = some (.lst xs)) : SqL K H a xs := .inl (.inl h)
theorem SqT.of {K : PySem.W.Frag} (h : H a = some (.tup xs)) : SqT K H a xs := .inl (.inl h)
theorem Inv.list (I : Inv X pins σ H s) (h : SqL X.K H a xs) : ∃ its : List Value, Vals xs its ∧ PlainL s.heap a its.toArray ∧ xs.length ≤ sizeLine := by
  rcases h with h | ⟨o, its, n, hk, hc, hd, hs, hz, r⟩
  · obtain ⟨z, its, n, r, e⟩ := h.ok I.hok
    exact ⟨its, r, ⟨_, n, e, rfl, rfl, rfl⟩, z⟩
  · refine ⟨its.toList, r, ⟨o, n, I.kIn a o hk, hc, hd, by simpa using hs⟩, ?_⟩
    have e := r.length
    simp only [Array.length_toList] at e
    omega
theorem Inv.tuple (I : Inv X pins σ H s) (h : SqT X.K H a xs) : ∃ its : List Value, Vals xs its ∧ IsTup s.heap a its.toArray ∧ xs.length ≤ sizeLine := by
  rcases h with h | ⟨o, its, n, hk, hc, hs, hz, r⟩
  · obtain ⟨z, its, r, p⟩ := h.ok I.hok
    exact ⟨its, r, p, z⟩
  · refine ⟨its.toList, r, ⟨o, I.kIn a o hk, hc, n, by simpa using hs⟩, ?_⟩
    have e := r.length
    simp only [Array.length_toList] at e
    omega
theorem Inv.list_inj (I : Inv X pins σ H s) (h : SqL X.K H a xs) (h' : SqL X.K H a ys) : xs = ys := by
  obtain ⟨its, r, ⟨o, n, e, _, _, d⟩, _⟩ := I.list h
  obtain ⟨its', r', ⟨o', n', e', _, _, d'⟩, _⟩ := I.list h'
  rw [e] at e'; cases e'
  rw [d] at d'
  injection d' with d1 _
  have : its = its' := by simpa using congrArg Array.toList d1
  subst this
  exact r.inj r'
theorem Inv.tuple_inj (I : Inv X pins σ H s) (h : SqT X.K H a xs) (h' : SqT X.K H a ys) : xs = ys := by
  obtain ⟨its, r, ⟨o, e, _, n, d⟩, _⟩ := I.tuple h
  obtain ⟨its', r', ⟨o', e', _, n', d'⟩, _⟩ := I.tuple h'
  rw [e] at e'; cases e'
  rw [d] at d'
  injection d' with d1 _
  have : its = its' := by simpa using congrArg Array.toList d1
  subst this
  exact r.inj r'
end

/-! ### another wish about exceptions -/
abbrev Cx.wish (X : Cx) (E : Value → Shared → Prop) : Cx := { X with xe := E }
/-- no exception leaves -/
abbrev Cx.nox (X : Cx) : Cx := X.wish fun _ _ => False
theorem Cx.Ok.wish {X : Cx} (ok : X.Ok) (E : Value → Shared → Prop) : (X.wish E).Ok :=
  ⟨ok.mod, ok.kind, ok.glob, ok.blt, ok.above, ok.inj, ok.has, ok.cab, ok.hd, ok.frames, ok.stk, ok.exf, ok.bs, ok.bsz, ok.noex, ok.exfs, ok.funs, ok.frf⟩
theorem Cx.Ok.unwish {X : Cx} {E : Value → Shared → Prop} (ok : (X.wish E).Ok) : X.Ok :=
  ⟨ok.mod, ok.kind, ok.glob, ok.blt, ok.above, ok.inj, ok.has, ok.cab, ok.hd, ok.frames, ok.stk, ok.exf, ok.bs, ok.bsz, ok.noex, ok.exfs, ok.funs, ok.frf⟩
section
variable {X : Cx} {pins : List (Addr × Obj)} {σ : St} {H : Hp} {s : Shared} {E : Value → Shared → Prop}
theorem Inv.wish (I : Inv X pins σ H s) (E : Value → Shared → Prop) : Inv (X.wish E) pins σ H s := ⟨I.ok.wish E, I.os, I.bare, I.base, I.loc, I.cell, I.free, I.freeC, I.pin, I.hok, I.len⟩
theorem Inv.unwish (I : Inv (X.wish E) pins σ H s) : Inv X pins σ H s := ⟨I.ok.unwish, I.os, I.bare, I.base, I.loc, I.cell, I.free, I.freeC, I.pin, I.hok, I.len⟩
theorem SP.unwish {D : Ends} {f : Flow} {s' : Shared} (h : SP (X.wish E) pins D f s') : SP X pins D f s' := by
  cases f with
  | next => obtain ⟨σ', H', I, q⟩ := h; exact ⟨σ', H', I.unwish, q⟩
  | brk => obtain ⟨σ', H', I, q⟩ := h; exact ⟨σ', H', I.unwish, q⟩
  | cont => obtain ⟨σ', H', I, q⟩ := h; exact ⟨σ', H', I.unwish, q⟩
  | ret u => obtain ⟨v, σ', H', I, r, q⟩ := h; exact ⟨v, σ', H', I.unwish, r, q⟩
theorem PSs.nox {st : List Stmt} {t : TS} (h : PSs X.nox st t) : PSs X st t := fun pins s σ H D I hw =>
  wpAny_mono (h pins s σ H D (I.wish _) hw) (fun _ _ q => q.unwish) fun _ _ z => False.elim z
end

/-! ### blocks and small statements -/
section
variable {X : Cx} {st : Stmt} {rest : List Stmt} {t u : TS} {e : Expr} {te : TE} {pos : Pos}
def tNext : TS := fun D σ H => D.nx σ H
def tSeq (t u : TS) : TS := fun D σ H => t { D with nx := u D } σ H
theorem pss_nil : PSs X [] tNext := fun _ _ σ H _ I h => wpAny_execs_nil ⟨σ, H, I, h⟩
theorem pss_cons (h1 : PS X st t) (h2 : PSs X rest u) : PSs X (st :: rest) (tSeq t u) := by
  intro pins s σ H D I h
  refine wpAny_execs_cons (thn (h1 pins s σ H { D with nx := u D } I h) fun f s1 q => ?_)
  cases f with
  | next =>
    obtain ⟨σ', H', I', q⟩ := q
    exact h2 pins s1 σ' H' D I' q
  | ret v => exact q
  | brk => exact q
  | cont => exact q
theorem pss_one (h1 : PS X st t) : PSs X [st] t := by
  intro pins s σ H D I h
  refine wpAny_execs_cons (thn (h1 pins s σ H D I h) fun f s1 q => ?_)
  cases f with
  | next => exact wpAny_execs_nil q
  | ret v => exact q
  | brk => exact q
  | cont => exact q
/-- in a def's body nothing is shown -/
theorem Inv.quiet {pins : List (Addr × Obj)} {σ : St} {H : Hp} {s : Shared} (I : Inv X pins σ H s) : interactive X.env = false := by simp [interactive, I.ok.kind]
/-- an expression whose value is dropped -/
def tDrop (te : TE) : TS := fun D σ H => te σ H fun _ H1 => D.nx σ H1
theorem ps_expr (he : PE X e te) (hs : swapsWith e none pos.line X.env = pure false := by rfl) : PS X (.Expr e pos) (tDrop te) := by
  intro pins s σ H D I h
  exact wpAny_Expr_any (thn (he pins s σ H _ I h) fun v s1 ⟨x, H1, I1, r1, q1⟩ => ⟨σ, H1, I1, q1⟩) I.quiet hs
def tRet (te : TE) : TS := fun D σ H => te σ H D.rt
theorem ps_ret (he : PE X e te) : PS X (.Return (some e) pos) (tRet te) := by
  intro pins s σ H D I h
  exact wpAny_Return_some (thn (he pins s σ H _ I h) fun v s1 ⟨x, H1, I1, r1, q1⟩ => ⟨x, σ, H1, I1, r1, q1⟩)
def tIfS (c : TT) (t u : TS) : TS := fun D σ H => c σ H fun b H1 => if b = true then t D σ H1 else u D σ H1
theorem ps_if {c : Expr} {a b : List Stmt} {tc : TT} (hc : PT X c tc) (ha : PSs X a t) (hb : PSs X b u) : PS X (.If c a b pos) (tIfS tc t u) := by
  intro pins s σ H D I h
  refine wpAny_If (thn (hc pins s σ H _ I h) fun d s1 ⟨H1, I1, q1⟩ => ?_)
  cases d with
  | true => exact ha pins s1 σ H1 D I1 q1
  | false => exact hb pins s1 σ H1 D I1 q1
/-- code that the proof never comes to -/
def tNever : TS := fun _ _ _ => False
theorem ps_never : PS X st tNever := fun _ _ _ _ _ _ h => h.elim
end

/-! ### targets -/
abbrev TG := V → St → Hp → (St → Hp → Prop) → Prop
abbrev TGs := List V → St → Hp → (St → Hp → Prop) → Prop
def PG (X : Cx) (target : Expr) (t : TG) : Prop :=
  ∀ (pins : List (Addr × Obj)) (s : Shared) (σ : St) (H : Hp) (v : V) (u : Value) (Q : St → Hp → Prop), Inv X pins σ H s → RelV v u → t v σ H Q →
    wpAny (model X.prog X.w) X.A (assign target X.env u) (fun _ s' => ∃ σ' H', Inv X pins σ' H' s' ∧ Q σ' H') X.xe s
/-- several targets, one after another -/
def PGs (X : Cx) (ts : List Expr) (t : TGs) : Prop :=
  ∀ (pins : List (Addr × Obj)) (s : Shared) (σ : St) (H : Hp) (vs : List V) (us : List Value) (Q : St → Hp → Prop), Inv X pins σ H s → Vals vs us → t vs σ H Q →
    wpAny (model X.prog X.w) X.A (assignInOrder ((assignEach ts X.env).map (·.2)) us) (fun _ s' => ∃ σ' H', Inv X pins σ' H' s' ∧ Q σ' H') X.xe s
section
variable {X : Cx} {pos : Pos}
def gName (i : Nat) : TG := fun v σ H Q => Q (σ.set i (some v)) H
theorem pg_name {i : Nat} {x : Str} (hN : X.N.Nodup) (hi : X.N[i]? = some x) (hx : Loc X.env.scope x) (hf : X.fn x = true ∨ X.env.scope.names.lookup x = some .local := by first | exact .inl rfl | exact .inr rfl | assumption) : PG X (.Name x pos) (gName i) := by
  intro pins s σ H v u Q I r h
  exact wpAny_assign_Name (store_ok I hN hi hx r (fun s' I' => ⟨_, H, I', h⟩) hf)
def gNil : TGs := fun vs σ H Q => vs = [] ∧ Q σ H
def gCons (t : TG) (u : TGs) : TGs := fun vs σ H Q => ∃ v r, vs = v :: r ∧ t v σ H fun σ' H' => u r σ' H' Q
theorem pgs_nil : PGs X [] gNil := by
  intro pins s σ H vs us Q I r h
  obtain ⟨e, h⟩ := h
  subst e
  cases r
  exact assignInOrder_nil ⟨σ, H, I, h⟩
theorem pgs_cons {e : Expr} {es : List Expr} {t : TG} {u : TGs} (h1 : PG X e t) (h2 : PGs X es u)
    (hs : (assignEach (e :: es) X.env).map (·.2) = assign e X.env :: (assignEach es X.env).map (·.2) := by rfl) : PGs X (e :: es) (gCons t u) := by
  intro pins s σ H vs us Q I r h
  obtain ⟨v, vr, e1, h⟩ := h
  subst e1
  cases r with
  | cons r rr =>
    rw [hs]
    refine assignInOrder_cons (thn (h1 pins s σ H _ _ _ I r h) fun _ s1 ⟨σ1, H1, I1, q1⟩ => ?_)
    exact h2 pins s1 σ1 H1 _ _ Q I1 rr q1
/-- (a, b, ..) = a tuple of that length -/
def gTup (K : PySem.W.Frag) (n : Nat) (t : TGs) : TG := fun v σ H Q => ∃ a xs, v = .ref a ∧ SqT K H a xs ∧ xs.length = n ∧ t xs σ H Q
theorem pg_tup {es : List Expr} {k : Nat} {t : TGs} {n : Nat} (hc : X.calm = true) (h : PGs X es t)
    (hn : (assignEach es X.env).length = n := by rfl) (hst : (assignEach es X.env).findIdx? (·.1) = none := by rfl) : PG X (.Tuple es k pos) (gTup X.K n t) := by
  intro pins s σ H v u Q I r hw
  obtain ⟨a, xs, e1, hq, hl, hw⟩ := hw
  subst e1
  cases r
  obtain ⟨its, rv, ht, hz⟩ := I.tuple hq
  refine assign_Tuple_tuple (I.ok.hd hc) ht (by simp [hn, ← hl, rv.length]) hst fun h' hx => ?_
  have I1 : Inv X pins σ H { s with heap := h' } := I.kept (t' := s.toks) fun b o e => hx b o (Nat.ne_of_lt (Heap.lt_size e)) e
  exact h pins _ σ H xs _ Q I1 (by simpa using rv) hw
/-- target = value -/
def tAsg (te : TE) (g : TG) : TS := fun D σ H => te σ H fun x H1 => g x σ H1 D.nx
/-- name = value -/
theorem ps_set {i : Nat} {x : Str} {e : Expr} {te : TE} {pos' : Pos} (hN : X.N.Nodup) (hi : X.N[i]? = some x) (hx : Loc X.env.scope x) (he : PE X e te) (hs : swapsWith e (some (.Name x pos')) pos.line X.env = pure false := by rfl) (hf : X.fn x = true ∨ X.env.scope.names.lookup x = some .local := by first | exact .inl rfl | exact .inr rfl | assumption) :
    PS X (.Assign [.Name x pos'] e pos) (tAsg te (gName i)) := by
  intro pins s σ H D I h
  refine wpAny_Assign_Name (thn (he pins s σ H _ I h) fun v s1 ⟨y, H1, I1, r1, q1⟩ => ?_) hs
  exact store_ok I1 hN hi hx r1 (fun s2 I2 => ⟨_, H1, I2, q1⟩) hf
end

/-! ### while -/
section
variable {X : Cx} {pos : Pos}
/-- the invariant W with its measure -/
def tWhile (c : TT) (tb : TS) : TS := fun D σ H => ∃ W : Nat → St → Hp → Prop, (∃ m, W m σ H) ∧ ∀ m σ H, W m σ H →
  c σ H fun b H1 => if b = true then ∃ N : St → Hp → Prop, (∀ σ' H', N σ' H' → ∃ m', m' < m ∧ W m' σ' H') ∧ tb { D with nx := N, ct := N, bk := D.nx } σ H1 else D.nx σ H1
theorem ps_while {c : Expr} {body : List Stmt} {tc : TT} {tb : TS} (hp : PassesOwn (model X.prog X.w) X.A X.env X.xe) (hc : PT X c tc) (hb : PSs X body tb) : PS X (.While c body [] pos) (tWhile tc tb) := by
  intro pins s σ H D I h
  obtain ⟨W, ⟨m0, w0⟩, turn⟩ := h
  refine wpAny_While (codeAny_whileLoop (fun n s' => ∃ σ' H', Inv X pins σ' H' s' ∧ W n σ' H') ?_ m0 ⟨σ, H, I, w0⟩)
  rintro n s1 ⟨σ1, H1, I1, w1⟩
  refine wpAny_passesOwn hp (thn (hc pins s1 σ1 H1 _ I1 (turn n σ1 H1 w1)) fun b s2 ⟨H2, I2, q2⟩ => ?_)
  cases b with
  | true =>
    obtain ⟨N, hN, q2⟩ := q2
    rw [if_pos rfl]
    refine wpAny_passesOwn hp (thn (hb pins s2 σ1 H2 _ I2 q2) fun f s3 q3 => ?_)
    cases f with
    | next =>
      obtain ⟨σ3, H3, I3, n3⟩ := q3
      obtain ⟨m', hm, w3⟩ := hN σ3 H3 n3
      exact ⟨m', hm, σ3, H3, I3, w3⟩
    | cont =>
      obtain ⟨σ3, H3, I3, n3⟩ := q3
      obtain ⟨m', hm, w3⟩ := hN σ3 H3 n3
      exact ⟨m', hm, σ3, H3, I3, w3⟩
    | brk => exact q3
    | ret v => exact q3
  | false =>
    rw [if_neg Bool.false_ne_true]
    exact wpAny_execs_nil ⟨σ1, H2, I2, q2⟩
end

/-! ### what a loop or a comprehension walks -/
/-- at turn i: it yields x (the heap may grow), or it stops -/
structure It where
  go : Nat → Hp → Prop
  yld : Nat → Hp → V → Hp → Prop
  stop : Nat → Hp → Prop
/-- the iterator's own objects may turn: they are not the frame's, not pinned, younger than the entry (or a comprehension's own) -/
def FpOk (X : Cx) (pins : List (Addr × Obj)) (H : Hp) (b : Addr) : Prop :=
  H b = none ∧ b ≠ X.env.locals ∧ b ∉ X.fs ∧ (b ∈ X.ex ∨ X.s₀.heap.objs.size ≤ b) ∧ (∀ x c, X.env.cells.lookup x = some c → c ≠ b) ∧ ∀ p ∈ X.pn ++ pins, p.1 ≠ b
theorem Inv.fpOk {X : Cx} {pins : List (Addr × Obj)} {σ : St} {H H' : Hp} {s : Shared} {b : Addr} (I : Inv X pins σ H s) (hb : s.heap.objs.size ≤ b) (hn : H' b = none) : FpOk X pins H' b := by
  refine ⟨hn, Nat.ne_of_gt (Nat.lt_of_lt_of_le I.lt hb), I.nofs hb, .inr (Nat.le_trans I.sz hb), fun x c e z => ?_, fun p hp z => ?_⟩
  · obtain ⟨v, q⟩ := I.cell x c e
    exact absurd (Nat.lt_of_lt_of_le q.lt (by rw [z]; exact hb)) (Nat.lt_irrefl _)
  · exact absurd (Nat.lt_of_lt_of_le (Heap.lt_size (I.pin p hp).1) (by rw [z]; exact hb)) (Nat.lt_irrefl _)
structure Turn (P : Program) (w : World) (K : PySem.W.Frag) (tg : Expr) (J : It) (fp : List Addr) (it : Addr) (tn : Nat → Heap → Prop) : Prop where
  mem : it ∈ fp
  obj : ∀ i h, tn i h → ∀ b ∈ fp, ∃ o, h.get? b = some o ∧ ∀ v, o.data ≠ .cell v
  keep : ∀ i h h', tn i h → (∀ b ∈ fp, ∀ o, h.get? b = some o → h'.get? b = some o) → tn i h'
  item : ∀ (X : Cx), X.prog = P → X.w = w → X.K = K → X.calm = true → ∀ (i : Nat) (pins : List (Addr × Obj)) (s : Shared) (σ : St) (H : Hp) (E : Value → Shared → Prop), Inv X pins σ H s → (∀ b ∈ fp, FpOk X pins H b) → tn i s.heap → J.go i H →
    wpAny (model P w) X.A (pyNext (.ref it)) (fun r s1 => ∃ u, r = some u ∧
      wpAny (model P w) X.A (letOwnedTupleGo tg (.ref it) u) (fun _ s2 => ∃ x H', Inv X pins σ H' s2 ∧ RelV x u ∧ J.yld i H x H' ∧ tn (i + 1) s2.heap ∧ ∀ b ∈ fp, H' b = none) E s1) E s
  done : ∀ (X : Cx), X.prog = P → X.w = w → X.K = K → X.calm = true → ∀ (i : Nat) (pins : List (Addr × Obj)) (s : Shared) (σ : St) (H : Hp) (E : Value → Shared → Prop), Inv X pins σ H s → (∀ b ∈ fp, FpOk X pins H b) → tn i s.heap → J.stop i H →
    wpAny (model P w) X.A (pyNext (.ref it)) (fun r s1 => r = none ∧ Inv X pins σ H s1) E s
  self : ∀ (A : Around) (i : Nat) (s : Shared) (Q : Value → Shared → Prop) (E : Value → Shared → Prop), tn i s.heap → Q (.ref it) s → wpAny (model P w) A (pyIter (.ref it)) Q E s
abbrev TI := St → Hp → (It → Hp → Prop) → Prop
/-- an iterator has come -/
def PIE (X : Cx) (pins : List (Addr × Obj)) (σ : St) (tg : Expr) (R : It → Hp → Prop) (itv : Value) (s2 : Shared) : Prop :=
  ∃ (it : Addr) (fp : List Addr) (tn : Nat → Heap → Prop) (J : It) (H' : Hp), itv = .ref it ∧ Inv X pins σ H' s2 ∧ Turn X.prog X.w X.K tg J fp it tn ∧ tn 0 s2.heap ∧ (∀ b ∈ fp, FpOk X pins H' b) ∧ R J H'
def PI (X : Cx) (tg iter : Expr) (wi : TI) : Prop :=
  ∀ (pins : List (Addr × Obj)) (s : Shared) (σ : St) (H : Hp) (R : It → Hp → Prop), Inv X pins σ H s → wi σ H R →
    wpAny (model X.prog X.w) X.A (eval iter X.env) (fun v s1 => wpAny (model X.prog X.w) X.A (pyIter v) (PIE X pins σ tg R) X.xe s1) X.xe s

/-- the step ahead of the store is nothing for an iterator that keeps no tuple -/
theorem go_of {M : Model} {A : Around} {E : Value → Shared → Prop} {s : Shared} {tg : Expr} {it : Addr} {u : Value} {o : Obj} {n : String} {vs : Array Value} {Q : Unit → Shared → Prop} (ho : s.heap.get? it = some o) (hc : o.cls = .type n) (hd : o.data = .fields vs)
    (hn : ["enumerate", "zip", "dict_itemiterator", "dict_reverseitemiterator", "odict_iterator", "itertools.zip_longest", "itertools.pairwise"].contains n = false) (hQ : Q () s) : wpAny M A (letOwnedTupleGo tg (.ref it) u) Q E s := by
  unfold letOwnedTupleGo
  cases tg <;> first
    | exact wpAny_pure hQ
    | (cases u <;> first
        | exact wpAny_pure hQ
        | (refine wpAny_bind (wpAny_load ho ?_)
           rw [hc, hd]
           show wpAny M A (if (["enumerate", "zip", "dict_itemiterator", "dict_reverseitemiterator", "odict_iterator", "itertools.zip_longest", "itertools.pairwise"].contains n && vs[0]? == some (rawInt _)) = true then _ else _) Q E s
           rw [if_neg (by intro h; rw [hn, Bool.false_and] at h; cases h)]
           exact wpAny_pure hQ))

/-- the list at a, as it stands at each turn (a loop may append to it) -/
def Itl (K : PySem.W.Frag) (a : Addr) : It :=
  ⟨fun i H => ∃ xs x, SqL K H a xs ∧ xs[i]? = some x, fun i H x H' => H' = H ∧ ∀ xs, SqL K H a xs → xs[i]? = some x, fun i H => ∃ xs, SqL K H a xs ∧ xs.length ≤ i⟩
def Itt (K : PySem.W.Frag) (a : Addr) : It :=
  ⟨fun i H => ∃ xs x, SqT K H a xs ∧ xs[i]? = some x, fun i H x H' => H' = H ∧ ∀ xs, SqT K H a xs → xs[i]? = some x, fun i H => ∃ xs, SqT K H a xs ∧ xs.length ≤ i⟩
/-- lo, lo + 1, .. (n of them) -/
def Itr (lo : Int) (n : Nat) : It := ⟨fun i _ => i < n, fun i H x H' => H' = H ∧ x = .int (lo + i), fun i _ => n ≤ i⟩
theorem turn_list {P : Program} {w : World} {K : PySem.W.Frag} {tg : Expr} (a it : Addr) : Turn P w K tg (Itl K a) [it] it (fun i h => h.IsListIter it a i) where
  mem := by simp
  obj := fun i h st b hb => by
    have e : b = it := by simpa using hb
    subst e
    obtain ⟨o, e, c, d⟩ := st
    exact ⟨o, e, fun v z => by rw [d] at z; cases z⟩
  keep := fun i h h' st k => st.at fun o e => k it (by simp) o e
  item := by
    intro X hP hw hK hc i pins s σ H E I hf st hg
    subst hP hw hK
    obtain ⟨xs, x, hq, hx⟩ := hg
    obtain ⟨its, rv, p, hz⟩ := I.list hq
    obtain ⟨u, hu, ru⟩ := rv.get hx
    obtain ⟨f0, f1, f2, f3, f4, f5⟩ := hf it (by simp)
    refine wpAny_pyNext_list_item st p.isList (x := u) (by simpa using hu) fun h' st' sb => ?_
    have I1 : Inv X pins σ H { s with heap := h' } := I.turned (t' := s.toks) (fun b o hb e => (sb.2 b hb).trans e) f0 f1 f3 f4 f5
    obtain ⟨o, e, c, d⟩ := id st'
    exact ⟨u, rfl, go_of (s := { s with heap := h' }) e c d (by decide) ⟨x, H, I1, ru, ⟨rfl, fun ys hy => by rw [I.list_inj hy hq]; exact hx⟩, st', fun b hb => (hf b hb).1⟩⟩
  done := by
    intro X hP hw hK hc i pins s σ H E I hf st hg
    subst hP hw hK
    obtain ⟨xs, hq, hx⟩ := hg
    obtain ⟨its, rv, p, hz⟩ := I.list hq
    obtain ⟨f0, f1, f2, f3, f4, f5⟩ := hf it (by simp)
    have hl := rv.length
    exact wpAny_pyNext_list_end (I.ok.hd hc) st p.isList (by simp; omega) fun h' eb => ⟨rfl, I.turned (t' := s.toks) (fun b o hb e => eb b o hb e) f0 f1 f3 f4 f5⟩
  self := fun _ _ _ _ _ st h => wpAny_pyIter_listiter st h
theorem turn_tuple {P : Program} {w : World} {K : PySem.W.Frag} {tg : Expr} (a it : Addr) : Turn P w K tg (Itt K a) [it] it (fun i h => h.IsTupleIter it a i) where
  mem := by simp
  obj := fun i h st b hb => by
    have e : b = it := by simpa using hb
    subst e
    obtain ⟨o, e, c, d⟩ := st
    exact ⟨o, e, fun v z => by rw [d] at z; cases z⟩
  keep := fun i h h' st k => st.at fun o e => k it (by simp) o e
  item := by
    intro X hP hw hK hc i pins s σ H E I hf st hg
    subst hP hw hK
    obtain ⟨xs, x, hq, hx⟩ := hg
    obtain ⟨its, rv, p, hz⟩ := I.tuple hq
    obtain ⟨u, hu, ru⟩ := rv.get hx
    obtain ⟨f0, f1, f2, f3, f4, f5⟩ := hf it (by simp)
    refine wpAny_pyNext_tuple_item st (show s.heap.IsTuple a its.toArray from p) (x := u) (by simpa using hu) fun h' st' sb => ?_
    have I1 : Inv X pins σ H { s with heap := h' } := I.turned (t' := s.toks) (fun b o hb e => (sb.2 b hb).trans e) f0 f1 f3 f4 f5
    obtain ⟨o, e, c, d⟩ := id st'
    exact ⟨u, rfl, go_of (s := { s with heap := h' }) e c d (by decide) ⟨x, H, I1, ru, ⟨rfl, fun ys hy => by rw [I.tuple_inj hy hq]; exact hx⟩, st', fun b hb => (hf b hb).1⟩⟩
  done := by
    intro X hP hw hK hc i pins s σ H E I hf st hg
    subst hP hw hK
    obtain ⟨xs, hq, hx⟩ := hg
    obtain ⟨its, rv, p, hz⟩ := I.tuple hq
    obtain ⟨f0, f1, f2, f3, f4, f5⟩ := hf it (by simp)
    have hl := rv.length
    exact wpAny_pyNext_tuple_end (I.ok.hd hc) st (show s.heap.IsTuple a its.toArray from p) (by simp; omega) fun h' eb => ⟨rfl, I.turned (t' := s.toks) (fun b o hb e => eb b o hb e) f0 f1 f3 f4 f5⟩
  self := fun _ _ _ _ _ st h => wpAny_pyIter_tupleiter st h
theorem turn_range {P : Program} {w : World} {K : PySem.W.Frag} {tg : Expr} (it : Addr) (lo : Int) (n : Nat) : Turn P w K tg (Itr lo n) [it] it (fun i h => IsRangeIter h it (lo + (i : Nat) * 1) ((n : Int) - (i : Nat)) 1) where
  mem := by simp
  obj := fun i h st b hb => by
    have e : b = it := by simpa using hb
    subst e
    exact ⟨_, st, fun v z => by
      have z' : Data.fields _ = Data.cell v := z
      cases z'⟩
  keep := fun i h h' st k => k it (by simp) _ st
  item := by
    intro X hP hw hK hc i pins s σ H E I hf st hg
    subst hP hw hK
    obtain ⟨f0, f1, f2, f3, f4, f5⟩ := hf it (by simp)
    have W := Walks.range (prog := X.prog) (w := X.w) (I.ok.hd hc) it lo 1 n
    refine W.item i s _ _ hg st fun v h' tk hv st' kk => ?_
    obtain ⟨t, rfl⟩ := hv
    have I1 : Inv X pins σ H { s with heap := h', toks := tk } := I.turned (fun b o hb e => kk b o (by simpa using hb) e) f0 f1 f3 f4 f5
    refine ⟨_, rfl, go_of (s := { s with heap := h', toks := tk }) (n := "range_iterator") st' rfl rfl (by decide) ⟨.int (lo + i), H, I1, ⟨t, ?_⟩, ⟨rfl, rfl⟩, st', fun b hb => (hf b hb).1⟩⟩
    rw [Int.mul_one]
  done := by
    intro X hP hw hK hc i pins s σ H E I hf st hg
    subst hP hw hK
    obtain ⟨f0, f1, f2, f3, f4, f5⟩ := hf it (by simp)
    exact wpAny_pyNext_range_end (I.ok.hd hc) st (by have : n ≤ i := hg; omega) fun h' eb => ⟨rfl, I.turned (t' := s.toks) (fun b o hb e => eb b o hb e) f0 f1 f3 f4 f5⟩
  self := fun _ _ _ _ _ st h => wpAny_pyIter_rangeiter st h
end L2

namespace L2
open PySem PySem.Spec PyProof.Rows
section
variable {X : Cx} {tg : Expr}
def iList (K : PySem.W.Frag) (tl : TE) : TI := fun σ H R => tl σ H fun x H1 => ∃ a, x = .ref a ∧ (∃ xs, SqL K H1 a xs) ∧ R (Itl K a) H1
def iTup (K : PySem.W.Frag) (tl : TE) : TI := fun σ H R => tl σ H fun x H1 => ∃ a, x = .ref a ∧ (∃ xs, SqT K H1 a xs) ∧ R (Itt K a) H1
theorem pi_list {l : Expr} {tl : TE} (hl : PE X l tl) : PI X tg l (iList X.K tl) := by
  intro pins s σ H R I h
  refine thn (hl pins s σ H _ I h) fun v s1 ⟨x, H1, I1, r1, q1⟩ => ?_
  obtain ⟨a, e, ⟨xs, hq⟩, q⟩ := q1
  subst e
  cases r1
  obtain ⟨its, rv, p, hz⟩ := I1.list hq
  refine wpAny_pyIter_list p.isList ?_
  refine ⟨s1.heap.objs.size, [s1.heap.objs.size], _, _, H1, rfl, I1.kept (t' := s1.toks) fun b o e => Heap.get?_push_of_some _ e, turn_list a _, ⟨_, Heap.get?_push_size _ rfl, rfl, rfl⟩, fun b hb => ?_, q⟩
  have e : b = s1.heap.objs.size := by simpa using hb
  subst e
  exact I1.fpOk (Nat.le_refl _) (I1.hok.fresh (Nat.le_refl _))
theorem pi_tup {l : Expr} {tl : TE} (hl : PE X l tl) : PI X tg l (iTup X.K tl) := by
  intro pins s σ H R I h
  refine thn (hl pins s σ H _ I h) fun v s1 ⟨x, H1, I1, r1, q1⟩ => ?_
  obtain ⟨a, e, ⟨xs, hq⟩, q⟩ := q1
  subst e
  cases r1
  obtain ⟨its, rv, p, hz⟩ := I1.tuple hq
  refine wpAny_pyIter_tuple (show s1.heap.IsTuple a its.toArray from p) ?_
  refine ⟨s1.heap.objs.size, [s1.heap.objs.size], _, _, H1, rfl, I1.kept (t' := s1.toks) fun b o e => Heap.get?_push_of_some _ e, turn_tuple a _, ⟨_, Heap.get?_push_size _ rfl, rfl, rfl⟩, fun b hb => ?_, q⟩
  have e : b = s1.heap.objs.size := by simpa using hb
  subst e
  exact I1.fpOk (Nat.le_refl _) (I1.hok.fresh (Nat.le_refl _))
/-- a range object just made, walked -/
theorem range_it {pins : List (Addr × Obj)} {σ : St} {H : Hp} {s : Shared} {R : It → Hp → Prop} {E : Value → Shared → Prop} {lo hi : Int} {t u v : Tok} {tk : Nat} (I : Inv X pins σ H s) (h1 : -(2 ^ 62) ≤ lo) (h2 : lo < 2 ^ 62) (h3 : -(2 ^ 62) ≤ hi) (h4 : hi < 2 ^ 62)
    (q : R (Itr lo (hi - lo).toNat) H) : wpAny (model X.prog X.w) X.A (pyIter (.ref s.heap.objs.size)) (PIE X pins σ tg R) E { s with heap := s.heap.push { cls := .type "range", data := .fields #[.int lo t, .int hi u, .int 1 v] }, toks := tk } := by
  refine wpAny_pyIter_range (IsRange.new ..) (small_one h1 h2 h3 h4) ?_
  have I1 : Inv X pins σ H { s with heap := s.heap.push { cls := .type "range", data := .fields #[.int lo t, .int hi u, .int 1 v] }, toks := tk } := I.kept fun b o e => Heap.get?_push_of_some _ e
  refine ⟨(s.heap.push { cls := .type "range", data := .fields #[.int lo t, .int hi u, .int 1 v] }).objs.size, [(s.heap.push { cls := .type "range", data := .fields #[.int lo t, .int hi u, .int 1 v] }).objs.size], _, _, H, rfl,
    I1.kept (t' := tk) fun b o e => Heap.get?_push_of_some _ e, turn_range _ lo (hi - lo).toNat, ?_, fun b hb => ?_, q⟩
  · have e1 : lo + ((0 : Nat) : Int) * 1 = lo := by simp
    have e2 : (((hi - lo).toNat : Nat) : Int) - ((0 : Nat) : Int) = Builtin.Range.rangeSize lo hi 1 := by rw [rangeSize_one]; split <;> omega
    show IsRangeIter _ _ (lo + ((0 : Nat) : Int) * 1) ((((hi - lo).toNat : Nat) : Int) - ((0 : Nat) : Int)) 1
    rw [e1, e2]
    exact Heap.get?_push_size _ rfl
  · have e : b = (s.heap.push { cls := .type "range", data := .fields #[.int lo t, .int hi u, .int 1 v] }).objs.size := by simpa using hb
    subst e
    exact I1.fpOk (Nat.le_refl _) (I1.hok.fresh (Nat.le_refl _))
def iRng1 (ta : TA) : TI := fun σ H R => ta σ H fun vs H1 => ∃ j : Int, vs = [.int j] ∧ -(2 ^ 62) ≤ j ∧ j < 2 ^ 62 ∧ R (Itr 0 j.toNat) H1
theorem pi_range1 {a : Expr} {ta : TA} {p pos : Pos} (hg : Gl X "range") (hm : X.mg "range" = none) (ha : PA X [a] ta) (hs : starEach [a] X.env = [(false, eval a X.env)] := by rfl) : PI X tg (.Call (.Name "range" p) [a] [] pos) (iRng1 ta) := by
  intro pins s σ H R I h
  refine Call_ (ld_blt I hg hm boot_range (PyProof.Rows.callWith_type1 (thn (ha pos pins s σ H _ I h) fun us s1 ⟨vs, H1, I1, r1, q1⟩ => ?_) hs rfl))
  obtain ⟨j, e, q1, q2, q⟩ := q1
  subst e
  cases r1 with
  | cons r rr =>
    cases rr
    obtain ⟨t, rfl⟩ := r
    exact call_range_1 (range_it I1 (by omega) (by omega) q1 q2 (by simpa using q))

/-! ### for -/
/-- W: the invariant by the turn and a measure; N: what the body is to reach -/
def tFor (wi : TI) (g : TG) (tb : TS) : TS := fun D σ H => wi σ H fun J H1 => ∃ W : Nat → Nat → St → Hp → Prop, (∃ m, W 0 m σ H1) ∧ ∀ i m σ H, W i m σ H →
  (J.stop i H ∧ D.nx σ H) ∨ (J.go i H ∧ ∃ N : St → Hp → Prop, (∀ σ' H', N σ' H' → ∃ m', m' < m ∧ W (i + 1) m' σ' H') ∧ ∀ x H', J.yld i H x H' → g x σ H' fun σ2 H2 => tb { D with nx := N, ct := N, bk := D.nx } σ2 H2)
/-- the records at fp as they stand -/
def pinsAt (fp : List Addr) (h : Heap) : List (Addr × Obj) := fp.filterMap fun b => (h.get? b).map fun o => (b, o)
theorem mem_pinsAt {fp : List Addr} {h : Heap} {b : Addr} {o : Obj} (hb : b ∈ fp) (e : h.get? b = some o) : (b, o) ∈ pinsAt fp h := List.mem_filterMap.mpr ⟨b, hb, by rw [e]; rfl⟩
theorem of_pinsAt {fp : List Addr} {h : Heap} {p : Addr × Obj} (hp : p ∈ pinsAt fp h) : p.1 ∈ fp ∧ h.get? p.1 = some p.2 := by
  obtain ⟨b, hb, e⟩ := List.mem_filterMap.mp hp
  cases q : h.get? b with
  | none => rw [q] at e; cases e
  | some o =>
    rw [q] at e
    have e' : (b, o) = p := Option.some.inj e
    subst e'
    exact ⟨hb, q⟩
theorem Inv.pinned {pins : List (Addr × Obj)} {σ : St} {H : Hp} {s : Shared} {fp : List Addr} (I : Inv X pins σ H s) (hf : ∀ b ∈ fp, FpOk X pins H b) (ho : ∀ b ∈ fp, ∃ o, s.heap.get? b = some o ∧ ∀ v, o.data ≠ .cell v) : Inv X (pins ++ pinsAt fp s.heap) σ H s :=
  I.pins_of fun p hp => (List.mem_append.mp hp).elim (fun z => I.pin p (List.mem_append_right _ z)) fun z => by
    obtain ⟨hb, e⟩ := of_pinsAt z
    obtain ⟨f0, f1, f2, _⟩ := hf p.1 hb
    obtain ⟨o, e', d⟩ := ho p.1 hb
    rw [e] at e'; cases e'
    exact ⟨e, f0, f1, f2, d⟩
theorem Inv.unpinned {pins pl : List (Addr × Obj)} {σ : St} {H : Hp} {s : Shared} (I : Inv X (pins ++ pl) σ H s) : Inv X pins σ H s := I.pins_of fun p hp => I.pin p (List.mem_append_right _ (List.mem_append_left _ hp))
theorem ps_for {iter : Expr} {body : List Stmt} {wi : TI} {g : TG} {tb : TS} {pos : Pos} (hp : PassesOwn (model X.prog X.w) X.A X.env X.xe) (hc : X.calm = true) (hi : PI X tg iter wi) (hg : PG X tg g) (hb : PSs X body tb)
    (hs : ∀ x, foldedSetIterable iter X.env x = pure x := by intro _; rfl) : PS X (.For tg iter body [] pos) (tFor wi g tb) := by
  intro pins s σ H D I h
  refine wpAny_For (thn (hi pins s σ H _ I h) fun v s1 h1 => thn h1 fun itv s2 h2 => ?_) hs
  obtain ⟨it, fp, tn, J, H2, e, I2, T, st2, f2, W, ⟨m0, w0⟩, turn⟩ := h2
  subst e
  -- what stays true of the iterator's objects through the loop
  have stat : ∀ {H' : Hp}, (∀ b ∈ fp, H' b = none) → ∀ b ∈ fp, FpOk X pins H' b := fun hn b hb => ⟨hn b hb, (f2 b hb).2⟩
  refine codeAny_forLoop_any (fun n s' => ∃ i σ' H', Inv X pins σ' H' s' ∧ tn i s'.heap ∧ (∀ b ∈ fp, H' b = none) ∧ W i n σ' H') ?_ m0 ⟨0, σ, H2, I2, st2, fun b hb => (f2 b hb).1, w0⟩
  rintro n s3 ⟨i, σ3, H3, I3, st3, fr3, w3⟩
  rcases turn i n σ3 H3 w3 with ⟨stop, qn⟩ | ⟨go, N, hN, step⟩
  · refine wpAny_passesOwn hp (thn (T.done X rfl rfl rfl hc i pins s3 σ3 H3 X.xe I3 (stat fr3) st3 stop) fun r s4 ⟨hr, I4⟩ => ?_)
    subst hr
    exact wpAny_execs_nil ⟨σ3, H3, I4, qn⟩
  · refine wpAny_passesOwn hp (thn (T.item X rfl rfl rfl hc i pins s3 σ3 H3 X.xe I3 (stat fr3) st3 go) fun r s4 ⟨u, hr, h4⟩ => ?_)
    subst hr
    refine wpAny_passesOwn hp (thn h4 fun _ s5 ⟨x, H5, I5, r5, y5, st5, fr5⟩ => ?_)
    have I5' := I5.pinned (stat fr5) (T.obj _ _ st5)
    refine wpAny_passesOwn hp (thn (hg _ s5 σ3 H5 x u _ I5' r5 (step x H5 y5)) fun _ s6 ⟨σ6, H6, I6, q6⟩ => ?_)
    refine wpAny_passesOwn hp (thn (hb _ s6 σ6 H6 _ I6 q6) fun f s7 q7 => ?_)
    have again : ∀ {σ7 : St} {H7 : Hp}, Inv X (pins ++ pinsAt fp s5.heap) σ7 H7 s7 → N σ7 H7 → ∃ m, m < n ∧ ∃ i σ' H', Inv X pins σ' H' s7 ∧ tn i s7.heap ∧ (∀ b ∈ fp, H' b = none) ∧ W i m σ' H' := fun {σ7 H7} I7 n7 => by
      obtain ⟨m', hm, w7⟩ := hN σ7 H7 n7
      refine ⟨m', hm, i + 1, σ7, H7, I7.unpinned, T.keep _ _ _ st5 fun b hb o e => (I7.pin (b, o) (List.mem_append_right _ (List.mem_append_right _ (mem_pinsAt hb e)))).1, fun b hb => ?_, w7⟩
      obtain ⟨o, e, d⟩ := T.obj _ _ st5 b hb
      exact (I7.pin (b, o) (List.mem_append_right _ (List.mem_append_right _ (mem_pinsAt hb e)))).2.1
    cases f with
    | next => obtain ⟨σ7, H7, I7, n7⟩ := q7; exact again I7 n7
    | cont => obtain ⟨σ7, H7, I7, n7⟩ := q7; exact again I7 n7
    | brk => obtain ⟨σ7, H7, I7, q7⟩ := q7; exact ⟨σ7, H7, I7.unpinned, q7⟩
    | ret v => obtain ⟨x7, σ7, H7, I7, r7, q7⟩ := q7; exact ⟨x7, σ7, H7, I7.unpinned, r7, q7⟩
end

/-! ### the forms one uses -/
/-- over a list that the body leaves as it is -/
theorem for_list {K : PySem.W.Frag} {a : Addr} {xs : List V} {g : TG} {tb : TS} {D : Ends} {σ : St} {H : Hp} (Pv : Nat → St → Hp → Prop) (h0 : Pv 0 σ H) (hl : ∀ i σ H, i ≤ xs.length → Pv i σ H → SqL K H a xs)
    (hs : ∀ i x σ H, xs[i]? = some x → Pv i σ H → g x σ H fun σ2 H2 => tb { D with nx := Pv (i + 1), ct := Pv (i + 1), bk := D.nx } σ2 H2) (hd : ∀ σ H, Pv xs.length σ H → D.nx σ H) :
    ∃ W : Nat → Nat → St → Hp → Prop, (∃ m, W 0 m σ H) ∧ ∀ i m σ H, W i m σ H →
      ((Itl K a).stop i H ∧ D.nx σ H) ∨ ((Itl K a).go i H ∧ ∃ N : St → Hp → Prop, (∀ σ' H', N σ' H' → ∃ m', m' < m ∧ W (i + 1) m' σ' H') ∧ ∀ x H', (Itl K a).yld i H x H' → g x σ H' fun σ2 H2 => tb { D with nx := N, ct := N, bk := D.nx } σ2 H2) := by
  refine ⟨fun i m σ H => m = xs.length - i ∧ i ≤ xs.length ∧ Pv i σ H, ⟨xs.length, by simp, Nat.zero_le _, h0⟩, ?_⟩
  rintro i m σ H ⟨rfl, hi, p⟩
  have q := hl i σ H hi p
  by_cases hlt : i < xs.length
  · refine .inr ⟨⟨xs, xs[i], q, by simp [hlt]⟩, Pv (i + 1), fun σ' H' p' => ⟨xs.length - (i + 1), by omega, rfl, hlt, p'⟩, fun x H' y => ?_⟩
    obtain ⟨e, y⟩ := y
    subst e
    exact hs i x σ _ (y xs q) p
  · have e : i = xs.length := by omega
    subst e
    exact .inl ⟨⟨xs, q, Nat.le_refl _⟩, hd σ H p⟩
theorem for_tup {K : PySem.W.Frag} {a : Addr} {xs : List V} {g : TG} {tb : TS} {D : Ends} {σ : St} {H : Hp} (Pv : Nat → St → Hp → Prop) (h0 : Pv 0 σ H) (hl : ∀ i σ H, i ≤ xs.length → Pv i σ H → SqT K H a xs)
    (hs : ∀ i x σ H, xs[i]? = some x → Pv i σ H → g x σ H fun σ2 H2 => tb { D with nx := Pv (i + 1), ct := Pv (i + 1), bk := D.nx } σ2 H2) (hd : ∀ σ H, Pv xs.length σ H → D.nx σ H) :
    ∃ W : Nat → Nat → St → Hp → Prop, (∃ m, W 0 m σ H) ∧ ∀ i m σ H, W i m σ H →
      ((Itt K a).stop i H ∧ D.nx σ H) ∨ ((Itt K a).go i H ∧ ∃ N : St → Hp → Prop, (∀ σ' H', N σ' H' → ∃ m', m' < m ∧ W (i + 1) m' σ' H') ∧ ∀ x H', (Itt K a).yld i H x H' → g x σ H' fun σ2 H2 => tb { D with nx := N, ct := N, bk := D.nx } σ2 H2) := by
  refine ⟨fun i m σ H => m = xs.length - i ∧ i ≤ xs.length ∧ Pv i σ H, ⟨xs.length, by simp, Nat.zero_le _, h0⟩, ?_⟩
  rintro i m σ H ⟨rfl, hi, p⟩
  have q := hl i σ H hi p
  by_cases hlt : i < xs.length
  · refine .inr ⟨⟨xs, xs[i], q, by simp [hlt]⟩, Pv (i + 1), fun σ' H' p' => ⟨xs.length - (i + 1), by omega, rfl, hlt, p'⟩, fun x H' y => ?_⟩
    obtain ⟨e, y⟩ := y
    subst e
    exact hs i x σ _ (y xs q) p
  · have e : i = xs.length := by omega
    subst e
    exact .inl ⟨⟨xs, q, Nat.le_refl _⟩, hd σ H p⟩
theorem for_range {lo : Int} {n : Nat} {g : TG} {tb : TS} {D : Ends} {σ : St} {H : Hp} (Pv : Nat → St → Hp → Prop) (h0 : Pv 0 σ H)
    (hs : ∀ i σ H, i < n → Pv i σ H → g (.int (lo + i)) σ H fun σ2 H2 => tb { D with nx := Pv (i + 1), ct := Pv (i + 1), bk := D.nx } σ2 H2) (hd : ∀ σ H, Pv n σ H → D.nx σ H) :
    ∃ W : Nat → Nat → St → Hp → Prop, (∃ m, W 0 m σ H) ∧ ∀ i m σ H, W i m σ H →
      ((Itr lo n).stop i H ∧ D.nx σ H) ∨ ((Itr lo n).go i H ∧ ∃ N : St → Hp → Prop, (∀ σ' H', N σ' H' → ∃ m', m' < m ∧ W (i + 1) m' σ' H') ∧ ∀ x H', (Itr lo n).yld i H x H' → g x σ H' fun σ2 H2 => tb { D with nx := N, ct := N, bk := D.nx } σ2 H2) := by
  refine ⟨fun i m σ H => m = n - i ∧ i ≤ n ∧ Pv i σ H, ⟨n, by simp, Nat.zero_le _, h0⟩, ?_⟩
  rintro i m σ H ⟨rfl, hi, p⟩
  by_cases hlt : i < n
  · refine .inr ⟨hlt, Pv (i + 1), fun σ' H' p' => ⟨n - (i + 1), by omega, rfl, hlt, p'⟩, fun x H' y => ?_⟩
    obtain ⟨e, y⟩ := y
    subst e y
    exact hs i σ _ hlt p
  · have e : i = n := by omega
    subst e
    exact .inl ⟨Nat.le_refl _, hd σ H p⟩
/-- while, by a word and a measure of the state -/
theorem while_by {c : TT} {tb : TS} {D : Ends} {σ : St} {H : Hp} (Pv : St → Hp → Prop) (μ : St → Hp → Nat) (h0 : Pv σ H)
    (hs : ∀ σ H, Pv σ H → c σ H fun b H1 => if b = true then tb { D with nx := fun σ' H' => Pv σ' H' ∧ μ σ' H' < μ σ H, ct := fun σ' H' => Pv σ' H' ∧ μ σ' H' < μ σ H, bk := D.nx } σ H1 else D.nx σ H1)
    (mono : ∀ σ H Q Q', (∀ b H1, Q b H1 → Q' b H1) → c σ H Q → c σ H Q') : tWhile c tb D σ H := by
  refine ⟨fun m σ H => m = μ σ H ∧ Pv σ H, ⟨_, rfl, h0⟩, ?_⟩
  rintro m σ H ⟨rfl, p⟩
  refine mono σ H _ _ (fun b H1 q => ?_) (hs σ H p)
  cases b with
  | true => exact ⟨_, fun σ' H' ⟨p', l⟩ => ⟨_, l, rfl, p'⟩, q⟩
  | false => exact q
end L2

namespace L2
open PySem PySem.Spec PyProof.Rows

abbrev R2 := V → V → Hp → VK → Prop
/-- a two-place operation on values: f is binaryOp op, inplaceOp op or compareOp op -/
def OpR (X : Cx) (f : Value → Value → Sem Value) (r : R2) : Prop :=
  ∀ (pins : List (Addr × Obj)) (s : Shared) (σ : St) (H : Hp) (x y : V) (v u : Value) (Q : VK), Inv X pins σ H s → RelV x v → RelV y u → r x y H Q →
    wpAny (model X.prog X.w) X.A (f v u) (EP X pins σ Q) X.xe s
/-- a one-place operation -/
def UnR (X : Cx) (f : Value → Sem Value) (r : V → Hp → VK → Prop) : Prop :=
  ∀ (pins : List (Addr × Obj)) (s : Shared) (σ : St) (H : Hp) (x : V) (v : Value) (Q : VK), Inv X pins σ H s → RelV x v → r x H Q →
    wpAny (model X.prog X.w) X.A (f v) (EP X pins σ Q) X.xe s
/-- a call of a value that is known (a builtin, a type) with values -/
def CallR (X : Cx) (f : Value) (r : List V → Hp → VK → Prop) : Prop :=
  ∀ (pins : List (Addr × Obj)) (s : Shared) (σ : St) (H : Hp) (xs : List V) (us : List Value) (Q : VK), Inv X pins σ H s → Vals xs us → r xs H Q →
    wpAny (model X.prog X.w) X.A (call f us) (EP X pins σ Q) X.xe s

def tOp (r : R2) (ta tb : TE) : TE := fun σ H Q => ta σ H fun x H1 => tb σ H1 fun y H2 => r x y H2 Q
def tUn (r : V → Hp → VK → Prop) (ta : TE) : TE := fun σ H Q => ta σ H fun x H1 => r x H1 Q
/-- ints in, under C, and a value out -/
def rI (C : Int → Int → Prop) (g : Int → Int → V) : R2 := fun x y H Q => ∃ i j, x = .int i ∧ y = .int j ∧ C i j ∧ Q (g i j) H
def rI0 (g : Int → Int → V) : R2 := fun x y H Q => ∃ i j, x = .int i ∧ y = .int j ∧ Q (g i j) H
def rU (g : Int → V) : V → Hp → VK → Prop := fun x H Q => ∃ i, x = .int i ∧ Q (g i) H

section
variable {X : Cx} {a b c : Expr} {ta tb tc : TE} {pos : Pos}

theorem binT (ha : PE X a ta) (hb : PE X b tb) {pins : List (Addr × Obj)} {s : Shared} {σ : St} {H : Hp} {R : V → V → Hp → Prop} (I : Inv X pins σ H s)
    (h : ta σ H fun x H1 => tb σ H1 fun y H2 => R x y H2) {Q : Value → Shared → Prop} {f : Value → Value → Sem Value}
    (hf : ∀ v u s2 x y H2, Inv X pins σ H2 s2 → RelV x v → RelV y u → R x y H2 → wpAny (model X.prog X.w) X.A (f v u) Q X.xe s2) :
    wpAny (model X.prog X.w) X.A (eval a X.env) (fun v s₁ => wpAny (model X.prog X.w) X.A (eval b X.env) (fun u s₂ => wpAny (model X.prog X.w) X.A (f v u) Q X.xe s₂) X.xe s₁) X.xe s := by
  refine thn (ha pins s σ H _ I h) fun v s1 ⟨x, H1, I1, r1, q1⟩ => ?_
  refine thn (hb pins s1 σ H1 _ I1 q1) fun u s2 ⟨y, H2, I2, r2, q2⟩ => ?_
  exact hf v u s2 x y H2 I2 r1 r2 q2

theorem pe_op {op : Operator} {r : R2} (ho : OpR X (binaryOp op) r) (ha : PE X a ta) (hb : PE X b tb) : PE X (.BinOp a op b pos) (tOp r ta tb) := by
  intro pins s σ H Q I h
  exact wpAny_BinOp (binT ha hb I h fun v u s2 x y H2 I2 rx ry q => ho pins s2 σ H2 x y v u Q I2 rx ry q)
theorem pe_un {op : UnaryOp} {r : V → Hp → VK → Prop} (ho : UnR X (unaryOp op) r) (ha : PE X a ta) : PE X (.UnaryOp op a pos) (tUn r ta) := by
  intro pins s σ H Q I h
  exact UnaryOp_ (thn (ha pins s σ H _ I h) fun v s1 ⟨x, H1, I1, r1, q1⟩ => ho pins s1 σ H1 x v Q I1 r1 q1)

/-! ### ints -/
theorem opI {f : Value → Value → Sem Value} {C : Int → Int → Prop} {g : Int → Int → Int}
    (rule : ∀ (i j : Int) (t u : Tok) (s : Shared) (Q : Value → Shared → Prop) (E : Value → Shared → Prop), C i j → Q (.int (g i j) s.toks) { s with toks := s.toks + 1 } → wpAny (model X.prog X.w) X.A (f (.int i t) (.int j u)) Q E s) :
    OpR X f (rI C fun i j => .int (g i j)) := by
  intro pins s σ H x y v u Q I rx ry h
  obtain ⟨i, j, rfl, rfl, hc, q⟩ := h
  obtain ⟨t, rfl⟩ := rx
  obtain ⟨t', rfl⟩ := ry
  exact rule i j t t' s _ _ hc ⟨.int (g i j), H, I.tok _, ⟨_, rfl⟩, q⟩
theorem opI0 {f : Value → Value → Sem Value} {g : Int → Int → Int}
    (rule : ∀ (i j : Int) (t u : Tok) (s : Shared) (Q : Value → Shared → Prop) (E : Value → Shared → Prop), Q (.int (g i j) s.toks) { s with toks := s.toks + 1 } → wpAny (model X.prog X.w) X.A (f (.int i t) (.int j u)) Q E s) :
    OpR X f (rI0 fun i j => .int (g i j)) := by
  intro pins s σ H x y v u Q I rx ry h
  obtain ⟨i, j, rfl, rfl, q⟩ := h
  obtain ⟨t, rfl⟩ := rx
  obtain ⟨t', rfl⟩ := ry
  exact rule i j t t' s _ _ ⟨.int (g i j), H, I.tok _, ⟨_, rfl⟩, q⟩
theorem opB0 {f : Value → Value → Sem Value} {g : Int → Int → Bool}
    (rule : ∀ (i j : Int) (t u : Tok) (s : Shared) (Q : Value → Shared → Prop) (E : Value → Shared → Prop), Q (.bool (g i j)) s → wpAny (model X.prog X.w) X.A (f (.int i t) (.int j u)) Q E s) :
    OpR X f (rI0 fun i j => .bl (g i j)) := by
  intro pins s σ H x y v u Q I rx ry h
  obtain ⟨i, j, rfl, rfl, q⟩ := h
  obtain ⟨t, rfl⟩ := rx
  obtain ⟨t', rfl⟩ := ry
  exact rule i j t t' s _ _ ⟨.bl (g i j), H, I, rfl, q⟩

def CDiv (i j : Int) : Prop := 0 < j ∧ j < 1073741824
def CMul (i j : Int) : Prop := (-(2 ^ 64) < i ∧ i < 2 ^ 64) ∨ (-(2 ^ 64) < j ∧ j < 2 ^ 64)
theorem CMul.ok {i j : Int} (h : CMul i j) : IntMulOk i j := by
  rcases h with ⟨h1, h2⟩ | ⟨h1, h2⟩
  · exact .of_left (intBits_le_64 h1 h2)
  · exact .of_right (intBits_le_64 h1 h2)

theorem op_add : OpR X (binaryOp .Add) (rI0 fun i j => .int (i + j)) := opI0 fun _ _ _ _ _ _ _ q => add_int q
theorem op_mul : OpR X (binaryOp .Mult) (rI CMul fun i j => .int (i * j)) := opI fun _ _ _ _ _ _ _ hc q => mul_int q hc.ok
/-- // by a positive divisor -/
theorem op_fdiv : OpR X (binaryOp .FloorDiv) (rI CDiv fun i j => .int (i / j)) := opI fun i j _ _ _ _ _ hc q => by
  have h1 : (0 : Int) < j := hc.1
  have h2 : j < 1073741824 := hc.2
  exact floordiv_int (by omega) (by rw [Int.fdiv_eq_ediv_of_nonneg i (by omega)]; exact q) (.inl (PyProof.noPylong_small (by omega)))
/-- % by a positive divisor of any size -/
theorem op_mod : OpR X (binaryOp .Mod) (rI (fun _ j => 0 < j) fun i j => .int (i % j)) := opI fun i j _ _ _ _ _ hc q => by
  have h1 : (0 : Int) < j := hc
  exact mod_int' (by omega) (by rw [Int.fmod_eq_emod_of_nonneg i (by omega)]; exact q)


theorem unI {f : Value → Sem Value} {g : Int → Int}
    (rule : ∀ (i : Int) (t : Tok) (s : Shared) (Q : Value → Shared → Prop) (E : Value → Shared → Prop), Q (.int (g i) s.toks) { s with toks := s.toks + 1 } → wpAny (model X.prog X.w) X.A (f (.int i t)) Q E s) :
    UnR X f (rU fun i => .int (g i)) := by
  intro pins s σ H x v Q I rx h
  obtain ⟨i, rfl, q⟩ := h
  obtain ⟨t, rfl⟩ := rx
  exact rule i t s _ _ ⟨.int (g i), H, I.tok _, ⟨_, rfl⟩, q⟩
theorem un_neg : UnR X (unaryOp .USub) (rU fun i => .int (-i)) := unI fun _ _ _ _ _ q => neg_int q

/-! ### bools among ints: n += (a < b) -/
end

/-! ### comparisons -/
/-- the scalars that == tells apart as data does -/
def scal : V → V → Bool
  | .non, .non => true | .non, .int _ => true | .int _, .non => true | .non, .bl _ => true | .bl _, .non => true | .non, .str _ => true | .str _, .non => true
  | .int _, .int _ => true | .bl _, .bl _ => true | .str _, .str _ => true | .byt _, .byt _ => true
  | .int _, .str _ => true | .str _, .int _ => true | .bl _, .str _ => true | .str _, .bl _ => true
  | _, _ => false
def rEq : R2 := fun x y H Q => scal x y = true ∧ Q (.bl (decide (x = y))) H
def rNe : R2 := fun x y H Q => scal x y = true ∧ Q (.bl (!decide (x = y))) H

theorem dec_int {i j : Int} : decide (V.int i = V.int j) = (i == j) := by
  rw [Bool.eq_iff_iff]
  simp
theorem dec_bl {i j : Bool} : decide (V.bl i = V.bl j) = (i == j) := by
  rw [Bool.eq_iff_iff]
  simp
theorem dec_str {i j : Str} : decide (V.str i = V.str j) = (i == j) := by
  rw [Bool.eq_iff_iff]
  simp
theorem dec_byt {i j : Array UInt8} : decide (V.byt i = V.byt j) = (i.toList == j.toList) := by
  rw [Bool.eq_iff_iff]
  cases i
  cases j
  simp

section
variable {X : Cx} {a b c : Expr} {ta tb tc : TE} {pos : Pos}
theorem fin_bl {pins : List (Addr × Obj)} {σ : St} {H : Hp} {s : Shared} {Q : VK} {k k' : Bool} (I : Inv X pins σ H s) (q : Q (.bl k) H) (e : k = k') : EP X pins σ Q (.bool k') s := by
  subst e
  exact ⟨.bl k, H, I, rfl, q⟩
theorem op_eq : OpR X (compareOp .Eq) rEq := by
  intro pins s σ H x y v u Q I rx ry h
  obtain ⟨hs, q⟩ := h
  cases x with
  | non =>
    cases rx
    cases y with
    | non => cases ry; exact PySem.EqNone.eq_none_none (fin_bl I q (by simp))
    | bl j => cases ry; exact PySem.EqNone.eq_none_bool (fin_bl I q (by simp))
    | int j => obtain ⟨t', rfl⟩ := ry; exact PySem.EqNone.eq_none_int (fin_bl I q (by simp))
    | str j => obtain ⟨t', rfl⟩ := ry; exact PySem.EqNone.eq_none_str (fin_bl I q (by simp))
    | _ => exact absurd (show false = true from hs) Bool.false_ne_true
  | bl i =>
    cases rx
    cases y with
    | non => cases ry; exact PySem.EqNone.eq_bool_none (fin_bl I q (by simp))
    | bl j => cases ry; exact eq_bool (fin_bl I q dec_bl)
    | str j => obtain ⟨t', rfl⟩ := ry; exact PySem.EqMixed.eq_bool_str (fin_bl I q (by simp))
    | _ => exact absurd (show false = true from hs) Bool.false_ne_true
  | int i =>
    obtain ⟨t, rfl⟩ := rx
    cases y with
    | non => cases ry; exact PySem.EqNone.eq_int_none (fin_bl I q (by simp))
    | int j => obtain ⟨t', rfl⟩ := ry; exact eq_int (fin_bl I q dec_int)
    | str j => obtain ⟨t', rfl⟩ := ry; exact PySem.EqMixed.eq_int_str (fin_bl I q (by simp))
    | _ => exact absurd (show false = true from hs) Bool.false_ne_true
  | str i =>
    obtain ⟨t, rfl⟩ := rx
    cases y with
    | non => cases ry; exact PySem.EqNone.eq_str_none (fin_bl I q (by simp))
    | bl j => cases ry; exact PySem.EqMixed.eq_str_bool (fin_bl I q (by simp))
    | int j => obtain ⟨t', rfl⟩ := ry; exact PySem.EqMixed.eq_str_int (fin_bl I q (by simp))
    | str j => obtain ⟨t', rfl⟩ := ry; exact eq_str (fin_bl I q dec_str)
    | _ => exact absurd (show false = true from hs) Bool.false_ne_true
  | byt i =>
    obtain ⟨t, rfl⟩ := rx
    cases y with
    | byt j => obtain ⟨t', rfl⟩ := ry; exact PySem.W.eq_bytes (fin_bl I q dec_byt)
    | _ => exact absurd (show false = true from hs) Bool.false_ne_true
  | _ => cases y <;> exact absurd (show false = true from hs) Bool.false_ne_true
theorem op_ne : OpR X (compareOp .NotEq) rNe := by
  intro pins s σ H x y v u Q I rx ry h
  obtain ⟨hs, q⟩ := h
  cases x with
  | non =>
    cases rx
    cases y with
    | non => cases ry; exact PySem.EqNone.ne_none_none (fin_bl I q (by simp))
    | bl j => cases ry; exact PySem.EqNone.ne_none_bool (fin_bl I q (by simp))
    | int j => obtain ⟨t', rfl⟩ := ry; exact PySem.EqNone.ne_none_int (fin_bl I q (by simp))
    | str j => obtain ⟨t', rfl⟩ := ry; exact PySem.EqNone.ne_none_str (fin_bl I q (by simp))
    | _ => exact absurd (show false = true from hs) Bool.false_ne_true
  | bl i =>
    cases rx
    cases y with
    | non => cases ry; exact PySem.EqNone.ne_bool_none (fin_bl I q (by simp))
    | bl j => cases ry; exact ne_bool (fin_bl I q (congrArg not dec_bl))
    | str j => obtain ⟨t', rfl⟩ := ry; exact PySem.EqMixed.ne_bool_str (fin_bl I q (by simp))
    | _ => exact absurd (show false = true from hs) Bool.false_ne_true
  | int i =>
    obtain ⟨t, rfl⟩ := rx
    cases y with
    | non => cases ry; exact PySem.EqNone.ne_int_none (fin_bl I q (by simp))
    | int j => obtain ⟨t', rfl⟩ := ry; exact ne_int (fin_bl I q (congrArg not dec_int))
    | str j => obtain ⟨t', rfl⟩ := ry; exact PySem.EqMixed.ne_int_str (fin_bl I q (by simp))
    | _ => exact absurd (show false = true from hs) Bool.false_ne_true
  | str i =>
    obtain ⟨t, rfl⟩ := rx
    cases y with
    | non => cases ry; exact PySem.EqNone.ne_str_none (fin_bl I q (by simp))
    | bl j => cases ry; exact PySem.EqMixed.ne_str_bool (fin_bl I q (by simp))
    | int j => obtain ⟨t', rfl⟩ := ry; exact PySem.EqMixed.ne_str_int (fin_bl I q (by simp))
    | str j => obtain ⟨t', rfl⟩ := ry; exact ne_str (fin_bl I q (congrArg not dec_str))
    | _ => exact absurd (show false = true from hs) Bool.false_ne_true
  | byt i =>
    obtain ⟨t, rfl⟩ := rx
    cases y with
    | byt j => obtain ⟨t', rfl⟩ := ry; exact PySem.W.ne_bytes (fin_bl I q (congrArg not dec_byt))
    | _ => exact absurd (show false = true from hs) Bool.false_ne_true
  | _ => cases y <;> exact absurd (show false = true from hs) Bool.false_ne_true

theorem op_lt : OpR X (compareOp .Lt) (rI0 fun i j => .bl (decide (i < j))) := opB0 fun _ _ _ _ _ _ _ q => lt_int q
theorem op_le : OpR X (compareOp .LtE) (rI0 fun i j => .bl (decide (i ≤ j))) := opB0 fun _ _ _ _ _ _ _ q => le_int q
theorem op_gt : OpR X (compareOp .Gt) (rI0 fun i j => .bl (decide (j < i))) := opB0 fun _ _ _ _ _ _ _ q => gt_int q
theorem op_ge : OpR X (compareOp .GtE) (rI0 fun i j => .bl (decide (j ≤ i))) := opB0 fun _ _ _ _ _ _ _ q => ge_int q
/-- the one string within the other -/
theorem op_in_str : OpR X (compareOp .In) (fun x y H Q => ∃ i j, x = .str i ∧ y = .str j ∧ Q (.bl (!(Builtin.Str.occurrences j i 0 j.length 1).isEmpty)) H) := by
  intro pins s σ H x y v u Q I rx ry h
  obtain ⟨i, j, rfl, rfl, q⟩ := h
  obtain ⟨t, rfl⟩ := rx
  obtain ⟨t', rfl⟩ := ry
  exact in_str (fin_bl I q rfl)


/-- is, is not of two objects that are tracked lists or instances -/
def isObj : HO → Bool
  | .lst _ => true
  | .ins _ _ _ => true
  | _ => false


theorem nomark (b : Expr) {op : CmpOp} (h : op ≠ .In := by decide) (h2 : op ≠ .NotIn := by decide) : behindInMarks op b = false := by
  have e1 : (op == CmpOp.In) = false := by cases op <;> first | rfl | exact absurd rfl h
  have e2 : (op == CmpOp.NotIn) = false := by cases op <;> first | rfl | exact absurd rfl h2
  cases b <;> simp [behindInMarks, e1, e2]
/-- a comparison as a value; hm: nomark b, or (for in, not in) by with_unfolding_all rfl -/
theorem pe_cmpR {op : CmpOp} {r : R2} (ho : OpR X (compareOp op) r) (ha : PE X a ta) (hb : PE X b tb) (hm : behindInMarks op b = false) : PE X (.Compare a [op] [b] pos) (tOp r ta tb) := by
  intro pins s σ H Q I h
  exact wpAny_Compare1 (binT ha hb I h fun v u s2 x y H2 I2 rx ry q => ho pins s2 σ H2 x y v u Q I2 rx ry q) hm
/-- a reading of a value as a test -/
def tTest (t : TE) : TT := fun σ H Q => t σ H fun x H' => ∃ k, x = .bl k ∧ Q k H'
theorem pt_cmpR {op : CmpOp} {r : R2} (ho : OpR X (compareOp op) r) (ha : PE X a ta) (hb : PE X b tb) (hm : behindInMarks op b = false) : PT X (.Compare a [op] [b] pos) (tTest (tOp r ta tb)) := by
  intro pins s σ H Q I h
  refine wpAny_isTrue_Compare1 (thn (ha pins s σ H _ I h) fun v s1 ⟨x, H1, I1, r1, q1⟩ => thn (hb pins s1 σ H1 _ I1 q1) fun u s2 ⟨y, H2, I2, r2, q2⟩ =>
    thn (ho pins s2 σ H2 x y v u _ I2 r1 r2 q2) fun c s3 ⟨z, H3, I3, r3, k, e, q3⟩ => ?_) hm
  subst e
  cases r3
  exact wpAny_truthy_bool ⟨H3, I3, q3⟩
/-- a op1 b op2 c -/
def tChain (r r' : R2) (ta tb tc : TE) : TE := fun σ H Q => ta σ H fun x H1 => tb σ H1 fun y H2 => r x y H2 fun z H3 => ∃ k, z = .bl k ∧
  (if k = true then tc σ H3 fun w' H4 => r' y w' H4 Q else Q (.bl false) H3)
theorem pe_chain {op op' : CmpOp} {r r' : R2} (ho : OpR X (compareOp op) r) (ho' : OpR X (compareOp op') r') (ha : PE X a ta) (hb : PE X b tb) (hc : PE X c tc)
    (hm : lastMarks [op, op'] [b, c] = false := by with_unfolding_all rfl) : PE X (.Compare a [op, op'] [b, c] pos) (tChain r r' ta tb tc) := by
  intro pins s σ H Q I h
  refine Compare_chain (thn (ha pins s σ H _ I h) fun v s1 ⟨x, H1, I1, r1, q1⟩ => chain_link (thn (hb pins s1 σ H1 _ I1 q1) fun u s2 ⟨y, H2, I2, r2, q2⟩ =>
    thn (ho pins s2 σ H2 x y v u _ I2 r1 r2 q2) fun d s3 ⟨z, H3, I3, r3, k, e, q3⟩ => ?_)) hm
  subst e
  cases r3
  refine wpAny_truthy_bool ?_
  cases k with
  | false => exact ite_ff ⟨.bl false, H3, I3, rfl, q3⟩
  | true => exact ite_tt (chain_last (thn (hc pins s3 σ H3 _ I3 q3) fun w' s4 ⟨z', H4, I4, r4, q4⟩ => ho' pins s4 σ H4 y z' u w' Q I4 r2 r4 q4))
theorem pt_chain {op op' : CmpOp} {r r' : R2} (ho : OpR X (compareOp op) r) (ho' : OpR X (compareOp op') r') (ha : PE X a ta) (hb : PE X b tb) (hc : PE X c tc)
    (hm : lastMarks [op, op'] [b, c] = false := by with_unfolding_all rfl) : PT X (.Compare a [op, op'] [b, c] pos) (tTest (tChain r r' ta tb tc)) := by
  intro pins s σ H Q I h
  refine isTrue_chain (thn (ha pins s σ H _ I h) fun v s1 ⟨x, H1, I1, r1, q1⟩ => test_link (thn (hb pins s1 σ H1 _ I1 q1) fun u s2 ⟨y, H2, I2, r2, q2⟩ =>
    thn (ho pins s2 σ H2 x y v u _ I2 r1 r2 q2) fun d s3 ⟨z, H3, I3, r3, k, e, q3⟩ => ?_)) hm
  subst e
  cases r3
  refine wpAny_truthy_bool ?_
  cases k with
  | false =>
    obtain ⟨k', e', q'⟩ := q3
    cases e'
    exact ite_ff ⟨H3, I3, q'⟩
  | true =>
    refine ite_tt (test_last (thn (hc pins s3 σ H3 _ I3 q3) fun w' s4 ⟨z', H4, I4, r4, q4⟩ => thn (ho' pins s4 σ H4 y z' u w' _ I4 r2 r4 q4) fun d' s5 ⟨z2, H5, I5, r5, k2, e2, q5⟩ => ?_))
    subst e2
    cases r5
    exact wpAny_truthy_bool ⟨H5, I5, q5⟩

/-! ### truth -/
theorem line63 : (sizeLine : Nat) < 2 ^ 63 := by rw [sizeLine_eq]; decide

/-! ### strs and bytes -/
theorem op_add_str : OpR X (binaryOp .Add) (fun x y H Q => ∃ i j, x = .str i ∧ y = .str j ∧ i.length + j.length ≤ sizeLine ∧ Q (.str (i ++ j)) H) := by
  intro pins s σ H x y v u Q I rx ry h
  obtain ⟨i, j, rfl, rfl, hz, q⟩ := h
  obtain ⟨t, rfl⟩ := rx
  obtain ⟨t', rfl⟩ := ry
  exact add_str (fun t' tk => ⟨.str (i ++ j), H, I.tok _, ⟨_, rfl⟩, q⟩) hz

def PlainIxT (b : Expr) : Prop := ∀ o i, subscripted b false o i = operate [o, i] (getItem o i)
/-- s[i], 0 ≤ i < len -/
theorem pe_item_str (ha : PE X a ta) (hb : PE X b tb) (hs : PlainIxT b) :
    PE X (.Subscript a b pos) (tOp (fun x y H Q => ∃ z i c, x = .str z ∧ y = .int i ∧ 0 ≤ i ∧ i < 2 ^ 63 ∧ i < z.length ∧ z.cps[i.toNat]? = some c ∧ Q (.str ⟨#[c]⟩) H) ta tb) := by
  intro pins s σ H Q I h
  refine Subscript_ (binT ha hb I h fun v u s2 x y H2 I2 rx ry q => ?_)
  obtain ⟨z, i, c, rfl, rfl, h0, h63, h1, hc, q⟩ := q
  obtain ⟨t, rfl⟩ := rx
  obtain ⟨t', rfl⟩ := ry
  have e : seqIndex? i z.length = some i.toNat := PySem.StrLaws.seqIndex_nonneg h0 h1
  exact tail_any (typeIs_str s2 z t) slot_str_getitem.lookup (getItem_str (c := c) (by
    have e1 : decide (i < -(2 ^ 63 : Int)) = false := decide_eq_false (by omega)
    have e2 : decide (i ≥ 2 ^ 63) = false := decide_eq_false (by omega)
    rw [e1, e2] <;> rfl) (by rw [e]; exact hc) ⟨.str ⟨#[c]⟩, H2, I2.tok _, ⟨_, rfl⟩, q⟩) (hs _ _)

/-! ### scalar builtins, by CallR -/
theorem vals1 {x : V} {us : List Value} (r : Vals [x] us) : ∃ u, us = [u] ∧ RelV x u := by
  cases r with
  | cons r1 r2 => cases r2; exact ⟨_, rfl, r1⟩
theorem call_abs : CallR X (.builtin "abs") (fun xs H Q => ∃ i, xs = [.int i] ∧ Q (.int (if i < 0 then -i else i)) H) := by
  intro pins s σ H xs us Q I r h
  obtain ⟨i, rfl, q⟩ := h
  obtain ⟨u, rfl, t, rfl⟩ := vals1 r
  exact call_abs_int fun u tk => ⟨.int (if i < 0 then -i else i), H, I.tok _, ⟨_, rfl⟩, q⟩
end
end L2

namespace L2
open PySem PySem.Spec PyProof.Rows

/-! ### an instance, its attributes a map -/
structure ObjM (h : Heap) (x dx C : Addr) (mA : Str → Option Value) : Prop where
  obj : h.get? x = some (PySem.W.instObj C dx)
  ns : h.Ns1 dx mA
  ne : dx ≠ x

theorem lookIn_ns {h : Heap} {dx : Addr} {mA : Str → Option Value} (n : h.Ns1 dx mA) : ∃ od, h.get? dx = some od ∧ ∀ name, PySem.W.lookIn name od = some (mA name) := by
  obtain ⟨o, es, ep, ho, hd, hk, _, hm⟩ := n
  refine ⟨o, ho, fun name => ?_⟩
  have e := hm name
  unfold nsFind findBy at e
  rw [← Array.find?_toList] at e
  unfold PySem.W.lookIn
  rw [hd]
  dsimp only
  split
  · rename_i y q
    rw [q] at e
    exact congrArg some e
  · rename_i q
    rw [q] at e
    have a : es.toList.any (·.refKey) = false := by
      rw [List.any_eq_false]
      intro y hy
      obtain ⟨z, t, hkey⟩ := hk y (Array.mem_toList_iff.mp hy)
      simp [DictEntry.refKey, hkey]
    have a' : ¬ es.toList.any (·.refKey) = true := by rw [a]; exact Bool.false_ne_true
    rw [if_neg a']
    exact congrArg some e

theorem ObjM.look {h : Heap} {x dx C : Addr} {mA : Str → Option Value} (I : ObjM h x dx C mA) : ∃ od, PySem.W.InstAt h x (PySem.W.instObj C dx) C (some od) ∧ ∀ name, PySem.W.lookIn name od = some (mA name) :=
  let ⟨od, ho, hl⟩ := lookIn_ns I.ns
  ⟨od, ⟨I.obj, rfl, rfl, ho⟩, hl⟩

section
variable {prog : Program} {w : World} {A : Around} {E : Value → Shared → Prop} {s : Shared} {K : PySem.W.Frag} {x dx C f : Addr} {mA : Str → Option Value} {name : Str} {v : Value}



theorem get_meth {pl : Sem Bool} {Q : Value × List Value → Shared → Prop} (X : K.In s.heap) (I : ObjM s.heap x dx C mA) (hg : PySem.W.plainGet K C name = true)
    (hf : PySem.W.findIn K (.ref C) name = some (some (.ref f))) (ht : PySem.W.isFn K (.ref f) = true) (hv : mA name = none) (h : Q (.ref f, [.ref x]) s) :
    wpAny (model prog w) A (getMethod (.ref x) name pl) Q E s := by
  obtain ⟨od, J, hl⟩ := I.look
  exact PySem.W.method_fn X J (PySem.W.plainGet_of hg).1 (PySem.W.plainGet_of hg).2 hf (beq_iff_eq.mp ht) (by show (PySem.W.lookIn name od).map (·.isSome) = some false; rw [hl, hv]; rfl) h


/-- C(..): the dict at the heap's end, the instance behind it; then its __init__ -/
theorem make_map {R : Result → Shared → Prop} {vs : List Value} {kw : List (Str × Value)} (X : K.In s.heap) (hm : PySem.W.makesIn K C = true)
    (hi : PySem.W.findIn K (.ref C) "__init__" = some (some (.ref f))) (hf : PySem.W.typeIn K (.ref f) = some (.type "function"))
    (h : codeAny (model prog w) (A.under (.builtin "type.__call__" ⟨.ref C :: vs, kw⟩)) (.call (.ref f) ⟨.ref (s.heap.objs.size + 1) :: vs, kw⟩) (PySem.W.InitBack (s.heap.objs.size + 1) R)
      { s with heap := (s.heap.push PySem.W.emptyDict).push (PySem.W.instObj C s.heap.objs.size) }) :
    codeAny (model prog w) A (.call (.ref C) ⟨vs, kw⟩) R s := by
  obtain ⟨hh, g, d, t, os⟩ := s
  exact PySem.W.make_core (PySem.W.makes_of X hm) (PySem.W.looks_findIn X hi) (fun self => PySem.W.bind_fn X self hf) (.inl rfl) h
end

/-! ### the attributes as a list of pairs -/

theorem RelO.some_of {v : V} {o : Option Value} (r : RelO (some v) o) : ∃ u, o = some u ∧ RelV v u := by
  cases o with
  | none => exact (show False from r).elim
  | some u => exact ⟨u, rfl, r⟩
theorem RelO.none_of {o : Option Value} (r : RelO none o) : o = none := by
  cases o with
  | none => rfl
  | some u => exact (show False from r).elim

section
variable {P : Program} {w : World} {H H' : Hp} {h h' : Heap} {a C dx : Addr} {fs fs' : List (Str × V)}
theorem ins_get (hok : HOk P w H h) (e : H a = some (.ins C dx fs)) : ∃ mA, ObjM h a dx C mA ∧ (∀ f, RelO (fs.lookup f) (mA f)) ∧ PySem.Within mA (fs.map (·.1)) ∧ fs.length ≤ 1000 ∧ H dx = some (.own a) := by
  obtain ⟨d, z, ne, ob, mA, n, r, q⟩ := (show ObjOk P w H h a (.ins C dx fs) from hok a _ e)
  exact ⟨mA, ⟨ob, n, ne⟩, r, q, z, d⟩
end

/-! ### what of the text a class must have -/
structure Cls (K : PySem.W.Frag) (C : Addr) : Prop where
  pg : PySem.W.plainGet K C Str.empty = true
  hd : PySem.W.hasDictIn K C = true
  po : PySem.W.plainOver K C = true
  sa : PySem.W.findIn K (.ref C) "__setattr__" = some (some (.builtin "object.__setattr__"))
theorem Cls.get {K : PySem.W.Frag} {C : Addr} (c : Cls K C) (f : Str) : PySem.W.plainGet K C f = true := c.pg
/-- no class of it has the name -/
def NoAttr (K : PySem.W.Frag) (C : Addr) (f : Str) : Prop := PySem.W.findIn K (.ref C) f = some none
/-- a constant of the class -/
structure Con (K : PySem.W.Frag) (C : Addr) (f : Str) (v : V) (u : Value) : Prop where
  at_ : PySem.W.findIn K (.ref C) f = some (some u)
  rel : RelV v u
  get : PySem.W.specialIn K u "__get__" = some none
  cp : PySem.W.copiedNames.contains f = false
/-- a method: a plain def of the class or of one above it -/
structure Meth (K : PySem.W.Frag) (C : Addr) (m : Str) (f : Addr) : Prop where
  at_ : PySem.W.findIn K (.ref C) m = some (some (.ref f))
  fn : PySem.W.isFn K (.ref f) = true
  kp : PySem.W.keepIn K (.ref f) = true

section
variable {X : Cx} {pins : List (Addr × Obj)} {σ : St} {H : Hp} {s : Shared} {a C dx : Addr} {fs : List (Str × V)} {f : Str} {v : V} {A : Around} {E : Value → Shared → Prop}



theorem getmeth_ok {m : Str} {g : Addr} {pl : Sem Bool} {Q : Value × List Value → Shared → Prop} (I : Inv X pins σ H s) (e : H a = some (.ins C dx fs)) (c : Cls X.K C) (k : Meth X.K C m g) (l : fs.lookup m = none)
    (h : Q (.ref g, [.ref a]) s) : wpAny (model X.prog X.w) A (getMethod (.ref a) m pl) Q E s := by
  obtain ⟨mA, O, r, _, _, _⟩ := ins_get I.hok e
  have hn : mA m = none := RelO.none_of (by rw [← l]; exact r m)
  exact get_meth I.kIn O (c.get m) k.at_ k.fn hn h


/-- a new instance, tracked, without attributes -/
theorem Inv.made (I : Inv X pins σ H s) : Inv X pins σ (upd (upd H s.heap.objs.size (.own (s.heap.objs.size + 1))) (s.heap.objs.size + 1) (.ins C s.heap.objs.size []))
    { s with heap := (s.heap.push PySem.W.emptyDict).push (PySem.W.instObj C s.heap.objs.size) } := by
  have e1 : (s.heap.push PySem.W.emptyDict).get? s.heap.objs.size = some PySem.W.emptyDict := Heap.get?_push_size s.heap rfl
  have e2 : ((s.heap.push PySem.W.emptyDict).push (PySem.W.instObj C s.heap.objs.size)).get? (s.heap.objs.size + 1) = some (PySem.W.instObj C s.heap.objs.size) := by
    have := Heap.get?_push_size (s.heap.push PySem.W.emptyDict) (o := PySem.W.instObj C s.heap.objs.size) rfl
    rwa [Heap.size_push] at this
  have e3 : (s.heap.push PySem.W.emptyDict).Ns s.heap.objs.size (fun _ => none) := ⟨PySem.W.emptyDict, #[], _, e1, rfl, (fun e he => absurd he (by simp)), fun _ => rfl⟩
  have I1 := I.laid (a := s.heap.objs.size) (o := .own (s.heap.objs.size + 1)) (h' := s.heap.push PySem.W.emptyDict) (t' := s.toks) (fun b u q => Heap.get?_push_of_some _ q) (Nat.le_refl _) ⟨_, e1⟩
  refine I1.laid (a := s.heap.objs.size + 1) (o := .ins C s.heap.objs.size []) (t' := s.toks) (fun b u q => Heap.get?_push_of_some _ q) (Nat.le_of_eq (Heap.size_push _ _)) ?_
  have ne : s.heap.objs.size ≠ s.heap.objs.size + 1 := Nat.ne_of_lt (Nat.lt_succ_self _)
  refine ⟨by rw [upd_ne ne, upd_same], Nat.zero_le _, ne, e2, fun _ => none, (Heap.Ns1.of_empty e3).at fun o q => Heap.get?_push_of_some _ q, fun _ => True.intro, fun y hy => absurd rfl hy⟩

end

/-! ### readings and rules -/
/-- e.f, an attribute of the instance -/
def tFld (K : PySem.W.Frag) (ta : TE) (f : Str) : TE := fun σ H Q => ta σ H fun x H1 => ∃ a C dx fs v, x = .ref a ∧ H1 a = some (.ins C dx fs) ∧ Cls K C ∧ NoAttr K C f ∧ fs.lookup f = some v ∧ Q v H1

section
variable {X : Cx} {o e value : Expr} {f : Str} {pos pos' tpos : Pos} {ta tv : TE}

/-- what is between an instance and its method: the tree of a method call -/
theorem methcall_of {pl : Sem Bool} {m : Str} {apos : Pos} {args : List Expr} {pins : List (Addr × Obj)} {s : Shared} {σ : St} {H : Hp} {Q : Value → Shared → Prop} {te : TE} (he : PE X e te) (I : Inv X pins σ H s)
    (h : te σ H fun x H1 => ∃ a C dx fs g, x = .ref a ∧ H1 a = some (.ins C dx fs) ∧ Cls X.K C ∧ Meth X.K C m g ∧ fs.lookup m = none ∧
      ∀ s1, Inv X pins σ H1 s1 → wpAny (model X.prog X.w) X.A (callWith pos (.ref g) [.ref a] (backTo pos (starEach args X.env)) (backToKw pos (keywordEach [] X.env))) Q X.xe s1)
    (ht : eval (.Call (.Attribute e m apos) args [] pos) X.env = (do
      let ov ← eval e X.env
      standAt apos.atName
      let (f, first) ← holding [ov] (getMethod ov m pl)
      callWith pos f first (backTo pos (starEach args X.env)) (backToKw pos (keywordEach [] X.env)))) :
    wpAny (model X.prog X.w) X.A (eval (.Call (.Attribute e m apos) args [] pos) X.env) Q X.xe s := by
  refine PySem.W.methodCall_KW (pl := pl) (thn (he pins s σ H _ I h) fun u s1 ⟨x, H1, I1, rx, a, C, dx, fs, g, ex, ea, c, k, l, q⟩ => ?_) ht
  subst ex
  obtain rfl : u = Value.ref a := rx
  exact getmeth_ok I1 ea c k l (q s1 I1)
end

/-! ### isinstance -/
section
variable {X : Cx} {pins : List (Addr × Obj)} {σ : St} {H : Hp} {s : Shared} {A : Around} {E : Value → Shared → Prop} {Q : Value → Shared → Prop} {c : Value} {b : Bool}
/-- the type of a value, as the fragment's deciders take it; for an instance its class -/
inductive TyOf (K : PySem.W.Frag) (H : Hp) : V → Value → Prop where
  | non : TyOf K H .non (.type "NoneType")
  | bl (x : Bool) : TyOf K H (.bl x) (.type "bool")
  | int (i : Int) : TyOf K H (.int i) (.type "int")
  | str (x : Str) : TyOf K H (.str x) (.type "str")
  | flt (x : UInt64) : TyOf K H (.flt x) (.type "float")
  | lst {a : Addr} {xs : List V} (e : H a = some (.lst xs)) : TyOf K H (.ref a) (.type "list")
  | frz {a : Addr} {o : Obj} {xs : List V} (e : H a = some (.frz o (.lst xs))) : TyOf K H (.ref a) (.type "list")
  | tup {a : Addr} {xs : List V} (e : H a = some (.tup xs)) : TyOf K H (.ref a) (.type "tuple")
  | dK {a : Addr} {kvs : List (Key × V)} (e : H a = some (.dK kvs)) : TyOf K H (.ref a) (.type "dict")
  | dT {a : Addr} {kvs : List (List Key × V)} (e : H a = some (.dT kvs)) : TyOf K H (.ref a) (.type "dict")
  | ins {a C dx : Addr} {fs : List (Str × V)} (e : H a = some (.ins C dx fs)) (cl : Cls K C) (ha : PySem.W.findIn K (.ref C) "__class__" = some (some (.builtin "object.__class__")))
      (hn : PySem.W.specialIn K (.builtin "object.__class__") "__get__" = some (some (.builtin "getset_descriptor.__get__"))) (htk : PySem.W.takesIn K (.builtin "object.__class__") = some true)
      (hm : PySem.W.mroIn K C (.type "object") = some true) : TyOf K H (.ref a) (.ref C)
/-- isinstance(x, c) for one class c, a built-in or an own one: kitOne's answer -/
theorem isinst_ok {x : V} {u t : Value} (I : Inv X pins σ H s) (rx : RelV x u) (ty : TyOf X.K H x t) (e : PySem.W.kitOne X.K t c = some b) (h : ∀ tk, Q (.bool b) { s with toks := tk }) :
    wpAny (model X.prog X.w) A (call (.builtin "isinstance") [u, c]) Q E s := by
  cases ty with
  | non => cases (show u = Value.none from rx); exact PySem.W.kia_one PySem.W.kitx_none I.kIn True.intro e (fun z => nomatch z) h
  | bl y => cases (show u = Value.bool y from rx); exact PySem.W.kia_one PySem.W.kitx_bool I.kIn True.intro e (fun z => nomatch z) h
  | int i => obtain ⟨t, q⟩ := (show ∃ t, u = Value.int i t from rx); cases q; exact PySem.W.kia_one PySem.W.kitx_int I.kIn True.intro e (fun z => nomatch z) h
  | str y => obtain ⟨t, q⟩ := (show ∃ t, u = Value.str y t from rx); cases q; exact PySem.W.kia_one PySem.W.kitx_str I.kIn True.intro e (fun z => nomatch z) h
  | flt y => obtain ⟨t, q⟩ := (show ∃ t, u = Value.float y t from rx); cases q; exact PySem.W.kia_one PySem.W.kitx_float I.kIn True.intro e (fun z => nomatch z) h
  | @lst a xs ea =>
    cases (show u = Value.ref a from rx)
    obtain ⟨_, _, n, _, h1⟩ := (show ObjOk X.prog X.w H s.heap a (.lst xs) from I.hok a _ ea)
    exact PySem.W.kia_one PySem.W.kitx_list I.kIn ⟨_, h1, rfl⟩ e (fun z => nomatch z) h
  | @frz a ob xs ea =>
    cases (show u = Value.ref a from rx)
    obtain ⟨_, _, _, n, _, h1⟩ := (show ObjOk X.prog X.w H s.heap a (.frz ob (.lst xs)) from I.hok a _ ea)
    exact PySem.W.kia_one PySem.W.kitx_list I.kIn ⟨_, h1, rfl⟩ e (fun z => nomatch z) h
  | @tup a xs ea =>
    cases (show u = Value.ref a from rx)
    obtain ⟨_, _, _, p⟩ := (show ObjOk X.prog X.w H s.heap a (.tup xs) from I.hok a _ ea)
    obtain ⟨o, h1, h2, _⟩ := p
    exact PySem.W.kia_one PySem.W.kitx_tuple I.kIn ⟨o, h1, h2⟩ e (fun z => nomatch z) h
  | @dK a kvs ea =>
    cases (show u = Value.ref a from rx)
    obtain ⟨_, _, vs, _, p⟩ := (show ObjOk X.prog X.w H s.heap a (.dK kvs) from I.hok a _ ea)
    obtain ⟨o, es, ep, h1, h2, _⟩ := p
    exact PySem.W.kia_one PySem.W.kitx_dict I.kIn ⟨o, h1, h2.1⟩ e (fun z => nomatch z) h
  | @dT a kvs ea =>
    cases (show u = Value.ref a from rx)
    obtain ⟨_, _, xs, _, o, es, ep, h1, h2, _⟩ := (show ObjOk X.prog X.w H s.heap a (.dT kvs) from I.hok a _ ea)
    exact PySem.W.kia_one PySem.W.kitx_dict I.kIn ⟨o, h1, h2.1⟩ e (fun z => nomatch z) h
  | @ins a C dx fs ea cl ha hn htk hm =>
    cases (show u = Value.ref a from rx)
    obtain ⟨mA, O, _⟩ := ins_get I.hok ea
    obtain ⟨od, J, _⟩ := O.look
    exact PySem.W.kia_one (PySem.W.kitx_own (cl.get _) cl.hd ha hn htk hm) I.kIn J e (fun z => nomatch z) h
end
end L2

namespace L2
open PySem PySem.Spec PyProof.Rows

/-! ### room -/
structure Room (k : Nat) (A : Around) : Prop where
  hd : A.handled = none
  dp : A.depth + 3 * k + 5 < recursionLimit
  un : A.units + 16 * k + 200 < cLine
theorem Room.mono {j k : Nat} {A : Around} (r : Room k A) (h : j ≤ k) : Room j A := ⟨r.hd, by have := r.dp; omega, by have := r.un; omega⟩
theorem Room.deeper {k : Nat} {A : Around} (r : Room (k + 1) A) (env : Env) : Room k (A.deeper env) :=
  ⟨r.hd, by have := r.dp; show A.depth + 1 + 3 * k + 5 < _; omega, by have := r.un; show A.units + 3 + 16 * k + 200 < _; omega⟩
theorem Room.depth {k : Nat} {A : Around} (r : Room k A) : A.depth < recursionLimit := by have := r.dp; omega
theorem Room.units {k : Nat} {A : Around} (r : Room k A) : A.units + 64 < cLine := by have := r.un; omega

/-! ### argument lists and displays -/
def tNil : TA := fun _ H Q => Q [] H
def tCons (ta : TE) (tr : TA) : TA := fun σ H Q => ta σ H fun x H1 => tr σ H1 fun xs H2 => Q (x :: xs) H2
section
variable {X : Cx} {e : Expr} {es : List Expr} {te : TE} {t : TA} {pos : Pos}
theorem pa_nil : PA X [] tNil := fun _ _ _ _ H Q I h => Calls.spliced_nil ⟨[], H, I, .nil, h⟩
theorem pa_cons (ha : PE X e te) (hr : PA X es t) (hs : starEach (e :: es) X.env = (false, eval e X.env) :: starEach es X.env := by rfl) : PA X (e :: es) (tCons te t) := by
  intro pos pins s σ H Q I h
  rw [hs]
  show wpAny _ _ (spliced ((false, eval e X.env) :: backTo pos (starEach es X.env))) _ _ s
  refine Calls.spliced_cons (thn (ha pins s σ H _ I h) fun u s1 ⟨x, H1, I1, r1, q1⟩ => ?_)
  exact thn (hr pos pins s1 σ H1 _ I1 q1) fun us s2 ⟨xs, H2, I2, r2, q2⟩ => ⟨x :: xs, H2, I2, .cons r1 r2, q2⟩

/-- a tuple, a list of written items -/
def tTup (t : TA) : TE := fun σ H Q => t σ H fun xs H1 => xs.length ≤ sizeLine ∧ ∀ p, H1 p = none → Q (.ref p) (upd H1 p (.tup xs))
def tLst (t : TA) : TE := fun σ H Q => t σ H fun xs H1 => xs.length ≤ sizeLine ∧ ∀ p, H1 p = none → Q (.ref p) (upd H1 p (.lst xs))
theorem pe_tup {x1} (h : PA X es t) : PE X (.Tuple es x1 pos) (tTup t) := by
  intro pins s σ H Q I hq
  refine wpAny_Tuple_spliced (thn (h pos pins s σ H _ I hq) fun us s1 ⟨xs, H1, I1, r, z, q⟩ => ⟨by rw [← r.length]; exact z, ?_⟩)
  have hf : H1 s1.heap.objs.size = none := I1.hok.fresh (Nat.le_refl _)
  refine ⟨.ref s1.heap.objs.size, upd H1 s1.heap.objs.size (.tup xs), I1.laid (t' := s1.toks) (fun b u e => Heap.get?_push_of_some _ e) (Nat.le_refl _) ?_, rfl, q _ hf⟩
  exact ⟨z, us, r, ⟨_, Heap.get?_push_size _ rfl, rfl, _, rfl⟩⟩
theorem pe_lst (h : PA X es t) : PE X (.List es pos) (tLst t) := by
  intro pins s σ H Q I hq
  refine wpAny_List_spliced (thn (h pos pins s σ H _ I hq) fun us s1 ⟨xs, H1, I1, r, z, q⟩ => ⟨by rw [← r.length]; exact z, ?_⟩)
  have hf : H1 s1.heap.objs.size = none := I1.hok.fresh (Nat.le_refl _)
  refine ⟨.ref s1.heap.objs.size, upd H1 s1.heap.objs.size (.lst xs), I1.laid (t' := s1.toks) (fun b u e => Heap.get?_push_of_some _ e) (Nat.le_refl _) ?_, rfl, q _ hf⟩
  exact ⟨z, us, 0, r, Heap.get?_push_size _ rfl⟩
end

/-! ### what a def promises -/
/-- a def's promise: the bound arguments in the parameters' order, the heap, the wanted end, the wanted exception -/
abbrev Sp := List V → Hp → VK → XK → Prop
/-- how an exception lies behind a call (file 08 gives it): the callers' frames, abstract heap and state ahead of the call, the wish, the exception, the state -/
abbrev CXT := List Env → Hp → Shared → XK → Value → Shared → Prop

/-- the state at a call -/
structure Env0 (P : Program) (w : World) (K : PySem.W.Frag) (mg : Str → Option Value) (base : Heap) (A : Around) (outer : List Env) (s : Shared) (H : Hp) : Prop where
  frames : A.frames = some outer
  mod : Mod K mg base
  bs : ∀ b o, base.get? b = some o → s.heap.get? b = some o ∧ H b = none
  bsz : base.objs.size ≤ s.heap.objs.size
  funs : s.heap.FunFrames base outer
  frf : ∀ b ∈ frs outer, H b = none
  hok : HOk P w H s.heap
  bare : AllBare s.gens
/-- a call's end -/
def CE (outer : List Env) (P : Program) (w : World) (H : Hp) (s : Shared) (Q : VK) (u : Value) (s' : Shared) : Prop :=
  ∃ v H', s'.os = s.os ∧ AllBare s'.gens ∧ Un (frs outer) [] H H' s.heap s'.heap ∧ HOk P w H' s'.heap ∧ RelV v u ∧ Q v H'
def CR (CX : CXT) (outer : List Env) (P : Program) (w : World) (H : Hp) (s : Shared) (Q : VK) (E : XK) (r : Result) (s' : Shared) : Prop :=
  match r with
  | .ok (.ret u) => CE outer P w H s Q u s'
  | .ok _ => False
  | .error e => CX outer H s E e s'
structure FnOk (P : Program) (w : World) (K : PySem.W.Frag) (mg : Str → Option Value) (base : Heap) (CX : CXT) (k : Nat) (f : Addr) (fd : FuncData) (ps : List Str) (sp : Sp) : Prop where
  len : ∀ vs H Q E, sp vs H Q E → vs.length = ps.length
  run : ∀ (A : Around) (outer : List Env) (s : Shared) (H : Hp) (args : Args) (us : List Value) (vs : List V) (Q : VK) (E : XK), Room k A → Env0 P w K mg base A outer s H → BindsTo s fd args (ps.zip us) → Vals vs us → sp vs H Q E →
    codeAny (model P w) A (.call (.ref f) args) (CR CX outer P w H s Q E) s


section
variable {X : Cx} {pins : List (Addr × Obj)} {σ : St} {H : Hp} {s s' : Shared}
/-- from a body: what a callee wants -/
theorem Inv.env0 (I : Inv X pins σ H s) : Env0 X.prog X.w X.K X.mg X.base X.A X.stack s H :=
  ⟨I.ok.frames, I.ok.mod, I.bs, Nat.le_trans I.ok.bsz I.sz, I.stack, I.stkFree, I.hok, I.bare⟩
/-- behind a call -/
theorem Inv.after {Q : VK} {u : Value} (I : Inv X pins σ H s) (h : CE X.stack X.prog X.w H s Q u s') : EP X pins σ Q u s' := by
  obtain ⟨v, H', os, bare, un, hok, r, q⟩ := h
  obtain ⟨hh, g, d, t, os'⟩ := s'
  obtain rfl : os' = s.os := os
  exact ⟨v, H', I.call (h' := hh) (g' := g) (d' := d) (t' := t) (ch := []) un hok bare (fun b z => absurd z (by simp)), r, q⟩
end

/-! ### calls -/
/-- f(..): the written arguments, then the defaults dvs; E: what is wanted of an exception -/
def tCall (sp : Sp) (dvs : List V) (E : XK) (t : TA) : TE := fun σ H Q => t σ H fun vs H1 => sp (vs ++ dvs) H1 Q E
/-- o.m(..) of an instance of the class at C -/
def tMeth (C : Addr) (m : Str) (sp : Sp) (dvs : List V) (E : XK) (ta : TE) (t : TA) : TE := fun σ H Q => ta σ H fun x H1 => ∃ a dx fs, x = .ref a ∧ H1 a = some (.ins C dx fs) ∧ fs.lookup m = none ∧
  t σ H1 fun vs H2 => sp (x :: (vs ++ dvs)) H2 Q E
/-- C(..): a new instance and its dict, then __init__ -/
def tMake (C : Addr) (sp : Sp) (dvs : List V) (E : XK) (t : TA) : TE := fun σ H Q => t σ H fun vs H1 => ∀ x dx, H1 x = none → H1 dx = none → dx ≠ x →
  sp (.ref x :: (vs ++ dvs)) (upd (upd H1 dx (.own x)) x (.ins C dx [])) (fun v H2 => v = .non ∧ Q (.ref x) H2) E

/-- how the parameters are bound: us the positional arguments, kw the keywords' values by name, ds the defaults that fill up -/
def Binds (K : PySem.W.Frag) (fd : FuncData) (ps : List Str) (ds : List Value) : Prop :=
  ∀ (s : Shared) (us : List Value), K.In s.heap → (us ++ ds).length = ps.length → BindsTo s fd ⟨us, []⟩ (ps.zip (us ++ ds))
/-- every parameter is given -/
theorem Binds.all {K : PySem.W.Frag} {fd : FuncData} {ps : List Str} (h : ∀ us : List Value, us.length = ps.length → bindArgs fd ⟨us, []⟩ = pure (ps.zip us)) : Binds K fd ps [] := fun s us _ hl => by
  rw [List.append_nil] at hl ⊢
  exact .of_eq (h us hl)

/-- an exception of a callee reaches what this body wants of exceptions -/
def Passes (CX : CXT) (X : Cx) (E : XK) : Prop := ∀ (pins : List (Addr × Obj)) (σ : St) (H : Hp) (s : Shared) (e : Value) (s' : Shared), Inv X pins σ H s → CX X.stack H s E e s' → X.xe e s'

section
variable {X : Cx} {CX : CXT} {k : Nat} {f C : Addr} {fd : FuncData} {ps : List Str} {sp : Sp} {dvs : List V} {ds : List Value} {E : XK} {x m : Str} {p pos apos : Pos} {e o : Expr} {es : List Expr} {ta : TE} {t : TA}

/-- the callee runs -/
theorem run_fn {pins : List (Addr × Obj)} {σ : St} {H : Hp} {s : Shared} {Q : VK} {us : List Value} {vs : List V} (F : FnOk X.prog X.w X.K X.mg X.base CX k f fd ps sp) (hr : Room k X.A) (hb : Binds X.K fd ps ds) (hd : Vals dvs ds) (hx : Passes CX X E)
    (I : Inv X pins σ H s) (r : Vals vs us) (h : sp (vs ++ dvs) H Q E) : wpAny (model X.prog X.w) X.A (call (.ref f) us) (EP X pins σ Q) X.xe s := by
  have r2 : Vals (vs ++ dvs) (us ++ ds) := r.append hd
  have hl : (us ++ ds).length = ps.length := by rw [← r2.length]; exact F.len _ _ _ _ h
  refine wpAny_call (codeAny_mono (F.run X.A X.stack s H ⟨us, []⟩ (us ++ ds) (vs ++ dvs) Q E hr I.env0 (hb s us I.kIn hl) r2 h) fun r s' hq => ?_)
  cases r with
  | error e => exact hx pins σ H s e s' I hq
  | ok fl =>
    cases fl with
    | ret u => exact I.after hq
    | next => exact False.elim hq
    | brk => exact False.elim hq
    | cont => exact False.elim hq

theorem pe_call (F : FnOk X.prog X.w X.K X.mg X.base CX k f fd ps sp) (hr : Room k X.A) (hg : Gl X x) (hm : X.mg x = some (.ref f)) (hk : PySem.W.keepIn X.K (.ref f) = true) (hb : Binds X.K fd ps ds) (hd : Vals dvs ds) (hx : Passes CX X E)
    (ha : PA X (e :: es) t) (hdb : (x == ("__debug__" : Str)) = false := by decide) (he : starEach (e :: es) X.env = (false, eval e X.env) :: starEach es X.env := by rfl) (hpl : (backTo pos (starEach es X.env)).any (·.1) = false := by rfl) :
    PE X (.Call (.Name x p) (e :: es) [] pos) (tCall sp dvs E t) := by
  intro pins s σ H Q I h
  refine wpAny_Call_Name_kw (ld_glob I hg hm ?_ hdb)
  refine PySem.W.callWith_K (h₀ := X.base) I.ok.mod.kin hk (thn (ha pos pins s σ H _ I h) fun us s1 ⟨vs, H1, I1, r, q⟩ => ⟨I1.kIn, ?_⟩) he hpl
  exact run_fn F hr hb hd hx I1 r q


/-- what a class must have to be made -/
structure Mk (K : PySem.W.Frag) (C f : Addr) : Prop where
  makes : PySem.W.makesIn K C = true
  init : PySem.W.findIn K (.ref C) "__init__" = some (some (.ref f))
  fn : PySem.W.isFn K (.ref f) = true
  kp : PySem.W.keepIn K (.ref C) = true

end

/-! ### keywords -/
section
variable {X : Cx} {CX : CXT} {k : Nat} {f C : Addr} {fd : FuncData} {ps ks : List Str} {sp : Sp} {E : XK} {x m : Str} {p pos apos kpos : Pos} {e o : Expr} {es : List Expr} {kws : List Keyword} {te ta : TE} {t tk : TA} {nm : Option Str}

/-- how a call with keywords binds: g puts the positional values us and the keywords' values ws (names ks) in the parameters' order, defaults among them -/
structure KBinds (K : PySem.W.Frag) (fd : FuncData) (ps ks : List Str) (g : List Value → List Value → List Value) (gV : List V → List V → List V) : Prop where
  to : ∀ (s : Shared) (us ws : List Value), K.In s.heap → (g us ws).length = ps.length → BindsTo s fd ⟨us, ks.zip ws⟩ (ps.zip (g us ws))
  rel : ∀ {vs : List V} {us : List Value} {zs : List V} {ws : List Value}, Vals vs us → Vals zs ws → Vals (gV vs zs) (g us ws)
variable {g : List Value → List Value → List Value} {gV : List V → List V → List V}
end

/-! ### a def's body keeps its promise -/
/-- names: the parameters first -/
structure FnScope (N P : List Str) (sc : Scope) : Prop where
  kind : sc.kind = .function
  co : sc.isCoroutine = false
  gen : sc.isGenerator = false
  nd : N.Nodup
  pre : N.take P.length = P
  par : ∀ x ∈ P, sc.names.lookup x = some .local ∨ sc.names.lookup x = some .cell
  nofree : ∀ y ∈ sc.names, y.2 ≠ .free

theorem bindL_out {kindOf : Str → Option NameKind} {x : Str} : ∀ {binds : List (Str × Value)} {m : Str → Option Value}, (∀ v, (x, v) ∉ binds) → bindL kindOf binds m x = m x
  | [], _, _ => rfl
  | (n, v) :: r, m, h => by
    unfold bindL
    rw [bindL_out fun w hw => h w (List.mem_cons_of_mem _ hw)]
    split
    · have : x ≠ n := by rintro rfl; exact h v List.mem_cons_self
      simp [this]
    · rfl
theorem bindC_out {kindOf : Str → Option NameKind} {x : Str} : ∀ {binds : List (Str × Value)} {m : Str → Option Value}, (∀ v, (x, v) ∉ binds) → bindC kindOf binds m x = m x
  | [], _, _ => rfl
  | (n, v) :: r, m, h => by
    unfold bindC
    rw [bindC_out fun w hw => h w (List.mem_cons_of_mem _ hw)]
    split
    · rfl
    · have : x ≠ n := by rintro rfl; exact h v List.mem_cons_self
      simp [this]
theorem bindL_get {kindOf : Str → Option NameKind} {x : Str} {v : Value} : ∀ {P : List Str} {vs : List Value} {i : Nat} {m : Str → Option Value}, P.Nodup → P[i]? = some x → vs[i]? = some v → kindOf x = some .local →
    bindL kindOf (P.zip vs) m x = some v
  | [], _, _, _, _, h, _, _ => by simp at h
  | _ :: _, [], _, _, _, _, h, _ => by simp at h
  | p :: P, w :: vs, 0, m, nd, h1, h2, hk => by
    simp at h1 h2; subst h1; subst h2
    show bindL kindOf ((p, w) :: P.zip vs) m p = _
    unfold bindL
    rw [bindL_out fun v hv => (List.nodup_cons.mp nd).1 (List.of_mem_zip hv).1, if_pos hk]
    simp
  | p :: P, w :: vs, i + 1, m, nd, h1, h2, hk => by
    show bindL kindOf ((p, w) :: P.zip vs) m x = _
    unfold bindL
    exact bindL_get (i := i) (List.nodup_cons.mp nd).2 (by simpa using h1) (by simpa using h2) hk
theorem bindC_get {kindOf : Str → Option NameKind} {x : Str} {v : Value} : ∀ {P : List Str} {vs : List Value} {i : Nat} {m : Str → Option Value}, P.Nodup → P[i]? = some x → vs[i]? = some v → kindOf x ≠ some .local →
    bindC kindOf (P.zip vs) m x = some v
  | [], _, _, _, _, h, _, _ => by simp at h
  | _ :: _, [], _, _, _, _, h, _ => by simp at h
  | p :: P, w :: vs, 0, m, nd, h1, h2, hk => by
    simp at h1 h2; subst h1; subst h2
    show bindC kindOf ((p, w) :: P.zip vs) m p = _
    unfold bindC
    rw [bindC_out fun v hv => (List.nodup_cons.mp nd).1 (List.of_mem_zip hv).1, if_neg hk]
    simp
  | p :: P, w :: vs, i + 1, m, nd, h1, h2, hk => by
    show bindC kindOf ((p, w) :: P.zip vs) m x = _
    unfold bindC
    exact bindC_get (i := i) (List.nodup_cons.mp nd).2 (by simpa using h1) (by simpa using h2) hk

/-- the names' values at the entry -/
def start (N : List Str) (vs : List V) : St := vs.map some ++ List.replicate (N.length - vs.length) none

/-- the context of a def's body, at its entry; an exception leaves the frame, then lies as CX says -/
def cxOf (CX : CXT) (P : Program) (w : World) (K : PySem.W.Frag) (mg : Str → Option Value) (base : Heap) (N : List Str) (qual : Str) (scope : Scope) (f : Addr) (cd : Value) (A : Around) (outer : List Env) (s : Shared) (H : Hp) (E : XK) : Cx where
  prog := P
  w := w
  K := K
  mg := mg
  base := base
  A := A.deeper (envOfC qual scope s.heap.objs.size f cd)
  N := N
  s₀ := s
  H₀ := H
  env := envOfC qual scope s.heap.objs.size f cd
  outer := outer
  stack := envOfC qual scope s.heap.objs.size f cd :: outer
  ex := []
  calm := true
  fn := fun _ => true
  pn := []
  xe := fun e s' => wpAny (model P w) (A.deeper (envOfC qual scope s.heap.objs.size f cd)) (leaving (envOfC qual scope s.heap.objs.size f cd) e) (fun _ s'' => CX outer H s E e s'') (fun e' s'' => CX outer H s E e' s'') s'

theorem cell_has {sc : Scope} {n : Nat} {x : Str} (h : sc.names.lookup x = some .cell) : ∃ c, (cellsFrom n sc.names []).lookup x = some c := by
  have q := PySem.W.cellsFrom_some sc.names n [] (.inl h)
  exact Option.isSome_iff_exists.mp q

theorem inv_start {CX : CXT} {P : Program} {w : World} {K : PySem.W.Frag} {mg : Str → Option Value} {base : Heap} {N ps : List Str} {qual : Str} {scope : Scope} {f : Addr} {cd : Value} {A : Around} {outer : List Env} {s s1 : Shared} {H : Hp} {E : XK} {us : List Value} {vs : List V}
    (S : FnScope N ps scope) (hd : A.handled = none) (e0 : Env0 P w K mg base A outer s H) (hl : vs.length = ps.length) (r : Vals vs us)
    (x : InCallC s s.heap.objs.size (bindL (envOfC qual scope s.heap.objs.size f cd).kindOf (ps.zip us) fun _ => none) (cellsFrom (s.heap.objs.size + 1) scope.names []) (bindC (envOfC qual scope s.heap.objs.size f cd).kindOf (ps.zip us) fun _ => none) s1) :
    Inv (cxOf CX P w K mg base N qual scope f cd A outer s H E) [] (start N vs) H s1 := by
  have hpl : ps.length ≤ N.length := by have := congrArg List.length S.pre; rw [List.length_take] at this; omega
  obtain ⟨h1, tk, rfl, hk⟩ := x.done
  have noA : ∀ b : Addr, b ∉ (cxOf CX P w K mg base N qual scope f cd A outer s H E).ex := fun b z => absurd (show b ∈ ([] : List Addr) from z) (by simp)
  refine ⟨⟨e0.mod, S.kind, rfl, rfl, Nat.le_refl _, fun y z c h1 h2 => ?_, fun y hy => ?_, fun y c _ h => ?_, fun _ => hd, Around.frames_deeper e0.frames, .inr ⟨rfl, rfl⟩, fun b z => absurd z (noA b), e0.bs, e0.bsz, fun b _ _ => noA b, fun b z => absurd z (noA b), e0.funs, e0.frf⟩,
    rfl, e0.bare, Un.kept hk, ⟨_, x.toInCall.ns, fun i y v h1 h2 h3 => ?_⟩, fun y c h => ⟨_, x.cell y c h⟩, e0.hok.fresh (Nat.le_refl _), fun y c h => ?_, fun p hp => absurd (show p ∈ ([] : List (Addr × Obj)) from hp) (by simp), e0.hok.kept hk, ?_⟩
  · exact name_of_addr x.apart (PySem.mem_of_lookup h1) (PySem.mem_of_lookup h2)
  · have hy : scope.names.lookup y = some .cell ∨ scope.names.lookup y = some .free := hy
    rcases hy with hy | hy
    · exact cell_has hy
    · exact absurd rfl (S.nofree _ (PySem.mem_of_lookup hy))
  · exact Nat.le_of_lt (x.above y c (PySem.mem_of_lookup h))
  · have hi : i < vs.length := by
      unfold start at h2
      by_cases hi : i < vs.length
      · exact hi
      · rw [List.getElem?_append_right (by simpa using hi)] at h2
        rw [List.getElem?_replicate] at h2
        split at h2 <;> cases h2
    have ha : vs[i]? = some v := by
      unfold start at h2
      rw [List.getElem?_append_left (by simpa using hi), List.getElem?_map] at h2
      cases e : vs[i]? with
      | none => rw [e] at h2; cases h2
      | some a => rw [e] at h2; cases h2; rfl
    obtain ⟨u, hu, rv⟩ := r.get ha
    have hp : ps[i]? = some y := by
      rw [← S.pre, List.getElem?_take_of_lt (by omega)]; exact h1
    have ndP : ps.Nodup := by rw [← S.pre]; exact S.nd.sublist (List.take_sublist _ _)
    refine ⟨u, rv, ?_⟩
    rcases S.par y (List.mem_of_getElem? hp) with k | k
    · exact .inl ⟨k, bindL_get ndP hp hu k⟩
    · obtain ⟨c, e⟩ := cell_has (n := s.heap.objs.size + 1) k
      refine .inr ⟨.inl k, c, e, ?_⟩
      have q := x.cell y c e
      rw [bindC_get ndP hp hu (by show scope.names.lookup y ≠ _; rw [k]; decide)] at q
      exact q
  · exact e0.hok.fresh (Nat.le_of_lt (x.above y c (PySem.mem_of_lookup h)))
  · unfold start
    show _ = N.length
    rw [List.length_append, List.length_map, List.length_replicate]
    omega

/-- THE RULE: a def (or a method) of the text, by its body. The body's reading t is chosen for each entry; it is run at the parameters' values -/
theorem fn_of {CX : CXT} {P : Program} {w : World} {K : PySem.W.Frag} {mg : Str → Option Value} {base : Heap} {k : Nat} {f : Addr} {name qual : Str} {params : Arguments} {body : List Stmt} {scope : Scope} {dV kV doc pm cdv ct oc : Value} {an od : Option Addr}
    {osl : Array (Option Value)} {N ps : List Str} {sp : Sp} (lk : K.lookup f = some ⟨oc, od, .func (PySem.W.fnOf name qual params body scope dV kV doc pm an cdv ct), osl⟩) (hcd : PySem.W.codeIn K cdv qual = true) (S : FnScope N ps scope)
    (len : ∀ vs H Q E, sp vs H Q E → vs.length = ps.length)
    (hbody : ∀ (A : Around) (outer : List Env) (s : Shared) (H : Hp) (vs : List V) (Q : VK) (E : XK), Room k (A.deeper (envOfC qual scope s.heap.objs.size f cdv)) → sp vs H Q E →
      ∃ t, PSs (cxOf CX P w K mg base N qual scope f cdv A outer s H E) body t ∧ t { nx := fun _ H' => Q .non H', rt := Q } (start N vs) H) :
    FnOk P w K mg base CX (k + 1) f (PySem.W.fnOf name qual params body scope dV kV doc pm an cdv ct) ps sp := by
  refine ⟨len, fun A outer s H args us vs Q E hr e0 hb r hsp => ?_⟩
  have hl := len _ _ _ _ hsp
  have KX : K.In s.heap := e0.mod.kin.keeps fun b o e => (e0.bs b o e).1
  have lim : s.heap.NoLimit := e0.mod.nolimit.keeps fun b o e => (e0.bs b o e).1
  have hkind : ∀ y ∈ ps.zip us, scope.names.lookup y.1 = some .local ∨ (scope.names.lookup y.1 = some .cell ∧ ((cellsFrom (s.heap.objs.size + 1) scope.names []).lookup y.1).isSome = true) := fun ⟨n, v⟩ hy => by
    rcases S.par n (List.of_mem_zip hy).1 with q | q
    · exact .inl q
    · exact .inr ⟨q, PySem.W.cellsFrom_some _ _ _ (.inl q)⟩
  refine codeAny_call_function hr.depth (KX _ _ lk) rfl S.co S.gen rfl (PySem.W.codeRec_of KX hcd) (hb _ _ _ _ ?_)
  refine wpAny_newFunctionEnv_cells S.kind hkind fun env he s1 x => ?_
  subst he
  refine ⟨lim.keeps x.toInCall.keep, codeAny_func ?_⟩
  obtain ⟨t, ht, hq⟩ := hbody A outer s H vs Q E (hr.deeper _) hsp
  have I : Inv (cxOf CX P w K mg base N qual scope f cdv A outer s H E) [] (start N vs) H s1 := inv_start S hr.hd e0 hl r x
  refine wpAny_mono (ht [] s1 (start N vs) H _ I hq) (fun fl s' hs => ?_) fun e s' hs => hs
  have fin : ∀ {σ' : St} {H' : Hp} {v : V} {u : Value}, Inv (cxOf CX P w K mg base N qual scope f cdv A outer s H E) [] σ' H' s' → RelV v u → Q v H' → CE outer P w H s Q u s' :=
    fun {σ' H' v u} J rv q => ⟨v, H', J.os, J.bare, J.base, J.hok, rv, q⟩
  cases fl with
  | ret u =>
    obtain ⟨v, σ', H', J, rv, q⟩ := hs
    exact fin J rv q
  | next =>
    obtain ⟨σ', H', J, q⟩ := hs
    exact fin (v := V.non) (u := Value.none) J rfl q
  | brk =>
    obtain ⟨_, _, _, q⟩ := hs
    exact False.elim q
  | cont =>
    obtain ⟨_, _, _, q⟩ := hs
    exact False.elim q
end L2

namespace L2
open PySem PySem.Spec PyProof.Rows
section
variable {X : Cx} {x : Str} {p pos : Pos} {e : Expr} {es : List Expr} {t : TA} {id T : String} {r : List V → Hp → VK → Prop}

def tCB (r : List V → Hp → VK → Prop) (t : TA) : TE := fun σ H Q => t σ H fun vs H1 => r vs H1 Q
/-- f(e, ..), f a built-in function -/
theorem pe_callB (hc : CallR X (.builtin id) r) (hg : Gl X x) (hm : X.mg x = none) (hv : bootBuiltins x = some (.builtin id)) (ha : PA X (e :: es) t) (hn : x ≠ "__name__" := by decide) (hdb : (x == ("__debug__" : Str)) = false := by decide)
    (he : starEach (e :: es) X.env = (false, eval e X.env) :: starEach es X.env := by rfl) (hpl : (backTo pos (starEach es X.env)).any (·.1) = false := by rfl) : PE X (.Call (.Name x p) (e :: es) [] pos) (tCB r t) := by
  intro pins s σ H Q I h
  refine wpAny_Call_Name_kw (ld_blt I hg hm hv ?_ hn hdb)
  exact PyProof.Rows.callWith_builtin1 (thn (ha pos pins s σ H _ I h) fun us s1 ⟨vs, H1, I1, r1, q1⟩ => hc pins s1 σ H1 vs us Q I1 r1 q1) he hpl
/-- T(e, ..), T a built-in type -/
theorem pe_callTy (hc : CallR X (.type T) r) (hg : Gl X x) (hm : X.mg x = none) (hv : bootBuiltins x = some (.type T)) (ha : PA X (e :: es) t) (hn : x ≠ "__name__" := by decide) (hdb : (x == ("__debug__" : Str)) = false := by decide)
    (he : starEach (e :: es) X.env = (false, eval e X.env) :: starEach es X.env := by rfl) (hpl : (backTo pos (starEach es X.env)).any (·.1) = false := by rfl) : PE X (.Call (.Name x p) (e :: es) [] pos) (tCB r t) := by
  intro pins s σ H Q I h
  refine wpAny_Call_Name_kw (ld_blt I hg hm hv ?_ hn hdb)
  exact PyProof.Rows.callWith_type1 (thn (ha pos pins s σ H _ I h) fun us s1 ⟨vs, H1, I1, r1, q1⟩ => hc pins s1 σ H1 vs us Q I1 r1 q1) he hpl
end
end L2

namespace HT
open PySem PyProof.Rows



section
open PySem.SeqAt
open PySem.AutoSeq1 (wpAny_loadPart')
open PySem.MeetsSeq PySem.MeetsSeq2 PySem.MeetsSeq3

end

section
variable {prog : Program} {w : World} {A : Around} {E : Value → Shared → Prop} {s : Shared}



/-! ### t[a:b], not the whole -/

end
end HT

namespace L2
open PySem PySem.Spec PyProof.Rows

/-! ### the parts of a slice -/
abbrev TO := St → Hp → (Option Int → Hp → Prop) → Prop
/-- a slice's part (left out, or an int) -/
def PO (X : Cx) (e : Option Expr) (t : TO) : Prop :=
  ∀ (pins : List (Addr × Obj)) (s : Shared) (σ : St) (H : Hp) (Q : Option Int → Hp → Prop), Inv X pins σ H s → t σ H Q →
    wpAny (model X.prog X.w) X.A (evalPart e X.env) (fun u s' => ∃ o H', Inv X pins σ H' s' ∧ IsPart u o ∧ Q o H') X.xe s

theorem intsAre_of {ns : List Int} : ∀ {us : List Value}, Vals (ns.map V.int) us → IntsAre us ns := by
  induction ns with
  | nil => intro us r; rw [List.map_nil] at r; cases r; exact .nil
  | cons n ns ih =>
    intro us r
    rw [List.map_cons] at r
    cases r with
    | cons r1 r2 =>
      obtain ⟨t, e⟩ := r1
      subst e
      exact .cons n t (ih r2)

section
variable {X : Cx} {e : Expr} {te : TE} {lo hi : Option Expr} {tl th : TO} {pos p2 : Pos}




/-! ### t < u, t + u -/
end
end L2

namespace L2
open PySem PySem.Spec PyProof.Rows

/-! ### places -/
/-- the place that an index of any sign means -/
def ixN (n : Nat) (i : Int) : Option Nat := if 0 ≤ i then (if i < n then some i.toNat else none) else if -(n : Int) ≤ i then some (i + n).toNat else none
def atI {α : Type} (xs : List α) (i : Int) : Option α := (ixN xs.length i).bind fun j => xs[j]?
theorem ixN_seq {n : Nat} {i : Int} {j : Nat} (h : ixN n i = some j) : seqIndex? i n = some j ∧ j < n ∧ -(n : Int) ≤ i ∧ i < n := by
  unfold ixN at h
  by_cases h0 : 0 ≤ i
  · rw [if_pos h0] at h
    by_cases h1 : i < n
    · rw [if_pos h1] at h
      have e : i.toNat = j := Option.some.inj h
      exact ⟨by rw [seqIndex_of h0 h1, e], by omega, by omega, h1⟩
    · rw [if_neg h1] at h; cases h
  · rw [if_neg h0] at h
    by_cases h1 : -(n : Int) ≤ i
    · rw [if_pos h1] at h
      have e : (i + n).toNat = j := Option.some.inj h
      exact ⟨by rw [seqIndex_neg (by omega) h1, e], by omega, h1, by omega⟩
    · rw [if_neg h1] at h; cases h
theorem atI_get {α : Type} {xs : List α} {i : Int} {v : α} (h : atI xs i = some v) : ∃ j, seqIndex? i xs.length = some j ∧ xs[j]? = some v ∧ j < xs.length ∧ -(xs.length : Int) ≤ i ∧ i < xs.length := by
  unfold atI at h
  cases e : ixN xs.length i with
  | none => rw [e] at h; cases h
  | some j =>
    rw [e] at h
    obtain ⟨h1, h2, h3, h4⟩ := ixN_seq e
    exact ⟨j, h1, h, h2, h3, h4⟩
theorem atI_nat {α : Type} {xs : List α} {j : Nat} {v : α} (h : xs[j]? = some v) : atI xs (j : Int) = some v := by
  have hj : j < xs.length := (List.getElem?_eq_some_iff.mp h).1
  have e : ixN xs.length (j : Int) = some j := by
    unfold ixN
    rw [if_pos (by omega), if_pos (by omega)]; simp
  unfold atI; rw [e]; exact h

/-! ### what may be subscripted -/
/-- what stands as an index of a plain subscript -/
def PlainIx (b : Expr) : Prop := ∀ o i, subscripted b false o i = operate [o, i] (getItem o i)
/-- a subscript by values -/
def IxR (X : Cx) (r : R2) : Prop :=
  ∀ (value slice : Expr) (pins : List (Addr × Obj)) (s : Shared) (σ : St) (H : Hp) (x y : V) (v u : Value) (Q : VK), Inv X pins σ H s → RelV x v → RelV y u → r x y H Q →
    subscripted slice false v u = operate [v, u] (getItem v u) → wpAny (model X.prog X.w) X.A (subscriptTail value slice v u) (EP X pins σ Q) X.xe s
/-- a call of a builtin's method by values: the receiver, the arguments -/
def MtR (X : Cx) (id : String) (r : V → List V → Hp → VK → Prop) : Prop :=
  ∀ (pins : List (Addr × Obj)) (s : Shared) (σ : St) (H : Hp) (x : V) (xs : List V) (v : Value) (us : List Value) (Q : VK), Inv X pins σ H s → RelV x v → Vals xs us → r x xs H Q →
    wpAny (model X.prog X.w) X.A (call (.builtin id) (v :: us)) (EP X pins σ Q) X.xe s
section
variable {X : Cx} {a b : Expr} {ta tb : TE} {pos : Pos}
/-- a[b] -/
theorem pe_ix {r : R2} (hr : IxR X r) (ha : PE X a ta) (hb : PE X b tb) (hs : PlainIx b) : PE X (.Subscript a b pos) (tOp r ta tb) := by
  intro pins s σ H Q I h
  exact Subscript_ (binT ha hb I h fun v u s2 x y H2 I2 rx ry q => hr a b pins s2 σ H2 x y v u Q I2 rx ry q (hs _ _))

def rIxL (K : PySem.W.Frag) : R2 := fun x y H Q => ∃ p xs i v, x = .ref p ∧ y = .int i ∧ SqL K H p xs ∧ atI xs i = some v ∧ Q v H
def rIxT (K : PySem.W.Frag) : R2 := fun x y H Q => ∃ p xs i v, x = .ref p ∧ y = .int i ∧ SqT K H p xs ∧ atI xs i = some v ∧ Q v H
theorem ix_list : IxR X (rIxL X.K) := by
  intro value slice pins s σ H x y v u Q I rx ry h hs
  obtain ⟨p, xs, i, z, rfl, rfl, hq, he, q⟩ := h
  cases rx
  obtain ⟨t, rfl⟩ := ry
  obtain ⟨its, r, pl, hz⟩ := I.list hq
  obtain ⟨j, h1, h2, h3, h4, h5⟩ := atI_get he
  obtain ⟨w, ew, rw'⟩ := r.get h2
  have hl := r.length
  have hn := line63
  have fin : EP X pins σ Q w s := ⟨z, H, I, rw', q⟩
  by_cases h0 : 0 ≤ i
  · have hj : i.toNat = j := by
      rw [seqIndex_of h0 h5] at h1
      exact Option.some.inj h1
    exact item_listR pl.isList h0 (by omega) (by rw [hj]; simpa using ew) fin hs
  · have hj : (i + (its.toArray.size : Int)).toNat = j := by
      rw [seqIndex_neg (by omega) h4] at h1
      rw [List.size_toArray, ← hl]
      exact Option.some.inj h1
    exact subscriptTail_builtinR (x := w) pl.isList.typeIs slot_list_getitem.lookup
      (wpAny_getItem_list_neg (Q := fun r s' => r = w ∧ EP X pins σ Q r s') pl.isList (by omega) (by rw [List.size_toArray] <;> omega) (by omega) (by rw [hj]; simpa using ew) ⟨rfl, fin⟩) hs
theorem ix_tup : IxR X (rIxT X.K) := by
  intro value slice pins s σ H x y v u Q I rx ry h hs
  obtain ⟨p, xs, i, z, rfl, rfl, hq, he, q⟩ := h
  cases rx
  obtain ⟨t, rfl⟩ := ry
  obtain ⟨its, r, pl, hz⟩ := I.tuple hq
  obtain ⟨j, h1, h2, h3, h4, h5⟩ := atI_get he
  obtain ⟨w, ew, rw'⟩ := r.get h2
  have hl := r.length
  have hn := line63
  have fin : EP X pins σ Q w s := ⟨z, H, I, rw', q⟩
  exact subscriptTail_builtinR (x := w) pl.typeIs slot_tuple_getitem.lookup
    (getItem_tuple (j := j) (Q := fun r s' => r = w ∧ EP X pins σ Q r s') pl (by omega) (by omega) (by rw [List.size_toArray, ← hl]; exact h1) (by simpa using ew) ⟨rfl, fin⟩) hs

/-! ### xs[i] = v, any sign -/

/-! ### slices -/

/-! ### in, not in: flat items -/

/-! ### len, list(x), tuple(x) of any list or tuple that is read -/
theorem call_len_seq : CallR X (.builtin "len") (fun xs H Q => ∃ p ys, xs = [.ref p] ∧ (SqL X.K H p ys ∨ SqT X.K H p ys) ∧ Q (.int ys.length) H) := by
  intro pins s σ H xs us Q I r h
  obtain ⟨p, ys, rfl, hq, q⟩ := h
  obtain ⟨u, rfl, rx⟩ := vals1 r
  cases rx
  have hn := line63
  rcases hq with hq | hq
  · obtain ⟨its, r', pl, hz⟩ := I.list hq
    have hlen := r'.length
    exact Calls.call_len_list pl.isList (by simp only [List.size_toArray] <;> omega) ⟨.int ys.length, H, I.tok _, ⟨s.toks + 1, by rw [List.size_toArray, hlen]⟩, q⟩
  · obtain ⟨its, r', pl, hz⟩ := I.tuple hq
    have hlen := r'.length
    exact len_tuple pl (by simp only [List.size_toArray] <;> omega) ⟨.int ys.length, H, I.tok _, ⟨s.toks + 1, by rw [List.size_toArray, hlen]⟩, q⟩
theorem call_tuple_of : CallR X (.type "tuple") (fun xs H Q => ∃ p ys, xs = [.ref p] ∧ ((SqL X.K H p ys ∧ ∀ l, H l = none → Q (.ref l) (upd H l (.tup ys))) ∨ (SqT X.K H p ys ∧ Q (.ref p) H))) := by
  intro pins s σ H xs us Q I r h
  obtain ⟨p, ys, rfl, h⟩ := h
  obtain ⟨u, rfl, rx⟩ := vals1 r
  cases rx
  rcases h with ⟨hq, q⟩ | ⟨hq, q⟩
  · obtain ⟨its, r', pl, hz⟩ := I.list hq
    have hlen := r'.length
    refine call_tuple_list pl.isList (fun h' kp => ?_) (by simp only [List.size_toArray] <;> omega)
    have I1 : Inv X pins σ H { s with heap := h' } := I.kept (t' := s.toks) kp
    have I2 : Inv X pins σ (upd H h'.objs.size (.tup ys)) { s with heap := h'.push { cls := .type "tuple", data := .seq its.toArray } } :=
      I1.laid (t' := s.toks) (fun b o e => Heap.get?_push_of_some _ e) (Nat.le_refl _) (show ObjOk X.prog X.w _ _ _ (.tup ys) from ⟨hz, its, r', IsTup.new _ _⟩)
    exact ⟨.ref h'.objs.size, _, I2, rfl, q _ (I1.hok.fresh (Nat.le_refl _))⟩
  · obtain ⟨its, r', pl, hz⟩ := I.tuple hq
    exact call_tuple_same pl ⟨.ref p, H, I, rfl, q⟩

/-! ### the call of a builtin's method: o.m(..) -/
/-- the value is of that builtin type -/
def tyV (K : PySem.W.Frag) (T : String) (x : V) (H : Hp) : Prop := match x with
  | .str _ => T = "str"
  | .int _ => T = "int"
  | .ref p => (T = "list" ∧ ∃ xs, SqL K H p xs) ∨ (T = "tuple" ∧ ∃ o, K.lookup p = some o ∧ o.cls = .type "tuple" ∧ o.dict = none) ∨
      (T = "dict" ∧ ((∃ kvs, H p = some (.dK kvs)) ∨ ∃ kvs, H p = some (.dT kvs))) ∨ (T = "set" ∧ ∃ S n, H p = some (.set S n))
  | _ => False
theorem tyV_is {pins : List (Addr × Obj)} {σ : St} {H : Hp} {s : Shared} {T : String} {x : V} {v : Value} (I : Inv X pins σ H s) (r : RelV x v) (ty : tyV X.K T x H) :
    s.TypeIs v T ∧ ∀ a, v = .ref a → ∃ ob, s.heap.get? a = some ob ∧ ob.dict = none := by
  cases x with
  | str z =>
    obtain ⟨t, rfl⟩ := r
    cases (show T = "str" from ty)
    exact ⟨typeIs_str s z t, fun _ e => nomatch e⟩
  | int i =>
    obtain ⟨t, rfl⟩ := r
    cases (show T = "int" from ty)
    exact ⟨typeIs_int s i t, fun _ e => nomatch e⟩
  | ref p =>
    cases r
    rcases ty with ⟨rfl, xs, hq⟩ | ⟨rfl, o, hk, hc, hd⟩ | ⟨rfl, hk⟩ | ⟨rfl, S, n, hk⟩
    · obtain ⟨its, _, pl, _⟩ := I.list hq
      refine ⟨pl.isList.typeIs, fun a e => ?_⟩
      cases e
      obtain ⟨o, n, e, c, hd, _⟩ := pl
      exact ⟨o, e, hd⟩
    · refine ⟨⟨o, I.kIn p o hk, hc⟩, fun a e => ?_⟩
      cases e
      exact ⟨o, I.kIn _ o hk, hd⟩
    · have z : ∃ o, s.heap.get? p = some o ∧ o.ExactDict := by
        rcases hk with ⟨kvs, hk⟩ | ⟨kvs, hk⟩
        · obtain ⟨_, _, _, _, o, _, _, e, ex, _⟩ := I.hok p _ hk
          exact ⟨o, e, ex⟩
        · obtain ⟨_, _, _, _, o, _, _, e, ex, _⟩ := I.hok p _ hk
          exact ⟨o, e, ex⟩
      obtain ⟨o, e, ex⟩ := z
      refine ⟨⟨o, e, ex.1⟩, fun a e2 => ?_⟩
      cases e2
      exact ⟨o, e, ex.2.1⟩
    · obtain ⟨o, _, _, _, e, ex, _⟩ := I.hok p _ hk
      refine ⟨⟨o, e, ex.1⟩, fun a e2 => ?_⟩
      cases e2
      exact ⟨o, e, ex.2.1⟩
  | _ => exact False.elim ty
def tBM0 (K : PySem.W.Frag) (T : String) (r : V → List V → Hp → VK → Prop) (to : TE) : TE := fun σ H Q => to σ H fun x H1 => tyV K T x H1 ∧ r x [] H1 Q
def tBM (K : PySem.W.Frag) (T : String) (r : V → List V → Hp → VK → Prop) (to : TE) (t : TA) : TE := fun σ H Q => to σ H fun x H1 => tyV K T x H1 ∧ t σ H1 fun xs H2 => r x xs H2 Q
variable {o e : Expr} {es : List Expr} {to : TE} {t : TA} {name : Str} {apos cpos : Pos} {T id : String} {r : V → List V → Hp → VK → Prop}
theorem pe_bm0 (pa : PlainAttrs T) (slot : Slot T name id) (hty : typeOf (.builtin id) = pure (.type "method_descriptor")) (hm : MtR X id r) (ho : PE X o to)
    (hbase : attributeBase o name X.env (eval o X.env) = eval o X.env := by rfl) (hline : (apos.endLine == cpos.line) = true := by rfl) : PE X (.Call (.Attribute o name apos) [] [] cpos) (tBM0 X.K T r to) := by
  intro pins s σ H Q I h
  refine wpAny_Call_method0_late hbase hline (thn (ho pins s σ H _ I h) fun v s1 ⟨x, H1, I1, r1, ty, q1⟩ => ?_)
  obtain ⟨h1, h2⟩ := tyV_is I1 r1 ty
  exact ⟨T, id, pa, slot, hty, h1, h2, Calls.callWith_builtin rfl (PySem.evalArgs_none (hm pins s1 σ H1 x [] v [] Q I1 r1 .nil q1))⟩
theorem pe_bm (pa : PlainAttrs T) (slot : Slot T name id) (hty : typeOf (.builtin id) = pure (.type "method_descriptor")) (hm : MtR X id r) (ho : PE X o to) (ha : PA X (e :: es) t)
    (hbase : attributeBase o name X.env (eval o X.env) = eval o X.env := by rfl)
    (hfew : ((backTo cpos (starEach (e :: es) X.env)).all (fun x => !x.1) && (backToKw cpos (keywordEach [] X.env)).all (fun x => x.1.isSome)
      && decide ((e :: es).length + ([] : List Keyword).length + (if ([] : List Keyword).isEmpty then 0 else 1) < 30)) = true := by rfl)
    (hline : (apos.endLine == cpos.line) = true := by rfl) (hs : starEach (e :: es) X.env = (false, eval e X.env) :: starEach es X.env := by rfl) (hplain : (backTo cpos (starEach es X.env)).any (·.1) = false := by rfl) :
    PE X (.Call (.Attribute o name apos) (e :: es) [] cpos) (tBM X.K T r to t) := by
  intro pins s σ H Q I h
  refine wpAny_Call_method_late hbase hfew hline rfl (thn (ho pins s σ H _ I h) fun v s1 ⟨x, H1, I1, r1, ty, q1⟩ => ?_)
  obtain ⟨h1, h2⟩ := tyV_is I1 r1 ty
  refine ⟨T, id, pa, slot, hty, h1, h2, ?_⟩
  have hA := ha cpos pins s1 σ H1 _ I1 q1
  rw [hs] at hA ⊢
  refine Calls.callWith_builtin (by show (false || (backTo cpos (starEach es X.env)).any (·.1)) = false; rw [hplain] <;> rfl) (Calls.evalArgs_plain ?_)
  exact thn hA fun us s2 ⟨vs, H2, I2, r2, q2⟩ => hm pins s2 σ H2 x vs v us Q I2 r1 r2 q2
/- xs.append(e), list.index on a module's tuple .. are MtR facts of 06m -/
end
end L2

namespace L2
open PySem PySem.Spec PyProof.Rows

def MtM (X : Cx) (id : String) (r : V → List V → Hp → VK → Prop) : Prop :=
  ∀ (pins : List (Addr × Obj)) (s : Shared) (σ : St) (H : Hp) (x : V) (xs : List V) (v : Value) (us : List Value) (Q : VK), Inv X pins σ H s → RelV x v → Vals xs us → r x xs H Q →
    wpAny (model X.prog X.w) X.A (call (.builtin id) (v :: us)) (EP X pins σ Q) X.xe s

/-! ### lists of values -/
theorem Vals.one : ∀ {x : V} {us : List Value}, Vals [x] us → ∃ u, us = [u] ∧ RelV x u
  | _, _, .cons r .nil => ⟨_, rfl, r⟩
theorem Vals.two : ∀ {x y : V} {us : List Value}, Vals [x, y] us → ∃ u v, us = [u, v] ∧ RelV x u ∧ RelV y v
  | _, _, _, .cons r (.cons q .nil) => ⟨_, _, rfl, r, q⟩

section
variable {X : Cx} {pins : List (Addr × Obj)} {σ : St} {H : Hp} {s : Shared} {l b : Addr} {xs ys zs : List V}

/-! ### the two steps: a tracked list is rewritten, a new list is laid -/
theorem Inv.lset {its its' : List Value} {n : Nat} {f : Array Value → Array Value} {t' : Nat} (I : Inv X pins σ H s) (hH : H l = some (.lst xs))
    (e : s.heap.get? l = some { cls := .type "list", data := .seq its.toArray n }) (hf : f its.toArray = its'.toArray) (hv : Vals ys its') (hz : ys.length ≤ sizeLine) :
    Inv X pins σ (upd H l (.lst ys)) { s with heap := s.heap.update l (Obj.mapSeq f), toks := t' } := by
  have q := PySem.IsL.update e f
  rw [hf] at q
  refine I.write (x := l) (e := l) (by rw [hH]; exact trivial) (.inl rfl) (fun b' u hb hu => (Heap.get?_update_other s.heap (Obj.mapSeq f) (Ne.symm hb)).trans hu) ⟨_, q⟩ ?_
  exact ⟨hz, its', _, hv, q⟩
theorem Inv.lnew {its : List Value} {t' : Nat} (I : Inv X pins σ H s) (hv : Vals ys its) (hz : ys.length ≤ sizeLine) :
    Inv X pins σ (upd H s.heap.objs.size (.lst ys)) { s with heap := s.heap.push { cls := .type "list", data := .seq its.toArray }, toks := t' } :=
  I.laid (fun _ _ q => Heap.get?_push_of_some _ q) (Nat.le_refl _) ⟨hz, its, 0, hv, Heap.get?_push_size _ rfl⟩
theorem Inv.fresh (I : Inv X pins σ H s) : H s.heap.objs.size = none := I.hok.fresh (Nat.le_refl _)
theorem Inv.lstM (I : Inv X pins σ H s) (hH : H l = some (.lst xs)) : xs.length ≤ sizeLine ∧ ∃ (its : List Value) (n : Nat), Vals xs its ∧ xs.length = its.length ∧ s.heap.get? l = some { cls := .type "list", data := .seq its.toArray n } := by
  obtain ⟨z, its, n, r, e⟩ := I.hok l _ hH
  exact ⟨z, its, n, r, r.length, e⟩

end

section
variable {X : Cx}

/-! ### methods -/
def rAppend : V → List V → Hp → VK → Prop := fun x vs H Q => ∃ l xs y, x = .ref l ∧ vs = [y] ∧ H l = some (.lst xs) ∧ xs.length < sizeLine ∧ Q .non (upd H l (.lst (xs ++ [y])))
theorem mt_append : MtM X "list.append" rAppend := by
  intro pins s σ H x vs v us Q I rx rv h
  obtain ⟨l, xs, y, rfl, rfl, hH, hz, q⟩ := h
  cases rx
  obtain ⟨u, rfl, ru⟩ := rv.one
  obtain ⟨z, its, n, r, hl, e⟩ := I.lstM hH
  refine call_meets F.slot_list_append ⟨_, e, rfl⟩ F.entry_list_append (F.args_list_append_2 _ _) (PySem.list_append l its.toArray n u (by rw [List.size_toArray]; omega)) ⟨e, ?_⟩
  refine ⟨.non, _, I.lset (its' := its ++ [u]) hH e (by simp) (r.append (.cons ru .nil)) ?_, rfl, q⟩
  rw [List.length_append, List.length_singleton]
  omega






/-! ### list + list, list += list, list * int -/

/-! ### del xs[i] -/
end

/-! ### xs[a:b] = ys -/
section
variable {prog : Program} {w : World} {A : Around} {E : Value → Shared → Prop} {s : Shared}
end

section
variable {X : Cx}
end
end L2

namespace L2
open PySem PySem.Spec PyProof.Rows

/-! ### lists of pairs as tables -/
section
variable {κ : Type} [DecidableEq κ]
def valV (kvs : List (κ × V)) (k : κ) : Option V := (kvs.find? fun kv => decide (kv.1 = k)).map (·.2)
/-- in its place, or at the end -/
def putK (kvs : List (κ × V)) (k : κ) (v : V) : List (κ × V) :=
  if (kvs.any fun kv => decide (kv.1 = k)) = true then kvs.map (fun kv => if kv.1 = k then (kv.1, v) else kv) else kvs ++ [(k, v)]

theorem valV_pos {p : κ × V} {r : List (κ × V)} {k : κ} (e : p.1 = k) : valV (p :: r) k = some p.2 := by simp [valV, List.find?_cons, e]
theorem valV_neg {p : κ × V} {r : List (κ × V)} {k : κ} (e : ¬ p.1 = k) : valV (p :: r) k = valV r k := by simp [valV, List.find?_cons, e]
theorem valV_any (k : κ) : ∀ kvs : List (κ × V), (kvs.any fun kv => decide (kv.1 = k)) = (valV kvs k).isSome
  | [] => rfl
  | p :: r => by
    rw [List.any_cons]
    by_cases e : p.1 = k
    · simp only [valV_pos e, decide_eq_true e, Bool.true_or, Option.isSome_some]
    · rw [valV_neg e, decide_eq_false e, Bool.false_or]; exact valV_any k r
theorem length_putK (kvs : List (κ × V)) (k : κ) (v : V) : (putK kvs k v).length ≤ kvs.length + 1 := by
  unfold putK
  split
  · rw [List.length_map]; omega
  · rw [List.length_append, List.length_cons, List.length_nil]; omega
theorem putK_new {kvs : List (κ × V)} {k : κ} (v : V) (h : valV kvs k = none) : putK kvs k v = kvs ++ [(k, v)] := by
  unfold putK
  rw [valV_any, h]
  exact if_neg (by decide)

theorem RelO.isSome_eq {o : Option V} {u : Option Value} (r : RelO o u) : o.isSome = u.isSome := by
  cases o with
  | none => cases u with
    | none => rfl
    | some _ => exact (show False from r).elim
  | some _ => cases u with
    | none => exact (show False from r).elim
    | some _ => rfl
theorem RelO.getD {o : Option V} {u : Option Value} {d : V} {d' : Value} (r : RelO o u) (rd : RelV d d') : RelV (o.getD d) (u.getD d') := by
  cases o with
  | none => cases u with
    | none => exact rd
    | some _ => exact (show False from r).elim
  | some _ => cases u with
    | none => exact (show False from r).elim
    | some _ => exact r

/-- raw tables of the same keys -/
theorem KV.val {kvs : List (κ × V)} {vs : List (κ × Value)} (r : KV kvs vs) (k : κ) : RelO (valV kvs k) (valueAt vs k) := by
  unfold KV at r
  induction r with
  | nil => exact True.intro
  | @cons p q ps qs h t ih =>
    obtain ⟨h1, h2⟩ := h
    by_cases e : p.1 = k
    · have e' : q.1 = k := h1.symm.trans e
      have b : valueAt (q :: qs) k = some q.2 := by simp [valueAt, List.find?_cons, e']
      rw [valV_pos e, b]; exact h2
    · have e' : ¬ q.1 = k := fun z => e (h1.trans z)
      have b : valueAt (q :: qs) k = valueAt qs k := by simp [valueAt, List.find?_cons, e']
      rw [valV_neg e, b]; exact ih
theorem KV.any {kvs : List (κ × V)} {vs : List (κ × Value)} (r : KV kvs vs) (k : κ) : (kvs.any fun kv => decide (kv.1 = k)) = vs.any fun kv => decide (kv.1 = k) := by
  unfold KV at r
  induction r with
  | nil => rfl
  | cons h t ih => rw [List.any_cons, List.any_cons, ih, h.1]
theorem KV.repl {kvs : List (κ × V)} {vs : List (κ × Value)} (r : KV kvs vs) (k : κ) {y : V} {u : Value} (ry : RelV y u) :
    KV (kvs.map fun kv => if kv.1 = k then (kv.1, y) else kv) (vs.map fun kv => if kv.1 = k then (kv.1, u) else kv) := by
  unfold KV at r ⊢
  induction r with
  | nil => exact .nil
  | @cons p q ps qs h t ih =>
    rw [List.map_cons, List.map_cons]
    refine .cons ?_ ih
    obtain ⟨h1, h2⟩ := h
    by_cases e : p.1 = k
    · rw [if_pos e, if_pos (h1.symm.trans e)]; exact ⟨h1, ry⟩
    · rw [if_neg e, if_neg (fun z => e (h1.trans z))]; exact ⟨h1, h2⟩
theorem KV.put {kvs : List (κ × V)} {vs : List (κ × Value)} (r : KV kvs vs) (k : κ) {y : V} {u : Value} (ry : RelV y u) : KV (putK kvs k y) (stored vs k u) := by
  unfold putK stored
  rw [r.any k]
  by_cases e : (vs.any fun kv => decide (kv.1 = k)) = true
  · rw [if_pos e, if_pos e]; exact r.repl k ry
  · rw [if_neg e, if_neg e]; exact Paired.snoc r ⟨rfl, ry⟩
theorem KV.keys {kvs : List (κ × V)} {vs : List (κ × Value)} (r : KV kvs vs) : kvs.map (·.1) = vs.map (·.1) := by
  unfold KV at r
  induction r with
  | nil => rfl
  | cons h t ih => rw [List.map_cons, List.map_cons, ih, h.1]
theorem KV.length {kvs : List (κ × V)} {vs : List (κ × Value)} (r : KV kvs vs) : kvs.length = vs.length := Paired.length r
end


/-! ### a tracked dict, its keys ints and texts or tuples of these -/
theorem kV_is {P : Program} {w : World} {k : Key} {u : Value} (r : RelV (kV k) u) : (mixKind P w).is k u = true := by
  cases k with
  | inl i => obtain ⟨t, e⟩ := (show ∃ t, u = Value.int i t from r); subst e; exact mixKind_int P w i t
  | inr x => obtain ⟨t, e⟩ := (show ∃ t, u = Value.str x t from r); subst e; exact mixKind_str P w x t
theorem items_are {P : Program} {w : World} : ∀ {ks : List Key} {us : List Value}, Vals (ks.map kV) us → ItemsAre (mixKind P w) ks us
  | [], _, r => by rw [List.map_nil] at r; cases r; exact .nil
  | k :: ks, _, r => by
    rw [List.map_cons] at r
    cases r with
    | cons h t => exact .cons (kV_is h) (items_are t)

/-- raw entries of a dict with tuple keys -/
abbrev KT (H : Hp) : List (List Key × V) → List (List Key × Addr × Value) → Prop := Paired fun p q => p.1 = q.1 ∧ H q.2.1 = some (.tup (p.1.map kV)) ∧ RelV p.2 q.2.2
theorem KT.val {H : Hp} {kvs : List (List Key × V)} {xs : List (List Key × Addr × Value)} (r : KT H kvs xs) (k : List Key) : RelO (valV kvs k) ((atKey xs k).map (·.2)) := by
  induction r with
  | nil => exact True.intro
  | @cons p q ps qs h t ih =>
    obtain ⟨h1, _, h2⟩ := h
    by_cases e : p.1 = k
    · have e' : q.1 = k := h1.symm.trans e
      have b : atKey (q :: qs) k = some q.2 := by simp [atKey, List.find?_cons, e']
      rw [valV_pos e, b]; exact h2
    · have e' : ¬ q.1 = k := fun z => e (h1.trans z)
      have b : atKey (q :: qs) k = atKey qs k := by simp [atKey, List.find?_cons, e']
      rw [valV_neg e, b]; exact ih
theorem KT.repl {H : Hp} {kvs : List (List Key × V)} {xs : List (List Key × Addr × Value)} (r : KT H kvs xs) (k : List Key) {y : V} {u : Value} (ry : RelV y u) :
    KT H (kvs.map fun kv => if kv.1 = k then (kv.1, y) else kv) (xs.map (putAt k u)) := by
  induction r with
  | nil => exact .nil
  | @cons p q ps qs h t ih =>
    rw [List.map_cons, List.map_cons]
    refine .cons ?_ ih
    obtain ⟨h1, h2, h3⟩ := h
    unfold putAt
    by_cases e : p.1 = k
    · rw [if_pos e, if_pos (h1.symm.trans e)]; exact ⟨h1, h2, ry⟩
    · rw [if_neg e, if_neg (fun z => e (h1.trans z))]; exact ⟨h1, h2, h3⟩
theorem KT.put {H : Hp} {kvs : List (List Key × V)} {xs : List (List Key × Addr × Value)} (r : KT H kvs xs) (k : List Key) {b : Addr} {y : V} {u : Value} (hb : H b = some (.tup (k.map kV))) (ry : RelV y u) :
    KT H (putK kvs k y) (storedH xs k b u) := by
  have e : (kvs.any fun kv => decide (kv.1 = k)) = (atKey xs k).isSome := by
    rw [valV_any, (r.val k).isSome_eq, Option.isSome_map]
  unfold putK storedH
  rw [e]
  by_cases q : (atKey xs k).isSome = true
  · rw [if_pos q, if_pos q]; exact r.repl k ry
  · rw [if_neg q, if_neg q]; exact Paired.snoc r ⟨rfl, hb, ry⟩
theorem KT.keeps {H H' : Hp} {kvs : List (List Key × V)} {xs : List (List Key × Addr × Value)} (r : KT H kvs xs) (ht : ∀ b ys, H b = some (.tup ys) → H' b = some (.tup ys)) : KT H' kvs xs :=
  Paired.mapP r fun _ _ z => ⟨z.1, ht _ _ z.2.1, z.2.2⟩

section
variable {P : Program} {w : World} {H : Hp} {h : Heap} {a : Addr}
theorem rd_of {u : HO} (ok : HOk P w H h) (e : Rd H a u) : ObjOk P w H h a u := e.ok ok
theorem dk_rd {kvs : List (Key × V)} (ok : HOk P w H h) (e : Rd H a (.dK kvs)) : kvs.length ≤ sizeLine ∧ (a == sysModules) = false ∧ ∃ vs, KV kvs vs ∧ h.DictOf (mixKind P w) a vs :=
  show ObjOk P w H h a (.dK kvs) from rd_of ok e
theorem dk_of {kvs : List (Key × V)} (ok : HOk P w H h) (e : H a = some (.dK kvs)) : kvs.length ≤ sizeLine ∧ (a == sysModules) = false ∧ ∃ vs, KV kvs vs ∧ h.DictOf (mixKind P w) a vs := dk_rd ok (.inl e)
/-- a tracked tuple of ints and texts is a key -/
theorem key_of {ks : List Key} (ok : HOk P w H h) (e : H a = some (.tup (ks.map kV))) : (tupleKind (mixKind P w)).is h ks a := by
  obtain ⟨_, its, r, o, h1, h2, n, h3⟩ := (show ObjOk P w H h a (.tup (ks.map kV)) from ok a _ e)
  exact ⟨o, its.toArray, n, h1, h2, h3, by simpa using items_are r⟩
theorem dt_rd {kvs : List (List Key × V)} (ok : HOk P w H h) (e : Rd H a (.dT kvs)) : kvs.length ≤ sizeLine ∧ (a == sysModules) = false ∧
    ∃ xs, KT H kvs xs ∧ h.DictOfH (tupleKind (mixKind P w)) a xs := by
  obtain ⟨z, y, xs, r, o, es, ep, h1, h2, h3, h4, h5⟩ := (show ObjOk P w H h a (.dT kvs) from rd_of ok e)
  refine ⟨z, y, xs, r, o, es, ep, h1, h2, h3, h4, fun x hx => ?_, h5⟩
  have all : ∀ {l : List (List Key × V)} {m : List (List Key × Addr × Value)}, KT H l m → ∀ x ∈ m, (tupleKind (mixKind P w)).is h x.1 x.2.1 := by
    intro l m q
    induction q with
    | nil => intro x hx; exact nomatch hx
    | @cons p q ps qs hq t ih =>
      intro x hx
      rcases List.mem_cons.mp hx with e | hx
      · subst e
        exact key_of ok (by rw [← hq.1]; exact hq.2.1)
      · exact ih x hx
  exact all r x hx
theorem dt_of {kvs : List (List Key × V)} (ok : HOk P w H h) (e : H a = some (.dT kvs)) : kvs.length ≤ sizeLine ∧ (a == sysModules) = false ∧
    ∃ xs, KT H kvs xs ∧ h.DictOfH (tupleKind (mixKind P w)) a xs := dt_rd ok (.inl e)
end

/-- what the dict at a holds at the key y -/
def DGet (H : Hp) (a : Addr) (y : V) (r : Option V) : Prop :=
  (∃ kvs k, Rd H a (.dK kvs) ∧ y = kV k ∧ r = valV kvs k) ∨ ∃ kvs k b, Rd H a (.dT kvs) ∧ y = .ref b ∧ H b = some (.tup (k.map kV)) ∧ r = valV kvs k
/-- the heap behind a[y] = v -/
def DPut (H : Hp) (a : Addr) (y v : V) (H' : Hp) : Prop :=
  (∃ kvs k, H a = some (.dK kvs) ∧ y = kV k ∧ kvs.length < sizeLine ∧ H' = upd H a (.dK (putK kvs k v))) ∨
  ∃ kvs k b, H a = some (.dT kvs) ∧ y = .ref b ∧ H b = some (.tup (k.map kV)) ∧ kvs.length < sizeLine ∧ H' = upd H a (.dT (putK kvs k v))
theorem DGet.k {H : Hp} {a : Addr} {kvs : List (Key × V)} {k : Key} (e : H a = some (.dK kvs)) : DGet H a (kV k) (valV kvs k) := .inl ⟨kvs, k, .inl e, rfl, rfl⟩
theorem DPut.k {H : Hp} {a : Addr} {kvs : List (Key × V)} {k : Key} {v : V} (e : H a = some (.dK kvs)) (hl : kvs.length < sizeLine) : DPut H a (kV k) v (upd H a (.dK (putK kvs k v))) := .inl ⟨kvs, k, e, rfl, hl, rfl⟩


section
variable {X : Cx} {pins : List (Addr × Obj)} {σ : St} {H : Hp} {s : Shared} {a : Addr} {y v : V} {u r : Value} {o : Option V} {A : Around} {E : Value → Shared → Prop}

theorem Inv.big (I : Inv X pins σ H s) : sysModules < s.heap.objs.size := by
  have h : mainGlobals < s.heap.objs.size := (I.mod.glob.keeps I.bk).lt
  exact Nat.lt_trans (by decide) h

/-- d[y], there -/
theorem d_getItem {Q : Value → Shared → Prop} (hu : A.units + 1 < cLine) (I : Inv X pins σ H s) (g : DGet H a y (some v)) (ry : RelV y u) (h : ∀ w' s', Inv X pins σ H s' → RelV v w' → Q w' s') :
    wpAny (model X.prog X.w) A (getItem (.ref a) u) Q E s := by
  rcases g with ⟨kvs, k, e, ey, l⟩ | ⟨kvs, k, b, e, ey, eb, l⟩
  · subst ey
    obtain ⟨z, hd, vs, rel, dd⟩ := dk_rd I.hok e
    obtain ⟨w', hw, rw'⟩ := RelO.some_of (v := v) (o := valueAt vs k) (by rw [l]; exact rel.val k)
    exact wpAny_getItem_of (kV_is ry) dd.mapOf hw (h w' _ (I.tok _) rw')
  · subst ey
    cases (show u = Value.ref b from ry)
    obtain ⟨z, hd, xs, rel, dd⟩ := dt_rd I.hok e
    obtain ⟨w', hw, rw'⟩ := RelO.some_of (v := v) (o := (atKey xs k).map (·.2)) (by rw [l]; exact rel.val k)
    obtain ⟨p, hp, hp2⟩ := Option.map_eq_some_iff.mp hw
    refine wpAny_getItem_heap (tupleKind_room_in1 hu) (key_of I.hok eb) dd hp ?_
    rw [hp2]
    exact h w' _ (I.tok _) rw'
/-- a dict's object is replaced -/
theorem d_write {h' : Heap} {t' : Nat} {ob : HO} (I : Inv X pins σ H s) (mu : Mut (H a)) (hs : Heap.SameBut a s.heap h') (he : ∃ q, h'.get? a = some q) (new : ObjOk X.prog X.w (upd H a ob) h' a ob) :
    Inv X pins σ (upd H a ob) { s with heap := h', toks := t' } :=
  I.write (x := a) (e := a) mu (.inl rfl) (fun b q hb z => (hs.2 b hb).trans z) he new
theorem dk_new {P : Program} {w : World} {H' : Hp} {h' : Heap} {kvs : List (Key × V)} {vs : List (Key × Value)} (z : kvs.length ≤ sizeLine) (hd : (a == sysModules) = false) (rel : KV kvs vs) (dd : h'.DictOf (mixKind P w) a vs) :
    ObjOk P w H' h' a (.dK kvs) := ⟨z, hd, vs, rel, dd⟩
/-- d[y] = v -/
theorem d_setItem {H' : Hp} {Q : Unit → Shared → Prop} (hu : A.units + 1 < cLine) (I : Inv X pins σ H s) (g : DPut H a y v H') (ry : RelV y u) (rv : RelV v r) (h : ∀ s', Inv X pins σ H' s' → Q () s') :
    wpAny (model X.prog X.w) A (setItem (.ref a) u r) Q E s := by
  rcases g with ⟨kvs, k, e, ey, l, eH⟩ | ⟨kvs, k, b, e, ey, eb, l, eH⟩
  · subst ey eH
    obtain ⟨z, hd, vs, rel, dd⟩ := dk_of I.hok e
    have hz : vs.length ≤ sizeLine := by rw [← rel.length]; exact z
    have hl : (putK kvs k v).length ≤ sizeLine := by have := length_putK kvs k v; omega
    refine wpAny_setItem_pairs (hsz := hz) (kV_is ry) dd fun h' dd' hs => h _ ?_
    have he : ∃ q, h'.get? a = some q := let ⟨q, _, _, hq, _⟩ := dd'; ⟨q, hq⟩
    exact d_write I (by rw [e]; exact True.intro) hs he (dk_new hl hd (rel.put k rv) dd')
  · subst ey eH
    cases (show u = Value.ref b from ry)
    obtain ⟨z, hd, xs, rel, dd⟩ := dt_of I.hok e
    have hz : xs.length ≤ sizeLine := by rw [← Paired.length rel]; exact z
    have hl : (putK kvs k v).length ≤ sizeLine := by have := length_putK kvs k v; omega
    refine wpAny_setItem_heap (hsz := hz) (tupleKind_room_in1 hu) (key_of I.hok eb) dd fun h' dd' hs => h _ ?_
    obtain ⟨q, es, ep, hq, h2, h3, h4, _, h5⟩ := dd'
    refine d_write I (by rw [e]; exact True.intro) hs ⟨q, hq⟩ ⟨hl, hd, _, (rel.put k eb rv).keeps fun c ys ec => ?_, q, es, ep, hq, h2, h3, h4, h5⟩
    rw [upd_ne (ne_of ec e (fun z => nomatch z))]
    exact ec
end

section
variable {X : Cx} {pins : List (Addr × Obj)} {σ : St} {H : Hp} {s : Shared} {a : Addr} {kvs : List (Key × V)} {k : Key} {u : Value} {A : Around} {E : Value → Shared → Prop}
end


/-! ### readings and rules -/
/-- the element of a subscription, not a slice -/
def NoSl (i : Expr) : Prop := ∀ ov iv, subscripted i false ov iv = operate [ov, iv] (getItem ov iv)
theorem subD_of {prog : Program} {w : World} {A : Around} {E : Value → Shared → Prop} {s : Shared} {env : Env} {value slice : Expr} {pos : Pos} {T id : String} {Q : Value → Shared → Prop}
    (hl : typeLookup (.type T) "__getitem__" = pure (some (.builtin id))) (hs : NoSl slice)
    (h : wpAny (model prog w) A (eval value env) (fun o s₁ => wpAny (model prog w) A (eval slice env) (fun i s₂ => s₂.TypeIs o T ∧ wpAny (model prog w) A (getItem o i) Q E s₂) E s₁) E s) :
    wpAny (model prog w) A (eval (.Subscript value slice pos) env) Q E s := by
  refine Subscript_ (wpAny_mono h (fun o s₁ h₁ => wpAny_mono h₁ (fun i s₂ h₂ => ?_) fun _ _ x => x) fun _ _ x => x)
  obtain ⟨hT, h₂⟩ := h₂
  unfold subscriptTail
  refine wpAny_bind ?_
  rw [getitemInPython_of_ne hT.not_modules]
  refine wpAny_bind (wpAny_specialOf hT hl ?_)
  have fin : wpAny (model prog w) A (subscripted slice false o i) (fun r s₃ => wpAny (model prog w) A (letTemporaryGo value o r >>= fun _ => pure r) Q E s₃) E s₂ := by
    rw [hs o i]
    exact wpAny_operating (wpAny_mono h₂ (fun r s₃ h₃ => wpAny_bind (wpAny_letTemporaryGo (wpAny_pure h₃))) fun _ _ x => x)
  first
    | exact wpAny_pure (wpAny_bind fin)
    | exact wpAny_bind (wpAny_pure (wpAny_bind fin))
    | exact wpAny_bind fin

theorem dict_typeIs {X : Cx} {pins : List (Addr × Obj)} {σ : St} {H : Hp} {s : Shared} {a : Addr} {y : V} {o : Option V} (I : Inv X pins σ H s) (g : DGet H a y o) : s.TypeIs (.ref a) "dict" := by
  rcases g with ⟨kvs, k, e, _, _⟩ | ⟨kvs, k, b, e, _, _, _⟩
  · obtain ⟨_, _, vs, _, dd⟩ := dk_rd I.hok e
    exact dd.typeIs
  · obtain ⟨_, _, xs, _, dd⟩ := dt_rd I.hok e
    exact dd.typeIs

/-- d[y] -/
def tDGet (td ty : TE) : TE := fun σ H Q => td σ H fun x H1 => ty σ H1 fun y H2 => ∃ a v, x = .ref a ∧ DGet H2 a y (some v) ∧ Q v H2
/-- d[y] = v -/
def sDPut (td ty tv : TE) : TS := fun D σ H => tv σ H fun v H1 => td σ H1 fun x H2 => ty σ H2 fun y H3 => ∃ a H4, x = .ref a ∧ DPut H3 a y v H4 ∧ D.nx σ H4

section
variable {X : Cx} {o i e value : Expr} {pos pos' tpos : Pos} {td ty tv : TE}
theorem pe_dget (hu : X.A.units + 1 < cLine) (ho : PE X o td) (hi : PE X i ty) (hs : NoSl i) : PE X (.Subscript o i pos) (tDGet td ty) := by
  intro pins s σ H Q I h
  refine subD_of PySem.F.slot_dict_getitem.lookup hs (thn (ho pins s σ H _ I h) fun u s1 ⟨x, H1, I1, rx, q1⟩ => thn (hi pins s1 σ H1 _ I1 q1) fun iv s2 ⟨y, H2, I2, ry, a, v, ex, g, q2⟩ => ?_)
  subst ex
  obtain rfl : u = Value.ref a := rx
  exact ⟨dict_typeIs I2 g, d_getItem hu I2 g ry fun w' s3 I3 rw' => ⟨v, H2, I3, rw', q2⟩⟩
theorem ps_dput (hu : X.A.units + 1 < cLine) (ho : PE X o td) (hi : PE X i ty) (hv : PE X value tv) (hs : swapsWith value (some (.Subscript o i pos')) pos.line X.env = pure false) :
    PS X (.Assign [.Subscript o i pos'] value pos) (sDPut td ty tv) := by
  intro pins s σ H D I h
  refine wpAny_Assign_Subscript (thn (hv pins s σ H _ I h) fun r s1 ⟨v, H1, I1, rv, q1⟩ => thn (ho pins s1 σ H1 _ I1 q1) fun u s2 ⟨x, H2, I2, rx, q2⟩ => thn (hi pins s2 σ H2 _ I2 q2) fun iv s3 ⟨y, H3, I3, ry, a, H4, ex, g, q3⟩ => ?_) hs
  subst ex
  obtain rfl : u = Value.ref a := rx
  exact d_setItem hu I3 g ry rv fun s4 I4 => ⟨σ, H4, I4, q3⟩
end


/-! ### displays -/
theorem dk_empty {P : Program} {w : World} {H : Hp} (h : Heap) (hb : sysModules < h.objs.size) : ObjOk P w H (h.push { cls := .type "dict", data := .dict #[] }) h.objs.size (.dK []) :=
  ⟨Nat.zero_le _, beq_eq_false_iff_ne.mpr (Ne.symm (Nat.ne_of_lt hb)), [], .nil, Heap.DictOf.new h⟩
/-- {}, to be a dict of the kind that is wanted -/
def tDNewK : TE := fun _ H Q => ∀ p, H p = none → Q (.ref p) (upd H p (.dK []))
section
variable {X : Cx} {pos : Pos}
theorem pe_dnewK : PE X (.Dict [] [] pos) tDNewK := fun pins s σ H Q I h =>
  wpAny_Dict_empty ⟨.ref s.heap.objs.size, _, I.laid (a := s.heap.objs.size) (o := .dK []) (t' := s.toks) (fun _ _ q => Heap.get?_push_of_some _ q) (Nat.le_refl _) (dk_empty s.heap I.big), rfl, h _ (I.hok.fresh (Nat.le_refl _))⟩
end




/-! ### methods -/
/-- a method call o.m(e) of a built-in, with one argument: what must be seen of the text -/
structure M1 (X : Cx) (o : Expr) (m : Str) (apos : Pos) (e : Expr) (cpos : Pos) : Prop where
  base : attributeBase o m X.env (eval o X.env) = eval o X.env
  few : ((backTo cpos (starEach [e] X.env)).all (fun x => !x.1) && (backToKw cpos (keywordEach [] X.env)).all (fun x => x.1.isSome)
    && decide (([e] : List Expr).length + ([] : List Keyword).length + (if ([] : List Keyword).isEmpty then 0 else 1) < 30)) = true
  line : (apos.endLine == cpos.line) = true
  trees : backTo cpos (starEach [e] X.env) = [(false, eval e X.env)]
structure M2 (X : Cx) (o : Expr) (m : Str) (apos : Pos) (e f : Expr) (cpos : Pos) : Prop where
  base : attributeBase o m X.env (eval o X.env) = eval o X.env
  few : ((backTo cpos (starEach [e, f] X.env)).all (fun x => !x.1) && (backToKw cpos (keywordEach [] X.env)).all (fun x => x.1.isSome)
    && decide (([e, f] : List Expr).length + ([] : List Keyword).length + (if ([] : List Keyword).isEmpty then 0 else 1) < 30)) = true
  line : (apos.endLine == cpos.line) = true
  trees : backTo cpos (starEach [e, f] X.env) = [(false, eval e X.env), (false, eval f X.env)]

/-- a is a dict, whatever its keys -/
def IsD (H : Hp) (a : Addr) : Prop := (∃ kvs, Rd H a (.dK kvs)) ∨ ∃ kvs, Rd H a (.dT kvs)
theorem isD_at {X : Cx} {pins : List (Addr × Obj)} {σ : St} {H : Hp} {s : Shared} {a : Addr} (I : Inv X pins σ H s) (d : IsD H a) :
    s.TypeIs (.ref a) "dict" ∧ (∀ b, Value.ref a = .ref b → ∃ ob, s.heap.get? b = some ob ∧ ob.dict = none) ∧ (a == sysModules) = false := by
  rcases d with ⟨kvs, e⟩ | ⟨kvs, e⟩
  · obtain ⟨_, hd, vs, _, dd⟩ := dk_rd I.hok e
    refine ⟨dd.typeIs, fun b q => ?_, hd⟩
    cases q
    obtain ⟨ob, _, _, h1, h2, _⟩ := dd
    exact ⟨ob, h1, h2.2.1⟩
  · obtain ⟨_, hd, xs, _, dd⟩ := dt_rd I.hok e
    refine ⟨dd.typeIs, fun b q => ?_, hd⟩
    cases q
    obtain ⟨ob, _, _, h1, h2, _⟩ := dd
    exact ⟨ob, h1, h2.2.1⟩

section
variable {X : Cx} {pins : List (Addr × Obj)} {σ : St} {H : Hp} {s : Shared} {a : Addr} {y d : V} {u r : Value} {o : Option V} {A : Around} {E : Value → Shared → Prop}
/-- d.get(y, x) -/
theorem d_get2 {Q : Value → Shared → Prop} (hu : A.units + 1 < cLine) (I : Inv X pins σ H s) (g : DGet H a y o) (ry : RelV y u) (rd : RelV d r) (h : ∀ w' s', Inv X pins σ H s' → RelV (o.getD d) w' → Q w' s') :
    wpAny (model X.prog X.w) A (call (.builtin "dict.get") [.ref a, u, r]) Q E s := by
  rcases g with ⟨kvs, k, e, ey, l⟩ | ⟨kvs, k, b, e, ey, eb, l⟩
  · subst ey
    obtain ⟨z, hd, vs, rel, dd⟩ := dk_rd I.hok e
    refine call_meetsIn PySem.F.slot_dict_get dd.typeIs PySem.F.entry_dict_get (PySem.F.args_dict_get_3 _ _ _) (meets_dict_get_default (mixKind X.prog X.w) a (kV_is ry) hd r) ⟨_, dd.mapOf, h _ _ (I.tok _) ?_⟩
    rw [l]
    exact (rel.val k).getD rd
  · subst ey
    cases (show u = Value.ref b from ry)
    obtain ⟨z, hd, xs, rel, dd⟩ := dt_rd I.hok e
    refine call_meetsIn PySem.F.slot_dict_get dd.typeIs PySem.F.entry_dict_get (PySem.F.args_dict_get_3 _ _ _) (meetsH_dict_get_default (tupleKind (mixKind X.prog X.w)) a b hd r) ⟨tupleKind_room_in1 hu, k, xs, key_of I.hok eb, dd, h _ _ (I.tok _) ?_⟩
    rw [l]
    exact (rel.val k).getD rd
end

def tDGet2 (td ty tx : TE) : TE := fun σ H Q => td σ H fun x H1 => ∃ a, x = .ref a ∧ IsD H1 a ∧ ty σ H1 fun y H2 => tx σ H2 fun z H3 => ∃ o, DGet H3 a y o ∧ Q (o.getD z) H3
section
variable {X : Cx} {o e f : Expr} {apos cpos : Pos} {td ty tx : TE}
theorem pe_dget2 (hu : X.A.units + 1 < cLine) (ho : PE X o td) (he : PE X e ty) (hf : PE X f tx) (m : M2 X o "get" apos e f cpos) : PE X (.Call (.Attribute o "get" apos) [e, f] [] cpos) (tDGet2 td ty tx) := by
  intro pins s σ H Q I h
  refine wpAny_Call_method m.base m.few m.line PySem.F.plainAttrs_dict PySem.F.slot_dict_get PySem.F.type_dict_get (thn (ho pins s σ H _ I h) fun u s1 ⟨x, H1, I1, rx, a, ex, d, q1⟩ => ?_)
  subst ex
  obtain rfl : u = Value.ref a := rx
  obtain ⟨t1, t2, _⟩ := isD_at I1 d
  refine ⟨t1, t2, ?_⟩
  rw [m.trees]
  refine Calls.callWith_builtin rfl (Calls.evalArgs_plain (Calls.spliced_cons (thn (he pins s1 σ H1 _ I1 q1) fun iv s2 ⟨y, H2, I2, ry, q2⟩ =>
    Calls.spliced_cons (thn (hf pins s2 σ H2 _ I2 q2) fun fv s3 ⟨z, H3, I3, rz, ov, g, q3⟩ => Calls.spliced_nil ?_))))
  exact d_get2 hu I3 g ry rz fun w' s4 I4 rw' => ⟨_, H3, I4, rw', q3⟩
end

/-! ### dict(d): a copy -/
section
variable {X : Cx} {pins : List (Addr × Obj)} {σ : St} {H : Hp} {s : Shared} {a : Addr} {kvs : List (Key × V)} {A : Around} {E : Value → Shared → Prop}
end


section
variable {X : Cx} {pins : List (Addr × Obj)} {σ : St} {H : Hp} {s : Shared} {a : Addr} {y : V} {u : Value} {A : Around} {E : Value → Shared → Prop}
end
end L2


namespace Att
open PySem PySem.W PySem.Calls PyProof.Rows

/-! ### the script -/
theorem ints_of_wellAll {P : Params} {h : Heap} : ∀ (ns : List Int) (vs : List Value), WellAll P h vs (ns.map WData.int) → IntsAre vs ns := by
  intro ns
  induction ns with
  | nil =>
    intro vs w
    rw [List.map_nil] at w
    cases w
    exact .nil
  | cons n ns ih =>
    intro vs w
    rw [List.map_cons] at w
    cases w with
    | cons a b =>
      cases a
      exact .cons _ _ (ih _ b)

theorem script_of {l : OpenLaw} {n : Nat} (hn : l.most = some n) {P : Params} {h : Heap} {args : List WData} {vals : List Value}
    (hpre : l.row.toRowW.claim.pre args = true) (hwl : WellAll P h vals args) :
    ∃ a vs ns, vals = [Value.ref a] ∧ args = [WData.list (ns.map WData.int)] ∧ h.get? a = some { cls := .type "list", data := .seq vs.toArray } ∧ IntsAre vs ns ∧ ns.length ≤ n := by
  have hsh : WShape.hasAll [] args [.list .int] = true := (pre_splitW hpre).1
  have hc : l.pre.holds [] { args := args } = true := (pre_splitW hpre).2
  obtain ⟨d, r, rfl, h1, h2⟩ := hasAllW_cons hsh
  obtain rfl := hasAllW_nil h2
  obtain ⟨xs, rfl, h3⟩ := hasW_list h1
  obtain ⟨ns, rfl⟩ := items_int h3
  have hlen : ns.length ≤ n := by
    unfold OpenLaw.pre at hc
    have h4 : (WTm.not (.lt (.lit (.int (n : Int))) (.len (.arg 0)))).holds [] { args := [.list (ns.map .int)] } = true := by
      have h4 := (holds_andW hc).1
      rw [hn] at h4
      exact h4
    have h5 := condW_of h4 (w_not (w_lt w_lit (w_len_list (w_arg rfl))))
    rw [List.length_map] at h5
    refine Nat.le_of_not_lt fun q => ?_
    have q' : (n : Int) < ((ns.length : Nat) : Int) := by omega
    first
      | (rw [decide_eq_true q'] at h5; exact absurd h5 (by decide))
      | (simp at h5; omega)
  cases hwl with
  | cons w1 w2 =>
    cases w2
    cases w1 with
    | list ho hall => exact ⟨_, _, ns, rfl, rfl, ho, ints_of_wellAll ns _ hall, hlen⟩

theorem post_true (l : OpenLaw) (args : List WData) : l.row.toRowW.claim.post args (.bool true) args = true :=
  postW_of (r := l.row.toRowW) (X := (true == true))
    (show WShape.has [] (.bool true) .bool = true by first | rfl | decide | simp [WShape.has, WShape.arms, WShape.armsAll])
    (show (WTm.eq .res (.lit (.bool true))).value [] { args := args, res := some (.bool true), after := args } = some (.bool (true == true)) from w_eq_bool (w_res rfl) w_lit) rfl

/-! ### the attachment: holds_open's last premise (the goal 'hc' behind k_head) from a wpAny of the law's body -/

/-- the same from a codeAny of the CALL (for a layer whose function contracts speak of calls) -/
theorem attach_call {l : OpenLaw} {n : Nat} {q : Program} {loose : List Str} {XP : (Str → Option Value) → Heap → Prop} {YP : World → Heap → Prop} {d : DefRec}
    (hn : l.most = some n) (hdf : d.params.defaults = [])
    (call : ∀ (w : World) (s₀ s₁ : Shared) (mg mb : Str → Option Value) (fa : Addr) (o : Obj) (pm cd doc : Value) (a : Addr) (vs : List Value) (ns : List Int),
      Ground q loose [] XP w s₀ mg mb s₁.heap → YP w s₁.heap →
      s₁.heap.get? fa = some o → o.data = .func (docDef d.name d.params d.body d.scope pm cd doc) → s₁.heap.CodeRec cd d.name → mg d.name = some (.ref fa) →
      s₁.heap.get? a = some { cls := .type "list", data := .seq vs.toArray } → IntsAre vs ns → ns.length ≤ n → s₁.gens = #[] →
      codeAny (model l.prog w) callerA (.call (.ref fa) ⟨[.ref a], []⟩) (fun r s' => r = .ok (.ret (.bool true)) ∧ OldK s₁.heap s'.heap ∧ s'.os = s₁.os ∧ AllBare s'.gens) s₁) :
    WalkO q loose XP YP l.row.toRowW d [] (fun f vs => PySem.call f vs) := by
  intro w s₀ s₁ mg mb G Y fa o pm cd doc dV kV ho hd hcd hD hmg hg args vals as hpre hlay hrd hwl hlo
  obtain rfl : dV = .none := Dflts.none hD hdf
  obtain rfl : kV = .none := Dflts.noKw hD
  obtain ⟨a, vs, ns, rfl, rfl, hobj, hints, hlen⟩ := script_of hn hpre hwl
  refine enter_call (codeAny_mono (call w s₀ s₁ mg mb fa o pm cd doc a vs ns G Y ho (fd_plain hd) hcd hmg hobj hints hlen hg) fun r s' hq => ?_)
  obtain ⟨rfl, h2, h3, h4⟩ := hq
  exact ⟨.inl ⟨.bool true, .bool true, [], rfl, fun _ => rfl, .bool true, post_true l _, fun _ => ⟨List.Pairwise.nil, fun _ hm => (nomatch hm)⟩⟩, h2, h3, h4⟩


/-! ### rules over ANY heap (no ledger) from facts about the written part K: the library's own take a ledger (News) for what they write -/
section
variable {prog : Program} {w : World} {A : Around} {E : Value → Shared → Prop} {s : Shared} {K : Frag}

/-- a def of the module, or a method (qual 'C.m'), entered: the frame is the next address; cells behind it -/
theorem call_fn {R : Result → Shared → Prop} {name qual : Str} {params : Arguments} {body : List Stmt} {scope : Scope} {dV kV doc pm cdv ct oc : Value} {an od : Option Addr} {osl : Array (Option Value)} {f : Addr} {args : Args} {binds : List (Str × Value)}
    (X : K.In s.heap) (hlim : s.heap.NoLimit) (ho : K.lookup f = some ⟨oc, od, .func (fnOf name qual params body scope dV kV doc pm an cdv ct), osl⟩) (hcd : codeIn K cdv qual = true) (hroom : A.depth < recursionLimit)
    (hbind : BindsTo s (fnOf name qual params body scope dV kV doc pm an cdv ct) args binds)
    (hkind : (binds.all fun y => scope.names.lookup y.1 == some .local || scope.names.lookup y.1 == some .cell) = true)
    (h : ∀ s₁, InCallC s s.heap.objs.size (bindL (envOfC qual scope s.heap.objs.size f cdv).kindOf binds fun _ => none) (cellsFrom (s.heap.objs.size + 1) scope.names [])
        (bindC (envOfC qual scope s.heap.objs.size f cdv).kindOf binds fun _ => none) s₁ →
      wpAny (model prog w) (A.deeper (envOfC qual scope s.heap.objs.size f cdv)) (execs body (envOfC qual scope s.heap.objs.size f cdv))
        (fun fl s' => R (.ok (.ret (match fl with | .ret v => v | _ => .none))) s')
        (fun e s' => wpAny (model prog w) (A.deeper (envOfC qual scope s.heap.objs.size f cdv)) (leaving (envOfC qual scope s.heap.objs.size f cdv) e) (fun _ s'' => R (.error e) s'') (fun e' s'' => R (.error e') s'') s') s₁)
    (hco : scope.isCoroutine = false) (hgen : scope.isGenerator = false) (hk : scope.kind = .function) : codeAny (model prog w) A (.call (.ref f) args) R s := by
  refine codeAny_call_function hroom (X _ _ ho) rfl hco hgen rfl (codeRec_of X hcd) (hbind _ _ _ _ ?_)
  refine wpAny_newFunctionEnv_cells hk (kindsX hkind _) fun env he s₁ x => ?_
  subst he
  exact ⟨hlim.keeps x.toInCall.keep, codeAny_func (h s₁ x)⟩

/-- C(..): dict at size, instance at size + 1, then __init__ -/
theorem make_obj {R : Result → Shared → Prop} {C fI : Addr} {rest : List Value} {kw : List (Str × Value)}
    (X : K.In s.heap) (hm : makesIn K C = true) (hi : findIn K (.ref C) "__init__" = some (some (.ref fI))) (hf : isFn K (.ref fI) = true)
    (h : codeAny (model prog w) (A.under (.builtin "type.__call__" ⟨.ref C :: rest, kw⟩)) (.call (.ref fI) ⟨.ref (s.heap.objs.size + 1) :: rest, kw⟩) (InitBack (s.heap.objs.size + 1) R)
      { s with heap := (s.heap.push emptyDict).push (instObj C s.heap.objs.size) }) : codeAny (model prog w) A (.call (.ref C) ⟨rest, kw⟩) R s := by
  obtain ⟨hh, g, d, t, os⟩ := s
  exact make_core (makes_of X hm) (looks_findIn X hi) (fun self => bind_fn X self (beq_iff_eq.mp hf)) (.inl rfl) h

/-- x.name where the instance's dict holds the name and the class does not -/
theorem get_field {x C : Addr} {ox : Obj} {es : List DictEntry} {n : Nat} {name : Str} {expr : Bool} {v : Value} {Q : Value → Shared → Prop}
    (X : K.In s.heap) (I : PySem.W.InstAt s.heap x ox C (some (dictOf es n))) (hg : plainGet K C name = true) (hh : hasDictIn K C = true) (ha : findIn K (.ref C) name = some none)
    (hl : getL name es = some (some v)) (hv : handedIn v = true) (h : Q v { s with toks := s.toks + 1 }) : wpAny (model prog w) A (getAttr (.ref x) name expr) Q E s :=
  get_value X I (plainGet_of hg).1 (findObj_own hh ha rfl hl) hv h


/-! the whole heap as the ledger: makes every rule that writes through a ledger a rule over any heap -/

end
end Att

namespace L2
open PySem PySem.Spec PyProof.Rows

theorem vals_ints : ∀ {vs : List Value} {ns : List Int}, IntsAre vs ns → Vals (ns.map V.int) vs
  | _, _, .nil => .nil
  | _, _, .cons n t h => .cons ⟨t, rfl⟩ (vals_ints h)

/-- nothing is tracked but the script, known to the object (or it is an object of the module) -/
def Only (H : Hp) : Prop := ∀ b, H b = none ∨ ∃ o xs, H b = some (.frz o (.lst xs))

/-- THE HEAD: the law's promise, at the heap behind the top. F, the promise of the law's def, may use that base is part of the heap (so K.In base, base.Ns mainGlobals mg stand in Mod) -/
theorem law_call {P : Program} {w : World} {K : PySem.W.Frag} {mg mb : Str → Option Value} {CX : CXT} {k : Nat} {fa a : Addr} {fd : FuncData} {x : Str} {sp : Sp} {s₁ : Shared} {vs : List Value} {ns : List Int}
    (KX : K.In s₁.heap) (hns : s₁.heap.Ns mainGlobals mg) (hb : s₁.heap.Ns builtinsNs mb) (hbb : ∀ x : Str, x ≠ "__name__" → mb x = bootBuiltins x) (hlim : s₁.heap.NoLimit) (hg : s₁.gens = #[])
    (ha : s₁.heap.get? a = some { cls := .type "list", data := .seq vs.toArray }) (hi : IntsAre vs ns) (hl : ns.length ≤ sizeLine) (hr : Room k callerA)
    (F : ∀ base : Heap, K.In base → base.Ns mainGlobals mg → FnOk P w K mg base CX k fa fd [x] sp) (hbind : ∀ (s : Shared) (u : Value), BindsTo s fd ⟨[u], []⟩ [(x, u)])
    (hsp : ∀ H : Hp, Only H → SqL K H a (ns.map V.int) → sp [.ref a] H (fun v _ => v = .bl true) fun _ _ _ => False)
    (hCX : ∀ H e s', CX [] H s₁ (fun _ _ _ => False) e s' → False) :
    codeAny (model P w) callerA (.call (.ref fa) ⟨[.ref a], []⟩) (fun r s' => r = .ok (.ret (.bool true)) ∧ OldK s₁.heap s'.heap ∧ s'.os = s₁.os ∧ AllBare s'.gens) s₁ := by
  have rv := vals_ints hi
  have lenV := hi.length
  -- from an abstract heap in which nothing but the script may be tracked
  have core : ∀ H : Hp, Only H → SqL K H a (ns.map V.int) → HOk P w H s₁.heap → (∀ b, H b ≠ none → b = a) → (H a ≠ none → K.lookup a = none) →
      codeAny (model P w) callerA (.call (.ref fa) ⟨[.ref a], []⟩) (fun r s' => r = .ok (.ret (.bool true)) ∧ OldK s₁.heap s'.heap ∧ s'.os = s₁.os ∧ AllBare s'.gens) s₁ := by
    intro H hO hS hok hA hK
    have base_of : ∀ {b : Addr} {o : Obj}, s₁.heap.get? b = some o → H b = none → (hidT s₁.heap H).get? b = some o := fun e n => hidT_get e n
    have noA : ∀ {b : Addr} {o : Obj} {es : Array DictEntry} {ep : Nat}, s₁.heap.get? b = some o → o.data = .dict es ep → H b = none := fun {b o es ep} e d => by
      cases q : H b with
      | none => rfl
      | some u =>
        have e' : b = a := hA b (by rw [q]; simp)
        subst e'
        rw [ha] at e; cases e
        have d' : Data.seq vs.toArray _ = Data.dict es ep := d
        cases d'
    have nsK : ∀ {b : Addr} {m : Str → Option Value}, s₁.heap.Ns b m → (hidT s₁.heap H).Ns b m := fun {b m} ⟨o, es, ep, e, d, r⟩ => ⟨o, es, ep, base_of e (noA e d), d, r⟩
    have hKb : K.In (hidT s₁.heap H) := fun b o e => base_of (KX b o e) (by
      cases q : H b with
      | none => rfl
      | some u =>
        have e' : b = a := hA b (by rw [q]; simp)
        subst e'
        rw [hK (by rw [q]; simp)] at e; cases e)
    have hM : Mod K mg (hidT s₁.heap H) := ⟨hKb, nsK hns, ⟨mb, nsK hb, hbb⟩, let ⟨mc, h1, h2⟩ := hlim; ⟨mc, nsK h1, h2⟩⟩
    have e0 : Env0 P w K mg (hidT s₁.heap H) callerA [] s₁ H := ⟨rfl, hM, fun b o e => of_hidT e, Nat.le_of_eq (hidT_size _ _), trivial, fun b hb => absurd (show b ∈ ([] : List Addr) from hb) (by simp), hok, .of_eq hg⟩
    refine codeAny_mono ((F _ hKb (nsK hns)).run callerA [] s₁ H ⟨[.ref a], []⟩ [.ref a] [.ref a] _ _ hr e0 (hbind s₁ (.ref a)) (.cons rfl .nil) (hsp H hO hS)) fun r s' h => ?_
    cases r with
    | error e => exact (hCX H e s' h).elim
    | ok fl =>
      cases fl with
      | next => exact False.elim h
      | brk => exact False.elim h
      | cont => exact False.elim h
      | ret u =>
        obtain ⟨v, H', os, bare, un, hok', r', q⟩ := h
        have q' : v = .bl true := q
        subst q'
        obtain rfl : u = Value.bool true := r'
        refine ⟨rfl, OldK.of_keep fun b o e => ?_, os, bare⟩
        cases q : H b with
        | none => exact un.keep b o e q (by intro z; exact absurd (show b ∈ ([] : List Addr) from z) (by simp)) (by simp)
        | some u =>
          rcases hO b with z | ⟨ob, xs, z⟩
          · rw [q] at z; cases z
          · have z2 := un.frzs b ob _ z
            obtain ⟨e1, _⟩ := hok b _ z
            obtain ⟨e2, _⟩ := hok' b _ z2
            rw [e] at e1; cases e1
            exact e2
  cases hk : K.lookup a with
  | some o =>
    -- the script is one of the module's own objects
    have e := KX a o hk
    rw [ha] at e
    cases e
    refine core (fun _ => none) (fun _ => .inl rfl) (.inr ⟨_, vs.toArray, _, hk, rfl, rfl, rfl, by rw [List.size_toArray, lenV]; exact hl, by simpa using rv⟩) (fun b u z => by have z' : (none : Option HO) = some u := z; cases z') (fun b z => absurd rfl z) fun z => absurd rfl z
  | none =>
    refine core (fun b => if b = a then some (.frz { cls := .type "list", data := .seq vs.toArray } (.lst (ns.map V.int))) else none) (fun b => ?_) (.inl (.inr ⟨{ cls := .type "list", data := .seq vs.toArray }, if_pos rfl⟩)) (fun b u z => ?_) (fun b z => ?_) fun _ => hk
    · by_cases hb : b = a
      · exact .inr ⟨_, _, if_pos hb⟩
      · exact .inl (if_neg hb)
    · by_cases hb : b = a
      · have z' := (if_pos hb).symm.trans z
        cases z'
        subst hb
        exact ⟨ha, by rw [List.length_map]; exact hl, vs, _, rv, ha⟩
      · have z' := (if_neg hb).symm.trans z
        cases z'
    · by_cases hb : b = a
      · exact hb
      · exact absurd (if_neg hb) z
end L2

namespace L2
open PySem PySem.Spec PyProof.Rows

abbrev KOf {K : PySem.W.Frag} {h : Heap} (_ : K.In h) : PySem.W.Frag := K

/-- the goal that k_head leaves (case hc), from the law's promise. F gives the function object fd (K's own) once, then the promise over every base -/
theorem walk_of {l : PySem.W.OpenLaw} {n k : Nat} {q : Program} {loose : List Str} {XP : (Str → Option Value) → Heap → Prop} {YP : World → Heap → Prop} {d : DefRec} {K : Params → PySem.W.Frag} {CX : World → CXT} {sp : World → Sp} {x : Str}
    (hn : l.most = some n) (hn2 : n ≤ sizeLine) (hdf : d.params.defaults = []) (hr : Room k callerA)
    (hY : ∀ (w : World) (h : Heap), YP w h → (K w.params).In h)
    (F : ∀ (w : World) (mg : Str → Option Value) (fa : Addr) (h : Heap), (K w.params).In h → h.Ns mainGlobals mg → mg d.name = some (.ref fa) →
      ∃ fd : FuncData, (∀ (s : Shared) (u : Value), BindsTo s fd ⟨[u], []⟩ [(x, u)]) ∧
        ∀ base : Heap, (K w.params).In base → base.Ns mainGlobals mg → FnOk l.prog w (K w.params) mg base (CX w) k fa fd [x] (sp w))
    (hsp : ∀ (w : World) (H : Hp) (a : Addr) (ns : List Int), ns.length ≤ n → Only H → SqL (K w.params) H a (ns.map V.int) → sp w [.ref a] H (fun v _ => v = .bl true) fun _ _ _ => False)
    (hCX : ∀ (w : World) (H : Hp) (s : Shared) (e : Value) (s' : Shared), CX w [] H s (fun _ _ _ => False) e s' → False) :
    PySem.W.WalkO q loose XP YP l.row.toRowW d [] (fun f vs => PySem.call f vs) := by
  refine Att.attach_call hn hdf fun w s₀ s₁ mg mb fa o pm cd doc a vs ns G Y ho hd hcd hmg hobj hints hlen hg => ?_
  have KX := hY w _ Y
  obtain ⟨fd, hb, hF⟩ := F w mg fa _ KX G.T.g hmg
  exact law_call KX G.T.g G.T.b G.T.builtins G.T.nolimit hg hobj hints (Nat.le_trans hlen hn2) hr hF hb (fun H hO hS => hsp w H a ns hlen hO hS) fun H e s' => hCX w H s₁ e s'
end L2

/- THE LAST THEOREM (shape; LID, My.* are yours):
   My.Adr: a structure of the addresses that your layer names (classes, functions); My.Txt K t: a structure (Prop) of the equations over K;
   My.txt_mk : {K} {implicit addresses ..} (e1 : nsIn K mainGlobals "law" = some (some (.ref f))) (e2 : K.lookup f = some ⟨oc, od, .func (fnOf "law" "law" params body scope dV kV doc pm an cdv ct), sl⟩) (e3 : codeIn K cdv "law" = true) .. : ∃ t, My.Txt K t

set_option maxRecDepth 100000 in
set_option maxHeartbeats 0 in
theorem PySem.Challenge.cw_LID_holds : PySem.Challenge.rw_LID.Holds := by
  w_on; o_law; k_head; (case hw => w_witness2)
  k_fill
  refine L2.walk_of (l := PySem.Challenge.rw_LID) (n := 63) (k := 40) (x := "script") (CX := fun w => ..) (sp := fun _ => My.sp_law) rfl (by decide) rfl ⟨rfl, by decide, by decide⟩ (fun w h Y => PySem.W.kIn_of Y) ?F ?S ?C
  case F =>
    intro w mg fa h KX G hmg
    have T : ∃ t, My.Txt (L2.KOf KX) t := by
      dsimp only [L2.KOf]                          -- K must stand as «<heap const> w.params» for k_is
      refine' My.txt_mk ?e1 ?e2 ?e3 ..
      (case e1 => PySem.W.k_is)                    -- in the order: a name -> its address -> its object -> its parts
      (case e2 => PySem.W.k_is)
      ..
    obtain ⟨t, T⟩ := T
    have e0 := hmg.symm.trans (PySem.W.mg_of KX G T.law)
    cases e0                                       -- fa is the law's own address
    exact ⟨_, fun s u => .of_eq rfl, fun base kb nb => My.law_fn T kb nb⟩     -- if «.of_eq rfl» comes too early: refine' ⟨_, ?b, fun base kb nb => My.law_fn T kb nb⟩; exact fun s u => .of_eq rfl
  case S => exact fun w H a ns hl hO hS => ..
  case C => exact ..
(the tactic k_is has no namespace: write k_is) -/

/-! SHORT WORDS over the layer: a def of the text, its body, what a loop and a test want. -/
namespace L2
open PySem PySem.Spec PyProof.Rows

/-! ### the text by places -/
def defArgs (s : Stmt) : Arguments := match s with
  | .FunctionDef _ a _ _ _ _ _ _ _ _ => a
  | _ => { posonlyargs := [], args := [], vararg := none, kwonlyargs := [], kw_defaults := [], kwarg := none, defaults := [] }
def defBody (s : Stmt) : List Stmt := match s with
  | .FunctionDef _ _ b _ _ _ _ _ _ _ => b
  | _ => []
def defScope (s : Stmt) : Scope := match s with
  | .FunctionDef _ _ _ _ _ _ sc _ _ _ => sc
  | _ => { kind := .function, names := [], isGenerator := false, isCoroutine := false }

/-! ### no exception leaves a def -/
abbrev CX0 : CXT := fun _ _ _ _ _ _ => False
abbrev E0 : XK := fun _ _ _ => False
theorem pass0 {X : Cx} : Passes CX0 X E0 := fun _ _ _ _ _ _ _ h => h.elim

/-! ### a def (or method) of the text as it stands behind the top -/
structure Fun (K : PySem.W.Frag) (x qual : Str) (st : Stmt) (f : Addr) (fd : FuncData) : Prop where
  ex : ∃ (oc : Value) (od : Option Addr) (kV doc pm : Value) (an : Option Addr) (cdv ct : Value) (osl : Array (Option Value)),
    fd = PySem.W.fnOf x qual (defArgs st) (defBody st) (defScope st) .none kV doc pm an cdv ct ∧ K.lookup f = some ⟨oc, od, .func fd, osl⟩ ∧ PySem.W.codeIn K cdv qual = true
  kp : PySem.W.keepIn K (.ref f) = true
section
variable {P : Program} {w : World} {K : PySem.W.Frag} {mg : Str → Option Value} {base : Heap}
/-- THE RULE for a def: its body as a term of rules, and the reading of that term -/
theorem Fun.ok {x qual : Str} {st : Stmt} {f : Addr} {fd : FuncData} {N ps : List Str} {k : Nat} {sp : Sp} (F : Fun K x qual st f fd) (S : FnScope N ps (defScope st)) (len : ∀ vs H Q E, sp vs H Q E → vs.length = ps.length)
    (hbody : ∀ (cdv : Value) (A : Around) (outer : List Env) (s : Shared) (H : Hp) (vs : List V) (Q : VK) (E : XK), Room k (A.deeper (envOfC qual (defScope st) s.heap.objs.size f cdv)) → sp vs H Q E →
      ∃ t, PSs (cxOf CX0 P w K mg base N qual (defScope st) f cdv A outer s H E).nox (defBody st) t ∧ t { nx := fun _ H' => Q .non H', rt := Q } (start N vs) H) : FnOk P w K mg base CX0 (k + 1) f fd ps sp := by
  obtain ⟨oc, od, kV, doc, pm, an, cdv, ct, osl, rfl, lk, hcd⟩ := F.ex
  refine fn_of lk hcd S len fun A outer s H vs Q E hr hsp => ?_
  obtain ⟨t, h, q⟩ := hbody cdv A outer s H vs Q E hr hsp
  exact ⟨t, h.nox, q⟩
/-- how its arguments bind (no defaults): h is «fun _ _ _ _ _ _ us hl => match us, hl with | [_, _], _ => rfl», one _ a parameter -/
theorem Fun.binds {x qual : Str} {st : Stmt} {f : Addr} {fd : FuncData} {ps : List Str} (F : Fun K x qual st f fd)
    (h : ∀ (kV doc pm : Value) (an : Option Addr) (cdv ct : Value) (us : List Value), us.length = ps.length → bindArgs (PySem.W.fnOf x qual (defArgs st) (defBody st) (defScope st) .none kV doc pm an cdv ct) ⟨us, []⟩ = pure (ps.zip us)) : Binds K fd ps [] := by
  obtain ⟨oc, od, kV, doc, pm, an, cdv, ct, osl, rfl, lk, hcd⟩ := F.ex
  exact .all (h kV doc pm an cdv ct)
theorem fun_mk {x qual : Str} {st : Stmt} {f : Addr} {oc : Value} {od an : Option Addr} {osl : Array (Option Value)} {kV doc pm cdv ct : Value} (l : K.lookup f = some ⟨oc, od, .func (PySem.W.fnOf x qual (defArgs st) (defBody st) (defScope st) .none kV doc pm an cdv ct), osl⟩)
    (c : PySem.W.codeIn K cdv qual = true) (k : PySem.W.keepIn K (.ref f) = true) : Fun K x qual st f (PySem.W.fnOf x qual (defArgs st) (defBody st) (defScope st) .none kV doc pm an cdv ct) := ⟨⟨oc, od, kV, doc, pm, an, cdv, ct, osl, rfl, l, c⟩, k⟩
end
theorem hu_of {A : Around} {k : Nat} (hr : Room k A) : A.units + 1 < cLine := Nat.lt_of_le_of_lt (Nat.add_le_add_left (by decide : 1 ≤ 64) _) hr.units
theorem small1000 {n : Nat} (h : n ≤ 1000) : n < sizeLine := Nat.lt_of_le_of_lt h (by decide)

/-! ### expressions in short: the name that stands in the i-th slot -/
section
variable {X : Cx}
theorem pv (i : Nat) {x : Str} {pos : Pos} (hN : X.N[i]? = some x := by rfl) (hv : Vis X.env.scope x := by first | exact Or.inl rfl | exact Or.inr (Or.inl rfl) | exact Or.inr (Or.inr rfl)) (hd : (x == ("__debug__" : Str)) = false := by decide)
    (hcd : (x == ("__classdict__" : Str)) = false := by decide) : PE X (.Name x pos) (tVar i) := pe_var hN hv hd hcd
end

/-! ### tests -/
theorem iteF {A B : Prop} (h : B) : if false = true then A else B := by
  rw [if_neg Bool.false_ne_true]
  exact h
theorem iteT {A B : Prop} (h : A) : if true = true then A else B := by
  rw [if_pos rfl]
  exact h
theorem ite2 {c A B : Prop} [Decidable c] (h1 : c → A) (h2 : ¬ c → B) : if c then A else B := by
  by_cases h : c
  · rw [if_pos h]
    exact h1 h
  · rw [if_neg h]
    exact h2 h

/-! ### heaps -/
/-- all that was tracked is as it was -/
def Same (H H' : Hp) : Prop := ∀ b o, H b = some o → H' b = some o
theorem Same.refl (H : Hp) : Same H H := fun _ _ h => h
theorem Same.trans {H H1 H2 : Hp} (a : Same H H1) (b : Same H1 H2) : Same H H2 := fun c o h => b c o (a c o h)
theorem Same.free {H H' : Hp} (e : Same H H') {l : Addr} (h : H' l = Option.none) : H l = Option.none := by
  cases q : H l with
  | none => rfl
  | some o =>
    rw [e l o q] at h
    cases h
theorem Same.seq {K : PySem.W.Frag} {H H' : Hp} {a : Addr} {xs : List V} (e : Same H H') (h : SqL K H a xs) : SqL K H' a xs := by
  rcases h with (h | ⟨o, h⟩) | h
  · exact .inl (.inl (e _ _ h))
  · exact .inl (.inr ⟨o, e _ _ h⟩)
  · exact .inr h

/-! ### a dict's pairs: keys that differ -/
section
variable {κ : Type} [DecidableEq κ]
theorem valV_in {kvs : List (κ × V)} {k : κ} {v : V} (h : valV kvs k = some v) : k ∈ kvs.map (·.1) := by
  have q : (kvs.any fun kv => decide (kv.1 = k)) = true := by
    rw [valV_any, h]
    all_goals rfl
  obtain ⟨p, hp, e⟩ := List.any_eq_true.mp q
  exact List.mem_map.mpr ⟨p, hp, of_decide_eq_true e⟩
end
end L2

namespace L2
open PySem PySem.Spec PyProof.Rows

/-! ### comprehensions -/
section
variable {prog : Program} {w : World} {A : Around} {R : Result → Shared → Prop} {s : Shared}
theorem compLoop_own {elt target iter : Expr} {ifs : List Expr} {scope : Scope} {pos : Pos} {it acc : Value} {env : Env} (I : Nat → Shared → Prop)
    (turn : ∀ n s, I n s → wpAny (model prog w) A (pyNext it) (fun r s1 => match r with
      | none => R (.ok .next) s1
      | some v => wpAny (model prog w) A (letOwnedTupleGo target it v) (fun _ s1' => wpAny (model prog w) A (assign target env v) (fun _ s2 =>
          wpAny (model prog w) A (forIn ifs true fun c r => if r = true then do let ok ← isTrue c env (eval c env); pure (ForInStep.yield ok) else pure (ForInStep.yield r)) (fun ok s3 =>
            if ok = true then wpAny (model prog w) A (eval elt env) (fun x s4 =>
              wpAny (model prog w) A (call (.builtin "list.append") [acc, x]) (fun _ s5 => ∃ m, m < n ∧ I m s5) (fun _ _ => False) s4) (fun _ _ => False) s3
            else ∃ m, m < n ∧ I m s3) (fun _ _ => False) s2) (fun _ _ => False) s1') (fun _ _ => False) s1) (fun _ _ => False) s)
    (n : Nat) (h : I n s) :
    codeAny (model prog w) A (.compLoop (.ListComp elt [⟨target, iter, ifs, 0⟩] scope pos) 0 it acc env) R s := by
  refine codeAny_loop rfl I (fun n s hI => ?_) n h
  show wpAny _ A ((compTurn (.ListComp elt [⟨target, iter, ifs, 0⟩] scope pos) 0 it acc env).onRaise (fun x => do noteFrame x env; theTreesLotGoes x)) _ _ s
  refine wpAny_noted ?_
  rw [compTurn_list]
  refine wpAny_bind (wpAny_standAt (wpAny_bind (wpAny_mono (turn n s hI) (fun r s1 h1 => ?_) fun _ _ h' => h'.elim)))
  cases r with
  | none => exact wpAny_pure h1
  | some v =>
    refine wpAny_bind (wpAny_mono h1 (fun _ s1' h1' => ?_) fun _ _ h' => h'.elim)
    refine wpAny_bind (wpAny_mono h1' (fun _ s2 h2 => wpAny_bind (wpAny_mono h2 (fun ok s3 h3 => ?_) fun _ _ h' => h'.elim)) fun _ _ h' => h'.elim)
    cases ok with
    | false => exact wpAny_pure ⟨rfl, h3⟩
    | true =>
      exact wpAny_bind (wpAny_bind (wpAny_mono h3 (fun x s4 h4 => wpAny_bind (wpAny_mono h4 (fun _ s5 h5 => wpAny_pure (wpAny_pure ⟨rfl, h5⟩)) fun _ _ h' => h'.elim)) fun _ _ h' => h'.elim))
end

/-- the tests of a comprehension's clause -/
def PTs (X : Cx) (ifs : List Expr) (t : TT) : Prop :=
  ∀ (pins : List (Addr × Obj)) (s : Shared) (σ : St) (H : Hp) (Q : Bool → Hp → Prop), Inv X pins σ H s → t σ H Q →
    wpAny (model X.prog X.w) X.A (forIn ifs true fun c r => if r = true then do let ok ← isTrue c X.env (eval c X.env); pure (ForInStep.yield ok) else pure (ForInStep.yield r)) (TP X pins σ Q) X.xe s
def tYes : TT := fun _ H Q => Q true H
theorem pts_nil {X : Cx} : PTs X [] tYes := fun _ _ _ H _ I h => wpAny_tests_nil ⟨H, I, h⟩

/-- a target keeps the slots from n on -/
def GKeeps (n : Nat) (g : TG) : Prop := ∀ v σ H Q, g v σ H Q → g v σ H (fun σ' H' => Q σ' H' ∧ σ'.length = σ.length ∧ ∀ k : Nat, n ≤ k → σ'[k]? = σ[k]?)
theorem gk_name {n i : Nat} (h : i < n) : GKeeps n (gName i) := fun v σ H Q q => ⟨q, by simp, fun k hk => by rw [List.getElem?_set_ne (by omega)]⟩

def ClOk (cells : List (Str × Addr)) : List (Str × Addr) → Prop
  | [] => True
  | p :: r => cells.lookup p.1 = some p.2 ∧ ClOk cells r
theorem ClOk.look {cells : List (Str × Addr)} : ∀ {cl : List (Str × Addr)}, ClOk cells cl → ∀ x c, cl.lookup x = some c → cells.lookup x = some c
  | [], _, x, c, h => by simp at h
  | (y, d) :: r, ⟨h1, h2⟩, x, c, h => by
    rw [List.lookup_cons] at h
    cases e : x == y with
    | true =>
      rw [e] at h
      have e' : x = y := by simpa using e
      subst e'
      cases h
      exact h1
    | false =>
      rw [e] at h
      exact ClOk.look h2 x c h
def hasC (cl : List (Str × Addr)) (names : List (Str × NameKind)) : Bool := names.all fun p => (p.2 != .cell && p.2 != .free) || (cl.lookup p.1).isSome
theorem hasC.look {cl : List (Str × Addr)} {names : List (Str × NameKind)} (h : hasC cl names = true) {x : Str} (hx : names.lookup x = some .cell ∨ names.lookup x = some .free) : ∃ c, cl.lookup x = some c := by
  unfold hasC at h
  rw [List.all_eq_true] at h
  have aux : ∀ k, names.lookup x = some k → (k = .cell ∨ k = .free) → ∃ c, cl.lookup x = some c := fun k e hk => by
    have q := h (x, k) (PySem.mem_of_lookup e)
    rcases hk with hk | hk
    · subst hk
      exact Option.isSome_iff_exists.mp (by simpa only [bne_self_eq_false, Bool.false_and, Bool.false_or] using q)
    · subst hk
      exact Option.isSome_iff_exists.mp (by simpa only [bne_self_eq_false, Bool.and_false, Bool.false_or] using q)
  rcases hx with hx | hx
  · exact aux _ hx (.inl rfl)
  · exact aux _ hx (.inr rfl)

/-- the block's context: made at C, over the iterator's records fp -/
def cxC (X : Cx) (scope : Scope) (cl : List (Str × Addr)) (NB : List Str) (C : Addr) (fp : List Addr) (s3 : Shared) (H3 : Hp) : Cx :=
  { X with N := NB, s₀ := s3, H₀ := H3, env := compEnvC scope cl C X.env, outer := X.stack, stack := X.stack, ex := fp, fn := fun _ => false, pn := [], xe := fun _ _ => False }

def capV (capN : List Nat) (σ : St) : St := capN.map fun k => (σ[k]?).join
def blk (n : Nat) (capN : List Nat) (σ : St) : St := List.replicate n none ++ capV capN σ

/-- what is written of the block's names -/
structure CompOk (X : Cx) (scope : Scope) (cl : List (Str × Addr)) (NB : List Str) (n : Nat) (capN : List Nat) : Prop where
  clos : closureFor scope X.env = pure cl
  cell : ∀ y ∈ scope.names, y.2 ≠ .cell
  kind : scope.kind = .function
  names : ∀ y ∈ scope.names, y.2 = .local → scope.names.lookup y.1 = some .local
  clok : ClOk X.env.cells cl
  has : hasC cl (relabel scope X.env).names = true
  len : NB.length = n + capN.length
  cap : (NB.drop n).map some = capN.map fun k => X.N[k]?
  outk : (capN.all fun k => match X.N[k]? with | some x => X.env.scope.names.lookup x == some .cell || X.env.scope.names.lookup x == some .free | none => false) = true
  ink : ((NB.drop n).all fun x => (relabel scope X.env).names.lookup x == some .cell || (relabel scope X.env).names.lookup x == some .free) = true

def tComp (wi : TI) (n : Nat) (capN : List Nat) (g : TG) (tt : TT) (te : TE) : TE := fun σ H Q => wi σ H fun J H1 => ∀ p, H1 p = none →
  ∃ W : Nat → Nat → List V → Hp → Prop, (∃ m, W 0 m [] (upd H1 p (.lst []))) ∧ ∀ i m ys H, W i m ys H → H p = some (.lst ys) ∧
    ((J.stop i H ∧ Q (.ref p) H) ∨ (J.go i H ∧ ys.length < sizeLine ∧ ∃ N : List V → Hp → Prop, (∀ ys' H', N ys' H' → ∃ m', m' < m ∧ W (i + 1) m' ys' H') ∧ ∀ x H', J.yld i H x H' → g x (blk n capN σ) H' fun σ2 H2 => tt σ2 H2 fun b H3 =>
      if b = true then te σ2 H3 fun y H4 => H4 p = some (.lst ys) ∧ N (ys ++ [y]) (upd H4 p (.lst (ys ++ [y]))) else N ys H3))

theorem capV_get {capN : List Nat} {σ : St} {j : Nat} {v : V} (h : (capV capN σ)[j]? = some (some v)) : ∃ k, capN[j]? = some k ∧ σ[k]? = some (some v) := by
  unfold capV at h
  rw [List.getElem?_map] at h
  cases e : capN[j]? with
  | none => rw [e] at h; cases h
  | some k =>
    rw [e] at h
    refine ⟨k, rfl, ?_⟩
    have h : (σ[k]?).join = some v := Option.some.inj h
    cases q : σ[k]? with
    | none => rw [q] at h; cases h
    | some o => rw [q] at h; exact congrArg some h

section
variable {X : Cx} {pins : List (Addr × Obj)} {σ : St} {H : Hp} {s : Shared} {scope : Scope} {cl : List (Str × Addr)} {NB : List Str} {n : Nat} {capN : List Nat}

/-- the block's context at its entry -/
theorem cxC_ok (I : Inv X pins σ H s) (D : CompOk X scope cl NB n capN) {fp : List Addr} (hfp : ∀ b ∈ fp, FpOk X pins H b) (hlt : ∀ b ∈ fp, b < s.heap.objs.size) :
    (cxC X scope cl NB s.heap.objs.size fp s H).Ok where
  mod := I.ok.mod
  kind := D.kind
  glob := I.ok.glob
  blt := I.ok.blt
  above := Nat.le_refl _
  inj := fun x y c h1 h2 => I.ok.inj x y c (D.clok.look x c h1) (D.clok.look y c h2)
  has := fun x hx => hasC.look D.has hx
  cab := fun x c h => by cases h
  hd := I.ok.hd
  frames := I.ok.frames
  stk := .inl rfl
  exf := fun b hb => ⟨Nat.ne_of_lt (hlt b hb), fun x c h => (hfp b hb).2.2.2.2.1 x c (D.clok.look x c h)⟩
  bs := I.bs
  bsz := Nat.le_trans I.ok.bsz I.sz
  noex := fun b o e hb => by
    rcases (hfp b hb).2.2.2.1 with z | z
    · exact I.ok.noex b o e z
    · exact absurd (Nat.lt_of_lt_of_le (Heap.lt_size e) (Nat.le_trans I.ok.bsz z)) (Nat.lt_irrefl _)
  exfs := fun b hb z => (List.mem_cons.mp (I.stkSub b z)).elim (hfp b hb).2.1 (hfp b hb).2.2.1
  funs := I.stack
  frf := I.stkFree

theorem cxC_inv (I : Inv X pins σ H s) (D : CompOk X scope cl NB n capN) {fp : List Addr} (hfp : ∀ b ∈ fp, FpOk X pins H b) (hlt : ∀ b ∈ fp, b < s.heap.objs.size) {h1 : Heap} {t1 : Nat}
    (hns : h1.Ns s.heap.objs.size (fun _ => none)) (old : ∀ b o, s.heap.get? b = some o → h1.get? b = some o) :
    Inv (cxC X scope cl NB s.heap.objs.size fp s H) [] (blk n capN σ) H { s with heap := h1, toks := t1 } := by
  have hcell : ∀ x c, cl.lookup x = some c → X.env.cells.lookup x = some c := fun x c h => D.clok.look x c h
  refine ⟨cxC_ok I D hfp hlt, rfl, I.bare, Un.kept old, ⟨_, hns, fun i x v e1 e2 e3 => ?_⟩, fun x c e => ?_, I.hok.fresh (Nat.le_refl _), fun x c e => I.freeC x c (hcell x c e), fun p hp => absurd (show p ∈ ([] : List (Addr × Obj)) from hp) (by simp), I.hok.kept old, ?_⟩
  · -- a captured name
    have e1 : NB[i]? = some x := e1
    have hi : ¬ i < n := fun hi => by
      unfold blk at e2
      rw [List.getElem?_append_left (by simpa using hi), List.getElem?_replicate, if_pos hi] at e2
      cases e2
    have hi' : n ≤ i := Nat.not_lt.mp hi
    have e2' : (capV capN σ)[i - n]? = some (some v) := by
      unfold blk at e2
      rw [List.getElem?_append_right (by simpa using hi')] at e2
      simpa using e2
    obtain ⟨k, hk, hv⟩ := capV_get e2'
    have en : (NB.drop n)[i - n]? = some x := by rw [List.getElem?_drop, show n + (i - n) = i by omega]; exact e1
    have exx : X.N[k]? = some x := by
      have q := congrArg (fun l => l[i - n]?) D.cap
      simp only [List.getElem?_map, en, hk, Option.map_some] at q
      exact (Option.some.inj q).symm
    have ik : (relabel scope X.env).names.lookup x = some .cell ∨ (relabel scope X.env).names.lookup x = some .free := by
      have q := List.all_eq_true.mp D.ink x (List.mem_of_getElem? en)
      simpa using q
    have ok : X.env.scope.names.lookup x = some .cell ∨ X.env.scope.names.lookup x = some .free := by
      have q := List.all_eq_true.mp D.outk k (List.mem_of_getElem? hk)
      rw [exx] at q
      simpa using q
    obtain ⟨m, hn, hl⟩ := I.loc
    obtain ⟨u, r, l⟩ := hl k x v exx hv (ok.elim (fun z => .inr (.inl z)) fun z => .inr (.inr z))
    obtain ⟨c, hc⟩ := hasC.look D.has ik
    have hc' := hcell x c hc
    refine ⟨u, r, .inr ⟨ik, c, hc, ?_⟩⟩
    rcases l with ⟨k1, _⟩ | ⟨_, c', ec, z⟩
    · have k1 : X.env.scope.names.lookup x = some .local := k1
      rcases ok with ok | ok <;> (rw [ok] at k1; cases k1)
    · rw [hc'] at ec
      cases ec
      obtain ⟨o, ho, hd⟩ := z
      exact ⟨o, old _ _ ho, hd⟩
  · obtain ⟨v, o, ho, hd⟩ := I.cell x c (hcell x c e)
    exact ⟨v, o, old _ _ ho, hd⟩
  · show (blk n capN σ).length = NB.length
    unfold blk capV
    rw [D.len, List.length_append, List.length_replicate, List.length_map]

/-- back in the frame, behind the block -/
theorem cxC_back (I : Inv X pins σ H s) {fp : List Addr} (hfp : ∀ b ∈ fp, FpOk X pins H b) {σ1 : St} {H1 : Hp} {s1 : Shared} {ps1 : List (Addr × Obj)}
    (J : Inv (cxC X scope cl NB s.heap.objs.size fp s H) ps1 σ1 H1 s1) : Inv X pins σ H1 s1 :=
  I.call' J.os J.base J.hok J.bare fun b hb => ⟨(hfp b hb).2.2.2.1, (hfp b hb).2.1, (hfp b hb).2.2.2.2.1, (hfp b hb).2.2.2.2.2⟩
end

section
variable {X : Cx} {pins : List (Addr × Obj)} {σ : St} {H : Hp} {s : Shared} {scope : Scope} {cl : List (Str × Addr)} {NB : List Str} {n : Nat} {capN : List Nat} {tg iter elt : Expr} {ifs : List Expr} {pos : Pos} {wi : TI} {g : TG} {tt : TT} {te : TE}

/-- the block runs: what is behind it -/
theorem comp_run (D : CompOk X scope cl NB n capN) (hc : X.calm = true) (gk : GKeeps n g)
    (hg : ∀ C fp s3 H3, PG (cxC X scope cl NB C fp s3 H3) tg g) (ht : ∀ C fp s3 H3, PTs (cxC X scope cl NB C fp s3 H3) ifs tt) (he : ∀ C fp s3 H3, PE (cxC X scope cl NB C fp s3 H3) elt te)
    {it : Addr} {fp : List Addr} {tn : Nat → Heap → Prop} {J : It} {Q : VK} {RR : Value → Addr → Result → Shared → Prop} {E : Value → Shared → Prop}
    (I : Inv X pins σ H s) (T : Turn X.prog X.w X.K tg J fp it tn) (st : tn 0 s.heap) (hf : ∀ b ∈ fp, FpOk X pins H b)
    (q : ∀ p, H p = none → ∃ W : Nat → Nat → List V → Hp → Prop, (∃ m, W 0 m [] (upd H p (.lst []))) ∧ ∀ i m ys H, W i m ys H → H p = some (.lst ys) ∧
      ((J.stop i H ∧ Q (.ref p) H) ∨ (J.go i H ∧ ys.length < sizeLine ∧ ∃ N : List V → Hp → Prop, (∀ ys' H', N ys' H' → ∃ m', m' < m ∧ W (i + 1) m' ys' H') ∧ ∀ x H', J.yld i H x H' → g x (blk n capN σ) H' fun σ2 H2 => tt σ2 H2 fun b H3 =>
        if b = true then te σ2 H3 fun y H4 => H4 p = some (.lst ys) ∧ N (ys ++ [y]) (upd H4 p (.lst (ys ++ [y]))) else N ys H3)))
    (hRR : ∀ (p C : Addr) (H1 : Hp) (s1 : Shared) (m1 : Str → Option Value), Inv X pins σ H1 s1 → s1.heap.Ns C m1 → H1 C = none → s.heap.objs.size ≤ C → Q (.ref p) H1 → RR (.ref p) C (.ok .next) s1) :
    wpAny (model X.prog X.w) X.A (newList []) (fun acc s3 => wpAny (model X.prog X.w) X.A (newFunctionEnv scope X.env.globals cl [] X.env.qual none .none (some X.env)) (fun cenv s4 =>
      codeAny (model X.prog X.w) X.A (.compStart (.ListComp elt [⟨tg, iter, ifs, 0⟩] scope pos) 0 (.ref it) acc { cenv with scope := relabel scope X.env }) (RR acc cenv.locals) s4) E s3) E s := by
  have hlt : ∀ b ∈ fp, b < s.heap.objs.size := fun b hb => by
    obtain ⟨o, e, _⟩ := T.obj 0 _ st b hb
    exact Heap.lt_size e
  refine wpAny_newObj_type ?_
  generalize hp : s.heap.objs.size = p
  have hfree : H p = none := by rw [← hp]; exact I.fresh
  obtain ⟨W, ⟨m0, w0⟩, turn⟩ := q p hfree
  have I3 : Inv X pins σ (upd H p (.lst [])) { s with heap := s.heap.push { cls := .type "list", data := .seq ([] : List Value).toArray } } := by
    rw [← hp]
    exact I.lnew (t' := s.toks) (ys := []) (its := []) .nil (Nat.zero_le _)
  generalize hs3 : ({ s with heap := s.heap.push { cls := .type "list", data := .seq ([] : List Value).toArray } } : Shared) = s3 at I3
  have hsz3 : s3.heap.objs.size = p + 1 := by rw [← hs3, ← hp]; exact Heap.size_push ..
  have old3 : ∀ b o, s.heap.get? b = some o → s3.heap.get? b = some o := fun b o e => by rw [← hs3]; exact Heap.get?_push_of_some _ e
  have fne : ∀ b ∈ fp, b ≠ p := fun b hb => by rw [← hp]; exact Nat.ne_of_lt (hlt b hb)
  have hf3 : ∀ b ∈ fp, FpOk X pins (upd H p (.lst [])) b := fun b hb => ⟨by rw [upd_ne (fne b hb)]; exact (hf b hb).1, (hf b hb).2⟩
  have hlt3 : ∀ b ∈ fp, b < s3.heap.objs.size := fun b hb => by rw [hsz3, ← hp]; exact Nat.lt_succ_of_lt (hlt b hb)
  refine wpAny_newFunctionEnv D.cell (by intro y hy; simp at hy) (fun h1 hns hsb => ?_) D.kind
  have old4 : ∀ b o, s3.heap.get? b = some o → h1.get? b = some o := fun b o e => hsb.extBut b o (Nat.ne_of_lt (Heap.lt_size e)) (Heap.get?_push_of_some _ e)
  have hns' : h1.Ns s3.heap.objs.size (fun _ => none) := by
    have e : (fun x => ([] : List (Str × Value)).reverse.lookup x) = (fun _ => none) := by funext x; rfl
    rw [← e]
    exact hns
  have J0 := cxC_inv (t1 := s3.toks + ([] : List (Str × Value)).length) I3 D hf3 hlt3 hns' old4
  have st4 : tn 0 h1 := T.keep _ _ _ st fun b hb o e => old4 b o (old3 b o e)
  have stat : ∀ {H' : Hp} {ps : List (Addr × Obj)}, ps = [] → (∀ b ∈ fp, H' b = none) → ∀ b ∈ fp, FpOk (cxC X scope cl NB s3.heap.objs.size fp s3 (upd H p (.lst []))) ps H' b := fun {H' ps} hps hn b hb => by
    have z := (cxC_ok I3 D hf3 hlt3)
    exact ⟨hn b hb, (z.exf b hb).1, z.exfs b hb, .inl hb, fun x c e => (z.exf b hb).2 x c e, fun p' hp' => by rw [hps] at hp'; exact absurd (show p' ∈ ([] : List (Addr × Obj)) from hp') (by simp)⟩
  have loop : codeAny (model X.prog X.w) X.A (.compLoop (.ListComp elt [⟨tg, iter, ifs, 0⟩] scope pos) 0 (.ref it) (.ref p) (compEnvC scope cl s3.heap.objs.size X.env)) (RR (.ref p) s3.heap.objs.size)
      { s3 with heap := h1, toks := s3.toks + ([] : List (Str × Value)).length } := by
    refine compLoop_own (fun k s' => ∃ i ys H', Inv (cxC X scope cl NB s3.heap.objs.size fp s3 (upd H p (.lst []))) [] (blk n capN σ) H' s' ∧ tn i s'.heap ∧ (∀ b ∈ fp, H' b = none) ∧ W i k ys H') ?_ m0
      ⟨0, [], _, J0, st4, fun b hb => (hf3 b hb).1, w0⟩
    rintro k s5 ⟨i, ys, H5, I5, st5, fr5, w5⟩
    obtain ⟨hacc, ways⟩ := turn i k ys H5 w5
    rcases ways with ⟨stop, qn⟩ | ⟨go, hz, N, hN, step⟩
    · refine thn (T.done (cxC X scope cl NB s3.heap.objs.size fp s3 (upd H p (.lst []))) rfl rfl rfl hc i [] s5 _ H5 (fun _ _ => False) I5 (stat rfl fr5) st5 stop) fun r s6 ⟨hr, I6⟩ => ?_
      subst hr
      obtain ⟨m6, n6, _⟩ := id I6.loc
      exact hRR p _ H5 s6 m6 (cxC_back I3 hf3 I6) n6 I6.free (by rw [hsz3, ← hp]; exact Nat.le_succ _) qn
    · refine thn (T.item (cxC X scope cl NB s3.heap.objs.size fp s3 (upd H p (.lst []))) rfl rfl rfl hc i [] s5 _ H5 (fun _ _ => False) I5 (stat rfl fr5) st5 go) fun r s6 ⟨u, hr, h6⟩ => ?_
      subst hr
      refine thn h6 fun _ s7 ⟨x, H7, I7, r7, y7, st7, fr7⟩ => ?_
      have I7' := I7.pinned (stat rfl fr7) (T.obj _ _ st7)
      refine thn (hg _ _ _ _ _ s7 _ H7 x u _ I7' r7 (gk x _ H7 _ (step x H7 y7))) fun _ s8 ⟨σ8, H8, I8, q8, hl8, hk8⟩ => ?_
      have back : ∀ {s9 : Shared} {H9 : Hp} {m' : Nat} {ys' : List V}, Inv (cxC X scope cl NB s3.heap.objs.size fp s3 (upd H p (.lst []))) ([] ++ pinsAt fp s7.heap) σ8 H9 s9 → m' < k → W (i + 1) m' ys' H9 →
          ∃ m, m < k ∧ ∃ i ys H', Inv (cxC X scope cl NB s3.heap.objs.size fp s3 (upd H p (.lst []))) [] (blk n capN σ) H' s9 ∧ tn i s9.heap ∧ (∀ b ∈ fp, H' b = none) ∧ W i m ys H' := fun {s9 H9 m' ys'} I9 hm w9 => by
        have I9' : Inv (cxC X scope cl NB s3.heap.objs.size fp s3 (upd H p (.lst []))) [] σ8 H9 s9 := I9.unpinned
        refine ⟨m', hm, i + 1, ys', H9, I9'.weak hl8.symm fun j v e => ?_, T.keep _ _ _ st7 fun b hb o e => (I9.pin (b, o) (List.mem_append_right _ (List.mem_append_right _ (mem_pinsAt hb e)))).1, fun b hb => ?_, w9⟩
        · by_cases hj : j < n
          · unfold blk at e
            rw [List.getElem?_append_left (by simpa using hj), List.getElem?_replicate, if_pos hj] at e
            cases e
          · rw [hk8 j (Nat.not_lt.mp hj)]; exact e
        · obtain ⟨o, e, d⟩ := T.obj _ _ st7 b hb
          exact (I9.pin (b, o) (List.mem_append_right _ (List.mem_append_right _ (mem_pinsAt hb e)))).2.1
      refine thn (ht _ _ _ _ _ s8 σ8 H8 _ I8 q8) fun ok s9 ⟨H9, I9, q9⟩ => ?_
      cases ok with
      | false =>
        simp only [Bool.false_eq_true, if_false] at q9 ⊢
        obtain ⟨m', hm, w9⟩ := hN _ _ q9
        exact back I9 hm w9
      | true =>
        simp only [if_true] at q9 ⊢
        refine thn (he _ _ _ _ _ s9 σ8 H9 _ I9 q9) fun y s10 ⟨v10, H10, I10, r10, a10, w10⟩ => ?_
        have z := mt_append (X := cxC X scope cl NB s3.heap.objs.size fp s3 (upd H p (.lst []))) _ s10 σ8 H10 (.ref p) [v10] (.ref p) [y] (fun _ H' => N (ys ++ [v10]) H') I10 rfl (.cons r10 .nil) ⟨p, ys, v10, rfl, rfl, a10, hz, w10⟩
        refine thn z fun _ s11 ⟨_, H11, I11, _, w11⟩ => ?_
        obtain ⟨m', hm, w11⟩ := hN _ _ w11
        exact back I11 hm w11
  show codeAny _ _ (.compStart (.ListComp elt [⟨tg, iter, ifs, 0⟩] scope pos) 0 (.ref it) (.ref p) (compEnvC scope cl s3.heap.objs.size X.env)) (RR (.ref p) s3.heap.objs.size) { s3 with heap := h1, toks := s3.toks + ([] : List (Str × Value)).length }
  exact codeAny_compStart_list loop (T.self _ 0 _ _ _ st4 loop)

/-- [elt for tg in iter if ..] -/
theorem pe_comp (D : CompOk X scope cl NB n capN) (hc : X.calm = true) (gk : GKeeps n g) (hi : PI X tg iter wi)
    (hg : ∀ C fp s3 H3, PG (cxC X scope cl NB C fp s3 H3) tg g) (ht : ∀ C fp s3 H3, PTs (cxC X scope cl NB C fp s3 H3) ifs tt) (he : ∀ C fp s3 H3, PE (cxC X scope cl NB C fp s3 H3) elt te)
    (hs : ∀ x, foldedSetIterable iter X.env x = pure x := by intro _; rfl) : PE X (.ListComp elt [⟨tg, iter, ifs, 0⟩] scope pos) (tComp wi n capN g tt te) := by
  intro pins s σ H Q I h
  rw [eval_ListComp]
  refine wpAny_comprehension_free (use := none) rfl hs D.clos D.kind D.names (thn (hi pins s σ H _ I h) fun v s1 h1 => thn h1 fun itv s2 h2 => ?_)
  obtain ⟨it, fp, tn, J, H2, e, I2, T, st2, f2, q2⟩ := h2
  subst e
  refine comp_run (RR := fun acc C => compPost (model X.prog X.w) X.A X.xe none (EP X pins σ Q) acc C) (Q := Q) D hc gk hg ht he I2 T st2 f2 q2 fun p C H1 s1 m1 J1 n1 f1 hC q1 => ?_
  refine ⟨m1, n1, fun h' hs' => ⟨.ref p, H1, ?_, rfl, q1⟩⟩
  have hCL : s2.heap.objs.size ≤ C := hC
  have ff := I2.fpOk hCL (H' := H1) f1
  exact J1.turned (t' := s1.toks) (fun b o hb e => hs'.extBut b o hb e) f1 ff.2.1 ff.2.2.2.1 ff.2.2.2.2.1 ff.2.2.2.2.2
end

/-! ### the forms one uses -/
section
variable {K : PySem.W.Frag} {a p : Addr} {xs : List V} {n : Nat} {capN : List Nat} {g : TG} {tt : TT} {te : TE} {σ : St} {H1 : Hp} {QH : Hp → Prop}
/-- over a list that stays -/
theorem comp_list (Pv : Nat → List V → Hp → Prop) (h0 : Pv 0 [] (upd H1 p (.lst []))) (hl : ∀ i ys H, i ≤ xs.length → Pv i ys H → SqL K H a xs ∧ H p = some (.lst ys) ∧ ys.length ≤ i) (hsz : xs.length ≤ sizeLine)
    (hs : ∀ i x ys H, xs[i]? = some x → Pv i ys H → g x (blk n capN σ) H fun σ2 H2 => tt σ2 H2 fun b H3 => if b = true then te σ2 H3 fun y H4 => H4 p = some (.lst ys) ∧ Pv (i + 1) (ys ++ [y]) (upd H4 p (.lst (ys ++ [y]))) else Pv (i + 1) ys H3)
    (hd : ∀ ys H, Pv xs.length ys H → QH H) :
    ∃ W : Nat → Nat → List V → Hp → Prop, (∃ m, W 0 m [] (upd H1 p (.lst []))) ∧ ∀ i m ys H, W i m ys H → H p = some (.lst ys) ∧
      (((Itl K a).stop i H ∧ QH H) ∨ ((Itl K a).go i H ∧ ys.length < sizeLine ∧ ∃ N : List V → Hp → Prop, (∀ ys' H', N ys' H' → ∃ m', m' < m ∧ W (i + 1) m' ys' H') ∧ ∀ x H', (Itl K a).yld i H x H' → g x (blk n capN σ) H' fun σ2 H2 => tt σ2 H2 fun b H3 =>
        if b = true then te σ2 H3 fun y H4 => H4 p = some (.lst ys) ∧ N (ys ++ [y]) (upd H4 p (.lst (ys ++ [y]))) else N ys H3)) := by
  refine ⟨fun i m ys H => m = xs.length - i ∧ i ≤ xs.length ∧ Pv i ys H, ⟨xs.length, by simp, Nat.zero_le _, h0⟩, ?_⟩
  rintro i m ys H ⟨rfl, hi, pv⟩
  obtain ⟨q, qp, ql⟩ := hl i ys H hi pv
  refine ⟨qp, ?_⟩
  by_cases hlt : i < xs.length
  · refine .inr ⟨⟨xs, xs[i], q, by simp [hlt]⟩, by omega, Pv (i + 1), fun ys' H' p' => ⟨xs.length - (i + 1), by omega, rfl, hlt, p'⟩, fun x H' y => ?_⟩
    obtain ⟨e, y⟩ := y
    subst e
    exact hs i x ys _ (y xs q) pv
  · have e : i = xs.length := by omega
    subst e
    exact .inl ⟨⟨xs, q, Nat.le_refl _⟩, hd ys H pv⟩
theorem comp_tup (Pv : Nat → List V → Hp → Prop) (h0 : Pv 0 [] (upd H1 p (.lst []))) (hl : ∀ i ys H, i ≤ xs.length → Pv i ys H → SqT K H a xs ∧ H p = some (.lst ys) ∧ ys.length ≤ i) (hsz : xs.length ≤ sizeLine)
    (hs : ∀ i x ys H, xs[i]? = some x → Pv i ys H → g x (blk n capN σ) H fun σ2 H2 => tt σ2 H2 fun b H3 => if b = true then te σ2 H3 fun y H4 => H4 p = some (.lst ys) ∧ Pv (i + 1) (ys ++ [y]) (upd H4 p (.lst (ys ++ [y]))) else Pv (i + 1) ys H3)
    (hd : ∀ ys H, Pv xs.length ys H → QH H) :
    ∃ W : Nat → Nat → List V → Hp → Prop, (∃ m, W 0 m [] (upd H1 p (.lst []))) ∧ ∀ i m ys H, W i m ys H → H p = some (.lst ys) ∧
      (((Itt K a).stop i H ∧ QH H) ∨ ((Itt K a).go i H ∧ ys.length < sizeLine ∧ ∃ N : List V → Hp → Prop, (∀ ys' H', N ys' H' → ∃ m', m' < m ∧ W (i + 1) m' ys' H') ∧ ∀ x H', (Itt K a).yld i H x H' → g x (blk n capN σ) H' fun σ2 H2 => tt σ2 H2 fun b H3 =>
        if b = true then te σ2 H3 fun y H4 => H4 p = some (.lst ys) ∧ N (ys ++ [y]) (upd H4 p (.lst (ys ++ [y]))) else N ys H3)) := by
  refine ⟨fun i m ys H => m = xs.length - i ∧ i ≤ xs.length ∧ Pv i ys H, ⟨xs.length, by simp, Nat.zero_le _, h0⟩, ?_⟩
  rintro i m ys H ⟨rfl, hi, pv⟩
  obtain ⟨q, qp, ql⟩ := hl i ys H hi pv
  refine ⟨qp, ?_⟩
  by_cases hlt : i < xs.length
  · refine .inr ⟨⟨xs, xs[i], q, by simp [hlt]⟩, by omega, Pv (i + 1), fun ys' H' p' => ⟨xs.length - (i + 1), by omega, rfl, hlt, p'⟩, fun x H' y => ?_⟩
    obtain ⟨e, y⟩ := y
    subst e
    exact hs i x ys _ (y xs q) pv
  · have e : i = xs.length := by omega
    subst e
    exact .inl ⟨⟨xs, q, Nat.le_refl _⟩, hd ys H pv⟩
theorem comp_range {lo : Int} {k : Nat} (Pv : Nat → List V → Hp → Prop) (h0 : Pv 0 [] (upd H1 p (.lst []))) (hl : ∀ i ys H, i ≤ k → Pv i ys H → H p = some (.lst ys) ∧ ys.length ≤ i) (hsz : k ≤ sizeLine)
    (hs : ∀ i ys H, i < k → Pv i ys H → g (.int (lo + i)) (blk n capN σ) H fun σ2 H2 => tt σ2 H2 fun b H3 => if b = true then te σ2 H3 fun y H4 => H4 p = some (.lst ys) ∧ Pv (i + 1) (ys ++ [y]) (upd H4 p (.lst (ys ++ [y]))) else Pv (i + 1) ys H3)
    (hd : ∀ ys H, Pv k ys H → QH H) :
    ∃ W : Nat → Nat → List V → Hp → Prop, (∃ m, W 0 m [] (upd H1 p (.lst []))) ∧ ∀ i m ys H, W i m ys H → H p = some (.lst ys) ∧
      (((Itr lo k).stop i H ∧ QH H) ∨ ((Itr lo k).go i H ∧ ys.length < sizeLine ∧ ∃ N : List V → Hp → Prop, (∀ ys' H', N ys' H' → ∃ m', m' < m ∧ W (i + 1) m' ys' H') ∧ ∀ x H', (Itr lo k).yld i H x H' → g x (blk n capN σ) H' fun σ2 H2 => tt σ2 H2 fun b H3 =>
        if b = true then te σ2 H3 fun y H4 => H4 p = some (.lst ys) ∧ N (ys ++ [y]) (upd H4 p (.lst (ys ++ [y]))) else N ys H3)) := by
  refine ⟨fun i m ys H => m = k - i ∧ i ≤ k ∧ Pv i ys H, ⟨k, by simp, Nat.zero_le _, h0⟩, ?_⟩
  rintro i m ys H ⟨rfl, hi, pv⟩
  obtain ⟨qp, ql⟩ := hl i ys H hi pv
  refine ⟨qp, ?_⟩
  by_cases hlt : i < k
  · refine .inr ⟨hlt, by omega, Pv (i + 1), fun ys' H' p' => ⟨k - (i + 1), by omega, rfl, hlt, p'⟩, fun x H' y => ?_⟩
    obtain ⟨e, y⟩ := y
    subst e y
    exact hs i ys _ hlt pv
  · have e : i = k := by omega
    subst e
    exact .inl ⟨Nat.le_refl _, hd ys H pv⟩
end
end L2

namespace L2
open PySem PySem.Spec PyProof.Rows

theorem vals_ix : ∀ {xs : List V} {us : List Value}, xs.length = us.length → (∀ (j : Nat) x u, xs[j]? = some x → us[j]? = some u → RelV x u) → Vals xs us
  | [], [], _, _ => .nil
  | [], _ :: _, h, _ => by simp at h
  | _ :: _, [], h, _ => by simp at h
  | x :: xs, u :: us, h, r => .cons (r 0 x u rfl rfl) (vals_ix (by simpa using h) fun j y v e1 e2 => r (j + 1) y v (by simpa using e1) (by simpa using e2))

theorem preSum_eq (val : Nat → Int) : ∀ (ns : List Int), (∀ (j : Nat) n, ns[j]? = some n → val j = n) → preSum val ns.length = ns.sum := by
  have key : ∀ (k : Nat) (ns : List Int), k ≤ ns.length → (∀ (j : Nat) n, ns[j]? = some n → val j = n) → preSum val k = (ns.take k).sum := by
    intro k
    induction k with
    | zero => intro ns _ _; simp [preSum]
    | succ k ih =>
      intro ns hk h
      have hlt : k < ns.length := hk
      rw [preSum, ih ns (Nat.le_of_lt hlt) h, h k ns[k] (by simp [hlt]), List.take_succ_eq_append_getElem hlt, List.sum_append]
      simp
  intro ns h
  rw [key ns.length ns (Nat.le_refl _) h, List.take_length]

section
variable {X : Cx}

/-- list(d), a dict whose keys are ints or texts -/
theorem call_list_dict (hc : X.calm = true) : CallR X (.type "list") (fun xs H Q => ∃ a kvs, xs = [.ref a] ∧ H a = some (.dK kvs) ∧ ∀ l, H l = none → Q (.ref l) (upd H l (.lst (kvs.map fun kv => kV kv.1)))) := by
  intro pins s σ H xs us Q I r h
  obtain ⟨a, kvs, rfl, ha, q⟩ := h
  obtain ⟨u, rfl, rx⟩ := vals1 r
  cases rx
  obtain ⟨hz, hsm, vs, kv, dd⟩ := dk_of I.hok ha
  obtain ⟨ep, hat⟩ := dd.dictAt
  refine PySem.W.kdl_call (PySem.W.kdl_dict (knd := mixKind X.prog X.w) (kvs := vs) (ep := ep) hsm) (I.ok.hd hc) hat (by rw [← kv.length]; exact hz) fun h' tk acc c kp e hacc => ?_
  have rv : Vals (kvs.map fun kv => kV kv.1) acc.toList := by
    refine vals_ix (by rw [List.length_map]; have := hacc.1; have := kv.length; simp; omega) fun j x u e1 e2 => ?_
    obtain ⟨k, y, e3, hk⟩ := hacc.2 j u (by rw [← Array.getElem?_toList]; exact e2)
    have e4 : (kvs.map (·.1))[j]? = some k := by rw [kv.keys, List.getElem?_map, e3]; rfl
    rw [List.getElem?_map] at e1 e4
    cases e5 : kvs[j]? with
    | none => rw [e5] at e1; cases e1
    | some p =>
      rw [e5] at e1 e4
      cases e1
      cases e4
      rcases keyIs_shape hk with ⟨i, t, e6, rfl⟩ | ⟨z, t, e6, rfl⟩
      · show RelV (kV p.1) _
        rw [show p.1 = Sum.inl i from e6]
        exact ⟨t, rfl⟩
      · show RelV (kV p.1) _
        rw [show p.1 = Sum.inr z from e6]
        exact ⟨t, rfl⟩
  refine ⟨.ref s.heap.objs.size, _, I.laid (t' := tk) kp (Nat.le_refl _) (show ObjOk X.prog X.w _ h' _ (.lst (kvs.map fun kv => kV kv.1)) from ⟨by rw [List.length_map]; exact hz, acc.toList, c, rv, by simpa using e⟩), rfl, q _ I.fresh⟩

/-- sorted of a list of ints -/
theorem call_sorted_ints : CallR X (.builtin "sorted") (fun xs H Q => ∃ (a : Addr) (ns : List Int), xs = [.ref a] ∧ SqL X.K H a (ns.map V.int) ∧ ns.length < 64 ∧ ∀ (ms : List Int) l, ms.Perm ns → ms.Pairwise (· ≤ ·) → H l = none → Q (.ref l) (upd H l (.lst (ms.map V.int)))) := by
  intro pins s σ H xs us Q I r h
  obtain ⟨a, ns, rfl, ha, hl, q⟩ := h
  obtain ⟨u, rfl, rx⟩ := vals1 r
  cases rx
  obtain ⟨its, rv, pl, hz⟩ := I.list ha
  have hlen := rv.length
  rw [List.length_map] at hlen
  refine sorted_ints pl.isList (intsAre_of rv) (by omega) fun out ms hi hp hs => ?_
  obtain ⟨e, he⟩ := sortedAll_at s.heap its out
  have rv2 := vals_ints hi
  refine ⟨.ref (s.heap.objs.size + 1), _, I.laid (t' := s.toks) (fun b o e => sortedAll_old e) (Nat.le_succ _) (show ObjOk X.prog X.w _ _ _ (.lst (ms.map V.int)) from ⟨?_, out.toList, e, rv2, by simpa using he⟩), rfl, q ms _ hp hs (I.hok.fresh (Nat.le_succ _))⟩
  rw [List.length_map, hp.length_eq]
  exact Nat.le_of_lt (Nat.lt_of_lt_of_le hl (by decide))

/-- the view of a dict's values -/
def viewO (v a : Addr) : HO := .ext fun h => h.IsValuesView v a
theorem view_at {pins : List (Addr × Obj)} {σ : St} {H : Hp} {s : Shared} {v a : Addr} (I : Inv X pins σ H s) (h : H v = some (viewO v a)) : s.heap.IsValuesView v a := (show ObjOk X.prog X.w H s.heap v (.ext fun h => h.IsValuesView v a) from I.hok v _ h).1
theorem mt_values : MtR X "dict.values" (fun x xs H Q => ∃ a kvs, x = .ref a ∧ xs = [] ∧ H a = some (.dK kvs) ∧ ∀ v, H v = none → Q (.ref v) (upd H v (viewO v a))) := by
  intro pins s σ H x xs v us Q I rx rv h
  obtain ⟨a, kvs, rfl, rfl, ha, q⟩ := h
  cases rx
  cases rv
  obtain ⟨hz, hsm, vs, kv, dd⟩ := dk_of I.hok ha
  refine call_meetsIn PySem.F.slot_dict_values dd.typeIs PySem.F.entry_dict_values (PySem.F.args_dict_values_1 _) (meets_dict_values (mixKind X.prog X.w) a hsm) ⟨⟨_, dd⟩, ?_⟩
  refine ⟨.ref s.heap.objs.size, _, I.laid (t' := s.toks) (fun b o e => Heap.get?_push_of_some _ e) (Nat.le_refl _) ?_, rfl, q _ I.fresh⟩
  have e : (s.heap.push { cls := .type "dict_values", data := .fields #[.ref a] }).get? s.heap.objs.size = some { cls := .type "dict_values", data := .fields #[.ref a] } := Heap.get?_push_size _ rfl
  exact ⟨⟨_, e, rfl, rfl⟩, ⟨_, e⟩, fun h1 h2 ⟨o, p1, p2⟩ k => ⟨o, k o p1, p2⟩⟩

/-- sum of a dict's values, ints -/
theorem call_sum_view (hc : X.calm = true) : CallR X (.builtin "sum") (fun xs H Q => ∃ (v a : Addr) (kvs : List (Key × V)) (ns : List Int), xs = [.ref v] ∧ H v = some (viewO v a) ∧ H a = some (.dK kvs) ∧ kvs.map (·.2) = ns.map V.int ∧ Q (.int ns.sum) H) := by
  intro pins s σ H xs us Q I r h
  obtain ⟨v, a, kvs, ns, rfl, hv, ha, hn, q⟩ := h
  obtain ⟨u, rfl, rx⟩ := vals1 r
  cases rx
  obtain ⟨hz, hsm, vs, kv, dd⟩ := dk_of I.hok ha
  obtain ⟨ep, hat⟩ := dd.dictAt
  have hlen : kvs.length = ns.length := by
    have := congrArg List.length hn
    simpa using this
  refine call_sum_walkAnyS (wpAny_pyIter_values (view_at I hv) hat ?_)
  have hne : a ≠ s.heap.objs.size := Nat.ne_of_lt (I.hok.lt ha)
  have st0 : (s.heap.push { cls := .type "dict_valueiterator", data := .fields #[.ref a, .int 0 0, .int vs.length 0, .int ep 0] }).IsValIter s.heap.objs.size a 0 vs.length ep := ⟨_, Heap.get?_push_size _ rfl, rfl, rfl⟩
  refine ⟨s.heap.objs.size, _, _, _, _, _, _, fun j => ns.getD j 0, rfl, (Walks.dictValues (knd := mixKind X.prog X.w) (A := X.A.in1) (I.ok.hd hc) s.heap.objs.size a hne vs ep).toS, ⟨st0, hat.at' fun o e => Heap.get?_push_of_some _ e⟩, fun b hb => ?_, fun j y ⟨k, e⟩ => ?_, fun s' t' mv => ?_⟩
  · show b < (s.heap.push _).objs.size
    rw [Heap.size_push]
    rcases List.mem_cons.mp hb with rfl | hb
    · exact Nat.lt_succ_self _
    · rw [List.mem_singleton.mp hb]; exact Nat.lt_succ_of_lt (I.hok.lt ha)
  · have e1 : (kvs.map (·.2))[j]? = some (V.int (ns.getD j 0)) := by
      have hj : j < ns.length := by
        have := (List.getElem?_eq_some_iff.mp e).1
        rw [← kv.length, hlen] at this
        exact this
      rw [hn, List.getElem?_map, List.getElem?_eq_getElem hj]
      simp [List.getD, hj]
    have aux : ∀ {l1 : List (Key × V)} {l2 : List (Key × Value)}, KV l1 l2 → ∀ (j : Nat) x y, (l1.map (·.2))[j]? = some x → l2[j]? = some y → RelV x y.2 := by
      intro l1 l2 hk
      unfold KV at hk
      induction hk with
      | nil => intro j x y e; simp at e
      | cons p r ih =>
        intro j x y e1 e2
        cases j with
        | zero => simp at e1 e2; subst e1; subst e2; exact p.2
        | succ j => exact ih j x y (by simpa using e1) (by simpa using e2)
    exact aux kv j _ _ e1 e
  · have e2 : preSum (fun j => ns.getD j 0) vs.length = ns.sum := by
      rw [← kv.length, hlen]
      exact preSum_eq _ ns fun j n e => by simp [List.getD, e]
    rw [e2]
    have I1 : Inv X pins σ H { s with heap := s.heap.push { cls := .type "dict_valueiterator", data := .fields #[.ref a, .int 0 0, .int vs.length 0, .int ep 0] } } := I.kept (t' := s.toks) fun b o e => Heap.get?_push_of_some _ e
    have ff := I.fpOk (b := s.heap.objs.size) (Nat.le_refl _) I.fresh
    obtain ⟨h', g', d', tk', os'⟩ := s'
    have eo : os' = s.os := mv.os
    have eg : g' = s.gens := mv.gens
    have ed : d' = s.drawn := mv.drawn
    subst eo; subst eg; subst ed
    exact ⟨.int ns.sum, H, I1.turned (t' := tk') (fun b o hb e => mv.heap b o (by simpa using hb) e) ff.1 ff.2.1 ff.2.2.2.1 ff.2.2.2.2.1 ff.2.2.2.2.2, ⟨t', rfl⟩, q⟩


/-- all of a list of bools -/
theorem call_all_list (hc : X.calm = true) : CallR X (.builtin "all") (fun xs H Q => ∃ (a : Addr) (bs : List Bool), xs = [.ref a] ∧ SqL X.K H a (bs.map V.bl) ∧ Q (.bl (bs.all id)) H) := by
  intro pins s σ H xs us Q I r h
  obtain ⟨a, bs, rfl, ha, q⟩ := h
  obtain ⟨u, rfl, rx⟩ := vals1 r
  cases rx
  obtain ⟨its, rv, pl, hz⟩ := I.list ha
  have hlen := rv.length
  rw [List.length_map] at hlen
  have hlt : a < s.heap.objs.size := by obtain ⟨o, e, _⟩ := pl.isList; exact Heap.lt_size e
  have hne : a ≠ s.heap.objs.size := Nat.ne_of_lt hlt
  refine call_all_walk (wpAny_pyIter_list pl.isList ?_)
  refine ⟨s.heap.objs.size, _, _, _, _, _, fun j => bs.getD j true, rfl, Walks.list (A := X.A.in1) (I.ok.hd hc) s.heap.objs.size a hne its.toArray, ⟨⟨_, Heap.get?_push_size _ rfl, rfl, rfl⟩, pl.isList.at fun o e => Heap.get?_push_of_some _ e⟩, ?_, fun h' tk kp => ?_⟩
  · intro j y s1 Q1 E1 e hq
    have e' : its[j]? = some y := by simpa using e
    have hj : j < bs.length := by have := (List.getElem?_eq_some_iff.mp e').1; omega
    obtain ⟨u, e1, e2⟩ := rv.get (i := j) (x := V.bl (bs.getD j true)) (by rw [List.getElem?_map, List.getElem?_eq_getElem hj]; simp [List.getD, hj])
    rw [e'] at e1
    cases e1
    cases e2
    exact wpAny_truthy_bool hq
  · have e2 : ((List.range its.toArray.size).all fun j => bs.getD j true) = bs.all id := by
      rw [List.size_toArray, ← hlen]
      rw [Bool.eq_iff_iff, List.all_eq_true, List.all_eq_true]
      constructor
      · intro z b hb
        obtain ⟨j, hj, rfl⟩ := List.mem_iff_getElem.mp hb
        have := z j (by simpa using hj)
        simpa [List.getD, hj] using this
      · intro z j hj
        have hj' : j < bs.length := by simpa using hj
        have := z bs[j] (List.getElem_mem hj')
        simpa [List.getD, hj'] using this
    rw [e2]
    have I1 : Inv X pins σ H { s with heap := s.heap.push { cls := .type "list_iterator", data := .fields #[.ref a, .int 0 0] } } := I.kept (t' := s.toks) fun b o e => Heap.get?_push_of_some _ e
    have ff := I.fpOk (b := s.heap.objs.size) (Nat.le_refl _) I.fresh
    exact ⟨.bl (bs.all id), H, I1.turned (t' := tk) (fun b o hb e => kp b o (by simpa using hb) e) ff.1 ff.2.1 ff.2.2.2.1 ff.2.2.2.2.1 ff.2.2.2.2.2, rfl, q⟩

/-- isinstance(x, T), T a built-in type -/
theorem call_isinst : CallR X (.builtin "isinstance") (fun xs H Q => ∃ x n t b, xs = [x, .ty n] ∧ TyOf X.K H x t ∧ PySem.W.kitOne X.K t (.type n) = some b ∧ Q (.bl b) H) := by
  intro pins s σ H xs us Q I r h
  obtain ⟨x, n, t, b, rfl, ty, e, q⟩ := h
  obtain ⟨u, v, rfl, rx, ry⟩ := Vals.two r
  cases ry
  exact isinst_ok I rx ty e fun tk => ⟨.bl b, H, I.tok tk, rfl, q⟩
end
end L2

namespace L2
open PySem PySem.Spec PyProof.Rows PySem.SeqAt

/-! ### data without places -/
inductive D where
  | non | bl (b : Bool) | int (i : Int) | str (x : Str) | tup (xs : List D) | lst (xs : List D)

mutual
inductive DatAt (K : PySem.W.Frag) (H : Hp) : V → D → Prop where
  | non : DatAt K H .non .non
  | bl (b : Bool) : DatAt K H (.bl b) (.bl b)
  | int (i : Int) : DatAt K H (.int i) (.int i)
  | str (x : Str) : DatAt K H (.str x) (.str x)
  | tup {a : Addr} {vs : List V} {ds : List D} : SqT K H a vs → DatsAt K H vs ds → DatAt K H (.ref a) (.tup ds)
  | lst {a : Addr} {vs : List V} {ds : List D} : SqL K H a vs → DatsAt K H vs ds → DatAt K H (.ref a) (.lst ds)
inductive DatsAt (K : PySem.W.Frag) (H : Hp) : List V → List D → Prop where
  | nil : DatsAt K H [] []
  | cons {v : V} {d : D} {vs : List V} {ds : List D} : DatAt K H v d → DatsAt K H vs ds → DatsAt K H (v :: vs) (d :: ds)
end

theorem Same.seqT {K : PySem.W.Frag} {H H' : Hp} {a : Addr} {xs : List V} (e : Same H H') (h : SqT K H a xs) : SqT K H' a xs := by
  rcases h with (h | ⟨o, h⟩) | h
  · exact .inl (.inl (e _ _ h))
  · exact .inl (.inr ⟨o, e _ _ h⟩)
  · exact .inr h
section
variable {K : PySem.W.Frag} {H H' : Hp}
mutual
theorem DatAt.same (S : Same H H') : ∀ {v : V} {d : D}, DatAt K H v d → DatAt K H' v d
  | _, _, .non => .non
  | _, _, .bl b => .bl b
  | _, _, .int i => .int i
  | _, _, .str x => .str x
  | _, _, .tup h r => .tup (S.seqT h) (DatsAt.same S r)
  | _, _, .lst h r => .lst (S.seq h) (DatsAt.same S r)
theorem DatsAt.same (S : Same H H') : ∀ {vs : List V} {ds : List D}, DatsAt K H vs ds → DatsAt K H' vs ds
  | _, _, .nil => .nil
  | _, _, .cons h r => .cons (DatAt.same S h) (DatsAt.same S r)
end
theorem DatsAt.length : ∀ {vs : List V} {ds : List D}, DatsAt K H vs ds → vs.length = ds.length
  | _, _, .nil => rfl
  | _, _, .cons _ r => by simp [DatsAt.length r]
theorem DatsAt.get : ∀ {vs : List V} {ds : List D} {i : Nat} {d : D}, DatsAt K H vs ds → ds[i]? = some d → ∃ v, vs[i]? = some v ∧ DatAt K H v d
  | _, _, _, _, .nil, e => by simp at e
  | _, _, 0, _, .cons h _, e => by simp at e; subst e; exact ⟨_, rfl, h⟩
  | _, _, i + 1, d, .cons _ r, e => by
    obtain ⟨v, h1, h2⟩ := DatsAt.get (i := i) (d := d) r (by simpa using e)
    exact ⟨v, by simpa using h1, h2⟩
theorem DatsAt.get' : ∀ {vs : List V} {ds : List D} {i : Nat} {v : V}, DatsAt K H vs ds → vs[i]? = some v → ∃ d, ds[i]? = some d ∧ DatAt K H v d
  | _, _, _, _, .nil, e => by simp at e
  | _, _, 0, _, .cons h _, e => by simp at e; subst e; exact ⟨_, rfl, h⟩
  | _, _, i + 1, v, .cons _ r, e => by
    obtain ⟨d, h1, h2⟩ := DatsAt.get' (i := i) (v := v) r (by simpa using e)
    exact ⟨d, by simpa using h1, h2⟩
theorem DatsAt.append : ∀ {vs ws : List V} {ds es : List D}, DatsAt K H vs ds → DatsAt K H ws es → DatsAt K H (vs ++ ws) (ds ++ es)
  | _, _, _, _, .nil, s => s
  | _, _, _, _, .cons r t, s => .cons r (DatsAt.append t s)
theorem datsInts : ∀ (ns : List Int), DatsAt K H (ns.map V.int) (ns.map D.int)
  | [] => .nil
  | n :: r => .cons (.int n) (datsInts r)
end

/-! ### == -/
mutual
def eqD : D → D → Bool
  | .non, .non => true
  | .bl a, .bl b => a == b
  | .bl a, .int b => (if a then 1 else 0) == b
  | .int a, .bl b => a == (if b then 1 else 0)
  | .int a, .int b => a == b
  | .str a, .str b => a == b
  | .tup xs, .tup ys => eqDs xs ys
  | .lst xs, .lst ys => eqDs xs ys
  | _, _ => false
def eqDs : List D → List D → Bool
  | [], [] => true
  | x :: xs, y :: ys => eqD x y && eqDs xs ys
  | _, _ => false
end
mutual
theorem eqD_refl : ∀ d : D, eqD d d = true
  | .non => by simp [eqD]
  | .bl b => by simp [eqD]
  | .int i => by simp [eqD]
  | .str x => by simp [eqD]
  | .tup xs => by simp [eqD, eqDs_refl xs]
  | .lst xs => by simp [eqD, eqDs_refl xs]
theorem eqDs_refl : ∀ ds : List D, eqDs ds ds = true
  | [] => by simp [eqDs]
  | d :: ds => by simp [eqDs, eqD_refl d, eqDs_refl ds]
end
mutual
def depD : D → Nat
  | .tup xs => depDs xs + 1
  | .lst xs => depDs xs + 1
  | _ => 0
def depDs : List D → Nat
  | [] => 0
  | d :: ds => max (depD d) (depDs ds)
end
theorem depDs_get : ∀ {ds : List D} {j : Nat} {d : D}, ds[j]? = some d → depD d ≤ depDs ds
  | [], _, _, e => by simp at e
  | x :: xs, 0, d, e => by simp at e; subst e; simp [depDs]; omega
  | x :: xs, j + 1, d, e => by
    have := depDs_get (ds := xs) (j := j) (d := d) (by simpa using e)
    simp [depDs]; omega
theorem eqDs_range : ∀ (ds es : List D), eqDs ds es = ((List.range (min ds.length es.length)).all (fun j => eqD (ds.getD j .non) (es.getD j .non)) && ds.length == es.length)
  | [], [] => by simp [eqDs]
  | [], e :: es => by simp [eqDs]
  | d :: ds, [] => by simp [eqDs]
  | d :: ds, e :: es => by
    have ih := eqDs_range ds es
    rw [eqDs, ih]
    have h1 : min (d :: ds).length (e :: es).length = min ds.length es.length + 1 := by simp only [List.length_cons]; omega
    rw [h1, List.range_succ_eq_map, List.all_cons, List.all_map]
    simp only [List.getD_cons_zero, Function.comp_def, List.getD_cons_succ, List.length_cons]
    rw [Bool.and_assoc]
    congr 2
    simp

section
variable {X : Cx} {pins : List (Addr × Obj)} {σ : St} {H : Hp} {s : Shared}
mutual
theorem Inv.dat_inj (I : Inv X pins σ H s) : ∀ {v : V} {d e : D}, DatAt X.K H v d → DatAt X.K H v e → d = e
  | _, _, _, .non, h => by cases h; rfl
  | _, _, _, .bl b, h => by cases h; rfl
  | _, _, _, .int i, h => by cases h; rfl
  | _, _, _, .str x, h => by cases h; rfl
  | _, _, _, .tup h1 r1, h => by
    cases h with
    | tup h2 r2 =>
      have e := I.tuple_inj h1 h2
      subst e
      rw [Inv.dats_inj I r1 r2]
    | lst h2 r2 =>
      obtain ⟨i1, _, p1, _⟩ := I.tuple h1
      obtain ⟨i2, _, p2, _⟩ := I.list h2
      exact absurd rfl (ne_of_list_tuple p2.isList p1)
  | _, _, _, .lst h1 r1, h => by
    cases h with
    | lst h2 r2 =>
      have e := I.list_inj h1 h2
      subst e
      rw [Inv.dats_inj I r1 r2]
    | tup h2 r2 =>
      obtain ⟨i1, _, p1, _⟩ := I.tuple h2
      obtain ⟨i2, _, p2, _⟩ := I.list h1
      exact absurd rfl (ne_of_list_tuple p2.isList p1)
theorem Inv.dats_inj (I : Inv X pins σ H s) : ∀ {vs : List V} {ds es : List D}, DatsAt X.K H vs ds → DatsAt X.K H vs es → ds = es
  | _, _, _, .nil, h => by cases h; rfl
  | _, _, _, .cons h1 r1, h => by
    cases h with
    | cons h2 r2 => rw [Inv.dat_inj I h1 h2, Inv.dats_inj I r1 r2]
end

theorem eqAt_dat (I : Inv X pins σ H s) : ∀ (n : Nat) (A : Around) {x y : V} {d e : D} {u v : Value}, depD d ≤ n → A.units + n < cLine → DatAt X.K H x d → DatAt X.K H y e → RelV x u → RelV y v → EqAt A s u v (eqD d e) := by
  intro n
  induction n with
  | zero =>
    intro A x y d e u v hd hu hx hy rx ry
    have hu' : A.units < cLine := by omega
    cases hx with
    | tup => simp [depD] at hd
    | lst => simp [depD] at hd
    | non =>
      cases rx
      cases hy with
      | non => cases ry; simpa [eqD] using EqAt.same (A := A) (s := s) Value.none
      | bl b => cases ry; simpa [eqD] using EqAt.none_bool (A := A) (s := s) b
      | int i => obtain ⟨t, rfl⟩ := ry; simpa [eqD] using EqAt.none_int (A := A) (s := s) i t
      | str z => obtain ⟨t, rfl⟩ := ry; simpa [eqD] using EqAt.none_str (A := A) (s := s) z t
      | tup h r => cases ry; obtain ⟨its, _, p, _⟩ := I.tuple h; simpa [eqD] using EqAt.none_tuple (A := A) p hu'
      | lst h r => cases ry; obtain ⟨its, _, p, _⟩ := I.list h; simpa [eqD] using EqAt.none_list (A := A) p.isList hu'
    | bl a =>
      cases rx
      cases hy with
      | non => cases ry; simpa [eqD] using EqAt.bool_none (A := A) (s := s) a
      | bl b => cases ry; simpa [eqD] using EqAt.bool_bool (A := A) (s := s) a b
      | int i => obtain ⟨t, rfl⟩ := ry; simpa [eqD] using EqAt.bool_int (A := A) (s := s) a i t
      | str z => obtain ⟨t, rfl⟩ := ry; simpa [eqD] using EqAt.bool_str (A := A) (s := s) a z t
      | tup h r => cases ry; obtain ⟨its, _, p, _⟩ := I.tuple h; simpa [eqD] using EqAt.bool_tuple (A := A) a p hu'
      | lst h r => cases ry; obtain ⟨its, _, p, _⟩ := I.list h; simpa [eqD] using EqAt.bool_list (A := A) a p.isList hu'
    | int a =>
      obtain ⟨t, rfl⟩ := rx
      cases hy with
      | non => cases ry; simpa [eqD] using EqAt.int_none (A := A) (s := s) a t
      | bl b => cases ry; simpa [eqD] using EqAt.int_bool (A := A) (s := s) a t b
      | int i => obtain ⟨t', rfl⟩ := ry; simpa [eqD] using EqAt.int_int (A := A) (s := s) a t i t'
      | str z => obtain ⟨t', rfl⟩ := ry; simpa [eqD] using EqAt.int_str (A := A) (s := s) a t z t'
      | tup h r => cases ry; obtain ⟨its, _, p, _⟩ := I.tuple h; simpa [eqD] using EqAt.int_tuple (A := A) a t p hu'
      | lst h r => cases ry; obtain ⟨its, _, p, _⟩ := I.list h; simpa [eqD] using EqAt.int_list (A := A) a t p.isList hu'
    | str a =>
      obtain ⟨t, rfl⟩ := rx
      cases hy with
      | non => cases ry; simpa [eqD] using EqAt.str_none (A := A) (s := s) a t
      | bl b => cases ry; simpa [eqD] using EqAt.str_bool (A := A) (s := s) a t b
      | int i => obtain ⟨t', rfl⟩ := ry; simpa [eqD] using EqAt.str_int (A := A) (s := s) a t i t'
      | str z => obtain ⟨t', rfl⟩ := ry; simpa [eqD] using EqAt.str_str (A := A) (s := s) a t z t'
      | tup h r => cases ry; obtain ⟨its, _, p, _⟩ := I.tuple h; simpa [eqD] using EqAt.str_tuple (A := A) a t p hu'
      | lst h r => cases ry; obtain ⟨its, _, p, _⟩ := I.list h; simpa [eqD] using EqAt.str_list (A := A) a t p.isList hu'
  | succ n ih =>
    intro A x y d e u v hd hu hx hy rx ry
    have hu' : A.units < cLine := by omega
    by_cases hz : depD d ≤ n
    · exact ih A hz (by omega) hx hy rx ry
    · have hui : A.in1.units + n < cLine := by show A.units + 1 + n < cLine; omega
      -- the items, place by place
      have items : ∀ {vs ws : List V} {ds es : List D} {us vs' : List Value}, depDs ds ≤ n → DatsAt X.K H vs ds → DatsAt X.K H ws es → Vals vs us → Vals ws vs' → ∀ j (h1 : j < us.toArray.size) (h2 : j < vs'.toArray.size), EqAt A.in1 s us.toArray[j] vs'.toArray[j] (eqD (ds.getD j .non) (es.getD j .non)) := by
        intro vs ws ds es us vs' hdd r1 r2 q1 q2 j h1 h2
        have l1 := r1.length
        have l2 := r2.length
        have l3 := q1.length
        have l4 := q2.length
        simp only [List.size_toArray] at h1 h2
        have e1 : ds[j]? = some (ds.getD j .non) := by rw [List.getElem?_eq_getElem (by omega)]; simp [List.getD, show j < ds.length by omega]
        have e2 : es[j]? = some (es.getD j .non) := by rw [List.getElem?_eq_getElem (by omega)]; simp [List.getD, show j < es.length by omega]
        obtain ⟨x1, g1, d1⟩ := r1.get e1
        obtain ⟨x2, g2, d2⟩ := r2.get e2
        obtain ⟨u1, f1, rr1⟩ := q1.get g1
        obtain ⟨u2, f2, rr2⟩ := q2.get g2
        have z1 : us.toArray[j] = u1 := by
          have : us[j]? = some us[j] := List.getElem?_eq_getElem h1
          rw [f1] at this
          simpa using (Option.some.inj this).symm
        have z2 : vs'.toArray[j] = u2 := by
          have : vs'[j]? = some vs'[j] := List.getElem?_eq_getElem h2
          rw [f2] at this
          simpa using (Option.some.inj this).symm
        rw [z1, z2]
        exact ih A.in1 (Nat.le_trans (depDs_get e1) hdd) hui d1 d2 rr1 rr2
      cases hx with
      | non => simp [depD] at hz
      | bl => simp [depD] at hz
      | int => simp [depD] at hz
      | str => simp [depD] at hz
      | @tup a vs ds h1 r1 =>
        cases rx
        obtain ⟨us, q1, p1, z1⟩ := I.tuple h1
        have hdd : depDs ds ≤ n := by simp [depD] at hd; omega
        cases hy with
        | non => cases ry; simpa [eqD] using EqAt.tuple_none (A := A) p1 hu'
        | bl b => cases ry; simpa [eqD] using EqAt.tuple_bool (A := A) b p1 hu'
        | int i => obtain ⟨t', rfl⟩ := ry; simpa [eqD] using EqAt.tuple_int (A := A) i t' p1 hu'
        | str z => obtain ⟨t', rfl⟩ := ry; simpa [eqD] using EqAt.tuple_str (A := A) z t' p1 hu'
        | lst h r => cases ry; obtain ⟨its, _, p, _⟩ := I.list h; simpa [eqD] using EqAt.tuple_list (A := A) p1 p.isList hu'
        | @tup b ws es h2 r2 =>
          cases ry
          by_cases hab : a = b
          · subst hab
            have e := I.tuple_inj h1 h2
            subst e
            rw [I.dats_inj r1 r2, eqD_refl]
            exact EqAt.same _
          · obtain ⟨vs', q2, p2, z2⟩ := I.tuple h2
            have z := RcAt.tuples (A := A) (s := s) p1 p2 hu' (items hdd r1 r2 q1 q2)
            have e : eqD (.tup ds) (.tup es) = ((List.range (min us.toArray.size vs'.toArray.size)).all (fun j => eqD (ds.getD j .non) (es.getD j .non)) && us.toArray.size == vs'.toArray.size) := by
              rw [eqD, eqDs_range, List.size_toArray, List.size_toArray, ← q1.length, ← q2.length, r1.length, r2.length]
            rw [e]
            exact EqAt.of_refs hab z
      | @lst a vs ds h1 r1 =>
        cases rx
        obtain ⟨us, q1, p1, z1⟩ := I.list h1
        have hdd : depDs ds ≤ n := by simp [depD] at hd; omega
        cases hy with
        | non => cases ry; simpa [eqD] using EqAt.list_none (A := A) p1.isList hu'
        | bl b => cases ry; simpa [eqD] using EqAt.list_bool (A := A) b p1.isList hu'
        | int i => obtain ⟨t', rfl⟩ := ry; simpa [eqD] using EqAt.list_int (A := A) i t' p1.isList hu'
        | str z => obtain ⟨t', rfl⟩ := ry; simpa [eqD] using EqAt.list_str (A := A) z t' p1.isList hu'
        | tup h r => cases ry; obtain ⟨its, _, p, _⟩ := I.tuple h; simpa [eqD] using EqAt.list_tuple (A := A) p1.isList p hu'
        | @lst b ws es h2 r2 =>
          cases ry
          by_cases hab : a = b
          · subst hab
            have e := I.list_inj h1 h2
            subst e
            rw [I.dats_inj r1 r2, eqD_refl]
            exact EqAt.same _
          · obtain ⟨vs', q2, p2, z2⟩ := I.list h2
            by_cases hl : us.toArray.size = vs'.toArray.size
            · have z := RcAt.lists (A := A) (s := s) p1.isList p2.isList hl hu' (items hdd r1 r2 q1 q2)
              have hl' : ds.length = es.length := by
                simp only [List.size_toArray] at hl
                rw [← r1.length, ← r2.length, q1.length, q2.length, hl]
              have e : eqD (.lst ds) (.lst es) = ((List.range us.toArray.size).all (fun j => eqD (ds.getD j .non) (es.getD j .non))) := by
                rw [eqD, eqDs_range, List.size_toArray, ← q1.length, r1.length, hl']
                simp
              rw [e]
              exact EqAt.of_refs hab z
            · have z := RcAt.lists_lengths (A := A) (s := s) p1.isList p2.isList (by simpa using hl) hu'
              have e : eqD (.lst ds) (.lst es) = false := by
                rw [eqD, eqDs_range]
                have : ¬ ds.length = es.length := by
                  simp only [List.size_toArray] at hl
                  rw [← r1.length, ← r2.length, q1.length, q2.length]
                  exact hl
                simp [this]
              rw [e]
              exact EqAt.of_refs hab z
end

/-- == of two tuples or two lists -/
def rEqD (K : PySem.W.Frag) : R2 := fun x y H Q => ∃ d e, ((∃ ds es, d = .tup ds ∧ e = .tup es) ∨ (∃ ds es, d = .lst ds ∧ e = .lst es)) ∧ DatAt K H x d ∧ DatAt K H y e ∧ depD d ≤ 50 ∧ Q (.bl (eqD d e)) H
theorem op_eqD {X : Cx} (hu : X.A.units + 60 < cLine) : OpR X (compareOp .Eq) (rEqD X.K) := by
  intro pins s σ H x y u v Q I rx ry h
  obtain ⟨d, e, k, hx, hy, hd, q⟩ := h
  have items : ∀ {vs ws : List V} {ds es : List D} {us vs' : List Value}, depDs ds ≤ 50 → DatsAt X.K H vs ds → DatsAt X.K H ws es → Vals vs us → Vals ws vs' → ∀ j (h1 : j < us.toArray.size) (h2 : j < vs'.toArray.size), EqAt X.A.in1 s us.toArray[j] vs'.toArray[j] (eqD (ds.getD j .non) (es.getD j .non)) := by
    intro vs ws ds es us vs' hdd r1 r2 q1 q2 j h1 h2
    have l1 := r1.length
    have l2 := r2.length
    have l3 := q1.length
    have l4 := q2.length
    simp only [List.size_toArray] at h1 h2
    have e1 : ds[j]? = some (ds.getD j .non) := by rw [List.getElem?_eq_getElem (by omega)]; simp [List.getD, show j < ds.length by omega]
    have e2 : es[j]? = some (es.getD j .non) := by rw [List.getElem?_eq_getElem (by omega)]; simp [List.getD, show j < es.length by omega]
    obtain ⟨x1, g1, d1⟩ := r1.get e1
    obtain ⟨x2, g2, d2⟩ := r2.get e2
    obtain ⟨u1, f1, rr1⟩ := q1.get g1
    obtain ⟨u2, f2, rr2⟩ := q2.get g2
    have z1 : us.toArray[j] = u1 := by
      have : us[j]? = some us[j] := List.getElem?_eq_getElem h1
      rw [f1] at this
      simpa using (Option.some.inj this).symm
    have z2 : vs'.toArray[j] = u2 := by
      have : vs'[j]? = some vs'[j] := List.getElem?_eq_getElem h2
      rw [f2] at this
      simpa using (Option.some.inj this).symm
    rw [z1, z2]
    exact eqAt_dat I 50 X.A.in1 (Nat.le_trans (depDs_get e1) hdd) (by show X.A.units + 1 + 50 < cLine; omega) d1 d2 rr1 rr2
  have hu' : X.A.units < cLine := by omega
  rcases k with ⟨ds, es, rfl, rfl⟩ | ⟨ds, es, rfl, rfl⟩
  · cases hx with
    | @tup a vs _ h1 r1 =>
      cases hy with
      | @tup b ws _ h2 r2 =>
        cases rx
        cases ry
        obtain ⟨us, q1, p1, z1⟩ := I.tuple h1
        obtain ⟨vs', q2, p2, z2⟩ := I.tuple h2
        have e : eqD (.tup ds) (.tup es) = ((List.range (min us.toArray.size vs'.toArray.size)).all (fun j => eqD (ds.getD j .non) (es.getD j .non)) && us.toArray.size == vs'.toArray.size) := by
          rw [eqD, eqDs_range, List.size_toArray, List.size_toArray, ← q1.length, ← q2.length, r1.length, r2.length]
        rw [e] at q
        exact eq_tupleAt p1 p2 hu' (items (by simp [depD] at hd; omega) r1 r2 q1 q2) ⟨.bl _, H, I, rfl, q⟩
  · cases hx with
    | @lst a vs _ h1 r1 =>
      cases hy with
      | @lst b ws _ h2 r2 =>
        cases rx
        cases ry
        obtain ⟨us, q1, p1, z1⟩ := I.list h1
        obtain ⟨vs', q2, p2, z2⟩ := I.list h2
        by_cases hl : us.toArray.size = vs'.toArray.size
        · have hl' : ds.length = es.length := by
            simp only [List.size_toArray] at hl
            rw [← r1.length, ← r2.length, q1.length, q2.length, hl]
          have e : eqD (.lst ds) (.lst es) = ((List.range us.toArray.size).all (fun j => eqD (ds.getD j .non) (es.getD j .non))) := by
            rw [eqD, eqDs_range, List.size_toArray, ← q1.length, r1.length, hl']
            simp
          rw [e] at q
          exact eq_listAt p1.isList p2.isList hl hu' (items (by simp [depD] at hd; omega) r1 r2 q1 q2) ⟨.bl _, H, I, rfl, q⟩
        · have e : eqD (.lst ds) (.lst es) = false := by
            rw [eqD, eqDs_range]
            have : ¬ ds.length = es.length := by
              simp only [List.size_toArray] at hl
              rw [← r1.length, ← r2.length, q1.length, q2.length]
              exact hl
            simp [this]
          rw [e] at q
          exact eq_list_lengthsAt p1.isList p2.isList (by simpa using hl) hu' ⟨.bl _, H, I, rfl, q⟩

/-! ### isinstance of data -/
def tyD : D → String
  | .non => "NoneType"
  | .bl _ => "bool"
  | .int _ => "int"
  | .str _ => "str"
  | .tup _ => "tuple"
  | .lst _ => "list"
theorem call_isD {X : Cx} : CallR X (.builtin "isinstance") (fun xs H Q => ∃ x n d b, xs = [x, .ty n] ∧ DatAt X.K H x d ∧ PySem.W.kitOne X.K (.type (tyD d)) (.type n) = some b ∧ Q (.bl b) H) := by
  intro pins s σ H xs us Q I r h
  obtain ⟨x, n, d, b, rfl, hx, e, q⟩ := h
  obtain ⟨u, v, rfl, rx, ry⟩ := Vals.two r
  cases ry
  have fin : ∀ tk, EP X pins σ Q (.bool b) { s with toks := tk } := fun tk => ⟨.bl b, H, I.tok tk, rfl, q⟩
  cases hx with
  | non => cases rx; exact PySem.W.kia_one PySem.W.kitx_none I.kIn True.intro e (fun z => nomatch z) fin
  | bl y => cases rx; exact PySem.W.kia_one PySem.W.kitx_bool I.kIn True.intro e (fun z => nomatch z) fin
  | int i => obtain ⟨t, rfl⟩ := rx; exact PySem.W.kia_one PySem.W.kitx_int I.kIn True.intro e (fun z => nomatch z) fin
  | str y => obtain ⟨t, rfl⟩ := rx; exact PySem.W.kia_one PySem.W.kitx_str I.kIn True.intro e (fun z => nomatch z) fin
  | tup h1 r1 =>
    cases rx
    obtain ⟨us, q1, p1, z1⟩ := I.tuple h1
    obtain ⟨o, h1, h2, _⟩ := p1
    exact PySem.W.kia_one PySem.W.kitx_tuple I.kIn ⟨o, h1, h2⟩ e (fun z => nomatch z) fin
  | lst h1 r1 =>
    cases rx
    obtain ⟨us, q1, p1, z1⟩ := I.list h1
    obtain ⟨o, h1, h2, _⟩ := p1.isList
    exact PySem.W.kia_one PySem.W.kitx_list I.kIn ⟨o, h1, h2⟩ e (fun z => nomatch z) fin
end L2

namespace L2
open PySem PySem.Spec PyProof.Rows

/-! ### data that a growing list does not touch -/
mutual
def noL : D → Bool
  | .tup xs => noLs xs
  | .lst _ => false
  | _ => true
def noLs : List D → Bool
  | [] => true
  | d :: ds => noL d && noLs ds
end
/-- all but p is kept -/
def Kp (p : Addr) (H H' : Hp) : Prop := ∀ b o, b ≠ p → H b = some o → H' b = some o
theorem kp_upd {p : Addr} {H : Hp} (o : HO) : Kp p H (upd H p o) := fun b u hb e => by rw [upd_ne hb]; exact e
theorem same_fresh {H : Hp} {l : Addr} (o : HO) (h : H l = none) : Same H (upd H l o) := fun b u e => by rw [upd_ne (ne_of_none e h)]; exact e
theorem Same.fresh_upd {H H' : Hp} {p : Addr} (S : Same H H') (h : H p = none) (o : HO) : Same H (upd H' p o) := fun b u e => by rw [upd_ne (ne_of_none e h)]; exact S b u e
section
variable {K : PySem.W.Frag} {H H' : Hp} {p : Addr}
mutual
theorem DatAt.kp (hp : ∃ xs, H p = some (.lst xs)) (S : Kp p H H') : ∀ {v : V} {d : D}, noL d = true → DatAt K H v d → DatAt K H' v d
  | _, _, _, .non => .non
  | _, _, _, .bl b => .bl b
  | _, _, _, .int i => .int i
  | _, _, _, .str x => .str x
  | _, _, n, .tup h r => by
    have n' := n
    simp only [noL] at n'
    refine .tup ?_ (DatsAt.kp hp S n' r)
    obtain ⟨xs, hp⟩ := hp
    rcases h with (h | ⟨o, h⟩) | h
    · exact .inl (.inl (S _ _ (ne_of h hp (by intro z; cases z)) h))
    · exact .inl (.inr ⟨o, S _ _ (ne_of h hp (by intro z; cases z)) h⟩)
    · exact .inr h
  | _, _, n, .lst h r => by simp [noL] at n
theorem DatsAt.kp (hp : ∃ xs, H p = some (.lst xs)) (S : Kp p H H') : ∀ {vs : List V} {ds : List D}, noLs ds = true → DatsAt K H vs ds → DatsAt K H' vs ds
  | _, _, _, .nil => .nil
  | _, _, n, .cons h r => by
    simp only [noLs, Bool.and_eq_true] at n
    exact .cons (DatAt.kp hp S n.1 h) (DatsAt.kp hp S n.2 r)
end
end
theorem noLs_all : ∀ {ds : List D}, (∀ (i : Nat) d, ds[i]? = some d → noL d = true) → noLs ds = true
  | [], _ => rfl
  | d :: ds, h => by
    simp only [noLs, Bool.and_eq_true]
    exact ⟨h 0 d rfl, noLs_all fun i e he => h (i + 1) e (by simpa using he)⟩

section
variable {K : PySem.W.Frag} {a p : Addr} {xs : List V} {n : Nat} {capN : List Nat} {g : TG} {te : TE} {σ : St} {H1 : Hp} {QH : Hp → Prop}
/-- what a comprehension of immutable data has, at turn i -/
def DatsUp (K : PySem.W.Frag) (H1 : Hp) (p : Addr) (Rl : Nat → D → Prop) (i : Nat) (ys : List V) (H : Hp) : Prop :=
  Same H1 H ∧ H p = some (.lst ys) ∧ ∃ ds : List D, ds.length = i ∧ (∀ (j : Nat) d, ds[j]? = some d → Rl j d) ∧ DatsAt K H ys ds
theorem DatsUp.len {Rl : Nat → D → Prop} {i : Nat} {ys : List V} {H : Hp} (h : DatsUp K H1 p Rl i ys H) : ys.length = i := by
  obtain ⟨_, _, ds, h1, _, h2⟩ := h
  rw [h2.length, h1]
theorem DatsUp.start {Rl : Nat → D → Prop} (hp : H1 p = none) : DatsUp K H1 p Rl 0 [] (upd H1 p (.lst [])) := ⟨same_fresh _ hp, upd_same, [], rfl, by simp, .nil⟩
theorem DatsUp.more {Rl : Nat → D → Prop} {i : Nat} {ys : List V} {H H4 : Hp} {y : V} {d : D} (hp : H1 p = none) (hn : ∀ j d, Rl j d → noL d = true) (h : DatsUp K H1 p Rl i ys H) (S : Same H H4) (hy : DatAt K H4 y d) (hd : Rl i d) :
    H4 p = some (.lst ys) ∧ DatsUp K H1 p Rl (i + 1) (ys ++ [y]) (upd H4 p (.lst (ys ++ [y]))) := by
  obtain ⟨S1, h2, ds, h3, h4, h5⟩ := h
  have h2' := S p _ h2
  refine ⟨h2', (S1.trans S).fresh_upd hp _, upd_same, ds ++ [d], by simp [h3], fun j e he => ?_, ?_⟩
  · by_cases hj : j < ds.length
    · rw [List.getElem?_append_left hj] at he
      exact h4 j e he
    · rw [List.getElem?_append_right (Nat.not_lt.mp hj)] at he
      have : j - ds.length = 0 := by
        cases q : j - ds.length with
        | zero => rfl
        | succ k => rw [q] at he; simp at he
      rw [this] at he
      simp at he
      subst he
      have : j = i := by omega
      rw [this]
      exact hd
  · exact (DatsAt.kp ⟨_, h2'⟩ (kp_upd _) (noLs_all fun j e he => hn j e (h4 j e he)) (h5.same S)).append (.cons (DatAt.kp ⟨_, h2'⟩ (kp_upd _) (hn _ _ hd) hy) .nil)

theorem comp_datL (Rl : Nat → D → Prop) (hp : H1 p = none) (hq : SqL K H1 a xs) (hsz : xs.length ≤ sizeLine) (hn : ∀ j d, Rl j d → noL d = true)
    (hs : ∀ (i : Nat) x H (R : VK), xs[i]? = some x → Same H1 H → (∀ y H4 d, Same H H4 → DatAt K H4 y d → Rl i d → R y H4) → g x (blk n capN σ) H fun σ2 H2 => te σ2 H2 R)
    (hd : ∀ ys H ds, Same H1 H → H p = some (.lst ys) → ds.length = xs.length → (∀ (j : Nat) d, ds[j]? = some d → Rl j d) → DatsAt K H ys ds → QH H) :
    ∃ W : Nat → Nat → List V → Hp → Prop, (∃ m, W 0 m [] (upd H1 p (.lst []))) ∧ ∀ i m ys H, W i m ys H → H p = some (.lst ys) ∧
      (((Itl K a).stop i H ∧ QH H) ∨ ((Itl K a).go i H ∧ ys.length < sizeLine ∧ ∃ N : List V → Hp → Prop, (∀ ys' H', N ys' H' → ∃ m', m' < m ∧ W (i + 1) m' ys' H') ∧ ∀ x H', (Itl K a).yld i H x H' → g x (blk n capN σ) H' fun σ2 H2 => tYes σ2 H2 fun b H3 =>
        if b = true then te σ2 H3 fun y H4 => H4 p = some (.lst ys) ∧ N (ys ++ [y]) (upd H4 p (.lst (ys ++ [y]))) else N ys H3)) :=
  comp_list (tt := tYes) (DatsUp K H1 p Rl) (DatsUp.start hp) (fun i ys H hi h => ⟨h.1.seq hq, h.2.1, Nat.le_of_eq h.len⟩) hsz
    (fun i x ys H hx h => by
      have z := hs i x H (fun y H4 => H4 p = some (.lst ys) ∧ DatsUp K H1 p Rl (i + 1) (ys ++ [y]) (upd H4 p (.lst (ys ++ [y])))) hx h.1 fun y H4 d S hy hr => h.more hp hn S hy hr
      simpa only [tYes, if_true] using z)
    fun ys H h => by
      obtain ⟨S1, h2, ds, h3, h4, h5⟩ := h
      exact hd ys H ds S1 h2 h3 h4 h5
theorem comp_datT (Rl : Nat → D → Prop) (hp : H1 p = none) (hq : SqT K H1 a xs) (hsz : xs.length ≤ sizeLine) (hn : ∀ j d, Rl j d → noL d = true)
    (hs : ∀ (i : Nat) x H (R : VK), xs[i]? = some x → Same H1 H → (∀ y H4 d, Same H H4 → DatAt K H4 y d → Rl i d → R y H4) → g x (blk n capN σ) H fun σ2 H2 => te σ2 H2 R)
    (hd : ∀ ys H ds, Same H1 H → H p = some (.lst ys) → ds.length = xs.length → (∀ (j : Nat) d, ds[j]? = some d → Rl j d) → DatsAt K H ys ds → QH H) :
    ∃ W : Nat → Nat → List V → Hp → Prop, (∃ m, W 0 m [] (upd H1 p (.lst []))) ∧ ∀ i m ys H, W i m ys H → H p = some (.lst ys) ∧
      (((Itt K a).stop i H ∧ QH H) ∨ ((Itt K a).go i H ∧ ys.length < sizeLine ∧ ∃ N : List V → Hp → Prop, (∀ ys' H', N ys' H' → ∃ m', m' < m ∧ W (i + 1) m' ys' H') ∧ ∀ x H', (Itt K a).yld i H x H' → g x (blk n capN σ) H' fun σ2 H2 => tYes σ2 H2 fun b H3 =>
        if b = true then te σ2 H3 fun y H4 => H4 p = some (.lst ys) ∧ N (ys ++ [y]) (upd H4 p (.lst (ys ++ [y]))) else N ys H3)) :=
  comp_tup (tt := tYes) (DatsUp K H1 p Rl) (DatsUp.start hp) (fun i ys H hi h => ⟨h.1.seqT hq, h.2.1, Nat.le_of_eq h.len⟩) hsz
    (fun i x ys H hx h => by
      have z := hs i x H (fun y H4 => H4 p = some (.lst ys) ∧ DatsUp K H1 p Rl (i + 1) (ys ++ [y]) (upd H4 p (.lst (ys ++ [y])))) hx h.1 fun y H4 d S hy hr => h.more hp hn S hy hr
      simpa only [tYes, if_true] using z)
    fun ys H h => by
      obtain ⟨S1, h2, ds, h3, h4, h5⟩ := h
      exact hd ys H ds S1 h2 h3 h4 h5
theorem comp_datR {lo : Int} {k : Nat} (Rl : Nat → D → Prop) (hp : H1 p = none) (hsz : k ≤ sizeLine) (hn : ∀ j d, Rl j d → noL d = true)
    (hs : ∀ (i : Nat) H (R : VK), i < k → Same H1 H → (∀ y H4 d, Same H H4 → DatAt K H4 y d → Rl i d → R y H4) → g (.int (lo + i)) (blk n capN σ) H fun σ2 H2 => te σ2 H2 R)
    (hd : ∀ ys H ds, Same H1 H → H p = some (.lst ys) → ds.length = k → (∀ (j : Nat) d, ds[j]? = some d → Rl j d) → DatsAt K H ys ds → QH H) :
    ∃ W : Nat → Nat → List V → Hp → Prop, (∃ m, W 0 m [] (upd H1 p (.lst []))) ∧ ∀ i m ys H, W i m ys H → H p = some (.lst ys) ∧
      (((Itr lo k).stop i H ∧ QH H) ∨ ((Itr lo k).go i H ∧ ys.length < sizeLine ∧ ∃ N : List V → Hp → Prop, (∀ ys' H', N ys' H' → ∃ m', m' < m ∧ W (i + 1) m' ys' H') ∧ ∀ x H', (Itr lo k).yld i H x H' → g x (blk n capN σ) H' fun σ2 H2 => tYes σ2 H2 fun b H3 =>
        if b = true then te σ2 H3 fun y H4 => H4 p = some (.lst ys) ∧ N (ys ++ [y]) (upd H4 p (.lst (ys ++ [y]))) else N ys H3)) :=
  comp_range (tt := tYes) (DatsUp K H1 p Rl) (DatsUp.start hp) (fun i ys H hi h => ⟨h.2.1, Nat.le_of_eq h.len⟩) hsz
    (fun i ys H hx h => by
      have z := hs i H (fun y H4 => H4 p = some (.lst ys) ∧ DatsUp K H1 p Rl (i + 1) (ys ++ [y]) (upd H4 p (.lst (ys ++ [y])))) hx h.1 fun y H4 d S hy hr => h.more hp hn S hy hr
      simpa only [tYes, if_true] using z)
    fun ys H h => by
      obtain ⟨S1, h2, ds, h3, h4, h5⟩ := h
      exact hd ys H ds S1 h2 h3 h4 h5
end

/-! ### the same rules, the fragment named (within a comprehension) -/
section
variable {X : Cx} {K : PySem.W.Frag}
theorem call_len_K (h : X.K = K) : CallR X (.builtin "len") (fun xs H Q => ∃ (p : Addr) (ys : List V), xs = [.ref p] ∧ (SqL K H p ys ∨ SqT K H p ys) ∧ Q (.int ys.length) H) := by subst h; exact call_len_seq
end
end L2

namespace L2
open PySem PySem.Spec PyProof.Rows

/-! ### exceptions of own classes -/
section
variable {P : Program} {w : World} {H : Hp} {h : Heap} {a : Addr} {o : HO}
theorem ObjOk.some (x : ObjOk P w H h a o) : ∃ u, h.get? a = some u := by
  cases o with
  | lst xs => obtain ⟨_, _, _, _, e⟩ := x; exact ⟨_, e⟩
  | tup xs => obtain ⟨_, _, _, o, e, _⟩ := x; exact ⟨_, e⟩
  | dK kvs => obtain ⟨_, _, _, _, o, _, _, e, _⟩ := x; exact ⟨_, e⟩
  | dT kvs => obtain ⟨_, _, _, _, o, _, _, e, _⟩ := x; exact ⟨_, e⟩
  | set S n => obtain ⟨o, _, _, _, e, _⟩ := x; exact ⟨_, e⟩
  | ins C dx fs => obtain ⟨_, _, _, e, _⟩ := x; exact ⟨_, e⟩
  | own y => obtain ⟨_, e⟩ := x; exact ⟨_, e⟩
  | xd fs => obtain ⟨_, ⟨_, _, _, e, _⟩, _⟩ := x; exact ⟨_, e⟩
  | rng lo hi => obtain ⟨_, _, _, e⟩ := x; exact ⟨_, e⟩
  | frz ob u => obtain ⟨e, _⟩ := x; exact ⟨_, e⟩
  | tbl ps => exact ⟨_, (show h.get? a = some _ from x)⟩
  | met f y => exact ⟨_, (show h.get? a = some _ from x)⟩
  | ext φ => obtain ⟨_, ⟨_, e⟩, _⟩ := x; exact ⟨_, e⟩
end

/-- how an exception of an own class lies behind a call -/
def CX1 (P : Program) (w : World) : CXT := fun outer H s E e s' => ∃ (a C : Addr) (a0 : Value) (B : Heap) (H' : Hp),
  e = .ref a ∧ s'.os = s.os ∧ AllBare s'.gens ∧ Un (frs outer) [] H H' s.heap s'.heap ∧ HOk P w H' s'.heap ∧ Heap.FlyingW B outer a (.ref C) a0 s'.heap ∧
  (∀ b o, s'.heap.get? b = some o → ((∃ u, H' b = some u) ∨ ∃ u, s.heap.get? b = some u) → b ∉ frs outer → B.get? b = some o) ∧ H' a = none ∧ s.heap.get? a = none ∧ E (.ref C) none H'


/-- the exception moves on: what was there ahead of the call is there still -/
theorem un_flown {P : Program} {w : World} {fs : List Addr} {H1 H2 : Hp} {h1 h2 h3 B : Heap} (u : Un fs [] H1 H2 h1 h2) (ok : HOk P w H2 h2)
    (cond : ∀ b o, h2.get? b = some o → ((∃ u, H2 b = some u) ∨ ∃ u, h1.get? b = some u) → b ∉ fs → B.get? b = some o) (st : B.StaysIn h3) (us : h2.UpToSlots h3)
    (nf : ∀ b ∈ fs, ∃ o, h2.get? b = some o ∧ ∀ vs, o.data ≠ .fields vs) (frf : ∀ b ∈ fs, H2 b = none) : Un fs [] H1 H2 h1 h3 ∧ HOk P w H2 h3 := by
  refine ⟨⟨fun b o e n hb hx => ?_, fun b o e n hb hx => ?_, u.free, fun b o e hx => ?_, u.tups, u.frzs, u.tbls⟩, fun b o e => ?_⟩
  · exact st b o (cond b o (u.keep b o e n hb hx) (.inr ⟨o, e⟩) hb)
  · obtain ⟨sl, e1⟩ := u.slot b o e n hb hx
    obtain ⟨o', e2, hd⟩ := nf b hb
    rw [e1] at e2
    cases e2
    obtain ⟨sl', e3⟩ := us b _ e1 hd
    exact ⟨sl', e3⟩
  · obtain ⟨o', e1⟩ := u.there b o e hx
    by_cases hb : b ∈ fs
    · obtain ⟨o2, e2, hd⟩ := nf b hb
      obtain ⟨sl', e3⟩ := us b _ e2 hd
      exact ⟨_, e3⟩
    · exact ⟨o', st b o' (cond b o' e1 (.inr ⟨o, e⟩) hb)⟩
  · have tr : ∀ c v, H2 c = some v → ∀ x, h2.get? c = some x → h3.get? c = some x := fun c v e x q =>
      st c x (cond c x q (.inl ⟨v, e⟩) fun hb => by rw [frf c hb] at e; cases e)
    refine (ok b o e).stay (fun c v hc q => ?_) (fun _ q => q) fun _ _ q => q
    rcases hc with rfl | hc
    · exact tr c o e v q
    · exact tr c _ hc v q

section
variable {X : Cx} {pins : List (Addr × Obj)} {σ : St} {H : Hp} {s : Shared}
theorem Inv.frs_free (I : Inv X pins σ H s) : ∀ b ∈ frs X.stack, ∃ o, s.heap.get? b = some o ∧ ∀ vs, o.data ≠ .fields vs := fun b hb => (I.stack.mem hb).2

/-- from the call's beginning to where the exception is held: the state as this frame knows it -/
theorem Inv.flown {H2 : Hp} {s2 : Shared} {h3 B : Heap} (I : Inv X pins σ H s) (ho : s2.os = s.os) (hg : AllBare s2.gens) (u : Un (frs X.stack) [] H H2 s.heap s2.heap) (ok : HOk X.prog X.w H2 s2.heap)
    (cond : ∀ b o, s2.heap.get? b = some o → ((∃ u, H2 b = some u) ∨ ∃ u, s.heap.get? b = some u) → b ∉ frs X.stack → B.get? b = some o) (st : B.StaysIn h3) (us : s2.heap.UpToSlots h3) :
    Inv X pins σ H2 { s2 with heap := h3 } := by
  have J : Inv X pins σ H2 s2 := I.call' ho u ok hg (fun b z => absurd z (by simp))
  obtain ⟨u3, ok3⟩ := un_flown u ok cond st us J.frs_free J.stkFree
  exact I.call' (s' := { s2 with heap := h3 }) ho u3 ok3 hg (fun b z => absurd z (by simp))

/-- an exception that leaves this frame, as the caller sees it -/
theorem Inv.leaves {H2 : Hp} {s2 : Shared} {h3 B : Heap} {E : XK} {a C : Addr} {a0 : Value} (I : Inv X pins σ H s) (hex : X.ex = []) (ho : s2.os = s.os) (hg : AllBare s2.gens) (u : Un (frs X.stack) [] H H2 s.heap s2.heap) (ok : HOk X.prog X.w H2 s2.heap)
    (cond : ∀ b o, s2.heap.get? b = some o → ((∃ u, H2 b = some u) ∨ ∃ u, s.heap.get? b = some u) → b ∉ frs X.stack → B.get? b = some o) (us : s2.heap.UpToSlots h3)
    (fl : Heap.FlyingW B X.outer a (.ref C) a0 h3) (ha : H2 a = none) (hn : s.heap.get? a = none) (q : E (.ref C) none H2) : CX1 X.prog X.w X.outer X.H₀ X.s₀ E (.ref a) { s2 with heap := h3 } := by
  have J := I.flown ho hg u ok cond fl.1 us
  have hex' : ∀ b, b ∉ X.ex := fun b z => by rw [hex] at z; cases z
  refine ⟨a, C, a0, B, H2, rfl, J.os, J.bare, hex ▸ J.base, J.hok, fl, fun b o e hb hf => ?_, ha, ?_, q⟩
  · have nl : b ∉ frs X.stack := fun z => by
      rcases List.mem_cons.mp (I.stkSub b z) with z | z
      · rcases hb with ⟨v, hb⟩ | ⟨v, hb⟩
        · rw [z, J.free] at hb; cases hb
        · exact absurd z (Nat.ne_of_lt (Nat.lt_of_lt_of_le (Heap.lt_size hb) I.ok.above))
      · exact hf z
    have key : ∃ o2, s2.heap.get? b = some o2 ∧ ((∃ u, H2 b = some u) ∨ ∃ u, s.heap.get? b = some u) := by
      rcases hb with ⟨v, hb⟩ | ⟨v, hb⟩
      · obtain ⟨o2, e2⟩ := (ok b v hb).some
        exact ⟨o2, e2, .inl ⟨v, hb⟩⟩
      · obtain ⟨o1, e1⟩ := I.base.there b v hb (hex' b)
        obtain ⟨o2, e2⟩ := u.there b o1 e1 (by simp)
        exact ⟨o2, e2, .inr ⟨o1, e1⟩⟩
    obtain ⟨o2, e2, hh⟩ := key
    have hB := cond b o2 e2 hh nl
    have := fl.1 b o2 hB
    have e : h3.get? b = some o := e
    rw [e] at this
    cases this
    exact hB
  · cases q : X.s₀.heap.get? a with
    | none => rfl
    | some v =>
      obtain ⟨o1, e1⟩ := I.base.there a v q (hex' a)
      rw [hn] at e1
      cases e1
end

/-! ### a def that may raise -/
section
variable {P : Program} {w : World} {K : PySem.W.Frag} {mg : Str → Option Value} {base : Heap}
/-- a def that raises nothing -/
theorem FnOk.calm {f : Addr} {fd : FuncData} {ps : List Str} {k : Nat} {sp : Sp} (F : FnOk P w K mg base CX0 k f fd ps sp) : FnOk P w K mg base (CX1 P w) k f fd ps sp :=
  ⟨F.len, fun A outer s H args us vs Q E hr he hb hv hs => codeAny_mono (F.run A outer s H args us vs Q E hr he hb hv hs) fun r s' h => by
    cases r with
    | error e => exact False.elim h
    | ok f => cases f <;> exact h⟩
end
/-- a callee's exception leaves this def too -/
theorem passUp {P : Program} {w : World} {K : PySem.W.Frag} {mg : Str → Option Value} {base : Heap} {N : List Str} {qual : Str} {scope : Scope} {f : Addr} {cd : Value} {A : Around} {outer : List Env} {s : Shared} {H : Hp} {E : XK} :
    Passes (CX1 P w) (cxOf (CX1 P w) P w K mg base N qual scope f cd A outer s H E) E := fun pins σ H1 s1 e s2 I h => by
  obtain ⟨a, C, a0, B, H2, rfl, ho, hg, u, ok, fl, cond, ha, hn, q⟩ := h
  show wpAny _ _ (leaving _ _) _ _ _
  refine wpAny_leaves_onW I.ok.frames rfl fl fun h3 fl3 us => ?_
  exact I.leaves rfl ho hg u ok cond us fl3 ha hn q

/-! ### raise -/
/-- an own class of exceptions -/
structure Exc (K : PySem.W.Frag) (mg : Str → Option Value) (x : Str) (C : Addr) : Prop where
  m : mg x = some (.ref C)
  x : PySem.W.excIn K C [.type "ValueError", .type "Exception", .type "BaseException", .type "object"] "ValueError.__new__" = true

section
variable {P : Program} {w : World} {K : PySem.W.Frag} {mg : Str → Option Value} {base : Heap} {N : List Str} {qual : Str} {scope : Scope} {f : Addr} {cd : Value} {A : Around} {outer : List Env} {s : Shared} {H : Hp} {E : XK}
end
end L2

namespace L2
open PySem PySem.Spec PyProof.Rows

/-- C is C' or stands under it; C' may be caught -/
structure Sub (K : PySem.W.Frag) (C C' : Addr) : Prop where
  k : PySem.W.kitCls K (.ref C) (.ref C') = some true
  b : PySem.W.subIn K (.ref C') (.type "BaseException") = some true


/-- an exception object -/
def excO (a C : Addr) : HO := .ext fun h => ∃ o, h.get? a = some o ∧ o.cls = .ref C
theorem isE_ans {K : PySem.W.Frag} {a C : Addr} {c : Value} (e : PySem.W.kitCls K (.ref C) c = some true) (hne : (Value.ref C == c) = false) : PySem.Answers (fun s => K.In s.heap ∧ ∃ o, s.heap.get? a = some o ∧ o.cls = .ref C) (.ref a) c true := by
  intro dep tk prog w A R s hs
  obtain ⟨h0, g, d, tt, os⟩ := s
  obtain ⟨⟨X, o, ho, hc⟩, hq⟩ := hs
  have LT : PySem.W.Looks (model prog w) h0 (typeOf (.ref a)) (.ref C) := hc ▸ (PySem.W.Looks.ld ho).andThen .now
  unfold Builtin.«isinstance.nested»
  refine wpAny_bind (LT.at ?_)
  rw [if_neg (by rw [hne]; exact Bool.false_ne_true)]
  obtain ⟨hty, his, hsub⟩ := PySem.W.kit_cls (M := model prog w) X e
  have LI : PySem.W.Looks (model prog w) h0 (isInstance (.ref a) c) true := LT.andThen hsub
  refine wpAny_bind (hty.at ?_)
  rw [if_pos (by decide)]
  k_delta "plainIsInstance"
  refine wpAny_bind (wpAny_bind (his.at ?_))
  simp only [Bool.not_true, Bool.false_eq_true, if_false]
  refine wpAny_bind (LI.at ?_)
  first
    | exact wpAny_pure (wpAny_pure (hq tt))
    | (simp only [if_true]; first | exact wpAny_pure (wpAny_pure (hq tt)) | exact wpAny_pure (hq tt) | exact wpAny_bind (wpAny_pure (wpAny_pure (hq tt))))
theorem call_isE {X : Cx} : CallR X (.builtin "isinstance") (fun xs H Q => ∃ a C n, xs = [.ref a, .ty n] ∧ H a = some (excO a C) ∧ PySem.W.kitCls X.K (.ref C) (.type n) = some true ∧ Q (.bl true) H) := by
  intro pins s σ H xs us Q I r h
  obtain ⟨a, C, n, rfl, ha, e, q⟩ := h
  obtain ⟨u, v, rfl, rx, ry⟩ := Vals.two r
  cases rx
  cases ry
  have ho : ∃ o, s.heap.get? a = some o ∧ o.cls = .ref C := (show ObjOk X.prog X.w H s.heap a (.ext fun h => ∃ o, h.get? a = some o ∧ o.cls = .ref C) from I.hok a _ ha).1
  exact call_isinstance (S := fun _ R s => (X.K.In s.heap ∧ ∃ o, s.heap.get? a = some o ∧ o.cls = .ref C) ∧ ∀ tk, R (.ok (.ret (.bool true))) { s with toks := tk })
    (fun prog w A R s hs => isinstance_outer (isE_ans e rfl 0 _ prog w A R s hs) (by intro z; cases z)) ⟨⟨I.kIn, ho⟩, fun tk => ⟨.bl true, H, I.tok tk, rfl, q⟩⟩
end L2

namespace L2
open PySem PySem.Spec PyProof.Rows

/-! ### try: one clause -/

section
variable {X : Cx} {pins pn : List (Addr × Obj)} {σ : St} {H : Hp} {s : Shared} {a : Addr}


end

section
variable {X : Cx} {k : Nat} {f : Addr} {fd : FuncData} {ps : List Str} {sp : Sp} {x : Str} {p pos : Pos} {e : Expr} {es : List Expr} {t : TA} {pn : List (Addr × Obj)} {W : Value → St → Hp → Prop}
end

section
variable {X : Cx} {body suite : List Stmt} {b₀ : Stmt} {y : Str} {np hpos pos : Pos} {C' : Addr} {tb : (Value → St → Hp → Prop) → TS} {ts : TS}


end
end L2

namespace HT
open PySem PyProof.Rows
section
variable {prog : Program} {w : World} {A : Around} {E : Value → Shared → Prop} {s : Shared}



end
end HT

namespace L2
open PySem PySem.Spec PyProof.Rows
section
variable {X : Cx} {e : Expr} {te : TE} {pos p2 p3 p4 : Pos} {jj : Nat}
end
section
variable {X : Cx} {es : List Expr} {t : TA} {pos : Pos}
/-! ### what is new, without its heap -/
def tTupN (t : TA) : TE := fun σ H Q => t σ H fun xs H1 => xs.length ≤ sizeLine ∧ ∀ p H', H1 p = none → Same H1 H' → H' p = some (.tup xs) → Q (.ref p) H'
def tLstN (t : TA) : TE := fun σ H Q => t σ H fun xs H1 => xs.length ≤ sizeLine ∧ ∀ p H', H1 p = none → Same H1 H' → H' p = some (.lst xs) → Q (.ref p) H'
theorem pe_tupN {x1} (h : PA X es t) : PE X (.Tuple es x1 pos) (tTupN t) := by
  intro pins s σ H Q I hq
  refine wpAny_Tuple_spliced (thn (h pos pins s σ H _ I hq) fun us s1 ⟨xs, H1, I1, r, z, q⟩ => ⟨by rw [← r.length]; exact z, ?_⟩)
  have hf : H1 s1.heap.objs.size = none := I1.hok.fresh (Nat.le_refl _)
  refine ⟨.ref s1.heap.objs.size, upd H1 s1.heap.objs.size (.tup xs), I1.laid (t' := s1.toks) (fun b u e => Heap.get?_push_of_some _ e) (Nat.le_refl _) ?_, rfl, q _ _ hf (same_fresh _ hf) upd_same⟩
  exact ⟨z, us, r, ⟨_, Heap.get?_push_size _ rfl, rfl, _, rfl⟩⟩
theorem pe_lstN (h : PA X es t) : PE X (.List es pos) (tLstN t) := by
  intro pins s σ H Q I hq
  refine wpAny_List_spliced (thn (h pos pins s σ H _ I hq) fun us s1 ⟨xs, H1, I1, r, z, q⟩ => ⟨by rw [← r.length]; exact z, ?_⟩)
  have hf : H1 s1.heap.objs.size = none := I1.hok.fresh (Nat.le_refl _)
  refine ⟨.ref s1.heap.objs.size, upd H1 s1.heap.objs.size (.lst xs), I1.laid (t' := s1.toks) (fun b u e => Heap.get?_push_of_some _ e) (Nat.le_refl _) ?_, rfl, q _ _ hf (same_fresh _ hf) upd_same⟩
  exact ⟨z, us, 0, r, Heap.get?_push_size _ rfl⟩
theorem call_tuple_ofN : CallR X (.type "tuple") (fun xs H Q => ∃ p ys, xs = [.ref p] ∧ (SqL X.K H p ys ∨ SqT X.K H p ys) ∧ ∀ l H', Same H H' → SqT X.K H' l ys → Q (.ref l) H') := by
  intro pins s σ H xs us Q I r h
  obtain ⟨p, ys, e, hp, q⟩ := h
  refine call_tuple_of pins s σ H xs us Q I r ⟨p, ys, e, ?_⟩
  rcases hp with hp | hp
  · exact .inl ⟨hp, fun l hl => q l _ (same_fresh _ hl) (.inl (.inl upd_same))⟩
  · exact .inr ⟨hp, q p H (Same.refl H) hp⟩
end
end L2

namespace L2
open PySem PySem.Spec PyProof.Rows
/-! ### arguments, without unfolding them -/
def notStar : Expr → Bool
  | .Starred _ _ => false
  | _ => true
theorem star_cons {e : Expr} {es : List Expr} {env : Env} (h : notStar e = true) : starEach (e :: es) env = (false, eval e env) :: starEach es env := by
  cases e <;> first | rfl | cases h
def noStars : List Expr → Bool
  | [] => true
  | e :: es => notStar e && noStars es
theorem star_any {env : Env} {pos : Pos} : ∀ {es : List Expr}, noStars es = true → (backTo pos (starEach es env)).any (·.1) = false
  | [], _ => rfl
  | e :: es, h => by
    simp only [noStars, Bool.and_eq_true] at h
    rw [star_cons h.1]
    show (false || (backTo pos (starEach es env)).any (·.1)) = false
    rw [star_any h.2]
    rfl
theorem star_all {env : Env} {pos : Pos} : ∀ {es : List Expr}, noStars es = true → (backTo pos (starEach es env)).all (fun x => !x.1) = true
  | [], _ => rfl
  | e :: es, h => by
    simp only [noStars, Bool.and_eq_true] at h
    rw [star_cons h.1]
    show (true && (backTo pos (starEach es env)).all (fun x => !x.1)) = true
    rw [star_all h.2]
    rfl
theorem call_isE_K {X : Cx} {K : PySem.W.Frag} (h : X.K = K) : CallR X (.builtin "isinstance") (fun xs H Q => ∃ a C n, xs = [.ref a, .ty n] ∧ H a = some (excO a C) ∧ PySem.W.kitCls K (.ref C) (.type n) = some true ∧ Q (.bl true) H) := by subst h; exact call_isE
theorem call_isD_K {X : Cx} {K : PySem.W.Frag} (h : X.K = K) : CallR X (.builtin "isinstance") (fun xs H Q => ∃ x n d b, xs = [x, .ty n] ∧ DatAt K H x d ∧ PySem.W.kitOne K (.type (tyD d)) (.type n) = some b ∧ Q (.bl b) H) := by subst h; exact call_isD
section
variable {X : Cx} {e o : Expr} {es : List Expr} {te to : TE} {t : TA} {x name : Str} {p pos apos cpos : Pos} {id T : String} {r : List V → Hp → VK → Prop} {k : Nat} {f : Addr} {fd : FuncData} {ps : List Str} {sp : Sp} {CX : CXT} {E : XK} {pn : List (Addr × Obj)} {W : Value → St → Hp → Prop}
theorem pa_c (ha : PE X e te) (hr : PA X es t) (hs : notStar e = true := by rfl) : PA X (e :: es) (tCons te t) := pa_cons ha hr (star_cons hs)
theorem pe_callF (F : FnOk X.prog X.w X.K X.mg X.base CX k f fd ps sp) (hr : Room k X.A) (hg : Gl X x) (hm : X.mg x = some (.ref f)) (hk : PySem.W.keepIn X.K (.ref f) = true) (hb : Binds X.K fd ps []) (hx : Passes CX X E)
    (ha : PA X (e :: es) t) (hdb : (x == ("__debug__" : Str)) = false := by decide) (hs : noStars (e :: es) = true := by rfl) : PE X (.Call (.Name x p) (e :: es) [] pos) (tCall sp [] E t) := by
  simp only [noStars, Bool.and_eq_true] at hs
  exact pe_call F hr hg hm hk hb .nil hx ha hdb (star_cons hs.1) (star_any hs.2)
theorem pe_callBF (hc : CallR X (.builtin id) r) (hg : Gl X x) (hm : X.mg x = none) (hv : bootBuiltins x = some (.builtin id)) (ha : PA X (e :: es) t) (hn : x ≠ "__name__" := by decide) (hdb : (x == ("__debug__" : Str)) = false := by decide)
    (hs : noStars (e :: es) = true := by rfl) : PE X (.Call (.Name x p) (e :: es) [] pos) (tCB r t) := by
  simp only [noStars, Bool.and_eq_true] at hs
  exact pe_callB hc hg hm hv ha hn hdb (star_cons hs.1) (star_any hs.2)
theorem pe_callTyF (hc : CallR X (.type T) r) (hg : Gl X x) (hm : X.mg x = none) (hv : bootBuiltins x = some (.type T)) (ha : PA X (e :: es) t) (hn : x ≠ "__name__" := by decide) (hdb : (x == ("__debug__" : Str)) = false := by decide)
    (hs : noStars (e :: es) = true := by rfl) : PE X (.Call (.Name x p) (e :: es) [] pos) (tCB r t) := by
  simp only [noStars, Bool.and_eq_true] at hs
  exact pe_callTy hc hg hm hv ha hn hdb (star_cons hs.1) (star_any hs.2)
theorem pe_bmF {rm : V → List V → Hp → VK → Prop} (pa : PlainAttrs T) (slot : Slot T name id) (hty : typeOf (.builtin id) = pure (.type "method_descriptor")) (hm : MtR X id rm) (ho : PE X o to) (ha : PA X (e :: es) t)
    (hbase : attributeBase o name X.env (eval o X.env) = eval o X.env := by rfl) (hl : decide ((e :: es).length + 0 + 0 < 30) = true := by rfl)
    (hline : (apos.endLine == cpos.line) = true := by rfl) (hs : noStars (e :: es) = true := by rfl) :
    PE X (.Call (.Attribute o name apos) (e :: es) [] cpos) (tBM X.K T rm to t) := by
  have hs' := hs
  simp only [noStars, Bool.and_eq_true] at hs
  refine pe_bm pa slot hty hm ho ha hbase ?_ hline (star_cons hs.1) (star_any hs.2)
  rw [star_all hs']
  show (true && true && decide ((e :: es).length + 0 + 0 < 30)) = true
  rw [hl]
  rfl
end
end L2

namespace L2
open PySem PySem.Spec PyProof.Rows
/-! ### the judgements, shut: a term of rules is put together without their being opened -/
structure WE (X : Cx) (e : Expr) (t : TE) : Prop where
  r : PE X e t
structure WT (X : Cx) (e : Expr) (t : TT) : Prop where
  r : PT X e t
structure WW (X : Cx) (e : Expr) (t : TT) : Prop where
  r : PW X e t
structure WA (X : Cx) (es : List Expr) (t : TA) : Prop where
  r : PA X es t
structure WS (X : Cx) (st : Stmt) (t : TS) : Prop where
  r : PS X st t
structure WZ (X : Cx) (st : List Stmt) (t : TS) : Prop where
  r : PSs X st t
structure WG (X : Cx) (e : Expr) (t : TG) : Prop where
  r : PG X e t
structure WGs (X : Cx) (es : List Expr) (t : TGs) : Prop where
  r : PGs X es t
structure WI (X : Cx) (tg it : Expr) (t : TI) : Prop where
  r : PI X tg it t
structure WO (X : Cx) (e : Option Expr) (t : TO) : Prop where
  r : PO X e t
structure WTs (X : Cx) (es : List Expr) (t : TT) : Prop where
  r : PTs X es t
section
variable {X : Cx} {a b c e f o i tg iter elt value : Expr} {es ifs rest : List Expr} {te ta tb tc td ty tx to ti tv tl : TE} {t : TA} {tA tB' : TT} {pos p p2 p3 p4 apos cpos np hpos pos' : Pos} {T id : String} {x y name : Str} {r : List V → Hp → VK → Prop}
  {k : Nat} {fa C C' : Addr} {fd : FuncData} {ps : List Str} {sp : Sp} {CX : CXT} {E : XK} {pn : List (Addr × Obj)} {W : Value → St → Hp → Prop} {jj : Nat} {st b₀ : Stmt} {body suite sts : List Stmt} {u ts : TS}
theorem wpv (i : Nat) {x : Str} {pos : Pos} (hN : X.N[i]? = some x := by rfl) (hv : Vis X.env.scope x := by first | exact Or.inl rfl | exact Or.inr (Or.inl rfl) | exact Or.inr (Or.inr rfl)) (hd : (x == ("__debug__" : Str)) = false := by decide)
    (hcd : (x == ("__classdict__" : Str)) = false := by decide) : WE X (.Name x pos) (tVar i) := ⟨pe_var hN hv hd hcd⟩
theorem wpe_bltn {v : V} {u : Value} (hg : Gl X x) (hm : X.mg x = none) (hv : bootBuiltins x = some u) (r : RelV v u) (hn : x ≠ "__name__" := by decide) (hd : (x == ("__debug__" : Str)) = false := by decide) : WE X (.Name x pos) (tC v) := ⟨pe_bltn hg hm hv r hn hd⟩
theorem wpe_glob {v : V} {u : Value} (hg : Gl X x) (hm : X.mg x = some u) (r : RelV v u) (hd : (x == ("__debug__" : Str)) = false := by decide) : WE X (.Name x pos) (tC v) := ⟨pe_glob hg hm r hd⟩
theorem wpe_bl {b j pos} : WE X (.Constant (.bool b) j pos) (tC (.bl b)) := ⟨pe_bl⟩
theorem wpe_int {i j pos} : WE X (.Constant (.int i) j pos) (tC (.int i)) := ⟨pe_int⟩
theorem wpe_str {x j pos} : WE X (.Constant (.str x) j pos) (tC (.str x)) := ⟨pe_str⟩
theorem wpe_op {op : Operator} {r : R2} (ho : OpR X (binaryOp op) r) (ha : WE X a ta) (hb : WE X b tb) : WE X (.BinOp a op b pos) (tOp r ta tb) := ⟨pe_op ho ha.r hb.r⟩
theorem wpe_un {op : UnaryOp} {r : V → Hp → VK → Prop} (ho : UnR X (unaryOp op) r) (ha : WE X a ta) : WE X (.UnaryOp op a pos) (tUn r ta) := ⟨pe_un ho ha.r⟩
theorem wpe_one {op} {t : TE} (h : WE X a t) : WE X (.BoolOp op [a] pos) t := ⟨pe_one h.r⟩
theorem wpe_and (ha : WE X a ta) (hb : WE X (.BoolOp .And (b :: rest) pos) tb) : WE X (.BoolOp .And (a :: b :: rest) pos) (tAndV ta tb) := ⟨pe_and ha.r hb.r⟩
theorem wpe_cmpR {op : CmpOp} {r : R2} (ho : OpR X (compareOp op) r) (ha : WE X a ta) (hb : WE X b tb) (hm : behindInMarks op b = false) : WE X (.Compare a [op] [b] pos) (tOp r ta tb) := ⟨pe_cmpR ho ha.r hb.r hm⟩
theorem wpe_chain {op op' : CmpOp} {r r' : R2} (ho : OpR X (compareOp op) r) (ho' : OpR X (compareOp op') r') (ha : WE X a ta) (hb : WE X b tb) (hc : WE X c tc) (hm : lastMarks [op, op'] [b, c] = false := by with_unfolding_all rfl) :
    WE X (.Compare a [op, op'] [b, c] pos) (tChain r r' ta tb tc) := ⟨pe_chain ho ho' ha.r hb.r hc.r hm⟩
theorem wpe_tupN {x1} (h : WA X es t) : WE X (.Tuple es x1 pos) (tTupN t) := ⟨pe_tupN h.r⟩
theorem wpe_lstN (h : WA X es t) : WE X (.List es pos) (tLstN t) := ⟨pe_lstN h.r⟩
theorem wpe_ix {r : R2} (hr : IxR X r) (ha : WE X a ta) (hb : WE X b tb) (hs : PlainIx b) : WE X (.Subscript a b pos) (tOp r ta tb) := ⟨pe_ix hr ha.r hb.r hs⟩
theorem wpe_bmF {rm : V → List V → Hp → VK → Prop} (pa : PlainAttrs T) (slot : Slot T name id) (hty : typeOf (.builtin id) = pure (.type "method_descriptor")) (hm : MtR X id rm) (ho : WE X o to) (ha : WA X (e :: es) t)
    (hbase : attributeBase o name X.env (eval o X.env) = eval o X.env := by rfl) (hl : decide ((e :: es).length + 0 + 0 < 30) = true := by rfl)
    (hline : (apos.endLine == cpos.line) = true := by rfl) (hs : noStars (e :: es) = true := by rfl) : WE X (.Call (.Attribute o name apos) (e :: es) [] cpos) (tBM X.K T rm to t) := ⟨pe_bmF pa slot hty hm ho.r ha.r hbase hl hline hs⟩
theorem wpe_callF (F : FnOk X.prog X.w X.K X.mg X.base CX k fa fd ps sp) (hr : Room k X.A) (hg : Gl X x) (hm : X.mg x = some (.ref fa)) (hk : PySem.W.keepIn X.K (.ref fa) = true) (hb : Binds X.K fd ps []) (hx : Passes CX X E)
    (ha : WA X (e :: es) t) (hdb : (x == ("__debug__" : Str)) = false := by decide) (hs : noStars (e :: es) = true := by rfl) : WE X (.Call (.Name x p) (e :: es) [] pos) (tCall sp [] E t) := ⟨pe_callF F hr hg hm hk hb hx ha.r hdb hs⟩
theorem wpe_callBF (hc : CallR X (.builtin id) r) (hg : Gl X x) (hm : X.mg x = none) (hv : bootBuiltins x = some (.builtin id)) (ha : WA X (e :: es) t) (hn : x ≠ "__name__" := by decide) (hdb : (x == ("__debug__" : Str)) = false := by decide)
    (hs : noStars (e :: es) = true := by rfl) : WE X (.Call (.Name x p) (e :: es) [] pos) (tCB r t) := ⟨pe_callBF hc hg hm hv ha.r hn hdb hs⟩
theorem wpe_callTyF (hc : CallR X (.type T) r) (hg : Gl X x) (hm : X.mg x = none) (hv : bootBuiltins x = some (.type T)) (ha : WA X (e :: es) t) (hn : x ≠ "__name__" := by decide) (hdb : (x == ("__debug__" : Str)) = false := by decide)
    (hs : noStars (e :: es) = true := by rfl) : WE X (.Call (.Name x p) (e :: es) [] pos) (tCB r t) := ⟨pe_callTyF hc hg hm hv ha.r hn hdb hs⟩
theorem wpe_comp {scope : Scope} {cl : List (Str × Addr)} {NB : List Str} {n : Nat} {capN : List Nat} {wi : TI} {g : TG} {tt : TT} (D : CompOk X scope cl NB n capN) (hc : X.calm = true) (gk : GKeeps n g) (hi : WI X tg iter wi)
    (hg : ∀ C fp s3 H3, WG (cxC X scope cl NB C fp s3 H3) tg g) (ht : ∀ C fp s3 H3, WTs (cxC X scope cl NB C fp s3 H3) ifs tt) (he : ∀ C fp s3 H3, WE (cxC X scope cl NB C fp s3 H3) elt te)
    (hs : ∀ x, foldedSetIterable iter X.env x = pure x := by intro _; rfl) : WE X (.ListComp elt [⟨tg, iter, ifs, 0⟩] scope pos) (tComp wi n capN g tt te) := ⟨pe_comp D hc gk hi.r (fun C fp s3 H3 => (hg C fp s3 H3).r) (fun C fp s3 H3 => (ht C fp s3 H3).r) (fun C fp s3 H3 => (he C fp s3 H3).r) hs⟩
theorem wpi_list (hl : WE X e te) : WI X tg e (iList X.K te) := ⟨pi_list hl.r⟩
theorem wpi_tup (hl : WE X e te) : WI X tg e (iTup X.K te) := ⟨pi_tup hl.r⟩
theorem wpg_name {i : Nat} (hN : X.N.Nodup) (hi : X.N[i]? = some x) (hx : Loc X.env.scope x) (hf : X.fn x = true ∨ X.env.scope.names.lookup x = some .local := by first | exact .inl rfl | exact .inr rfl | assumption) : WG X (.Name x pos) (gName i) := ⟨pg_name hN hi hx hf⟩
theorem wpg_tup {k : Nat} {t : TGs} {n : Nat} (hc : X.calm = true) (h : WGs X es t) (hn : (assignEach es X.env).length = n := by rfl) (hst : (assignEach es X.env).findIdx? (·.1) = none := by rfl) : WG X (.Tuple es k pos) (gTup X.K n t) := ⟨pg_tup hc h.r hn hst⟩
theorem wpgs_nil : WGs X [] gNil := ⟨pgs_nil⟩
theorem wpgs_cons {t : TG} {u : TGs} (h1 : WG X e t) (h2 : WGs X es u) (hs : (assignEach (e :: es) X.env).map (·.2) = assign e X.env :: (assignEach es X.env).map (·.2) := by rfl) : WGs X (e :: es) (gCons t u) := ⟨pgs_cons h1.r h2.r hs⟩
theorem wpts_nil : WTs X [] tYes := ⟨pts_nil⟩
theorem wpt_cmpR {op : CmpOp} {r : R2} (ho : OpR X (compareOp op) r) (ha : WE X a ta) (hb : WE X b tb) (hm : behindInMarks op b = false) : WT X (.Compare a [op] [b] pos) (tTest (tOp r ta tb)) := ⟨pt_cmpR ho ha.r hb.r hm⟩
theorem wpt_chain {op op' : CmpOp} {r r' : R2} (ho : OpR X (compareOp op) r) (ho' : OpR X (compareOp op') r') (ha : WE X a ta) (hb : WE X b tb) (hc : WE X c tc) (hm : lastMarks [op, op'] [b, c] = false := by with_unfolding_all rfl) :
    WT X (.Compare a [op, op'] [b, c] pos) (tTest (tChain r r' ta tb tc)) := ⟨pt_chain ho ho' ha.r hb.r hc.r hm⟩
theorem wpt_not (ha : WT X a tA) : WT X (.UnaryOp .Not a pos) (tNot tA) := ⟨pt_not ha.r⟩
theorem wpt_val {t : TE} (h : WE X e t) (he : ∀ whole, isTrue e X.env whole = (do let v ← whole; standAt e.pos; holding [v] (truthy v)) := by intro _; rfl) : WT X e (tB t) := ⟨pt_val h.r he⟩
theorem wpw_pt (h : WW X e tA) : WT X e tA := ⟨h.r.pt⟩
theorem wpw_or (ha : WT X a tA) (hb : WW X (.BoolOp .Or (b :: rest) pos) tB') : WW X (.BoolOp .Or (a :: b :: rest) pos) (tOr tA tB') := ⟨pw_or ha.r hb.r⟩
theorem wpw_or1 (ha : WT X a tA) : WW X (.BoolOp .Or [a] pos) tA := ⟨pw_or1 ha.r⟩
theorem wps_set {i : Nat} (hN : X.N.Nodup) (hi : X.N[i]? = some x) (hx : Loc X.env.scope x) (he : WE X e te) (hs : swapsWith e (some (.Name x pos')) pos.line X.env = pure false := by rfl)
    (hf : X.fn x = true ∨ X.env.scope.names.lookup x = some .local := by first | exact .inl rfl | exact .inr rfl | assumption) : WS X (.Assign [.Name x pos'] e pos) (tAsg te (gName i)) := ⟨ps_set hN hi hx he.r hs hf⟩
theorem wps_expr (he : WE X e te) (hs : swapsWith e none pos.line X.env = pure false := by rfl) : WS X (.Expr e pos) (tDrop te) := ⟨ps_expr he.r hs⟩
theorem wps_if {tc : TT} {ba bb : List Stmt} {t u : TS} (hc : WT X c tc) (ha : WZ X ba t) (hb : WZ X bb u) : WS X (.If c ba bb pos) (tIfS tc t u) := ⟨ps_if hc.r ha.r hb.r⟩
theorem wps_for {wi : TI} {g : TG} {tb : TS} (hp : PassesOwn (model X.prog X.w) X.A X.env X.xe) (hc : X.calm = true) (hi : WI X tg iter wi) (hg : WG X tg g) (hb : WZ X body tb) (hs : ∀ x, foldedSetIterable iter X.env x = pure x := by intro _; rfl) :
    WS X (.For tg iter body [] pos) (tFor wi g tb) := ⟨ps_for hp hc hi.r hg.r hb.r hs⟩
theorem wps_while {tc : TT} {tb : TS} (hp : PassesOwn (model X.prog X.w) X.A X.env X.xe) (hc : WT X c tc) (hb : WZ X body tb) : WS X (.While c body [] pos) (tWhile tc tb) := ⟨ps_while hp hc.r hb.r⟩
theorem wps_ret (he : WE X e te) : WS X (.Return (some e) pos) (tRet te) := ⟨ps_ret he.r⟩
theorem wps_never : WS X st tNever := ⟨ps_never⟩
theorem wpss_nil : WZ X [] tNext := ⟨pss_nil⟩
theorem wpss_one {t : TS} (h1 : WS X st t) : WZ X [st] t := ⟨pss_one h1.r⟩
theorem wpss_cons {t u : TS} (h1 : WS X st t) (h2 : WZ X sts u) : WZ X (st :: sts) (tSeq t u) := ⟨pss_cons h1.r h2.r⟩
theorem wpa_c (ha : WE X e te) (hr : WA X es t) (hs : notStar e = true := by rfl) : WA X (e :: es) (tCons te t) := ⟨pa_c ha.r hr.r hs⟩
theorem wpa_nil : WA X [] tNil := ⟨pa_nil⟩
end
section
variable {P : Program} {w : World} {K : PySem.W.Frag} {mg : Str → Option Value} {base : Heap} {N : List Str} {qual : Str} {scope : Scope} {f : Addr} {cd : Value} {A : Around} {outer : List Env} {s : Shared} {H : Hp} {E : XK}
theorem Fun.okW {x qual : Str} {st : Stmt} {f : Addr} {fd : FuncData} {N ps : List Str} {k : Nat} {sp : Sp} (F : Fun K x qual st f fd) (S : FnScope N ps (defScope st)) (len : ∀ vs H Q E, sp vs H Q E → vs.length = ps.length)
    (hbody : ∀ (cdv : Value) (A : Around) (outer : List Env) (s : Shared) (H : Hp) (vs : List V) (Q : VK) (E : XK), Room k (A.deeper (envOfC qual (defScope st) s.heap.objs.size f cdv)) → sp vs H Q E →
      ∃ t, WZ (cxOf CX0 P w K mg base N qual (defScope st) f cdv A outer s H E).nox (defBody st) t ∧ t { nx := fun _ H' => Q .non H', rt := Q } (start N vs) H) : FnOk P w K mg base CX0 (k + 1) f fd ps sp :=
  F.ok S len fun cdv A outer s H vs Q E hr h => let ⟨t, q1, q2⟩ := hbody cdv A outer s H vs Q E hr h; ⟨t, q1.r, q2⟩
end
end L2

namespace L2
open PySem PySem.Spec PyProof.Rows
/-! ### great numbers -/
def CMulK (i j : Int) : Prop := i.natAbs < 2 ^ 4000 ∧ j.natAbs < 2 ^ 4000
theorem bits_le {i : Int} {m : Nat} (h : i.natAbs < 2 ^ m) : PySem.Builtin.Int.intBits i ≤ m := by
  unfold PySem.Builtin.Int.intBits
  by_cases h0 : i = 0
  · subst h0
    rw [if_pos (by decide)]
    exact Nat.zero_le _
  · rw [if_neg (by simpa using h0)]
    have : i.natAbs.log2 < m := (Nat.log2_lt (by omega)).mpr h
    omega
theorem CMulK.ok {i j : Int} (h : CMulK i j) : IntMulOk i j := by
  have h1 := bits_le h.1
  have h2 := bits_le h.2
  have hc : Builtin.Int.intTooBig (Builtin.Int.intBits i + Builtin.Int.intBits j) = false := by
    unfold Builtin.Int.intTooBig bitsLine
    exact decide_eq_false (by omega)
  unfold IntMulOk
  rw [hc]
  simp
def CDivK (_ j : Int) : Prop := j ≠ 0 ∧ j.natAbs < 2 ^ 8000
section
variable {X : Cx}
theorem op_mulK : OpR X (binaryOp .Mult) (rI CMulK fun i j => .int (i * j)) := opI fun _ _ _ _ _ _ _ hc q => mul_int q hc.ok
theorem op_fdivK : OpR X (binaryOp .FloorDiv) (rI CDivK fun i j => .int (i.fdiv j)) := opI fun _ j _ _ _ _ _ hc q => floordiv_int hc.1 q (.inl (PyProof.noPylong_of_log2 (by
  have := (Nat.log2_lt (n := j.natAbs) (k := 8000) (by have := hc.1; omega)).mpr hc.2
  omega)))
end
end L2

namespace L2
open PySem PySem.Spec PyProof.Rows
section
variable {X : Cx} {scope : Scope} {cl : List (Str × Addr)} {NB : List Str} {n : Nat} {capN : List Nat} {tg iter elt : Expr} {ifs : List Expr} {pos spos py : Pos} {wi : TI} {g : TG} {tt : TT} {te : TE} {y : Str}
end
end L2

namespace L2
open PySem PySem.Spec PyProof.Rows PySem.SeqAt PySem.SeqAt

end L2

/-! ### any, zip, sorted of a dict, in, + of lists -/
namespace L2
open PySem PySem.Spec PyProof.Rows
section
variable {X : Cx}
end
end L2

/-! ### lists of lists: sorted, not in -/
namespace L2
open PySem PySem.Spec PyProof.Rows PySem.SeqAt
section
open PySem.AutoSeq1 (wpAny_loadPart')
open PySem.MeetsSeq PySem.MeetsSeq2 PySem.MeetsSeq3
end
section
variable {prog : Program} {w : World} {A : Around} {E : Value → Shared → Prop} {s : Shared}
end
/-! ### a list that is in order already -/
section
variable {prog : Program} {w : World} {A : Around} {E : Value → Shared → Prop} {s : Shared}
end
section
variable {X : Cx}
end
end L2

namespace L2
open PySem PySem.Spec PyProof.Rows

/-! ### two except clauses -/
/-- C stands not under C', which may be caught -/
structure NSub (K : PySem.W.Frag) (C C' : Addr) : Prop where
  k : PySem.W.kitCls K (.ref C) (.ref C') = some false
  b : PySem.W.subIn K (.ref C') (.type "BaseException") = some true
section
variable {X : Cx} {body suite suite2 : List Stmt} {b₀ b1 : Stmt} {y y2 : Str} {np hpos np2 hpos2 pos : Pos} {C' C2 : Addr} {tb : (Value → St → Hp → Prop) → TS} {ts ts2 : TS}
end

/-! ### zip of a list or a tuple with a list or a tuple -/
section
variable {prog : Program} {w : World} {A : Around} {E : Value → Shared → Prop} {s : Shared}
end
section
variable {prog : Program} {w : World} {A : Around} {E : Value → Shared → Prop} {s : Shared}
end
section
variable {X : Cx} {pins : List (Addr × Obj)} {σ : St} {H : Hp} {s : Shared} {b : Bool} {a : Addr} {xs ys : List V}
end
end L2
namespace L2
open PySem PySem.Spec PyProof.Rows
section
variable {K : PySem.W.Frag} {pb qb : Bool} {a b p : Addr} {xs zs : List V} {n : Nat} {capN : List Nat} {g : TG} {tt : TT} {te : TE} {σ : St} {H1 : Hp} {QH : Hp → Prop}
end
end L2

namespace L2
open PySem PySem.Spec PyProof.Rows Builtin Builtin.ObjectAttr Builtin.Getset_descriptor
/-- what isinstance asks of an own class of exceptions -/
structure ExcK (K : PySem.W.Frag) (C : Addr) : Prop where
  ga : PySem.W.findIn K (.ref C) "__getattribute__" = some (some (.builtin "BaseException.__getattribute__"))
  gh : PySem.W.findIn K (.ref C) "__getattr__" = some none
  cl : PySem.W.findIn K (.ref C) "__class__" = some (some (.builtin "object.__class__"))
  ge : PySem.W.specialIn K (.builtin "object.__class__") "__get__" = some (some (.builtin "getset_descriptor.__get__"))
  tk : PySem.W.takesIn K (.builtin "object.__class__") = some true
  mo : PySem.W.mroIn K C (.type "object") = some true
  mb : PySem.W.mroIn K C (.type "BaseException") = some true
section
variable {prog : Program} {w : World} {A : Around} {E : Value → Shared → Prop} {s : Shared} {K : PySem.W.Frag} {a C : Addr} {o : Obj}
theorem exc_type {M : Model} {h : Heap} (ho : h.get? a = some o) (hc : o.cls = .ref C) : PySem.W.Looks M h (typeOf (.ref a)) (.ref C) := hc ▸ (PySem.W.Looks.ld ho).andThen .now
theorem exc_classGet {R : Result → Shared → Prop} {tp : Value} (X : K.In s.heap) (ho : s.heap.get? a = some o) (hc : o.cls = .ref C) (Z : ExcK K C) (h : R (.ok (.ret (.ref C))) s) :
    codeAny (model prog w) A (.call (.builtin "getset_descriptor.__get__") ⟨[.builtin "object.__class__", .ref a, tp], []⟩) R s := by
  obtain ⟨hh, g, dr, t, os⟩ := s
  have L0 := exc_type (M := model prog w) ho hc
  have L1 := PySem.W.looks_mroIn (M := model prog w) X Z.mo
  refine codeAny_call_builtin PySem.W.KF.slot_gs.plain PySem.W.KF.entry_gs (PySem.W.KF.slot_gs.check _ _ _ _ _ _ _ _ PySem.W.KF.type_class (PySem.W.KF.args_gs _ _ _) ?_)
  unfold Builtin.«getset_descriptor.__get__» descrGet
  rw [PySem.W.dga_obj]; refine wpAny_bind (wpAny_pure ?_)
  unfold descrGetter descrCheckInstance descrNameAndClass isInstance
  simp only [PySem.W.KF.owner_class]; repeat lk
  refine ⟨Code.quiet_builtin _ (by decide +kernel), codeAny_builtin PySem.W.KF.entry_class ?_⟩
  unfold Builtin.«object.__class__» shownTypeOf; repeat lk
  exact h
theorem exc_find {M : Model} {h : Heap} (X : K.In h) (Z : ExcK K C) : PySem.W.Looks M h (find (.ref a) (.ref C) "__class__") (.bind (.builtin "getset_descriptor.__get__") (.builtin "object.__class__")) := by
  have L1 := PySem.W.looks_findIn (M := M) X Z.cl
  have L2 : PySem.W.Looks M h (getOf (some (.builtin "object.__class__"))) (some (.builtin "getset_descriptor.__get__")) := PySem.W.looks_specialIn X Z.ge
  have L3 := PySem.W.looks_takesIn (M := M) X Z.tk
  unfold find
  refine L1.andThen (L2.andThen ?_)
  have L4 : PySem.W.Looks M h (dataDescriptor? (some (.builtin "object.__class__")) (some (.builtin "getset_descriptor.__get__"))) (some (.builtin "getset_descriptor.__get__", .builtin "object.__class__")) := by
    unfold dataDescriptor?
    exact L3.andThen .now
  exact L4.andThen (PySem.W.Looks.tag .now)
theorem exc_check {M : Model} {nameV : Value} {Q : Unit → Shared → Prop} (X : K.In s.heap) (ho : s.heap.get? a = some o) (hc : o.cls = .ref C) (Z : ExcK K C) (q : Q () s) :
    wpAny M A (checkBuiltinCall "BaseException.__getattribute__" ⟨[.ref a, nameV], []⟩) Q E s := by
  obtain ⟨hh, g, dr, t, os⟩ := s
  have hk : builtinKind "BaseException.__getattribute__" = some .slot := by decide +kernel
  have hsp : splitId "BaseException.__getattribute__" = some ("BaseException", "__getattribute__") := by decide +kernel
  have L0 := exc_type (M := M) ho hc
  have L1 := PySem.W.looks_mroIn (M := M) X Z.mb
  have ha := F.args_bexc_ga (.ref a) nameV
  simp only [checkBuiltinCall, hk, hsp]
  refine wpAny_bind ?_
  unfold isInstance
  refine wpAny_bind (L0.at (L1.at ?_))
  repeat (first | assumption | wp_step)
theorem exc_cls {Q : Option Value → Shared → Prop} (X : K.In s.heap) (ho : s.heap.get? a = some o) (hc : o.cls = .ref C) (Z : ExcK K C) (q : Q (some (.ref C)) { s with toks := s.toks + 1 }) :
    wpAny (model prog w) A (getAttr? (.ref a) "__class__") Q E s := by
  obtain ⟨hh, g, dr, t, os⟩ := s
  have L0 := exc_type (M := model prog w) ho hc
  have L1 := PySem.W.looks_findIn (M := model prog w) X Z.ga
  have L2 := PySem.W.looks_findIn (M := model prog w) X Z.gh
  have L3 := exc_find (M := model prog w) (a := a) X Z
  have n1 : (Value.builtin "BaseException.__getattribute__" == Value.builtin "object.__getattribute__") = false := by decide +kernel
  unfold getAttr? getAttrBy? getAttrBy
  refine wpAny_bind (wpAny_mkText (wpAny_bind (wpAny_attempt (wpAny_holding (wpAny_bind (L0.at (wpAny_bind (L1.at ?_))))))))
  show wpAny _ _ (if (onTheHeap (Value.ref C) && Value.builtin "BaseException.__getattribute__" == Value.builtin "object.__getattribute__") = true then _ else _) _ _ _
  rw [n1, Bool.and_false, if_neg Bool.false_ne_true]
  unfold getAttrByItsOwn hookBefore
  refine wpAny_bind (L2.at ?_)
  refine wpAny_bind (wpAny_attempt (wpAny_holding ?_))
  show wpAny _ _ (boundAndCalled _ _ _) _ _ _
  unfold boundAndCalled
  refine wpAny_bind (wpAny_of_eq (PySem.F.excAttr_ValueError.ga.bind (.ref a)) ?_)
  refine wpAny_call (codeAny_call_builtin PySem.F.excAttr_ValueError.ga.plain F.entry_bexc_ga (exc_check (o := o) X ho hc Z ?_))
  unfold «object.__getattribute__»
  refine wpAny_bind (wpAny_pure ?_)
  refine wpAny_bind (wpAny_pure ?_)
  refine wpAny_bind (L0.at ?_)
  refine wpAny_bind (L3.at ?_)
  show wpAny _ _ (bindTo (.builtin "getset_descriptor.__get__") (.builtin "object.__class__") (.ref a) (.ref C)) _ _ _
  show wpAny _ _ (holding [.builtin "object.__class__"] (call (.builtin "getset_descriptor.__get__") [.builtin "object.__class__", .ref a, .ref C]) >>= ret) _ _ _
  refine wpAny_bind (wpAny_holding (wpAny_call (exc_classGet (o := o) X ho hc Z ?_)))
  refine wpAny_pure ?_
  show wpAny _ _ (handedOut (.ref C)) _ _ _
  exact wpAny_pure (wpAny_pure q)
end
section
variable {K : PySem.W.Frag} {a C : Addr}
theorem kitx_exc {cd : ClassData} (Z : ExcK K C) (hc : PySem.W.clsIn K C = some cd) : PySem.W.KitX K (.ref a) (.ref C) (fun h => ∃ o, h.get? a = some o ∧ o.cls = .ref C) where
  ty := fun _ _ _ ⟨_, ho, hc⟩ => exc_type ho hc
  it := fun M h X _ => by
    unfold PySem.W.clsIn at hc
    split at hc
    · rename_i c' d' cd' sl' ho
      intro A' Q' E' s' k q
      unfold isType loadHead
      exact wpAny_bind (wpAny_loadPart (k _ _ (X _ _ ho)) (wpAny_pure q))
    · cases hc
  ne := fun h tp dd its n sl X htp => by
    refine Bool.eq_false_iff.mpr fun q => ?_
    have e : C = tp := Value.ref.inj (beq_iff_eq.mp q)
    subst e
    unfold PySem.W.clsIn at hc
    split at hc
    · rename_i c' d' cd' sl' ho
      have z := (X _ _ ho).symm.trans htp
      cases z
    · cases hc
  ca := fun X ⟨_, ho, hc⟩ k => exc_cls X ho hc Z k
end
section
variable {X : Cx} {K : PySem.W.Frag}
/-- isinstance(e, C') of a caught exception -/
theorem call_isX (h : X.K = K) : CallR X (.builtin "isinstance") (fun xs H Q => ∃ a C C' cd b, xs = [.ref a, .ref C'] ∧ H a = some (excO a C) ∧ ExcK K C ∧ PySem.W.clsIn K C = some cd ∧ PySem.W.kitOne K (.ref C) (.ref C') = some b ∧ Q (.bl b) H) := by
  subst h
  intro pins s σ H xs us Q I r h
  obtain ⟨a, C, C', cd, b, rfl, ha, Z, hcd, e, q⟩ := h
  obtain ⟨u, v, rfl, rx, ry⟩ := Vals.two r
  cases rx
  cases ry
  have ho : ∃ o, s.heap.get? a = some o ∧ o.cls = .ref C := (show ObjOk X.prog X.w H s.heap a (.ext fun h => ∃ o, h.get? a = some o ∧ o.cls = .ref C) from I.hok a _ ha).1
  exact PySem.W.kia_one (kitx_exc Z hcd) I.kIn ho e (by intro z; cases z) fun tk => ⟨.bl b, H, I.tok tk, rfl, q⟩
/-- isinstance(e, (C1, ..)) -/
theorem call_isXs (h : X.K = K) : CallR X (.builtin "isinstance") (fun xs H Q => ∃ (a C t : Addr) (cs : List Addr) (cd : ClassData) (b : Bool), xs = [.ref a, .ref t] ∧ H a = some (excO a C) ∧ H t = some (.tup (cs.map V.ref)) ∧ ExcK K C ∧ PySem.W.clsIn K C = some cd ∧ PySem.W.kitAny K (.ref C) (cs.map Value.ref) = some b ∧ Q (.bl b) H) := by
  subst h
  intro pins s σ H xs us Q I r h
  obtain ⟨a, C, t, cs, cd, b, rfl, ha, ht, Z, hcd, e, q⟩ := h
  obtain ⟨u, v, rfl, rx, ry⟩ := Vals.two r
  cases rx
  cases ry
  have ho : ∃ o, s.heap.get? a = some o ∧ o.cls = .ref C := (show ObjOk X.prog X.w H s.heap a (.ext fun h => ∃ o, h.get? a = some o ∧ o.cls = .ref C) from I.hok a _ ha).1
  obtain ⟨hz, its, rv, ⟨o, h1, h2, n, h3⟩⟩ := (show ObjOk X.prog X.w H s.heap t (.tup (cs.map V.ref)) from I.hok t _ ht)
  have ei : ∀ (l : List Addr) (js : List Value), Vals (l.map V.ref) js → js = l.map Value.ref := by
    intro l
    induction l with
    | nil => intro js r; cases r; rfl
    | cons x xs ih =>
      intro js r
      cases r with
      | cons r1 r2 => cases r1; rw [ih _ r2]; rfl
  have e1 := ei cs its rv
  subst e1
  obtain ⟨oc, od, oda, osl⟩ := o
  dsimp only at h2 h3
  subst h2 h3
  exact PySem.W.kia_tup (kitx_exc Z hcd) I.kIn ho h1 e (by intro z; cases z) fun tk => ⟨.bl b, H, I.tok tk, rfl, q⟩
end
end L2

namespace L2
open PySem PySem.Spec PyProof.Rows
/-! ### texts -/
theorem vals_strs : ∀ {ts : List Str} {us : List Value}, Vals (ts.map V.str) us → ∃ l : List (Str × Tok), us = strValues l ∧ l.map (·.1) = ts
  | [], _, .nil => ⟨[], rfl, rfl⟩
  | x :: ts, _, .cons r1 r2 => by
    obtain ⟨t, rfl⟩ := r1
    obtain ⟨l, rfl, rfl⟩ := vals_strs r2
    exact ⟨(x, t) :: l, rfl, rfl⟩
theorem strs_vals : ∀ (l : List (Str × Tok)), Vals ((l.map (·.1)).map V.str) (strValues l)
  | [] => .nil
  | (x, t) :: l => .cons ⟨t, rfl⟩ (strs_vals l)
section
variable {prog : Program} {w : World} {A : Around} {E : Value → Shared → Prop} {s : Shared} {x y : Str} {t u : Tok} {Q : Value → Shared → Prop}
theorem call_splitN (hy : (y.length == 0) = false) (hx : x.length ≤ sizeLine) (hn : (Builtin.Str.partsBetween x (Builtin.Str.occurrences x y 0 x.length (x.length + 1)) y.length).length ≤ sizeLine)
    (k : ∀ (l : List (Str × Tok)) (n : Nat), l.map (·.1) = Txt.split x y → Q (.ref s.heap.objs.size) { s with heap := s.heap.push { cls := .type "list", data := .seq (strValues l).toArray }, toks := n }) :
    wpAny (model prog w) A (call (.builtin "str.split") [.str x t, .str y u]) Q E s := by
  cases a1 : (decide (x.length < y.length) || decide (Builtin.Str.strKind x < Builtin.Str.strKind y)) with
  | true => exact call_meets F.slot_str_split (typeIs_str _ _ _) F.entry_str_split (F.args_str_split_2 _ _) (meets_str_split_cannot_occur x y t u a1) (k [(x, t)] _ (if_pos a1).symm)
  | false =>
    cases a2 : (Builtin.Str.occurrences x y 0 x.length (x.length + 1)).isEmpty with
    | true => exact call_meets F.slot_str_split (typeIs_str _ _ _) F.entry_str_split (F.args_str_split_2 _ _) (meets_str_split_not_found x y t u a1 hy a2) (k [(x, t)] _ ((if_neg (ne_true_of_eq_false a1)).trans (if_pos a2)).symm)
    | false =>
      refine call_meets F.slot_str_split (typeIs_str _ _ _) F.entry_str_split (F.args_str_split_2 _ _) (meets_str_split_sep x y t u a1 hy a2 hx hn) ?_
      have z := k (numbered s.toks (Builtin.Str.partsBetween x (Builtin.Str.occurrences x y 0 x.length (x.length + 1)) y.length))
      rw [← strsFrom_eq] at z
      exact z _ ((numbered_texts _ _).trans ((if_neg (ne_true_of_eq_false a1)).trans (if_neg (ne_true_of_eq_false a2))).symm)
end
section
variable {X : Cx}
/-- x.split(y) -/
theorem mt_split : MtR X "str.split" (fun x xs H Q => ∃ a y, x = .str a ∧ xs = [.str y] ∧ (y.length == 0) = false ∧ a.length ≤ sizeLine ∧ (Builtin.Str.partsBetween a (Builtin.Str.occurrences a y 0 a.length (a.length + 1)) y.length).length ≤ sizeLine ∧ (Txt.split a y).length ≤ sizeLine ∧
    ∀ l H', H l = none → Same H H' → H' l = some (.lst ((Txt.split a y).map V.str)) → Q (.ref l) H') := by
  intro pins s σ H x xs v us Q I rx rv h
  obtain ⟨a, y, rfl, rfl, h1, h2, h3, h4, q⟩ := h
  obtain ⟨t, rfl⟩ := rx
  obtain ⟨u, rfl, ru⟩ := rv.one
  obtain ⟨t2, rfl⟩ := ru
  refine call_splitN h1 h2 h3 fun l n hl => ?_
  have hp : H s.heap.objs.size = none := I.hok.fresh (Nat.le_refl _)
  refine ⟨.ref s.heap.objs.size, _, I.laid (t' := n) (o := .lst ((Txt.split a y).map V.str)) (fun b ob q => Heap.get?_push_of_some _ q) (Nat.le_refl _) ?_, rfl, q _ _ hp (same_fresh _ hp) upd_same⟩
  refine ⟨by rw [List.length_map]; exact h4, strValues l, 0, by rw [← hl]; exact strs_vals l, Heap.get?_push_size _ rfl⟩
/-- x.join(list) -/
theorem mt_join : MtR X "str.join" (fun x xs H Q => ∃ a l ts, x = .str a ∧ xs = [.ref l] ∧ SqL X.K H l (ts.map V.str) ∧ JoinOk a ts = true ∧ Q (.str (Txt.join a ts)) H) := by
  intro pins s σ H x xs v us Q I rx rv h
  obtain ⟨a, l, ts, rfl, rfl, hl, hok, q⟩ := h
  obtain ⟨t, rfl⟩ := rx
  obtain ⟨u, rfl, ru⟩ := rv.one
  cases ru
  obtain ⟨its, r, p, hz⟩ := I.list hl
  obtain ⟨l', rfl, e⟩ := vals_strs r
  exact SC.join p.isList e hok fun t' k => ⟨.str (Txt.join a ts), H, I.tok k, ⟨t', rfl⟩, q⟩
/-- int(text) -/
theorem call_int_str : CallR X (.type "int") (fun xs H Q => ∃ a n, xs = [.str a] ∧ PySem.intText? a = some n ∧ a.length ≤ 640 ∧ Q (.int n) H) := by
  intro pins s σ H xs us Q I r h
  obtain ⟨a, n, rfl, e, hl, q⟩ := h
  obtain ⟨u, rfl, ru⟩ := r.one
  obtain ⟨t, rfl⟩ := ru
  exact PySem.W.KIN.call_text e hl ⟨.int n, H, I.tok _, ⟨_, rfl⟩, q⟩
/-- what f'{..}' shows of a value -/
def fmtV : V → Option Str
  | .int i => if i.natAbs.log2 < 1920 then some (Str.ofString (toString i)) else none
  | .str a => if a.length ≤ sizeLine then some a else none
  | _ => none
def tFmt2 (t1 : TE) (c : Str) (t2 : TE) : TE := fun σ H Q => t1 σ H fun x H1 => ∃ a, fmtV x = some a ∧ a.length ≤ 1000 ∧ c.length ≤ 1000 ∧ t2 σ H1 fun y H2 => ∃ b, fmtV y = some b ∧ b.length ≤ 1000 ∧ Q (.str (a ++ c ++ b)) H2
theorem str_app_empty (a : Str) : Str.empty ++ a = a := by
  obtain ⟨l⟩ := a
  show Str.mk (#[] ++ l) = Str.mk l
  rw [Array.empty_append]
theorem fmt_field {x : V} {v : Value} {a : Str} {s : Shared} {Q : Value → Shared → Prop} (r : RelV x v) (e : fmtV x = some a) (h : ∀ t' tk, Q (.str a t') { s with toks := tk }) : wpAny (model X.prog X.w) X.A (formatField v Str.empty) Q X.xe s := by
  cases x with
  | int i =>
    obtain ⟨t, rfl⟩ := r
    simp only [fmtV] at e
    split at e
    · rename_i c
      cases e
      exact formatField_int_small c (h _ _)
    · cases e
  | str b =>
    obtain ⟨t, rfl⟩ := r
    simp only [fmtV] at e
    split at e
    · rename_i c
      cases e
      exact formatField_str h c
    · cases e
  | _ => cases e
theorem len_app (a b : Str) : (a ++ b).length = a.length + b.length := strLen_append a b
theorem pe_fmt2 {e1 e2 : Expr} {t1 t2 : TE} {c : Str} {p1 p2 p3 pos : Pos} {j} (h1 : PE X e1 t1) (h2 : PE X e2 t2) :
    PE X (.JoinedStr [.FormattedValue e1 (-1) none p1, .Constant (.str c) j p2, .FormattedValue e2 (-1) none p3] pos) (tFmt2 t1 c t2) := by
  intro pins s σ H Q I h
  refine JoinedStr_many (joinParts_cons (FormattedValue_plain (thn (h1 pins s σ H _ I h) fun v s1 ⟨x, H1, I1, r1, a, ea, la, lc, q1⟩ => ?_)))
  refine fmt_field r1 ea fun t' tk => ?_
  have sz : (1000 : Nat) + 1000 + 1000 ≤ sizeLine := by decide
  refine ⟨by rw [str_app_empty]; omega, joinParts_cons (Calls.Constant_str ⟨by rw [len_app, str_app_empty]; omega, joinParts_consE (joinParts_cons ?_)⟩)⟩
  refine FormattedValue_plain (thn (h2 pins _ σ H1 _ (I1.tok _) q1) fun v2 s2 ⟨y, H2, I2, r2, b, eb, lb, q2⟩ => ?_)
  refine fmt_field r2 eb fun t2' tk2 => ?_
  have e3 : Str.empty ++ a ++ c ++ b = a ++ c ++ b := by rw [str_app_empty]
  refine ⟨by rw [e3, len_app, len_app]; omega, joinParts_nilE (joinParts_nil ?_ (by rw [e3, len_app, len_app]; omega))⟩
  rw [e3]
  exact ⟨.str (a ++ c ++ b), H2, (I2.tok _).tok _, ⟨_, rfl⟩, q2⟩
theorem wpe_fmt2 {e1 e2 : Expr} {t1 t2 : TE} {c : Str} {p1 p2 p3 pos : Pos} {j} (h1 : WE X e1 t1) (h2 : WE X e2 t2) :
    WE X (.JoinedStr [.FormattedValue e1 (-1) none p1, .Constant (.str c) j p2, .FormattedValue e2 (-1) none p3] pos) (tFmt2 t1 c t2) := ⟨pe_fmt2 h1.r h2.r⟩
end
/-! ### the signs of a text -/
/-- a text's signs, one by one -/
def Its (a : Str) : It := ⟨fun i _ => i < a.cps.size, fun i H x H' => H' = H ∧ ∃ c, a.cps[i]? = some c ∧ x = .str ⟨#[c]⟩, fun i _ => a.cps.size ≤ i⟩
theorem turn_strA {P : Program} {w : World} {K : PySem.W.Frag} {tg : Expr} (a : Str) (t : Tok) (it : Addr) : Turn P w K tg (Its a) [it] it (fun i h => h.IsStrIter it "str_ascii_iterator" a t i) where
  mem := by simp
  obj := fun i h st b hb => by
    have e : b = it := by simpa using hb
    subst e
    obtain ⟨o, e, c, d⟩ := st
    exact ⟨o, e, fun v z => by rw [d] at z; cases z⟩
  keep := fun i h h' st k => by
    obtain ⟨o, e, d⟩ := st
    exact ⟨o, k it (by simp) o e, d⟩
  item := by
    intro X hP hw hK hc i pins s σ H E I hf st hg
    subst hP hw hK
    obtain ⟨f0, f1, f2, f3, f4, f5⟩ := hf it (by simp)
    have hg : i < a.cps.size := hg
    have hx : a.cps[i]? = some a.cps[i] := by simp [hg]
    refine wpAny_pyNext_ascii_item st hx fun h' st' sb => ?_
    have I1 : Inv X pins σ H { s with heap := h', toks := s.toks + 1 } := I.turned (fun b o hb e => (sb.2 b hb).trans e) f0 f1 f3 f4 f5
    obtain ⟨o, e, c, d⟩ := id st'
    exact ⟨_, rfl, go_of (s := { s with heap := h', toks := s.toks + 1 }) e c d (by decide) ⟨.str ⟨#[a.cps[i]]⟩, H, I1, ⟨_, rfl⟩, ⟨rfl, _, hx, rfl⟩, st', fun b hb => (hf b hb).1⟩⟩
  done := by
    intro X hP hw hK hc i pins s σ H E I hf st hg
    subst hP hw hK
    obtain ⟨f0, f1, f2, f3, f4, f5⟩ := hf it (by simp)
    have hg : a.cps.size ≤ i := hg
    exact wpAny_pyNext_ascii_end (I.ok.hd hc) st (by simp; omega) fun h' eb => ⟨rfl, I.turned (t' := s.toks) (fun b o hb e => eb b o hb e) f0 f1 f3 f4 f5⟩
  self := fun _ _ _ _ _ st h => wpAny_pyIter_striter_ascii st h
section
variable {X : Cx} {tg : Expr}
def iStrA (tl : TE) : TI := fun σ H R => tl σ H fun x H1 => ∃ a, x = .str a ∧ a.cps.all (· < 128) = true ∧ R (Its a) H1
theorem pi_strA {l : Expr} {tl : TE} (hl : PE X l tl) : PI X tg l (iStrA tl) := by
  intro pins s σ H R I h
  refine thn (hl pins s σ H _ I h) fun v s1 ⟨x, H1, I1, r1, q1⟩ => ?_
  obtain ⟨a, rfl, ha, q⟩ := q1
  obtain ⟨t, rfl⟩ := r1
  refine wpAny_pyIter_ascii ha ?_
  refine ⟨s1.heap.objs.size, [s1.heap.objs.size], _, _, H1, rfl, I1.kept (t' := s1.toks) fun b o e => Heap.get?_push_of_some _ e, turn_strA a t _, ⟨_, Heap.get?_push_size _ rfl, rfl, rfl⟩, fun b hb => ?_, q⟩
  have e : b = s1.heap.objs.size := by simpa using hb
  subst e
  exact I1.fpOk (Nat.le_refl _) (I1.hok.fresh (Nat.le_refl _))
theorem wpi_strA {l : Expr} {tl : TE} (hl : WE X l tl) : WI X tg l (iStrA tl) := ⟨pi_strA hl.r⟩
end
section
variable {K : PySem.W.Frag} {a : Str} {p : Addr} {n : Nat} {capN : List Nat} {g : TG} {te : TE} {σ : St} {H1 : Hp} {QH : Hp → Prop}
theorem comp_datS (Rl : Nat → D → Prop) (hp : H1 p = none) (hsz : a.cps.size ≤ sizeLine) (hn : ∀ j d, Rl j d → noL d = true)
    (hs : ∀ (i : Nat) c H (R : VK), a.cps[i]? = some c → Same H1 H → (∀ y H4 d, Same H H4 → DatAt K H4 y d → Rl i d → R y H4) → g (.str ⟨#[c]⟩) (blk n capN σ) H fun σ2 H2 => te σ2 H2 R)
    (hd : ∀ ys H ds, Same H1 H → H p = some (.lst ys) → ds.length = a.cps.size → (∀ (j : Nat) d, ds[j]? = some d → Rl j d) → DatsAt K H ys ds → QH H) :
    ∃ W : Nat → Nat → List V → Hp → Prop, (∃ m, W 0 m [] (upd H1 p (.lst []))) ∧ ∀ i m ys H, W i m ys H → H p = some (.lst ys) ∧
      (((Its a).stop i H ∧ QH H) ∨ ((Its a).go i H ∧ ys.length < sizeLine ∧ ∃ N : List V → Hp → Prop, (∀ ys' H', N ys' H' → ∃ m', m' < m ∧ W (i + 1) m' ys' H') ∧ ∀ x H', (Its a).yld i H x H' → g x (blk n capN σ) H' fun σ2 H2 => tYes σ2 H2 fun b H3 =>
        if b = true then te σ2 H3 fun y H4 => H4 p = some (.lst ys) ∧ N (ys ++ [y]) (upd H4 p (.lst (ys ++ [y]))) else N ys H3)) := by
  refine ⟨fun i m ys H => m = a.cps.size - i ∧ i ≤ a.cps.size ∧ DatsUp K H1 p Rl i ys H, ⟨a.cps.size, by simp, Nat.zero_le _, DatsUp.start hp⟩, ?_⟩
  rintro i m ys H ⟨rfl, hi, pv⟩
  refine ⟨pv.2.1, ?_⟩
  by_cases hlt : i < a.cps.size
  · refine .inr ⟨hlt, by rw [pv.len]; omega, fun ys' H' => DatsUp K H1 p Rl (i + 1) ys' H', fun ys' H' p' => ⟨a.cps.size - (i + 1), by omega, rfl, hlt, p'⟩, fun x H' y => ?_⟩
    obtain ⟨rfl, c, hc, rfl⟩ := y
    have z := hs i c H' (fun y H4 => H4 p = some (.lst ys) ∧ DatsUp K H1 p Rl (i + 1) (ys ++ [y]) (upd H4 p (.lst (ys ++ [y])))) hc pv.1 fun y H4 d S hy hr => pv.more hp hn S hy hr
    simpa only [tYes, if_true] using z
  · have e : i = a.cps.size := by omega
    subst e
    obtain ⟨S1, h2, ds, h3, h4, h5⟩ := pv
    exact .inl ⟨Nat.le_refl _, hd ys H ds S1 h2 h3 h4 h5⟩
end
end L2
namespace L2
open PySem PySem.Spec PyProof.Rows
section
variable {X : Cx} {a b : Expr} {ta tb : TE} {pos : Pos}
theorem wpe_itemS (ha : WE X a ta) (hb : WE X b tb) (hs : PlainIxT b := by intro _ _; rfl) :
    WE X (.Subscript a b pos) (tOp (fun x y H Q => ∃ z i c, x = .str z ∧ y = .int i ∧ 0 ≤ i ∧ i < 2 ^ 63 ∧ i < z.length ∧ z.cps[i.toNat]? = some c ∧ Q (.str ⟨#[c]⟩) H) ta tb) := ⟨pe_item_str ha.r hb.r hs⟩
/-- len(text) -/
theorem call_lenS : CallR X (.builtin "len") (fun xs H Q => ∃ a, xs = [.str a] ∧ a.length ≤ sizeLine ∧ Q (.int (a.length : Int)) H) := by
  intro pins s σ H xs us Q I r h
  obtain ⟨a, rfl, hl, q⟩ := h
  obtain ⟨u, rfl, ru⟩ := r.one
  obtain ⟨t, rfl⟩ := ru
  have hz : sizeLine = 16777216 := sizeLine_eq
  exact len_str (by omega) ⟨.int a.length, H, I.tok _, ⟨_, rfl⟩, q⟩
end
end L2

namespace Lw
open PySem L2
def top (i : Nat) : Stmt := PySem.Challenge.pw_lotwander_k18_texts_there_and_back.main.body.getD i (.Pass ⟨0, 0, 0, 0⟩)
abbrev s_is_whole : Stmt := top 7
abbrev n_is_whole : List Str := ["thing"]
abbrev p_is_whole : List Str := ["thing"]
theorem sc_is_whole : FnScope n_is_whole p_is_whole (defScope s_is_whole) := ⟨rfl, rfl, rfl, by decide +kernel, rfl, by decide +kernel, by decide +kernel⟩
abbrev s_common_divisor : Stmt := top 8
abbrev n_common_divisor : List Str := ["first", "second", "larger", "smaller", "rest"]
abbrev p_common_divisor : List Str := ["first", "second"]
theorem sc_common_divisor : FnScope n_common_divisor p_common_divisor (defScope s_common_divisor) := ⟨rfl, rfl, rfl, by decide +kernel, rfl, by decide +kernel, by decide +kernel⟩
abbrev s_is_fraction : Stmt := top 9
abbrev n_is_fraction : List Str := ["thing"]
abbrev p_is_fraction : List Str := ["thing"]
theorem sc_is_fraction : FnScope n_is_fraction p_is_fraction (defScope s_is_fraction) := ⟨rfl, rfl, rfl, by decide +kernel, rfl, by decide +kernel, by decide +kernel⟩
abbrev s_reduced : Stmt := top 10
abbrev n_reduced : List Str := ["upper", "lower", "divisor"]
abbrev p_reduced : List Str := ["upper", "lower"]
theorem sc_reduced : FnScope n_reduced p_reduced (defScope s_reduced) := ⟨rfl, rfl, rfl, by decide +kernel, rfl, by decide +kernel, by decide +kernel⟩
abbrev s_plus : Stmt := top 11
abbrev n_plus : List Str := ["first", "second"]
abbrev p_plus : List Str := ["first", "second"]
theorem sc_plus : FnScope n_plus p_plus (defScope s_plus) := ⟨rfl, rfl, rfl, by decide +kernel, rfl, by decide +kernel, by decide +kernel⟩
abbrev s_total : Stmt := top 12
abbrev n_total : List Str := ["fractions", "together", "fraction"]
abbrev p_total : List Str := ["fractions"]
theorem sc_total : FnScope n_total p_total (defScope s_total) := ⟨rfl, rfl, rfl, by decide +kernel, rfl, by decide +kernel, by decide +kernel⟩
abbrev s_is_room : Stmt := top 15
abbrev n_is_room : List Str := ["thing", "count"]
abbrev p_is_room : List Str := ["thing", "count"]
theorem sc_is_room : FnScope n_is_room p_is_room (defScope s_is_room) := ⟨rfl, rfl, rfl, by decide +kernel, rfl, by decide +kernel, by decide +kernel⟩
abbrev s_is_pair : Stmt := top 16
abbrev n_is_pair : List Str := ["thing", "count"]
abbrev p_is_pair : List Str := ["thing", "count"]
theorem sc_is_pair : FnScope n_is_pair p_is_pair (defScope s_is_pair) := ⟨rfl, rfl, rfl, by decide +kernel, rfl, by decide +kernel, by decide +kernel⟩
abbrev s_is_spread : Stmt := top 17
abbrev n_is_spread : List Str := ["thing", "count", "last", "shares", "pair"]
abbrev p_is_spread : List Str := ["thing", "count"]
theorem sc_is_spread : FnScope n_is_spread p_is_spread (defScope s_is_spread) := ⟨rfl, rfl, rfl, by decide +kernel, rfl, by decide +kernel, by decide +kernel⟩
abbrev s_is_walk : Stmt := top 18
abbrev n_is_walk : List Str := ["thing"]
abbrev p_is_walk : List Str := ["thing"]
theorem sc_is_walk : FnScope n_is_walk p_is_walk (defScope s_is_walk) := ⟨rfl, rfl, rfl, by decide +kernel, rfl, by decide +kernel, by decide +kernel⟩
abbrev s_checked : Stmt := top 19
abbrev n_checked : List Str := ["walk"]
abbrev p_checked : List Str := ["walk"]
theorem sc_checked : FnScope n_checked p_checked (defScope s_checked) := ⟨rfl, rfl, rfl, by decide +kernel, rfl, by decide +kernel, by decide +kernel⟩
abbrev s_share_shown : Stmt := top 23
abbrev n_share_shown : List Str := ["share", "upper", "lower"]
abbrev p_share_shown : List Str := ["share"]
theorem sc_share_shown : FnScope n_share_shown p_share_shown (defScope s_share_shown) := ⟨rfl, rfl, rfl, by decide +kernel, rfl, by decide +kernel, by decide +kernel⟩
abbrev s_pair_shown : Stmt := top 24
abbrev n_pair_shown : List Str := ["pair", "share", "room"]
abbrev p_pair_shown : List Str := ["pair"]
theorem sc_pair_shown : FnScope n_pair_shown p_pair_shown (defScope s_pair_shown) := ⟨rfl, rfl, rfl, by decide +kernel, rfl, by decide +kernel, by decide +kernel⟩
abbrev s_spread_shown : Stmt := top 25
abbrev n_spread_shown : List Str := ["spread"]
abbrev p_spread_shown : List Str := ["spread"]
theorem sc_spread_shown : FnScope n_spread_shown p_spread_shown (defScope s_spread_shown) := ⟨rfl, rfl, rfl, by decide +kernel, rfl, by decide +kernel, by decide +kernel⟩
abbrev s_shown : Stmt := top 26
abbrev n_shown : List Str := ["walk"]
abbrev p_shown : List Str := ["walk"]
theorem sc_shown : FnScope n_shown p_shown (defScope s_shown) := ⟨rfl, rfl, rfl, by decide +kernel, rfl, by decide +kernel, by decide +kernel⟩
abbrev s_number_read : Stmt := top 27
abbrev n_number_read : List Str := ["text"]
abbrev p_number_read : List Str := ["text"]
theorem sc_number_read : FnScope n_number_read p_number_read (defScope s_number_read) := ⟨rfl, rfl, rfl, by decide +kernel, rfl, by decide +kernel, by decide +kernel⟩
abbrev s_share_read : Stmt := top 28
abbrev n_share_read : List Str := ["text", "parts"]
abbrev p_share_read : List Str := ["text"]
theorem sc_share_read : FnScope n_share_read p_share_read (defScope s_share_read) := ⟨rfl, rfl, rfl, by decide +kernel, rfl, by decide +kernel, by decide +kernel⟩
abbrev s_pair_read : Stmt := top 29
abbrev n_pair_read : List Str := ["text", "parts"]
abbrev p_pair_read : List Str := ["text"]
theorem sc_pair_read : FnScope n_pair_read p_pair_read (defScope s_pair_read) := ⟨rfl, rfl, rfl, by decide +kernel, rfl, by decide +kernel, by decide +kernel⟩
abbrev s_spread_read : Stmt := top 30
abbrev n_spread_read : List Str := ["text"]
abbrev p_spread_read : List Str := ["text"]
theorem sc_spread_read : FnScope n_spread_read p_spread_read (defScope s_spread_read) := ⟨rfl, rfl, rfl, by decide +kernel, rfl, by decide +kernel, by decide +kernel⟩
abbrev s_read : Stmt := top 31
abbrev n_read : List Str := ["text", "walk"]
abbrev p_read : List Str := ["text"]
theorem sc_read : FnScope n_read p_read (defScope s_read) := ⟨rfl, rfl, rfl, by decide +kernel, rfl, by decide +kernel, by decide +kernel⟩
abbrev s_law_cell_at : Stmt := top 33
abbrev n_law_cell_at : List Str := ["_law_script", "_law_k"]
abbrev p_law_cell_at : List Str := ["_law_script", "_law_k"]
theorem sc_law_cell_at : FnScope n_law_cell_at p_law_cell_at (defScope s_law_cell_at) := ⟨rfl, rfl, rfl, by decide +kernel, rfl, by decide +kernel, by decide +kernel⟩
abbrev s_law_mixed : Stmt := top 34
abbrev n_law_mixed : List Str := ["_law_script", "_law_k", "_law_many", "_law_drawn"]
abbrev p_law_mixed : List Str := ["_law_script", "_law_k", "_law_many"]
theorem sc_law_mixed : FnScope n_law_mixed p_law_mixed (defScope s_law_mixed) := ⟨rfl, rfl, rfl, by decide +kernel, rfl, by decide +kernel, by decide +kernel⟩
abbrev s_law_divisor : Stmt := top 35
abbrev n_law_divisor : List Str := ["_law_a", "_law_b", "_law_left"]
abbrev p_law_divisor : List Str := ["_law_a", "_law_b"]
theorem sc_law_divisor : FnScope n_law_divisor p_law_divisor (defScope s_law_divisor) := ⟨rfl, rfl, rfl, by decide +kernel, rfl, by decide +kernel, by decide +kernel⟩
abbrev s_law_frac : Stmt := top 36
abbrev n_law_frac : List Str := ["_law_upper", "_law_lower", "_law_same"]
abbrev p_law_frac : List Str := ["_law_upper", "_law_lower"]
theorem sc_law_frac : FnScope n_law_frac p_law_frac (defScope s_law_frac) := ⟨rfl, rfl, rfl, by decide +kernel, rfl, by decide +kernel, by decide +kernel⟩
abbrev s_law_spread : Stmt := top 37
abbrev n_law_spread : List Str := ["_law_script", "_law_at", "_law_many", "_law_weights", "_law_k", "_law_room", "_law_whole"]
abbrev p_law_spread : List Str := ["_law_script", "_law_at", "_law_many"]
theorem sc_law_spread : FnScope n_law_spread p_law_spread (defScope s_law_spread) := ⟨rfl, rfl, rfl, by decide +kernel, rfl, by decide +kernel, by decide +kernel⟩
abbrev s_law_walk : Stmt := top 38
abbrev n_law_walk : List Str := ["_law_script", "_law_at", "_law_many"]
abbrev p_law_walk : List Str := ["_law_script", "_law_at"]
theorem sc_law_walk : FnScope n_law_walk p_law_walk (defScope s_law_walk) := ⟨rfl, rfl, rfl, by decide +kernel, rfl, by decide +kernel, by decide +kernel⟩
abbrev s_law_figures : Stmt := top 39
abbrev n_law_figures : List Str := ["_law_number", "_law_made"]
abbrev p_law_figures : List Str := ["_law_number"]
theorem sc_law_figures : FnScope n_law_figures p_law_figures (defScope s_law_figures) := ⟨rfl, rfl, rfl, by decide +kernel, rfl, by decide +kernel, by decide +kernel⟩
abbrev s_law : Stmt := top 40
abbrev n_law : List Str := ["_law_script", "_law_walk_here", "_law_rooms", "_law_spread_here", "_law_words", "_law_room", "_law_share", "_law_word", "_law_line"]
abbrev p_law : List Str := ["_law_script"]
theorem sc_law : FnScope n_law p_law (defScope s_law) := ⟨rfl, rfl, rfl, by decide +kernel, rfl, by decide +kernel, by decide +kernel⟩
end Lw
/-! ### numbers -/
namespace Lw
open L2
theorem gcd_step (L S : Nat) : Nat.gcd S (L % S) = Nat.gcd L S := by
  rw [Nat.gcd_comm L S, Nat.gcd_rec S L, Nat.gcd_comm]
theorem abs_nat (i : Int) : (if i < 0 then -i else i) = (i.natAbs : Int) := by
  split <;> omega
theorem gcd_pos {u l : Int} (h : 0 < l) : 0 < Int.gcd u l := by
  have : Int.gcd u l ≠ 0 := by
    intro z
    rw [Int.gcd_eq_zero_iff] at z
    omega
  omega
theorem gcd_le {u l : Int} (h : 0 < l) : (Int.gcd u l : Int) ≤ l := Int.le_of_dvd h (Int.gcd_dvd_right ..)
end Lw
/-! ### the law's own inputs -/
namespace Lw
open PySem L2
/-- a def of the text, with its name bound and its arguments -/
structure Df (K : PySem.W.Frag) (mg : Str → Option Value) (x : Str) (st : Stmt) (ps : List Str) (f : Addr) (fd : FuncData) : Prop where
  F : Fun K x x st f fd
  b : Binds K fd ps []
  m : mg x = some (.ref f)
/-- the built-in names that the text leaves -/
structure Bn (mg : Str → Option Value) : Prop where
  len : mg "len" = none
  abs : mg "abs" = none
  range : mg "range" = none
  sum : mg "sum" = none
  tuple : mg "tuple" = none
  list : mg "list" = none
  sorted : mg "sorted" = none
  isinstance : mg "isinstance" = none
  int : mg "int" = none
  bool : mg "bool" = none
  all : mg "all" = none

def spCell (K : PySem.W.Frag) : Sp := fun vs H Q _ => ∃ (a : Addr) (ns : List Int) (k : Int), vs = [.ref a, .int k] ∧ SqL K H a (ns.map V.int) ∧ 0 ≤ k ∧ ∀ (i : Int) (H' : Hp), Same H H' → Q (.int i) H'
def spMixed (K : PySem.W.Frag) : Sp := fun vs H Q _ => ∃ (a : Addr) (ns : List Int) (k m : Int), vs = [.ref a, .int k, .int m] ∧ SqL K H a (ns.map V.int) ∧ 0 ≤ k ∧ k < 1000000 ∧ 1 ≤ m ∧ ∀ (i : Int) (H' : Hp), Same H H' → 0 ≤ i → i < m → Q (.int i) H'
def spGcd : Sp := fun vs H Q _ => ∃ a b : Int, vs = [.int a, .int b] ∧ Q (.int (Int.gcd a b)) H
def frU (u l : Int) : Int := u / (Int.gcd u l : Int)
def frL (u l : Int) : Int := l / (Int.gcd u l : Int)
def spFrac : Sp := fun vs H Q _ => ∃ u l : Int, vs = [.int u, .int l] ∧ 0 < l ∧ l < 1073741824 ∧ ∀ p, H p = none → Q (.ref p) (upd H p (.tup [.int (frU u l), .int (frL u l)]))

theorem atI_lt {ns : List Int} {k : Int} (h0 : 0 ≤ k) (h : k < (ns.length : Int)) : atI (ns.map V.int) k = some (.int (ns.getD k.toNat 0)) := by
  obtain ⟨j, rfl⟩ : ∃ j : Nat, k = (j : Int) := ⟨k.toNat, by omega⟩
  have hj : j < ns.length := by omega
  refine atI_nat ?_
  rw [List.getElem?_map, List.getElem?_eq_getElem hj]
  simp [List.getD, hj]
theorem hu60 {A : Around} {k : Nat} (hr : Room k A) : A.units + 60 < cLine := by have := hr.un; omega
theorem dep_ints (l : List Int) : depDs (l.map D.int) = 0 := by
  induction l with
  | nil => rfl
  | cons x r ih => simp [depDs, depD, ih]
theorem same_new {H : Hp} {l : Addr} (o : HO) (h : H l = none) : Same H (upd H l o) := fun b u e => by rw [upd_ne (ne_of_none e h)]; exact e

section
variable {P : Program} {w : World} {K : PySem.W.Frag} {mg : Str → Option Value} {base : Heap}
theorem ok_law_cell_at {f : Addr} {fd : FuncData} (B : Bn mg) (G : Df K mg "_law_cell_at" s_law_cell_at p_law_cell_at f fd) : FnOk P w K mg base CX0 1 f fd p_law_cell_at (spCell K) := by
  refine G.F.ok sc_law_cell_at (fun vs H Q E h => ?_) (fun cdv A outer s H vs Q E hr h => ?_)
  · obtain ⟨a, ns, k, rfl, _⟩ := h
    rfl
  · obtain ⟨a, ns, k, rfl, hS, h0, q⟩ := h
    refine ⟨_, pss_cons (ps_if (pt_cmpR op_lt (pv 1) (pe_callB call_len_seq rfl B.len PySem.boot_len (pa_cons (pv 0) pa_nil)) (nomark _)) (pss_one (ps_ret (pe_ix ix_list (pv 0) (pv 1) (fun _ _ => rfl)))) pss_nil)
      (pss_cons (ps_if (pt_cmpR (op_eqD (hu60 hr)) (pv 0) (pe_lst pa_nil) (nomark _)) (pss_one (ps_ret pe_int)) pss_nil)
      (pss_one (ps_ret (pe_op op_add (pe_op op_mul (pe_ix ix_list (pv 0) (pe_op op_mod (pv 1) (pe_callB call_len_seq rfl B.len PySem.boot_len (pa_cons (pv 0) pa_nil))) (fun _ _ => rfl)) pe_int) (pv 1))))), ?_⟩
    refine ⟨_, rfl, _, rfl, a, _, rfl, .inl hS, _, _, rfl, rfl, _, rfl, ?_⟩
    refine ite2 (fun hlt => ?_) (fun hlt => ?_)
    · have hlt : k < (ns.length : Int) := by simpa using hlt
      exact ⟨_, rfl, _, rfl, a, _, _, _, rfl, rfl, hS, atI_lt h0 hlt, q _ _ (Same.refl H)⟩
    · refine ⟨_, rfl, Nat.zero_le _, fun l hl => ?_⟩
      have S1 : Same H (upd H l (.lst [])) := same_new _ hl
      refine ⟨.lst (ns.map D.int), .lst [], .inr ⟨_, _, rfl, rfl⟩, .lst (S1.seq hS) (datsInts ns), .lst (SqL.of upd_same) .nil, (by show depDs (ns.map D.int) + 1 ≤ 50; rw [dep_ints]; decide), _, rfl, ?_⟩
      refine ite2 (fun he => ?_) (fun he => ?_)
      · exact q _ _ S1
      · have hne : ns ≠ [] := fun z => he (by subst z; rfl)
        have hpos : 0 < (ns.length : Int) := by
          have := List.length_pos_iff.mpr hne
          omega
        refine ⟨_, rfl, _, rfl, _, rfl, a, _, rfl, .inl (S1.seq hS), _, _, rfl, rfl, (by simpa using hpos), a, _, _, _, rfl, rfl, S1.seq hS, atI_lt (Int.emod_nonneg _ (by simp; omega)) (by simpa using Int.emod_lt_of_pos k hpos), _, _, rfl, rfl, .inr ⟨by decide, by decide⟩, _, rfl, _, _, rfl, rfl, q _ _ S1⟩

theorem ok_law_mixed {f fC : Addr} {fd fdC : FuncData} (B : Bn mg) (G : Df K mg "_law_mixed" s_law_mixed p_law_mixed f fd) (GC : Df K mg "_law_cell_at" s_law_cell_at p_law_cell_at fC fdC) : FnOk P w K mg base CX0 2 f fd p_law_mixed (spMixed K) := by
  have C := ok_law_cell_at (P := P) (w := w) (base := base) B GC
  refine G.F.ok sc_law_mixed (fun vs H Q E h => ?_) (fun cdv A outer s H vs Q E hr h => ?_)
  · obtain ⟨a, ns, k, m, rfl, _⟩ := h
    rfl
  · obtain ⟨a, ns, k, m, rfl, hS, h0, h1, hm, q⟩ := h
    refine ⟨_, pss_cons (ps_set (i := 3) sc_law_mixed.nd rfl (Or.inl rfl) (pe_op op_mod (pe_op op_mul (pe_op op_add (pe_op op_add (pe_call C hr rfl GC.m GC.F.kp GC.b .nil pass0 (pa_cons (pv 0) (pa_cons (pv 1) pa_nil))) (pe_op op_mul pe_int (pv 1))) pe_int) pe_int) pe_int))
      (pss_one (ps_ret (pe_op op_mod (pe_op op_mod (pe_op op_add (pe_op op_add (pe_op op_mul (pv 3) (pv 3)) (pe_op op_mul pe_int (pv 3))) (pv 1)) pe_int) (pv 2)))), ?_⟩
    refine ⟨_, rfl, _, rfl, a, ns, k, rfl, hS, h0, fun c H1 S1 => ?_⟩
    refine ⟨_, rfl, _, _, rfl, rfl, .inl ⟨by decide, by decide⟩, _, _, rfl, rfl, _, _, rfl, rfl, _, _, rfl, rfl, .inr ⟨by decide, by decide⟩, _, _, rfl, rfl, (by show (0 : Int) < 2147483647; decide), ?_⟩
    generalize hd : (c + 7919 * k + 1) * 48271 % 2147483647 = d
    have hd0 : 0 ≤ d := by rw [← hd]; exact Int.emod_nonneg _ (by decide)
    have hd1 : d < 2147483647 := by rw [← hd]; exact Int.emod_lt_of_pos _ (by decide)
    refine ⟨_, rfl, _, rfl, _, _, rfl, rfl, .inl ⟨by omega, by omega⟩, _, rfl, _, _, rfl, rfl, .inl ⟨by decide, by decide⟩, _, _, rfl, rfl, _, rfl, _, _, rfl, rfl, _, _, rfl, rfl, (by show (0 : Int) < 2147483629; decide), _, rfl, _, _, rfl, rfl, (by omega), ?_⟩
    exact q _ _ S1 (Int.emod_nonneg _ (by omega)) (Int.emod_lt_of_pos _ (by omega))
end
end Lw

namespace Lw
open PySem L2
def slotN (i : Nat) (σ : St) : Nat := match σ[i]? with
  | some (some (.int k)) => k.toNat
  | _ => 0
section
variable {P : Program} {w : World} {K : PySem.W.Frag} {mg : Str → Option Value} {base : Heap}
theorem ok_law_divisor {f : Addr} {fd : FuncData} (B : Bn mg) (G : Df K mg "_law_divisor" s_law_divisor p_law_divisor f fd) : FnOk P w K mg base CX0 1 f fd p_law_divisor spGcd := by
  refine G.F.ok sc_law_divisor (fun vs H Q E h => ?_) (fun cdv A outer s H vs Q E hr h => ?_)
  · obtain ⟨a, b, rfl, _⟩ := h
    rfl
  · obtain ⟨a, b, rfl, q⟩ := h
    refine ⟨_, pss_cons (ps_set (i := 0) sc_law_divisor.nd rfl (Or.inl rfl) (pe_callB call_abs rfl B.abs PyProof.Rows.boot_abs (pa_cons (pv 0) pa_nil)))
      (pss_cons (ps_set (i := 1) sc_law_divisor.nd rfl (Or.inl rfl) (pe_callB call_abs rfl B.abs PyProof.Rows.boot_abs (pa_cons (pv 1) pa_nil)))
      (pss_cons (ps_while PassesOwn.never (pt_cmpR op_ne (pv 1) pe_int (nomark _))
        (pss_cons (ps_set (i := 2) sc_law_divisor.nd rfl (Or.inl rfl) (pe_op op_mod (pv 0) (pv 1)))
        (pss_cons (ps_set (i := 0) sc_law_divisor.nd rfl (Or.inl rfl) (pv 1))
        (pss_one (ps_set (i := 1) sc_law_divisor.nd rfl (Or.inl rfl) (pv 2))))))
      (pss_one (ps_ret (pv 0))))), ?_⟩
    refine ⟨_, rfl, a, rfl, ?_⟩
    refine ⟨_, rfl, b, rfl, ?_⟩
    refine while_by (fun σ H' => ∃ (L S : Nat) (r : Option V), σ = [some (.int L), some (.int S), r] ∧ Nat.gcd L S = Int.gcd a b ∧ H' = H) (fun σ _ => slotN 1 σ) ⟨a.natAbs, b.natAbs, none, ?_, rfl, rfl⟩ ?_ ?_
    · show [some (V.int _), some (V.int _), none] = _
      rw [abs_nat, abs_nat]
    · rintro σ H' ⟨L, S, r, rfl, hg, rfl⟩
      refine ⟨_, rfl, rfl, _, rfl, ?_⟩
      refine ite2 (fun hne => ?_) (fun he => ?_)
      · have hS : 0 < S := by
          have : ¬ V.int (S : Int) = V.int 0 := by simpa using hne
          have : ¬ (S : Int) = 0 := fun z => this (by rw [z])
          omega
        refine ⟨_, rfl, _, rfl, _, _, rfl, rfl, (by omega), ?_⟩
        refine ⟨_, rfl, ?_⟩
        refine ⟨_, rfl, ?_⟩
        refine ⟨⟨S, L % S, _, rfl, by rw [gcd_step]; exact hg, rfl⟩, ?_⟩
        show ((L : Int) % (S : Int)).toNat < ((S : Nat) : Int).toNat
        have := Nat.mod_lt L hS
        omega
      · have hS : S = 0 := by
          have : V.int (S : Int) = V.int 0 := by simpa using he
          injection this with z
          omega
        subst hS
        refine ⟨_, rfl, ?_⟩
        rw [Nat.gcd_zero_right] at hg
        rw [hg]
        exact q
    · rintro σ H' Q1 Q2 hq ⟨v, e, h1, k, h2, h3⟩
      exact ⟨v, e, h1, k, h2, hq _ _ h3⟩

theorem ok_common_divisor {f : Addr} {fd : FuncData} (B : Bn mg) (G : Df K mg "common_divisor" s_common_divisor p_common_divisor f fd) : FnOk P w K mg base CX0 1 f fd p_common_divisor spGcd := by
  refine G.F.ok sc_common_divisor (fun vs H Q E h => ?_) (fun cdv A outer s H vs Q E hr h => ?_)
  · obtain ⟨a, b, rfl, _⟩ := h
    rfl
  · obtain ⟨a, b, rfl, q⟩ := h
    refine ⟨_, pss_cons (ps_set (i := 2) sc_common_divisor.nd rfl (Or.inl rfl) (pe_callB call_abs rfl B.abs PyProof.Rows.boot_abs (pa_cons (pv 0) pa_nil)))
      (pss_cons (ps_set (i := 3) sc_common_divisor.nd rfl (Or.inl rfl) (pe_callB call_abs rfl B.abs PyProof.Rows.boot_abs (pa_cons (pv 1) pa_nil)))
      (pss_cons (ps_while PassesOwn.never (pt_cmpR op_gt (pv 3) pe_int (nomark _))
        (pss_cons (ps_set (i := 4) sc_common_divisor.nd rfl (Or.inl rfl) (pe_op op_mod (pv 2) (pv 3)))
        (pss_cons (ps_set (i := 2) sc_common_divisor.nd rfl (Or.inl rfl) (pv 3))
        (pss_one (ps_set (i := 3) sc_common_divisor.nd rfl (Or.inl rfl) (pv 4))))))
      (pss_one (ps_ret (pv 2))))), ?_⟩
    refine ⟨_, rfl, a, rfl, ?_⟩
    refine ⟨_, rfl, b, rfl, ?_⟩
    refine while_by (fun σ H' => ∃ (L S : Nat) (r : Option V), σ = [some (.int a), some (.int b), some (.int L), some (.int S), r] ∧ Nat.gcd L S = Int.gcd a b ∧ H' = H) (fun σ _ => slotN 3 σ) ⟨a.natAbs, b.natAbs, none, ?_, rfl, rfl⟩ ?_ ?_
    · show [some (V.int _), some (V.int _), some (V.int _), some (V.int _), none] = _
      rw [abs_nat, abs_nat]
    · rintro σ H' ⟨L, S, r, rfl, hg, rfl⟩
      refine ⟨_, rfl, _, _, rfl, rfl, _, rfl, ?_⟩
      refine ite2 (fun hne => ?_) (fun he => ?_)
      · have hS : 0 < S := by
          have : (0 : Int) < (S : Int) := by simpa using hne
          omega
        refine ⟨_, rfl, _, rfl, _, _, rfl, rfl, (by omega), ?_⟩
        refine ⟨_, rfl, ?_⟩
        refine ⟨_, rfl, ?_⟩
        refine ⟨⟨S, L % S, _, rfl, by rw [gcd_step]; exact hg, rfl⟩, ?_⟩
        show ((L : Int) % (S : Int)).toNat < ((S : Nat) : Int).toNat
        have := Nat.mod_lt L hS
        omega
      · have hS : S = 0 := by
          have : ¬ (0 : Int) < (S : Int) := by simpa using he
          omega
        subst hS
        refine ⟨_, rfl, ?_⟩
        rw [Nat.gcd_zero_right] at hg
        rw [hg]
        exact q
    · rintro σ H' Q1 Q2 hq ⟨v, e, i, j, h1, h2, k, h3, h4⟩
      exact ⟨v, e, i, j, h1, h2, k, h3, hq _ _ h4⟩

theorem ok_law_frac {f fG : Addr} {fd fdG : FuncData} (B : Bn mg) (G : Df K mg "_law_frac" s_law_frac p_law_frac f fd) (GG : Df K mg "_law_divisor" s_law_divisor p_law_divisor fG fdG) : FnOk P w K mg base CX0 2 f fd p_law_frac spFrac := by
  have C := ok_law_divisor (P := P) (w := w) (base := base) B GG
  refine G.F.ok sc_law_frac (fun vs H Q E h => ?_) (fun cdv A outer s H vs Q E hr h => ?_)
  · obtain ⟨u, l, rfl, _⟩ := h
    rfl
  · obtain ⟨u, l, rfl, h0, h1, q⟩ := h
    have g0 := gcd_pos (u := u) h0
    have g1 := gcd_le (u := u) h0
    refine ⟨_, pss_cons (ps_set (i := 2) sc_law_frac.nd rfl (Or.inl rfl) (pe_call C hr rfl GG.m GG.F.kp GG.b .nil pass0 (pa_cons (pv 0) (pa_cons (pv 1) pa_nil))))
      (pss_cons (ps_if (pt_cmpR op_lt (pv 1) pe_int (nomark _)) (pss_one (ps_set (i := 2) sc_law_frac.nd rfl (Or.inl rfl) (pe_un un_neg (pv 2)))) pss_nil)
      (pss_one (ps_ret (pe_tup (pa_cons (pe_op op_fdiv (pv 0) (pv 2)) (pa_cons (pe_op op_fdiv (pv 1) (pv 2)) pa_nil)))))), ?_⟩
    refine ⟨_, rfl, _, rfl, u, l, rfl, ?_⟩
    refine ⟨_, rfl, _, _, rfl, rfl, _, rfl, ?_⟩
    refine ite2 (fun z => absurd (show l < 0 by simpa using z) (by omega)) (fun _ => ?_)
    refine ⟨_, rfl, _, rfl, _, _, rfl, rfl, ⟨by omega, by omega⟩, _, rfl, _, rfl, _, _, rfl, rfl, ⟨by omega, by omega⟩, (by show 2 ≤ sizeLine; decide), fun p hp => q p hp⟩

end
end Lw

/-! ### the weights of a spread -/
namespace Lw
open PySem L2
def kvsOf (m : List (Int × Int)) : List (Key × V) := m.map fun p => ((Sum.inl p.1 : Key), V.int p.2)
/-- x more for r -/
def addW : List (Int × Int) → Int → Int → List (Int × Int)
  | [], r, x => [(r, x)]
  | (q, v) :: t, r, x => if q = r then (q, v + x) :: t else (q, v) :: addW t r x
/-- r's weight -/
def wOf : List (Int × Int) → Int → Int
  | [], _ => 0
  | (q, v) :: t, r => if q = r then v else wOf t r
def totW (m : List (Int × Int)) : Int := (m.map (·.2)).sum
theorem totW_cons (p : Int × Int) (t : List (Int × Int)) : totW (p :: t) = p.2 + totW t := by simp [totW]
theorem addW_tot : ∀ (m : List (Int × Int)) (r x : Int), totW (addW m r x) = totW m + x
  | [], r, x => by simp [addW, totW]
  | (q, v) :: t, r, x => by
    unfold addW
    split
    · rw [totW_cons, totW_cons]; simp only; omega
    · rw [totW_cons, totW_cons, addW_tot t r x]; omega
theorem addW_keys : ∀ (m : List (Int × Int)) (r x : Int) (k : Int), k ∈ (addW m r x).map (·.1) ↔ k = r ∨ k ∈ m.map (·.1)
  | [], r, x, k => by simp [addW]
  | (q, v) :: t, r, x, k => by
    unfold addW
    split
    · rename_i e
      subst e
      simp only [List.map_cons, List.mem_cons]
      constructor
      · rintro (h | h)
        · exact .inl h
        · exact .inr (.inr h)
      · rintro (h | h | h)
        · exact .inl h
        · exact .inl h
        · exact .inr h
    · simp only [List.map_cons, List.mem_cons, addW_keys t r x k]
      constructor
      · rintro (h | h | h)
        · exact .inr (.inl h)
        · exact .inl h
        · exact .inr (.inr h)
      · rintro (h | h | h)
        · exact .inr (.inl h)
        · exact .inl h
        · exact .inr (.inr h)
theorem addW_nodup : ∀ (m : List (Int × Int)) (r x : Int), (m.map (·.1)).Nodup → ((addW m r x).map (·.1)).Nodup
  | [], r, x, _ => by simp [addW]
  | (q, v) :: t, r, x, h => by
    simp only [List.map_cons, List.nodup_cons] at h
    unfold addW
    split
    · simp only [List.map_cons, List.nodup_cons]; exact h
    · rename_i e
      simp only [List.map_cons, List.nodup_cons]
      refine ⟨fun z => ?_, addW_nodup t r x h.2⟩
      rcases (addW_keys t r x q).mp z with z | z
      · exact e z
      · exact h.1 z
theorem addW_len : ∀ (m : List (Int × Int)) (r x : Int), (addW m r x).length ≤ m.length + 1 ∧ 1 ≤ (addW m r x).length
  | [], r, x => by simp [addW]
  | (q, v) :: t, r, x => by
    unfold addW
    have := addW_len t r x
    split <;> simp <;> omega
theorem addW_mem : ∀ (m : List (Int × Int)) (r x : Int) (p : Int × Int), p ∈ addW m r x → p ∈ m ∨ (p.1 = r ∧ (p.2 = x ∨ ∃ v, (r, v) ∈ m ∧ p.2 = v + x))
  | [], r, x, p, h => by
    simp [addW] at h
    subst h
    exact .inr ⟨rfl, .inl rfl⟩
  | (q, v) :: t, r, x, p, h => by
    unfold addW at h
    split at h
    · rename_i e
      subst e
      rcases List.mem_cons.mp h with h | h
      · subst h
        exact .inr ⟨rfl, .inr ⟨v, List.mem_cons_self, rfl⟩⟩
      · exact .inl (List.mem_cons_of_mem _ h)
    · rcases List.mem_cons.mp h with h | h
      · subst h
        exact .inl List.mem_cons_self
      · rcases addW_mem t r x p h with z | ⟨z1, z2⟩
        · exact .inl (List.mem_cons_of_mem _ z)
        · refine .inr ⟨z1, z2.elim .inl fun ⟨v', a, b⟩ => .inr ⟨v', List.mem_cons_of_mem _ a, b⟩⟩
theorem kvs_val : ∀ (m : List (Int × Int)) (r : Int), (valV (kvsOf m) (Sum.inl r : Key)).getD (.int 0) = .int (wOf m r)
  | [], r => rfl
  | (q, v) :: t, r => by
    show (valV (((Sum.inl q : Key), V.int v) :: kvsOf t) (Sum.inl r : Key)).getD (.int 0) = _
    unfold wOf
    by_cases e : q = r
    · subst e
      rw [valV_pos rfl, if_pos rfl]
      rfl
    · rw [valV_neg (fun z => e (Sum.inl.inj z)), if_neg e]
      exact kvs_val t r
theorem kvs_has : ∀ (m : List (Int × Int)) (r : Int), r ∈ m.map (·.1) → valV (kvsOf m) (Sum.inl r : Key) = some (.int (wOf m r))
  | [], r, h => by simp at h
  | (q, v) :: t, r, h => by
    show valV (((Sum.inl q : Key), V.int v) :: kvsOf t) (Sum.inl r : Key) = _
    unfold wOf
    by_cases e : q = r
    · subst e
      rw [valV_pos rfl, if_pos rfl]
    · rw [valV_neg (fun z => e (Sum.inl.inj z)), if_neg e]
      refine kvs_has t r ?_
      simp only [List.map_cons, List.mem_cons] at h
      rcases h with h | h
      · exact absurd h.symm e
      · exact h
theorem kvs_put_out : ∀ (m : List (Int × Int)) (r : Int) (y : V), r ∉ m.map (·.1) → (kvsOf m).map (fun kv => if kv.1 = (Sum.inl r : Key) then (kv.1, y) else kv) = kvsOf m
  | [], _, _, _ => rfl
  | (q, v) :: t, r, y, h => by
    simp only [List.map_cons, List.mem_cons, not_or] at h
    show (if (Sum.inl q : Key) = Sum.inl r then _ else _) :: (kvsOf t).map _ = _
    rw [if_neg (fun z => h.1 (Sum.inl.inj z).symm), kvs_put_out t r y h.2]
    rfl
theorem kvs_put (m : List (Int × Int)) (r x : Int) (hn : (m.map (·.1)).Nodup) : putK (kvsOf m) (Sum.inl r : Key) (.int (wOf m r + x)) = kvsOf (addW m r x) := by
  by_cases hr : r ∈ m.map (·.1)
  · have hv := kvs_has m r hr
    have ha : ((kvsOf m).any fun kv => decide (kv.1 = (Sum.inl r : Key))) = true := by rw [valV_any, hv]; rfl
    unfold putK
    rw [if_pos ha]
    clear hv ha
    induction m with
    | nil => simp at hr
    | cons p t ih =>
      obtain ⟨q, v⟩ := p
      simp only [List.map_cons, List.nodup_cons] at hn
      by_cases e : q = r
      · subst e
        show (if (Sum.inl q : Key) = Sum.inl q then _ else _) :: (kvsOf t).map _ = _
        rw [if_pos rfl, kvs_put_out t q _ hn.1]
        unfold addW wOf
        rw [if_pos rfl, if_pos rfl]
        rfl
      · show (if (Sum.inl q : Key) = Sum.inl r then _ else _) :: (kvsOf t).map _ = _
        have hr' : r ∈ t.map (·.1) := by
          simp only [List.map_cons, List.mem_cons] at hr
          rcases hr with z | z
          · exact absurd z.symm e
          · exact z
        have ih := ih hn.2 hr'
        rw [if_neg (fun z => e (Sum.inl.inj z))]
        unfold addW
        rw [if_neg e]
        unfold wOf
        rw [if_neg e, ih]
        rfl
  · have hv : valV (kvsOf m) (Sum.inl r : Key) = none := by
      cases q : valV (kvsOf m) (Sum.inl r : Key) with
      | none => rfl
      | some y =>
        have := valV_in q
        simp [kvsOf] at this
        obtain ⟨v, hv⟩ := this
        exact absurd (List.mem_map.mpr ⟨(r, v), hv, rfl⟩) hr
    rw [putK_new _ hv]
    clear hv
    induction m with
    | nil => simp [kvsOf, addW, wOf]
    | cons p t ih =>
      obtain ⟨q, v⟩ := p
      simp only [List.map_cons, List.mem_cons, not_or, List.nodup_cons] at hn hr
      have e : ¬ q = r := fun z => hr.1 z.symm
      unfold addW wOf
      rw [if_neg e, if_neg e]
      show ((Sum.inl q : Key), V.int v) :: (kvsOf t ++ _) = ((Sum.inl q : Key), V.int v) :: kvsOf (addW t r x)
      rw [ih hn.2 hr.2]
theorem wOf_mem : ∀ (m : List (Int × Int)) (r : Int), r ∈ m.map (·.1) → (r, wOf m r) ∈ m
  | [], r, h => by simp at h
  | (q, v) :: t, r, h => by
    unfold wOf
    by_cases e : q = r
    · subst e
      rw [if_pos rfl]
      exact List.mem_cons_self
    · rw [if_neg e]
      simp only [List.map_cons, List.mem_cons] at h
      rcases h with h | h
      · exact absurd h.symm e
      · exact List.mem_cons_of_mem _ (wOf_mem t r h)
theorem wOf_sum : ∀ (m : List (Int × Int)), (m.map (·.1)).Nodup → (m.map (·.1)).map (wOf m) = m.map (·.2)
  | [], _ => rfl
  | (q, v) :: t, h => by
    simp only [List.map_cons, List.nodup_cons] at h
    have ih := wOf_sum t h.2
    simp only [List.map_cons]
    congr 1
    · unfold wOf; rw [if_pos rfl]
    · rw [← ih]
      refine List.map_congr_left fun r hr => ?_
      have hq : ¬ q = r := fun z => by subst z; exact h.1 hr
      show (if q = r then v else wOf t r) = wOf t r
      rw [if_neg hq]

/-- a spread as the law makes it: rooms rising, weights -/
structure SprOk (many : Int) (ps : List (Int × Int)) : Prop where
  ne : 1 ≤ ps.length
  few : ps.length ≤ 3
  rise : (ps.map (·.1)).Pairwise (· < ·)
  room : ∀ p ∈ ps, 0 ≤ p.1 ∧ p.1 < many
  pos : ∀ p ∈ ps, 1 ≤ p.2
  tot : totW ps ≤ 12
def pairD (W : Int) (p : Int × Int) : D := .tup [.int p.1, .tup [.int (frU p.2 W), .int (frL p.2 W)]]
def sprD (ps : List (Int × Int)) : D := .tup (ps.map (pairD (totW ps)))
theorem perm_sum {a b : List Int} (h : a.Perm b) : a.sum = b.sum := by
  induction h with
  | nil => rfl
  | cons x _ ih => simp [ih]
  | swap x y l => simp; omega
  | trans _ _ ih1 ih2 => exact ih1.trans ih2
/-- out of the weights in any order, sorted -/
theorem spr_of {many : Int} {m : List (Int × Int)} {ms : List Int} (hn : (m.map (·.1)).Nodup) (hp : ms.Perm (m.map (·.1))) (hs : ms.Pairwise (· ≤ ·)) (h1 : 1 ≤ m.length) (h3 : m.length ≤ 3)
    (hr : ∀ p ∈ m, 0 ≤ p.1 ∧ p.1 < many ∧ 1 ≤ p.2) (ht : totW m ≤ 12) : SprOk many (ms.map fun r => (r, wOf m r)) ∧ totW (ms.map fun r => (r, wOf m r)) = totW m := by
  have e1 : (ms.map fun r => (r, wOf m r)).map (·.1) = ms := by simp [Function.comp_def]
  have e2 : (ms.map fun r => (r, wOf m r)).map (·.2) = ms.map (wOf m) := by simp [Function.comp_def]
  have etot : totW (ms.map fun r => (r, wOf m r)) = totW m := by
    unfold totW
    rw [e2, perm_sum (hp.map (wOf m)), wOf_sum m hn]
  have hl := hp.length_eq
  rw [List.length_map] at hl
  have mem : ∀ p ∈ (ms.map fun r => (r, wOf m r)), p ∈ m := fun p hp' => by
    obtain ⟨r, hr', e⟩ := List.mem_map.mp hp'
    subst e
    exact wOf_mem m r (hp.mem_iff.mp hr')
  refine ⟨⟨by rw [List.length_map]; omega, by rw [List.length_map]; omega, ?_, fun p h => ⟨(hr p (mem p h)).1, (hr p (mem p h)).2.1⟩, fun p h => (hr p (mem p h)).2.2, by rw [etot]; exact ht⟩, etot⟩
  rw [e1]
  have nd : ms.Nodup := hp.nodup_iff.mpr hn
  have := hs.and nd
  exact this.imp fun ⟨a, b⟩ => by omega
end Lw
/-! ### a spread, a walk -/
namespace Lw
open PySem L2
def spSpread (K : PySem.W.Frag) : Sp := fun vs H Q _ => ∃ (a : Addr) (ns : List Int) (at' many : Int), vs = [.ref a, .int at', .int many] ∧ SqL K H a (ns.map V.int) ∧ 0 ≤ at' ∧ at' < 100000 ∧ 1 ≤ many ∧
  ∀ (ps : List (Int × Int)) (v : V) (H' : Hp), Same H H' → SprOk many ps → DatAt K H' v (sprD ps) → Q v H'
structure WlkOk (ws : List (List (Int × Int))) : Prop where
  n1 : 1 ≤ ws.length
  n8 : ws.length ≤ 8
  sp : ∀ ps ∈ ws, SprOk (ws.length : Int) ps
def wlkD (ws : List (List (Int × Int))) : D := .tup (ws.map sprD)
def spWalk (K : PySem.W.Frag) : Sp := fun vs H Q _ => ∃ (a : Addr) (ns : List Int) (at' : Int), vs = [.ref a, .int at'] ∧ SqL K H a (ns.map V.int) ∧ 0 ≤ at' ∧ at' < 10000 ∧
  ∀ (ws : List (List (Int × Int))) (v : V) (H' : Hp), Same H H' → WlkOk ws → DatAt K H' v (wlkD ws) → Q v H'
/-- the weights between two turns -/
structure Wts (many : Int) (i : Nat) (m : List (Int × Int)) : Prop where
  nd : (m.map (·.1)).Nodup
  len : m.length ≤ i
  ne : 1 ≤ i → 1 ≤ m.length
  ok : ∀ p ∈ m, 0 ≤ p.1 ∧ p.1 < many ∧ 1 ≤ p.2
  tot : totW m ≤ 4 * i
theorem Wts.start (many : Int) : Wts many 0 [] := ⟨by simp, Nat.le_refl _, by omega, by simp, by simp [totW]⟩
theorem Wts.more {many : Int} {i : Nat} {m : List (Int × Int)} {r x : Int} (h : Wts many i m) (h0 : 0 ≤ r) (h1 : r < many) (hx : 1 ≤ x) (hx4 : x ≤ 4) : Wts many (i + 1) (addW m r x) := by
  have hl := addW_len m r x
  refine ⟨addW_nodup m r x h.nd, by have := h.len; omega, fun _ => hl.2, fun p hp => ?_, by rw [addW_tot]; have := h.tot; omega⟩
  rcases addW_mem m r x p hp with z | ⟨z1, z2⟩
  · exact h.ok p z
  · rw [z1]
    refine ⟨h0, h1, ?_⟩
    rcases z2 with z | ⟨v, a, b⟩
    · omega
    · have := (h.ok _ a).2.2
      have : 1 ≤ v := this
      omega
theorem noL_spr (ps : List (Int × Int)) : noL (sprD ps) = true := by
  unfold sprD
  simp only [noL]
  refine noLs_all fun i d h => ?_
  rw [List.getElem?_map] at h
  cases e : ps[i]? with
  | none => rw [e] at h; cases h
  | some p => rw [e] at h; cases h; rfl
theorem dats_eq {ds : List D} {n : Nat} {f : Nat → Option D} (hl : ds.length = n) (h : ∀ (j : Nat) d, ds[j]? = some d → f j = some d) (es : List D) (he : es.length = n) (hf : ∀ j, j < n → es[j]? = f j) : ds = es := by
  apply List.ext_getElem?
  intro j
  by_cases hj : j < n
  · rw [hf j hj]
    have := List.getElem?_eq_getElem (l := ds) (i := j) (by omega)
    rw [h j _ this, this]
  · rw [List.getElem?_eq_none (by omega), List.getElem?_eq_none (by omega)]
theorem sum_vals (m : List (Int × Int)) : (kvsOf m).map (·.2) = (m.map (·.2)).map V.int := by simp [kvsOf, Function.comp_def]
theorem keys_vals (m : List (Int × Int)) : (kvsOf m).map (fun kv => kV kv.1) = (m.map (·.1)).map V.int := by simp [kvsOf, Function.comp_def, kV]
section
variable {P : Program} {w : World} {K : PySem.W.Frag} {mg : Str → Option Value} {base : Heap}
theorem ok_law_spread {f fC fM fG fF : Addr} {fd fdC fdM fdG fdF : FuncData} (B : Bn mg) (G : Df K mg "_law_spread" s_law_spread p_law_spread f fd) (GC : Df K mg "_law_cell_at" s_law_cell_at p_law_cell_at fC fdC)
    (GM : Df K mg "_law_mixed" s_law_mixed p_law_mixed fM fdM) (GG : Df K mg "_law_divisor" s_law_divisor p_law_divisor fG fdG) (GF : Df K mg "_law_frac" s_law_frac p_law_frac fF fdF) : FnOk P w K mg base CX0 3 f fd p_law_spread (spSpread K) := by
  have M := ok_law_mixed (P := P) (w := w) (base := base) B GM GC
  have R := ok_law_frac (P := P) (w := w) (base := base) B GF GG
  refine G.F.ok sc_law_spread (fun vs H Q E h => ?_) (fun cdv A outer s H vs Q E hr h => ?_)
  · obtain ⟨a, ns, k, m, rfl, _⟩ := h
    rfl
  · obtain ⟨a, ns, at', many, rfl, hS, h0, h1, hm, q⟩ := h
    have hu := hu_of hr
    refine ⟨_, pss_cons (ps_set (i := 3) sc_law_spread.nd rfl (Or.inr rfl) pe_dnewK)
      (pss_cons (ps_for PassesOwn.never rfl (pi_range1 rfl B.range (pa_cons (pe_op op_add pe_int (pe_call M hr rfl GM.m GM.F.kp GM.b .nil pass0 (pa_cons (pv 0) (pa_cons (pv 1) (pa_cons pe_int pa_nil))))) pa_nil)) (pg_name (i := 4) sc_law_spread.nd rfl (Or.inl rfl))
        (pss_cons (ps_set (i := 5) sc_law_spread.nd rfl (Or.inl rfl) (pe_call M hr rfl GM.m GM.F.kp GM.b .nil pass0 (pa_cons (pv 0) (pa_cons (pe_op op_add (pe_op op_add (pv 1) pe_int) (pe_op op_mul pe_int (pv 4))) (pa_cons (pv 2) pa_nil)))))
        (pss_one (ps_dput hu (pv 3) (pv 5) (pe_op op_add (pe_op op_add (pe_dget2 hu (pv 3) (pv 5) pe_int ⟨rfl, rfl, rfl, rfl⟩) pe_int) (pe_call M hr rfl GM.m GM.F.kp GM.b .nil pass0 (pa_cons (pv 0) (pa_cons (pe_op op_add (pe_op op_add (pv 1) pe_int) (pe_op op_mul pe_int (pv 4))) (pa_cons pe_int pa_nil))))) rfl))))
      (pss_cons (ps_set (i := 6) sc_law_spread.nd rfl (Or.inr rfl) (pe_callB (call_sum_view rfl) rfl B.sum PyProof.Rows.boot_sum (pa_cons (pe_bm0 PySem.F.plainAttrs_dict PySem.F.slot_dict_values PySem.F.type_dict_values mt_values (pv 3)) pa_nil)))
      (pss_one (ps_ret (pe_callTy call_tuple_of rfl B.tuple PyProof.Rows.boot_tuple (pa_cons (pe_comp (NB := ["_law_room", "_law_weights", "_law_whole"]) (n := 1) (capN := [3, 6]) (by exact ⟨rfl, by decide, rfl, by decide, ⟨rfl, rfl, trivial⟩, rfl, rfl, rfl, rfl, rfl⟩) rfl (gk_name (by decide))
        (pi_list (pe_callB call_sorted_ints rfl B.sorted PyProof.Rows.boot_sorted (pa_cons (pe_callTy (call_list_dict rfl) rfl B.list PyProof.Rows.boot_list (pa_cons (pv 3) pa_nil)) pa_nil)))
        (fun _ _ _ _ => pg_name (i := 0) (show (["_law_room", "_law_weights", "_law_whole"] : List Str).Nodup by decide +kernel) rfl (Or.inl rfl)) (fun _ _ _ _ => pts_nil)
        (fun _ _ _ _ => pe_tup (pa_cons (pv 0) (pa_cons (pe_call R hr rfl GF.m GF.F.kp GF.b .nil pass0 (pa_cons (pe_dget hu (pv 1) (pv 0) (fun _ _ => rfl)) (pa_cons (pv 2) pa_nil))) pa_nil)))) pa_nil)))))), ?_⟩
    -- weights = {}
    intro d hd
    have S0 : Same H (upd H d (.dK [])) := same_new _ hd
    -- range(1 + mixed)
    refine ⟨_, rfl, _, rfl, a, ns, at', 3, rfl, S0.seq hS, h0, by omega, by decide, fun i H1 S1 i0 i3 => ?_⟩
    refine ⟨_, _, rfl, rfl, 1 + i, rfl, by omega, by omega, ?_⟩
    have S1' : Same H H1 := S0.trans S1
    have hd1 : H1 d = some (.dK []) := S1 d _ upd_same
    refine for_range (lo := 0) (n := (1 + i).toNat) (fun k σ H2 => ∃ (m : List (Int × Int)) (v4 v5 : Option V), σ = [some (.ref a), some (.int at'), some (.int many), some (.ref d), v4, v5, none] ∧ Same H H2 ∧ H2 d = some (.dK (kvsOf m)) ∧ Wts many k m)
      ⟨[], none, none, rfl, S1', hd1, Wts.start many⟩ ?_ ?_
    · rintro k σ H2 hk ⟨m, v4, v5, rfl, S2, hd2, hW⟩
      have hk3 : (k : Int) < 3 := by omega
      -- room
      refine ⟨_, rfl, _, rfl, _, _, rfl, rfl, _, rfl, _, _, rfl, rfl, .inl ⟨by decide, by decide⟩, _, _, rfl, rfl, _, rfl, a, ns, _, many, rfl, S2.seq hS, by omega, by omega, hm, fun r H3 S3 r0 r1 => ?_⟩
      have hd3 := S3 d _ hd2
      -- weights[room] = ..
      refine ⟨_, rfl, d, rfl, .inl ⟨_, .inl hd3⟩, _, rfl, ?_⟩
      refine ⟨_, DGet.k (k := Sum.inl r) hd3, ?_⟩
      have hv : (valV (kvsOf m) (Sum.inl r : Key)).getD (V.int 0) = V.int (wOf m r) := kvs_val m r
      refine ⟨wOf m r, 1, hv, rfl, ?_⟩
      refine ⟨_, rfl, _, rfl, _, _, rfl, rfl, _, rfl, _, _, rfl, rfl, .inl ⟨by decide, by decide⟩, _, _, rfl, rfl, a, ns, _, 4, rfl, (S2.trans S3).seq hS, by omega, by omega, by decide, fun x H4 S4 x0 x4 => ?_⟩
      have hd4 := S4 d _ hd3
      refine ⟨_, _, rfl, rfl, _, rfl, _, rfl, d, _, rfl, DPut.k (k := Sum.inl r) hd4 ?_, ?_⟩
      · have := hW.len
        refine small1000 ?_
        rw [show (kvsOf m).length = m.length by simp [kvsOf]]
        omega
      · have e : wOf m r + 1 + x = wOf m r + (1 + x) := by omega
        refine ⟨addW m r (1 + x), _, _, rfl, ?_, ?_, hW.more r0 r1 (by omega) (by omega)⟩
        · exact ((S2.trans S3).trans S4).fresh_upd hd _
        · rw [upd_same]
          show some (HO.dK (putK (kvsOf m) (Sum.inl r : Key) (V.int (wOf m r + 1 + x)))) = _
          rw [e, kvs_put m r (1 + x) hW.nd]
    · rintro σ H2 ⟨m, v4, v5, rfl, S2, hd2, hW⟩
      -- whole
      refine ⟨_, rfl, .inr (.inr (.inl ⟨rfl, .inl ⟨_, hd2⟩⟩)), d, _, rfl, rfl, hd2, fun v hv => ?_⟩
      have S3 : Same H2 (upd H2 v (viewO v d)) := same_new _ hv
      refine ⟨v, d, _, _, rfl, upd_same, S3 d _ hd2, sum_vals m, ?_⟩
      -- sorted(list(weights))
      refine ⟨_, rfl, d, _, rfl, S3 d _ hd2, fun l hl => ?_⟩
      have S4 := same_new (H := upd H2 v (viewO v d)) (.lst ((kvsOf m).map fun kv => kV kv.1)) hl
      refine ⟨l, m.map (·.1), rfl, SqL.of (by rw [upd_same, keys_vals]), (by rw [List.length_map]; have := hW.len; omega), fun ms l2 hp hs hl2 => ?_⟩
      have S5 := same_new (.lst (ms.map V.int)) hl2
      refine ⟨l2, rfl, ⟨_, SqL.of upd_same⟩, fun p hp' => ?_⟩
      have hd5 := S5 d _ (S4 d _ (S3 d _ hd2))
      have hms : ms.length = m.length := by rw [hp.length_eq, List.length_map]
      have h13 := hW.len
      have h11 := hW.ne (by omega)
      obtain ⟨hspr, htot⟩ := spr_of (many := many) hW.nd hp hs h11 (by omega) hW.ok (by have := hW.tot; omega)
      refine comp_datL (fun j dd => ∃ r, ms[j]? = some r ∧ dd = pairD (totW m) (r, wOf m r)) hp' (SqL.of upd_same) ?_ ?_ ?_ ?_
      · rw [List.length_map]
        exact Nat.le_of_lt (small1000 (by omega))
      · rintro j dd ⟨r, _, rfl⟩
        rfl
      · intro j x H6 RR hx S6 k
        rw [List.getElem?_map] at hx
        cases e : ms[j]? with
        | none => rw [e] at hx; cases hx
        | some r =>
          rw [e] at hx
          cases hx
          have hr : r ∈ m.map (·.1) := hp.mem_iff.mp (List.mem_of_getElem? e)
          have hmem := wOf_mem m r hr
          have hok := hW.ok _ hmem
          have hW1 : 1 ≤ wOf m r := hok.2.2
          have hTpos : 0 < totW m := by
            have : ∀ (l : List (Int × Int)), (∀ p ∈ l, 1 ≤ p.2) → 1 ≤ l.length → 0 < totW l := by
              intro l
              induction l with
              | nil => intro _ h; simp at h
              | cons p t ih =>
                intro hp _
                rw [totW_cons]
                have h1 := hp p List.mem_cons_self
                cases t with
                | nil => simp [totW]; omega
                | cons q t' => have := ih (fun p' hp'' => hp p' (List.mem_cons_of_mem _ hp'')) (by simp); omega
            exact this m (fun p hp'' => (hW.ok p hp'').2.2) h11
          have hT12 := hW.tot
          refine ⟨_, rfl, _, rfl, _, rfl, d, _, rfl, (by rw [← kvs_has m r hr]; exact DGet.k (k := Sum.inl r) (S6 d _ hd5)), _, rfl, wOf m r, totW m, rfl, hTpos, by omega, fun t ht => ?_⟩
          refine ⟨(by show 2 ≤ sizeLine; decide), fun t2 ht2 => ?_⟩
          have A1 := same_new (H := H6) (.tup [.int (frU (wOf m r) (totW m)), .int (frL (wOf m r) (totW m))]) ht
          have A2 := same_new (.tup [V.int r, V.ref t]) ht2
          refine k _ _ (pairD (totW m) (r, wOf m r)) (A1.trans A2) ?_ ⟨r, e, rfl⟩
          exact .tup (SqT.of upd_same) (.cons (.int r) (.cons (.tup (A2.seqT (SqT.of upd_same)) (.cons (.int _) (.cons (.int _) .nil))) .nil))
      · intro ys H6 ds S6 hp6 hl6 hds hdd
        have eds : ds = (ms.map fun r => (r, wOf m r)).map (pairD (totW m)) := by
          rw [List.length_map] at hl6
          refine dats_eq (n := ms.length) (f := fun j => (ms[j]?).map fun r => pairD (totW m) (r, wOf m r)) hl6 (fun j dd h => ?_) _ (by simp) fun j hj => by simp [List.getElem?_map, Function.comp_def]
          obtain ⟨r, e1, e2⟩ := hds j dd h
          rw [e1, e2]
          rfl
        refine ⟨p, ys, rfl, .inl ⟨SqL.of hp6, fun t ht => ?_⟩⟩
        have A1 := same_new (.tup ys) ht
        refine q (ms.map fun r => (r, wOf m r)) _ _ ((((((S2.trans S3).trans S4).trans S5).trans S6)).trans A1) hspr ?_
        unfold sprD
        rw [htot, ← eds]
        exact .tup (SqT.of upd_same) (hdd.same A1)

theorem ok_law_walk {f fC fM fG fF fS : Addr} {fd fdC fdM fdG fdF fdS : FuncData} (B : Bn mg) (G : Df K mg "_law_walk" s_law_walk p_law_walk f fd) (GS : Df K mg "_law_spread" s_law_spread p_law_spread fS fdS) (GC : Df K mg "_law_cell_at" s_law_cell_at p_law_cell_at fC fdC)
    (GM : Df K mg "_law_mixed" s_law_mixed p_law_mixed fM fdM) (GG : Df K mg "_law_divisor" s_law_divisor p_law_divisor fG fdG) (GF : Df K mg "_law_frac" s_law_frac p_law_frac fF fdF) : FnOk P w K mg base CX0 4 f fd p_law_walk (spWalk K) := by
  have M := ok_law_mixed (P := P) (w := w) (base := base) B GM GC
  have R := ok_law_spread (P := P) (w := w) (base := base) B GS GC GM GG GF
  refine G.F.ok sc_law_walk (fun vs H Q E h => ?_) (fun cdv A outer s H vs Q E hr h => ?_)
  · obtain ⟨a, ns, k, rfl, _⟩ := h
    rfl
  · obtain ⟨a, ns, at', rfl, hS, h0, h1, q⟩ := h
    have hr2 : Room 2 _ := hr.mono (by decide)
    refine ⟨_, pss_cons (ps_set (i := 2) sc_law_walk.nd rfl (Or.inr rfl) (pe_op op_add pe_int (pe_call M hr2 rfl GM.m GM.F.kp GM.b .nil pass0 (pa_cons (pv 0) (pa_cons (pv 1) (pa_cons pe_int pa_nil))))))
      (pss_cons (ps_if (pt_cmpR op_eq (pe_call M hr2 rfl GM.m GM.F.kp GM.b .nil pass0 (pa_cons (pv 0) (pa_cons (pe_op op_add (pv 1) pe_int) (pa_cons pe_int pa_nil)))) pe_int (nomark _)) (pss_one (ps_set (i := 2) sc_law_walk.nd rfl (Or.inr rfl) pe_int)) pss_nil)
      (pss_one (ps_ret (pe_callTy call_tuple_of rfl B.tuple PyProof.Rows.boot_tuple (pa_cons (pe_comp (NB := ["_law_k", "_law_at", "_law_many", "_law_script"]) (n := 1) (capN := [1, 2, 0]) (by exact ⟨rfl, by decide, rfl, by decide, ⟨rfl, rfl, rfl, trivial⟩, rfl, rfl, rfl, rfl, rfl⟩) rfl (gk_name (by decide))
        (pi_range1 rfl B.range (pa_cons (pv 2) pa_nil))
        (fun _ _ _ _ => pg_name (i := 0) (show (["_law_k", "_law_at", "_law_many", "_law_script"] : List Str).Nodup by decide +kernel) rfl (Or.inl rfl)) (fun _ _ _ _ => pts_nil)
        (fun _ _ _ _ => pe_call R hr rfl GS.m GS.F.kp GS.b .nil pass0 (pa_cons (pv 3) (pa_cons (pe_op op_add (pe_op op_add (pv 1) pe_int) (pe_op op_mul pe_int (pv 0))) (pa_cons (pv 2) pa_nil))))) pa_nil))))), ?_⟩
    refine ⟨_, rfl, _, rfl, a, ns, at', 5, rfl, hS, h0, by omega, by decide, fun i H1 S1 i0 i5 => ?_⟩
    refine ⟨_, _, rfl, rfl, ?_⟩
    refine ⟨_, rfl, _, rfl, _, _, rfl, rfl, a, ns, _, 6, rfl, S1.seq hS, by omega, by omega, by decide, fun j H2 S2 j0 j6 => ?_⟩
    refine ⟨rfl, _, rfl, ?_⟩
    have fin : ∀ many : Int, 1 ≤ many → many ≤ 8 → tRet (tCB (fun xs H Q => ∃ p ys, xs = [.ref p] ∧ ((SqL K H p ys ∧ ∀ l, H l = none → Q (.ref l) (upd H l (.tup ys))) ∨ (SqT K H p ys ∧ Q (.ref p) H)))
        (tCons (tComp (iRng1 (tCons (tVar 2) tNil)) 1 [1, 2, 0] (gName 0) tYes (tCall (spSpread K) [] E0 (tCons (tVar 3) (tCons (tOp (rI0 fun i j => .int (i + j)) (tOp (rI0 fun i j => .int (i + j)) (tVar 1) (tC (.int 2))) (tOp (rI CMul fun i j => .int (i * j)) (tC (.int 7)) (tVar 0))) (tCons (tVar 2) tNil))))) tNil))
        { nx := fun _ H' => Q .non H', rt := Q } [some (.ref a), some (.int at'), some (.int many)] H2 := by
      intro many hm1 hm8
      refine ⟨_, rfl, many, rfl, by omega, by omega, fun p hp => ?_⟩
      refine comp_datR (K := K) (fun _ dd => ∃ ps, dd = sprD ps ∧ SprOk many ps) hp ?_ ?_ ?_ ?_
      · exact Nat.le_of_lt (small1000 (by omega))
      · rintro j dd ⟨ps, rfl, _⟩
        exact noL_spr ps
      · intro k H3 RR hk S3 kk
        refine ⟨_, rfl, _, rfl, _, _, rfl, rfl, _, rfl, _, _, rfl, rfl, .inl ⟨by decide, by decide⟩, _, _, rfl, rfl, _, rfl, a, ns, _, many, rfl, ((S1.trans S2).trans S3).seq hS, by omega, by omega, hm1, fun ps v H4 S4 hps hv => ?_⟩
        exact kk v H4 (sprD ps) S4 hv ⟨ps, rfl, hps⟩
      · intro ys H3 ds S3 hp3 hl3 hds hdd
        refine ⟨p, ys, rfl, .inl ⟨SqL.of hp3, fun t ht => ?_⟩⟩
        have A1 := same_new (.tup ys) ht
        have ex : ∀ (l : List D), (∀ dd ∈ l, ∃ ps, dd = sprD ps ∧ SprOk many ps) → ∃ ws : List (List (Int × Int)), l = ws.map sprD ∧ ∀ ps ∈ ws, SprOk many ps := by
          intro l
          induction l with
          | nil => intro _; exact ⟨[], rfl, by simp⟩
          | cons x t ih =>
            intro h
            obtain ⟨ps, e, hp'⟩ := h x List.mem_cons_self
            obtain ⟨ws, e2, h2⟩ := ih fun y hy => h y (List.mem_cons_of_mem _ hy)
            refine ⟨ps :: ws, by rw [e, e2]; rfl, fun y hy => ?_⟩
            rcases List.mem_cons.mp hy with rfl | hy
            · exact hp'
            · exact h2 y hy
        obtain ⟨ws, e, hws⟩ := ex ds fun dd hdd' => by
          obtain ⟨j, hj⟩ := List.mem_iff_getElem?.mp hdd'
          exact hds j dd hj
        have hlen : ws.length = many.toNat := by
          have := congrArg List.length e
          rw [List.length_map] at this
          omega
        refine q ws _ _ (((S1.trans S2).trans S3).trans A1) ⟨by omega, by omega, fun ps hps => ?_⟩ ?_
        · have : (ws.length : Int) = many := by omega
          rw [this]
          exact hws ps hps
        · unfold wlkD
          rw [← e]
          exact .tup (SqT.of upd_same) (hdd.same A1)
    refine ite2 (fun _ => ?_) (fun _ => ?_)
    · exact fin 8 (by decide) (by decide)
    · exact fin (1 + i) (by omega) (by omega)
end
end Lw

/-! ### what is a fraction, a pair, a spread, a walk -/
namespace Lw
open PySem L2
def isInt : D → Bool
  | .int _ => true
  | _ => false
def fracD (x : Int × Int) : D := .tup [.int x.1, .int x.2]

section
variable {K : PySem.W.Frag}
/-- isinstance's answers for data -/
def isTy (n : String) (d : D) : Bool := tyD d == n || (n == "int" && tyD d == "bool")
theorem kit_int (d : D) : PySem.W.kitOne K (.type (tyD d)) (.type "int") = some (match d with | .int _ => true | .bl _ => true | _ => false) := by cases d <;> kernel_rfl
theorem kit_bool (d : D) : PySem.W.kitOne K (.type (tyD d)) (.type "bool") = some (match d with | .bl _ => true | _ => false) := by cases d <;> kernel_rfl
theorem kit_tuple (d : D) : PySem.W.kitOne K (.type (tyD d)) (.type "tuple") = some (match d with | .tup _ => true | _ => false) := by cases d <;> kernel_rfl
end
def spWhole (K : PySem.W.Frag) : Sp := fun vs H Q _ => ∃ v d, vs = [v] ∧ DatAt K H v d ∧ Q (.bl (isInt d)) H
section
variable {P : Program} {w : World} {K : PySem.W.Frag} {mg : Str → Option Value} {base : Heap}
theorem ok_is_whole {f : Addr} {fd : FuncData} (B : Bn mg) (G : Df K mg "is_whole" s_is_whole p_is_whole f fd) : FnOk P w K mg base CX0 1 f fd p_is_whole (spWhole K) := by
  refine G.F.ok sc_is_whole (fun vs H Q E h => ?_) (fun cdv A outer s H vs Q E hr h => ?_)
  · obtain ⟨v, d, rfl, _⟩ := h
    rfl
  · obtain ⟨v, d, rfl, hv, q⟩ := h
    refine ⟨_, pss_one (ps_ret (pe_and (pe_callB call_isD rfl B.isinstance PyProof.Rows.boot_isinstance (pa_cons (pv 0) (pa_cons (pe_bltn (v := .ty "int") rfl B.int PyProof.Rows.boot_int rfl) pa_nil)))
      (pe_one (pe_not (pe_callB call_isD rfl B.isinstance PyProof.Rows.boot_isinstance (pa_cons (pv 0) (pa_cons (pe_bltn (v := .ty "bool") rfl B.bool PyProof.Rows.boot_bool rfl) pa_nil))))))), ?_⟩
    refine ⟨_, rfl, v, _, d, _, rfl, hv, kit_int d, _, rfl, ?_⟩
    cases d with
    | int i => exact iteT ⟨_, rfl, v, _, _, _, rfl, hv, kit_bool _, _, rfl, q⟩
    | bl b => exact iteT ⟨_, rfl, v, _, _, _, rfl, hv, kit_bool _, _, rfl, q⟩
    | non => exact iteF q
    | str x => exact iteF q
    | tup xs => exact iteF q
    | lst xs => exact iteF q
theorem decT {c A B : Prop} [Decidable c] (h : c) (a : A) : if decide c = true then A else B := by rw [if_pos (decide_eq_true h)]; exact a
theorem decF {c A B : Prop} [Decidable c] (h : ¬ c) (b : B) : if decide c = true then A else B := by rw [if_neg (by rw [decide_eq_false h]; exact Bool.false_ne_true)]; exact b
theorem ndT {c A B : Prop} [Decidable c] (h : ¬ c) (a : A) : if (!decide c) = true then A else B := by rw [decide_eq_false h]; exact iteT a
theorem ndF {c A B : Prop} [Decidable c] (h : c) (b : B) : if (!decide c) = true then A else B := by rw [decide_eq_true h]; exact iteF b
theorem vint {x y : Int} (h : x ≠ y) : ¬ V.int x = V.int y := fun z => by injection z with z; exact h z
theorem dats2 {K : PySem.W.Frag} {H : Hp} : ∀ {vs : List V} {ds : List D}, DatsAt K H vs ds → ds.length = 2 → ∃ v0 v1 d0 d1, vs = [v0, v1] ∧ ds = [d0, d1] ∧ DatAt K H v0 d0 ∧ DatAt K H v1 d1
  | _, _, .nil, h => by simp at h
  | _, _, .cons _ .nil, h => by simp at h
  | _, _, .cons r0 (.cons r1 .nil), _ => ⟨_, _, _, _, rfl, rfl, r0, r1⟩
  | _, _, .cons _ (.cons _ (.cons _ _)), h => by simp at h
end
end Lw

namespace Lw
open PySem L2
structure Cst (K : PySem.W.Frag) (mg : Str → Option Value) (aN aO : Addr) (t8 : Tok) : Prop where
  mN : mg "NOUGHT" = some (.ref aN)
  sN : ∀ H, SqT K H aN [.int 0, .int 1]
  mO : mg "ONE" = some (.ref aO)
  sO : ∀ H, SqT K H aO [.int 1, .int 1]
  m8 : mg "MOST_ROOMS" = some (.int 8 t8)
theorem datF {K : PySem.W.Frag} {H : Hp} {v : V} {x : Int × Int} (h : DatAt K H v (fracD x)) : ∃ a, v = .ref a ∧ SqT K H a [.int x.1, .int x.2] := by
  cases h with
  | @tup a vs ds h r =>
    cases r with
    | cons r0 r =>
      cases r with
      | cons r1 r =>
        cases r
        cases r0
        cases r1
        exact ⟨a, rfl, h⟩
theorem datF_mk {K : PySem.W.Frag} {H : Hp} {a : Addr} {x : Int × Int} (h : SqT K H a [.int x.1, .int x.2]) : DatAt K H (.ref a) (fracD x) := .tup h (.cons (.int _) (.cons (.int _) .nil))
section
variable {P : Program} {w : World} {K : PySem.W.Frag} {mg : Str → Option Value} {base : Heap}


end
end Lw

namespace Lw
open PySem L2
theorem frL_pos {u l : Int} (h : 0 < l) : 0 < frL u l ∧ frL u l ≤ l := by
  have g0 : (0 : Int) < (Int.gcd u l : Int) := by have := gcd_pos (u := u) h; omega
  have hd : (Int.gcd u l : Int) ∣ l := Int.gcd_dvd_right ..
  unfold frL
  constructor
  · exact Int.ediv_pos_of_pos_of_dvd h (Int.le_of_lt g0) hd
  · exact Int.ediv_le_self _ (Int.le_of_lt h)
/-- a few small fractions -/
structure SmL (fs : List (Int × Int)) : Prop where
  few : fs.length ≤ 4
  ok : ∀ x ∈ fs, 0 < x.2 ∧ x.2 ≤ 100 ∧ x.1.natAbs ≤ 100
theorem dat_tup {K : PySem.W.Frag} {H : Hp} {v : V} {ds : List D} (h : DatAt K H v (.tup ds)) : ∃ a vs, v = .ref a ∧ SqT K H a vs ∧ DatsAt K H vs ds := by
  cases h with
  | tup h r => exact ⟨_, _, rfl, h, r⟩
theorem dat_int {K : PySem.W.Frag} {H : Hp} {v : V} {i : Int} (h : DatAt K H v (.int i)) : v = .int i := by
  cases h
  rfl
theorem dats_bl {K : PySem.W.Frag} {H : Hp} : ∀ {vs : List V} {bs : List Bool}, DatsAt K H vs (bs.map D.bl) → vs = bs.map V.bl
  | _, [], .nil => rfl
  | _, b :: bs, .cons h r => by
    cases h
    rw [dats_bl r]
    rfl
section
variable {P : Program} {w : World} {K : PySem.W.Frag} {mg : Str → Option Value} {base : Heap} {aN aO : Addr} {t8 : Tok}

end
end Lw

namespace Lw
open PySem L2
/-- the small fractions of a program: its defs from checked down -/
structure Prg (K : PySem.W.Frag) (mg : Str → Option Value) (aN aO : Addr) (t8 : Tok) (fW fG fR fF fP fT fL fD fS : Addr) (fdW fdG fdR fdF fdP fdT fdL fdD fdS : FuncData) : Prop where
  B : Bn mg
  C : Cst K mg aN aO t8
  GW : Df K mg "is_whole" s_is_whole p_is_whole fW fdW
  GG : Df K mg "common_divisor" s_common_divisor p_common_divisor fG fdG
  GR : Df K mg "is_room" s_is_room p_is_room fR fdR
  GF : Df K mg "is_fraction" s_is_fraction p_is_fraction fF fdF
  GP : Df K mg "is_pair" s_is_pair p_is_pair fP fdP
  GT : Df K mg "total" s_total p_total fT fdT
  GL : Df K mg "plus" s_plus p_plus fL fdL
  GD : Df K mg "reduced" s_reduced p_reduced fD fdD
  GS : Df K mg "is_spread" s_is_spread p_is_spread fS fdS
section
variable {P : Program} {w : World} {K : PySem.W.Frag} {mg : Str → Option Value} {base : Heap} {aN aO : Addr} {t8 : Tok} {fW fG fR fF fP fT fL fD fS : Addr} {fdW fdG fdR fdF fdP fdT fdL fdD fdS : FuncData}
end
end Lw

namespace Lw
open PySem L2
theorem frU_bd {u l : Int} (h0 : 0 ≤ u) (h1 : 0 < l) : 0 ≤ frU u l ∧ frU u l ≤ u := by
  have g0 : (0 : Int) < (Int.gcd u l : Int) := by have := gcd_pos (u := u) h1; omega
  unfold frU
  exact ⟨Int.ediv_nonneg h0 (Int.le_of_lt g0), Int.ediv_le_self _ h0⟩
theorem totW_ge : ∀ (ps : List (Int × Int)), (∀ p ∈ ps, 1 ≤ p.2) → ∀ p ∈ ps, p.2 ≤ totW ps
  | [], _, p, hp => by cases hp
  | q :: t, h, p, hp => by
    have nn : ∀ l : List (Int × Int), (∀ p ∈ l, 1 ≤ p.2) → 0 ≤ totW l := by
      intro l
      induction l with
      | nil => intro _; simp [totW]
      | cons x r ih => intro h; rw [totW_cons]; have := h x List.mem_cons_self; have := ih fun y hy => h y (List.mem_cons_of_mem _ hy); omega
    rw [totW_cons]
    have h0 := h q List.mem_cons_self
    have h1 := nn t fun y hy => h y (List.mem_cons_of_mem _ hy)
    rcases List.mem_cons.mp hp with rfl | hp
    · omega
    · have := totW_ge t (fun y hy => h y (List.mem_cons_of_mem _ hy)) p hp
      omega
theorem spr_sm {many : Int} {ps : List (Int × Int)} (h : SprOk many ps) {p : Int × Int} (hp : p ∈ ps) : 0 ≤ frU p.2 (totW ps) ∧ frU p.2 (totW ps) ≤ 12 ∧ 0 < frL p.2 (totW ps) ∧ frL p.2 (totW ps) ≤ 12 := by
  have h1 := h.pos p hp
  have h2 := totW_ge ps h.pos p hp
  have h3 := h.tot
  have a := frU_bd (u := p.2) (l := totW ps) (by omega) (by omega)
  have b := frL_pos (u := p.2) (l := totW ps) (by omega)
  omega
theorem depDs_le {n : Nat} : ∀ {ds : List D}, (∀ d ∈ ds, depD d ≤ n) → depDs ds ≤ n
  | [], _ => by simp [depDs]
  | d :: ds, h => by
    simp only [depDs]
    have h1 := h d List.mem_cons_self
    have h2 := depDs_le fun y hy => h y (List.mem_cons_of_mem _ hy)
    omega
theorem dep_spr (ps : List (Int × Int)) (W : Int) : depDs (ps.map (pairD W)) ≤ 3 := depDs_le fun d hd => by
  obtain ⟨p, hp, rfl⟩ := List.mem_map.mp hd
  simp [pairD, depD, depDs]
theorem dep_wlk (ws : List (List (Int × Int))) : depD (wlkD ws) ≤ 5 := by
  have : depDs (ws.map sprD) ≤ 4 := depDs_le fun d hd => by
    obtain ⟨ps, _, rfl⟩ := List.mem_map.mp hd
    have := dep_spr ps (totW ps)
    simp only [sprD, depD]
    omega
  simp only [wlkD, depD]
  omega
end Lw

namespace Lw
open PySem L2
section
variable {P : Program} {w : World} {K : PySem.W.Frag} {mg : Str → Option Value} {base : Heap}
end
end Lw

namespace Lw
/-! ### fractions as numbers -/
theorem rat_num {u l : Int} (h : l ≠ 0) : ((u : Rat) / (l : Rat)).num = l.sign * u / (Int.gcd u l : Int) := by
  rw [← Rat.divInt_eq_div, Rat.num_divInt, Int.gcd_comm]
theorem rat_den {u l : Int} (h : l ≠ 0) : (((u : Rat) / (l : Rat)).den : Int) = l.natAbs / (Int.gcd u l : Int) := by
  rw [← Rat.divInt_eq_div, Rat.den_divInt, if_neg h, Int.gcd_comm]
  rfl
theorem rat_self (q : Rat) : ((q.num : Rat) / ((q.den : Int) : Rat)) = q := by
  rw [← Rat.divInt_eq_div, Rat.num_divInt_den]
theorem rat_den_ne (q : Rat) : ((q.den : Int) : Rat) ≠ 0 := by
  have h : (q.den : Int) ≠ 0 := by have := q.den_nz; omega
  intro z
  exact h (by exact_mod_cast z)
def sumN : Nat → (Nat → Rat) → Rat
  | 0, _ => 0
  | n + 1, f => sumN n f + f n

/-! ### sizes -/
def Sm (k : Nat) (q : Rat) : Prop := q.num.natAbs < 2 ^ k ∧ q.den < 2 ^ k
theorem bd_mul {a b : Int} {m n : Nat} (h1 : a.natAbs < 2 ^ m) (h2 : b.natAbs < 2 ^ n) : (a * b).natAbs < 2 ^ (m + n) := by
  rw [Int.natAbs_mul, Nat.pow_add]
  exact Nat.mul_lt_mul'' h1 h2
theorem bd_add {a b : Int} {m : Nat} (h1 : a.natAbs < 2 ^ m) (h2 : b.natAbs < 2 ^ m) : (a + b).natAbs < 2 ^ (m + 1) := by
  rw [Nat.pow_succ]
  omega
theorem bd_mono {a : Int} {m n : Nat} (h1 : a.natAbs < 2 ^ m) (h : m ≤ n) : a.natAbs < 2 ^ n := Nat.lt_of_lt_of_le h1 (Nat.pow_le_pow_right (by decide) h)
/-- q times m is whole -/
def Wh (m : Nat) (q : Rat) : Prop := ∃ k : Int, q * (m : Rat) = (k : Rat)
theorem Wh.den {m : Nat} {q : Rat} (h : Wh m q) (hm : 0 < m) : q.den ∣ m := by
  obtain ⟨k, h⟩ := h
  have e : q = (k : Rat) / ((m : Int) : Rat) := by
    have hm' : ((m : Int) : Rat) ≠ 0 := by
      intro z
      have : (m : Int) = 0 := by exact_mod_cast z
      omega
    have h' : q * ((m : Int) : Rat) = (k : Rat) := h
    grind
  have := rat_den (u := k) (l := (m : Int)) (by omega)
  rw [← e] at this
  have hd : (Int.gcd k m) ∣ m := by
    have := Int.gcd_dvd_natAbs_right (a := k) (b := (m : Int))
    simpa using this
  have e2 : q.den = m / Int.gcd k m := by
    have h3 : ((m : Int).natAbs : Int) = m := by simp
    rw [h3] at this
    exact_mod_cast this
  rw [e2]
  exact Nat.div_dvd_of_dvd hd
theorem Wh.of_den {m : Nat} {q : Rat} (h : q.den ∣ m) : Wh m q := by
  obtain ⟨c, rfl⟩ := h
  refine ⟨q.num * c, ?_⟩
  have e := rat_self q
  have hd := rat_den_ne q
  rw [Rat.intCast_mul, Rat.natCast_mul]
  have h2 : ((q.den : Nat) : Rat) = ((q.den : Int) : Rat) := rfl
  have h3 : ((c : Int) : Rat) = ((c : Nat) : Rat) := rfl
  rw [h2, h3]
  grind
/-- between nought and one, with a known divisor -/
structure Pr (m : Nat) (q : Rat) : Prop where
  lo : 0 ≤ q
  hi : q ≤ 1
  wh : Wh m q
theorem Pr.sm {m k : Nat} {q : Rat} (h : Pr m q) (hm : 0 < m) (hk : m < 2 ^ k) : Sm k q := by
  have hd := Nat.le_of_dvd hm (h.wh.den hm)
  have hdz := q.den_nz
  have h0 : 0 ≤ q.num := Rat.num_nonneg.mpr h.lo
  have h1 := (Rat.le_iff q 1).mp h.hi
  have h2 : q.num ≤ q.den := by simpa using h1
  refine ⟨?_, by omega⟩
  have : q.num.natAbs ≤ q.den := by omega
  omega
/-! ### steps -/
/-- a table of shares: nought or more, each row together one -/
structure Sto (n : Nat) (P : Nat → Nat → Rat) : Prop where
  nn : ∀ i j, i < n → j < n → 0 ≤ P i j
  one : ∀ i, i < n → sumN n (P i) = 1
/-- a spread: rooms with their shares -/
def shAt : List (Nat × Rat) → Nat → Rat
  | [], _ => 0
  | p :: t, j => (if p.1 = j then p.2 else 0) + shAt t j
def shSum : List (Nat × Rat) → Rat
  | [] => 0
  | p :: t => p.2 + shSum t
/-- a spread as the document has it, of shares that 27720 makes whole -/
structure SpOk (n : Nat) (l : List (Nat × Rat)) : Prop where
  few : 1 ≤ l.length ∧ l.length ≤ 3
  rise : (l.map (·.1)).Pairwise (· < ·)
  room : ∀ p ∈ l, p.1 < n
  pos : ∀ p ∈ l, 0 < p.2
  one : shSum l = 1
  wh : ∀ p ∈ l, Wh 27720 p.2
structure WkOk (ws : List (List (Nat × Rat))) : Prop where
  n1 : 1 ≤ ws.length
  n8 : ws.length ≤ 8
  sp : ∀ l ∈ ws, SpOk ws.length l
def pOf (ws : List (List (Nat × Rat))) (i j : Nat) : Rat := shAt (ws.getD i []) j
theorem getD_mem {α : Type} {l : List α} {i : Nat} {d : α} (h : i < l.length) : l.getD i d ∈ l := by
  rw [List.getD_eq_getElem?_getD, List.getElem?_eq_getElem h]
  exact List.getElem_mem h
end Lw

/-! ### what the text reckons with fractions -/
namespace Lw
open PySem L2
def ratD (q : Rat) : D := .tup [.int q.num, .int q.den]
theorem fr_rat {u l : Int} (h : 0 < l) : fracD (frU u l, frL u l) = ratD ((u : Rat) / (l : Rat)) := by
  unfold fracD ratD frU frL
  rw [rat_num (by omega), rat_den (by omega), Int.sign_eq_one_of_pos h, Int.one_mul]
  have : (l.natAbs : Int) = l := by omega
  rw [this]
theorem red_rat {u l : Int} (h : l ≠ 0) : ((u : Rat) / (l : Rat)).num = u.fdiv (if l < 0 then -(Int.gcd u l : Int) else (Int.gcd u l : Int)) ∧ (((u : Rat) / (l : Rat)).den : Int) = l.fdiv (if l < 0 then -(Int.gcd u l : Int) else (Int.gcd u l : Int)) := by
  have d1 : (Int.gcd u l : Int) ∣ u := Int.gcd_dvd_left ..
  have d2 : (Int.gcd u l : Int) ∣ l := Int.gcd_dvd_right ..
  rw [rat_num h, rat_den h]
  by_cases hl : l < 0
  · rw [if_pos hl, Int.sign_eq_neg_one_of_neg hl, Int.fdiv_eq_ediv_of_dvd (Int.neg_dvd.mpr d1), Int.fdiv_eq_ediv_of_dvd (Int.neg_dvd.mpr d2), Int.ediv_neg, Int.ediv_neg]
    have : (l.natAbs : Int) = -l := by omega
    rw [this, Int.neg_one_mul, Int.neg_ediv_of_dvd d1, Int.neg_ediv_of_dvd d2]
    exact ⟨rfl, rfl⟩
  · rw [if_neg hl, Int.sign_eq_one_of_pos (by omega), Int.fdiv_eq_ediv_of_dvd d1, Int.fdiv_eq_ediv_of_dvd d2, Int.one_mul]
    have : (l.natAbs : Int) = l := by omega
    rw [this]
    exact ⟨rfl, rfl⟩
theorem datR {K : PySem.W.Frag} {H : Hp} {v : V} {q : Rat} (h : DatAt K H v (ratD q)) : ∃ a, v = .ref a ∧ SqT K H a [.int q.num, .int q.den] := datF (x := (q.num, (q.den : Int))) h
theorem datR_mk {K : PySem.W.Frag} {H : Hp} {a : Addr} {q : Rat} (h : SqT K H a [.int q.num, .int q.den]) : DatAt K H (.ref a) (ratD q) := datF_mk (x := (q.num, (q.den : Int))) h
theorem gcd_nat_le {u l : Int} (h : l ≠ 0) : Int.gcd u l ≤ l.natAbs ∧ Int.gcd u l ≠ 0 := by
  refine ⟨Nat.le_of_dvd (by omega) (Int.gcd_dvd_natAbs_right ..), fun z => ?_⟩
  rw [Int.gcd_eq_zero_iff] at z
  exact h z.2
def spRed (K : PySem.W.Frag) : Sp := fun vs H Q _ => ∃ u l : Int, vs = [.int u, .int l] ∧ l ≠ 0 ∧ l.natAbs < 2 ^ 8000 ∧ ∀ p H', Same H H' → DatAt K H' p (ratD ((u : Rat) / (l : Rat))) → Q p H'
section
variable {P : Program} {w : World} {K : PySem.W.Frag} {mg : Str → Option Value} {base : Heap}
theorem ok_reducedR {f fG : Addr} {fd fdG : FuncData} (B : Bn mg) (G : Df K mg "reduced" s_reduced p_reduced f fd) (G_common_divisor : Df K mg "common_divisor" s_common_divisor p_common_divisor fG fdG) : FnOk P w K mg base CX0 2 f fd p_reduced (spRed K) := by
  have C_common_divisor := ok_common_divisor (P := P) (w := w) (base := base) B G_common_divisor
  refine G.F.okW sc_reduced (fun vs H Q E h => ?_) (fun cdv A outer s H vs Q E hr h => ?_)
  · obtain ⟨u, l, rfl, _⟩ := h
    rfl
  · obtain ⟨u, l, rfl, h0, h1, q⟩ := h
    have hr_common_divisor := hr
    obtain ⟨g1, g0⟩ := gcd_nat_le (u := u) h0
    obtain ⟨e1, e2⟩ := red_rat (u := u) h0
    refine ⟨_, (wpss_cons (wps_set (i := 2) sc_reduced.nd rfl (Or.inl rfl) (wpe_callF C_common_divisor hr_common_divisor rfl G_common_divisor.m G_common_divisor.F.kp G_common_divisor.b pass0 (wpa_c (wpv 0) (wpa_c (wpv 1) wpa_nil)))) (wpss_cons (wps_if (wpt_cmpR op_lt (wpv 1) wpe_int (nomark _)) (wpss_one (wps_set (i := 2) sc_reduced.nd rfl (Or.inl rfl) (wpe_un un_neg (wpv 2)))) wpss_nil) (wpss_one (wps_ret (wpe_tupN (wpa_c (wpe_op op_fdivK (wpv 0) (wpv 2)) (wpa_c (wpe_op op_fdivK (wpv 1) (wpv 2)) wpa_nil))))))), ?_⟩
    refine ⟨_, rfl, _, rfl, u, l, rfl, ?_⟩
    refine ⟨_, rfl, _, _, rfl, rfl, _, rfl, ?_⟩
    refine ite2 (fun z => ?_) (fun z => ?_)
    · have z : l < 0 := by simpa using z
      rw [if_pos z] at e1 e2
      refine ⟨_, rfl, _, rfl, ?_⟩
      refine ⟨_, rfl, _, rfl, _, _, rfl, rfl, ⟨by omega, by omega⟩, _, rfl, _, rfl, _, _, rfl, rfl, ⟨by omega, by omega⟩, (by show 2 ≤ sizeLine; decide), fun p H' _ S h => q _ H' S (datR_mk (SqT.of ?_))⟩
      rw [e1, e2]
      exact h
    · have z : ¬ l < 0 := by simpa using z
      rw [if_neg z] at e1 e2
      refine ⟨_, rfl, _, rfl, _, _, rfl, rfl, ⟨by omega, by omega⟩, _, rfl, _, rfl, _, _, rfl, rfl, ⟨by omega, by omega⟩, (by show 2 ≤ sizeLine; decide), fun p H' _ S h => q _ H' S (datR_mk (SqT.of ?_))⟩
      rw [e1, e2]
      exact h
end
end Lw

namespace L2
open PySem
end L2
namespace Lw
open PySem L2
/-! ### lists of fractions -/
/-! ### walks of shares -/
def spD (l : List (Nat × Rat)) : D := .tup (l.map fun p => .tup [.int p.1, ratD p.2])
def wkD (ws : List (List (Nat × Rat))) : D := .tup (ws.map spD)
theorem tot_pos {many : Int} {ps : List (Int × Int)} (h : SprOk many ps) : 0 < totW ps := by
  have hne := h.ne
  obtain ⟨p, hp⟩ : ∃ p, p ∈ ps := by
    cases ps with
    | nil => simp at hne
    | cons p t => exact ⟨p, List.mem_cons_self⟩
  have h1 := h.pos p hp
  have h2 := totW_ge ps h.pos p hp
  omega
def toSp (W : Int) (ps : List (Int × Int)) : List (Nat × Rat) := ps.map fun p => (p.1.toNat, (p.2 : Rat) / (W : Rat))
theorem toSp_sum (W : Int) (hW : W ≠ 0) : ∀ ps : List (Int × Int), shSum (toSp W ps) = (totW ps : Rat) / (W : Rat)
  | [] => by
    show (0 : Rat) = ((0 : Int) : Rat) / (W : Rat)
    have : ((0 : Int) : Rat) = 0 := rfl
    rw [this]
    grind
  | p :: t => by
    show (p.2 : Rat) / (W : Rat) + shSum (toSp W t) = _
    rw [toSp_sum W hW t, totW_cons, Rat.intCast_add]
    have hW' : (W : Rat) ≠ 0 := fun z => hW (by exact_mod_cast z)
    grind
theorem dvd27720 {l : Nat} (h1 : 1 ≤ l) (h2 : l ≤ 12) : l ∣ 27720 := by
  have key : ∀ k : Fin 13, 1 ≤ k.val → k.val ∣ 27720 := by decide
  exact key ⟨l, Nat.lt_succ_of_le h2⟩ h1
theorem spr_of_law {n : Nat} {ps : List (Int × Int)} (h : SprOk (n : Int) ps) : SpOk n (toSp (totW ps) ps) ∧ sprD ps = spD (toSp (totW ps) ps) := by
  have hW := tot_pos h
  have hW' : ((totW ps : Int) : Rat) ≠ 0 := fun z => absurd (show totW ps = 0 by exact_mod_cast z) (by omega)
  have hpos : ∀ p ∈ ps, (0 : Rat) < (p.2 : Rat) / (totW ps : Rat) := fun p hp => by
    have h1 := h.pos p hp
    have a : (0 : Rat) < (p.2 : Rat) := Rat.intCast_pos.mpr (by omega)
    have b : (0 : Rat) < (totW ps : Rat) := Rat.intCast_pos.mpr hW
    rw [Rat.lt_div_iff b, Rat.zero_mul]
    exact a
  refine ⟨⟨by unfold toSp; rw [List.length_map]; exact ⟨h.ne, h.few⟩, ?_, fun p hp => ?_, fun p hp => ?_, ?_, fun p hp => ?_⟩, ?_⟩
  · have := h.rise
    unfold toSp
    rw [List.map_map]
    rw [List.pairwise_map] at this ⊢
    refine this.imp_of_mem fun {a b} ha hb hlt => ?_
    have := (h.room a ha).1
    have := (h.room b hb).1
    show a.1.toNat < b.1.toNat
    omega
  · obtain ⟨p', hp', rfl⟩ := List.mem_map.mp hp
    have := h.room p' hp'
    show p'.1.toNat < n
    omega
  · obtain ⟨p', hp', rfl⟩ := List.mem_map.mp hp
    exact hpos p' hp'
  · rw [toSp_sum _ (by omega)]
    grind
  · obtain ⟨p', hp', rfl⟩ := List.mem_map.mp hp
    refine Wh.of_den ?_
    have hd := rat_den (u := p'.2) (l := totW ps) (by omega)
    have hf := frL_pos (u := p'.2) hW
    have ht := h.tot
    have : (((p'.2 : Rat) / (totW ps : Rat)).den : Int) = frL p'.2 (totW ps) := by
      rw [hd]
      unfold frL
      have : ((totW ps).natAbs : Int) = totW ps := by omega
      rw [this]
    refine dvd27720 ?_ ?_
    · show 1 ≤ ((p'.2 : Rat) / (totW ps : Rat)).den
      omega
    · show ((p'.2 : Rat) / (totW ps : Rat)).den ≤ 12
      omega
  · unfold sprD spD toSp
    rw [List.map_map]
    congr 1
    refine List.map_congr_left fun p hp => ?_
    have := h.room p hp
    show pairD (totW ps) p = .tup [.int (p.1.toNat : Int), ratD ((p.2 : Rat) / (totW ps : Rat))]
    rw [← fr_rat hW]
    have e : (p.1.toNat : Int) = p.1 := by omega
    rw [e]
    rfl
theorem wk_of_law {ws : List (List (Int × Int))} (h : WlkOk ws) : ∃ rs, WkOk rs ∧ wlkD ws = wkD rs ∧ rs.length = ws.length := by
  refine ⟨ws.map fun ps => toSp (totW ps) ps, ⟨by rw [List.length_map]; exact h.n1, by rw [List.length_map]; exact h.n8, fun l hl => ?_⟩, ?_, by simp⟩
  · obtain ⟨ps, hps, rfl⟩ := List.mem_map.mp hl
    rw [List.length_map]
    exact (spr_of_law (h.sp ps hps)).1
  · unfold wlkD wkD
    rw [List.map_map]
    congr 1
    exact List.map_congr_left fun ps hps => (spr_of_law (h.sp ps hps)).2
end Lw

namespace Lw
open PySem L2
theorem den_ne (q : Rat) : (q.den : Int) ≠ 0 := by have := q.den_nz; omega
end Lw

namespace Lw
open PySem L2
/-- behind i rooms and some pairs of the next -/
def part (ws : List (List (Nat × Rat))) (f : Nat → Rat) (i : Nat) (l : List (Nat × Rat)) (j : Nat) : Rat := sumN i (fun i' => f i' * pOf ws i' j) + f i * shAt l j
theorem sh_le {l : List (Nat × Rat)} (hp : ∀ p ∈ l, 0 < p.2) {p : Nat × Rat} (h : p ∈ l) : p.2 ≤ shSum l := by
  have nn : ∀ l : List (Nat × Rat), (∀ p ∈ l, 0 < p.2) → 0 ≤ shSum l := by
    intro l
    induction l with
    | nil => intro _; exact Rat.le_refl
    | cons x t ih => intro h; have := h x List.mem_cons_self; have := ih fun y hy => h y (List.mem_cons_of_mem _ hy); simp only [shSum]; grind
  induction l with
  | nil => cases h
  | cons x t ih =>
    have h1 := hp x List.mem_cons_self
    have h2 := nn t fun y hy => hp y (List.mem_cons_of_mem _ hy)
    simp only [shSum]
    rcases List.mem_cons.mp h with rfl | h
    · grind
    · have := ih (fun y hy => hp y (List.mem_cons_of_mem _ hy)) h; grind
/-- a pair, a spread, a walk of shares where they lie -/
theorem dat_pair {K : PySem.W.Frag} {H : Hp} {v : V} {r : Nat} {q : Rat} (h : DatAt K H v (.tup [.int r, ratD q])) : ∃ a sv, v = .ref a ∧ SqT K H a [.int r, sv] ∧ DatAt K H sv (ratD q) := by
  obtain ⟨a, vs, rfl, ha, hd⟩ := dat_tup h
  obtain ⟨v0, v1, d0, d1, rfl, e, r0, r1⟩ := dats2 hd rfl
  cases e
  have := dat_int r0
  subst this
  exact ⟨a, v1, rfl, ha, r1⟩
theorem dat_wk {K : PySem.W.Frag} {H : Hp} {v : V} {ws : List (List (Nat × Rat))} (h : DatAt K H v (wkD ws)) : ∃ a vs, v = .ref a ∧ SqT K H a vs ∧ vs.length = ws.length ∧ ∀ i, i < ws.length → ∃ x, vs[i]? = some x ∧ DatAt K H x (spD (ws.getD i [])) := by
  obtain ⟨a, vs, rfl, ha, hd⟩ := dat_tup h
  refine ⟨a, vs, rfl, ha, by rw [hd.length, List.length_map], fun i hi => ?_⟩
  obtain ⟨x, h1, h2⟩ := hd.get (i := i) (d := spD (ws.getD i [])) (by rw [List.getElem?_map, List.getElem?_eq_getElem hi, List.getD_eq_getElem?_getD, List.getElem?_eq_getElem hi]; rfl)
  exact ⟨x, h1, h2⟩
theorem dat_sp {K : PySem.W.Frag} {H : Hp} {v : V} {l : List (Nat × Rat)} (h : DatAt K H v (spD l)) : ∃ a vs, v = .ref a ∧ SqT K H a vs ∧ vs.length = l.length ∧ ∀ (i : Nat) x, vs[i]? = some x → ∃ p, l[i]? = some p ∧ DatAt K H x (.tup [.int p.1, ratD p.2]) := by
  obtain ⟨a, vs, rfl, ha, hd⟩ := dat_tup h
  refine ⟨a, vs, rfl, ha, by rw [hd.length, List.length_map], fun i x hx => ?_⟩
  obtain ⟨d, h1, h2⟩ := hd.get' hx
  rw [List.getElem?_map] at h1
  cases e : l[i]? with
  | none => rw [e] at h1; cases h1
  | some p => rw [e] at h1; cases h1; exact ⟨p, rfl, h2⟩
end Lw

namespace Lw
open PySem L2
/-! ### looks at what is known to be right -/
def spFracV (K : PySem.W.Frag) : Sp := fun vs H Q _ => ∃ (v : V) (q : Rat), vs = [v] ∧ DatAt K H v (ratD q) ∧ Q (.bl true) H
def spRoomV : Sp := fun vs H Q _ => ∃ k n : Nat, vs = [.int k, .int n] ∧ k < n ∧ Q (.bl true) H
def spPairV (K : PySem.W.Frag) : Sp := fun vs H Q _ => ∃ (v : V) (k n : Nat) (q : Rat), vs = [v, .int n] ∧ DatAt K H v (.tup [.int k, ratD q]) ∧ k < n ∧ 0 < q ∧ Q (.bl true) H
def spPlusR (K : PySem.W.Frag) : Sp := fun vs H Q _ => ∃ (v1 v2 : V) (a b : Rat), vs = [v1, v2] ∧ DatAt K H v1 (ratD a) ∧ DatAt K H v2 (ratD b) ∧ Sm 3000 a ∧ Sm 200 b ∧ ∀ p H', Same H H' → DatAt K H' p (ratD (a + b)) → Q p H'
def sumQ : List Rat → Rat
  | [] => 0
  | q :: t => q + sumQ t
theorem sumQ_app : ∀ (l : List Rat) (q : Rat), sumQ (l ++ [q]) = sumQ l + q
  | [], q => by show q + 0 = 0 + q; grind
  | x :: t, q => by show x + sumQ (t ++ [q]) = x + sumQ t + q; rw [sumQ_app t q]; grind
def spTotR (K : PySem.W.Frag) : Sp := fun vs H Q _ => ∃ (a : Addr) (ys : List V) (qs : List Rat), vs = [.ref a] ∧ SqL K H a ys ∧ DatsAt K H ys (qs.map ratD) ∧ qs.length ≤ 9 ∧ (∀ q ∈ qs, Sm 200 q) ∧ ∀ p H', Same H H' → DatAt K H' p (ratD (sumQ qs)) → Sm 2000 (sumQ qs) → Q p H'
def spSprV (K : PySem.W.Frag) : Sp := fun vs H Q _ => ∃ (v : V) (l : List (Nat × Rat)) (n : Nat), vs = [v, .int n] ∧ DatAt K H v (spD l) ∧ SpOk n l ∧ ∀ H', Same H H' → Q (.bl true) H'
def spWlkV (K : PySem.W.Frag) : Sp := fun vs H Q _ => ∃ (v : V) (ws : List (List (Nat × Rat))), vs = [v] ∧ DatAt K H v (wkD ws) ∧ WkOk ws ∧ ∀ H', Same H H' → Q (.bl true) H'
def spChkV (K : PySem.W.Frag) : Sp := fun vs H Q _ => ∃ (v : V) (ws : List (List (Nat × Rat))), vs = [v] ∧ DatAt K H v (wkD ws) ∧ WkOk ws ∧ ∀ H', Same H H' → Q v H'
theorem Sm.mono {j k : Nat} {q : Rat} (h : Sm j q) (hk : j ≤ k) : Sm k q := ⟨bd_mono h.1 hk, Nat.lt_of_lt_of_le h.2 (Nat.pow_le_pow_right (by decide) hk)⟩
theorem Sm.dI {k : Nat} {q : Rat} (h : Sm k q) : ((q.den : Int)).natAbs < 2 ^ k := by rw [Int.natAbs_natCast]; exact h.2
theorem sm_of {z d : Int} {k : Nat} (hd : d ≠ 0) (hz : z.natAbs < 2 ^ k) (hdk : d.natAbs < 2 ^ k) : Sm k ((z : Rat) / (d : Rat)) := by
  have hn := rat_num (u := z) hd
  have hdn := rat_den (u := z) hd
  constructor
  · rw [hn]
    refine Nat.lt_of_le_of_lt ?_ hz
    have e : (d.sign * z).natAbs = z.natAbs := by
      rw [Int.natAbs_mul, Int.natAbs_sign_of_ne_zero hd, Nat.one_mul]
    rw [← e]
    exact Int.natAbs_ediv_le_natAbs (d.sign * z) (Int.gcd z d : Int)
  · have e : ((d.natAbs : Int) / ((Int.gcd z d : Nat) : Int)) = ((d.natAbs / Int.gcd z d : Nat) : Int) := rfl
    rw [e] at hdn
    rw [Int.ofNat.inj hdn]
    exact Nat.lt_of_le_of_lt (Nat.div_le_self d.natAbs (Int.gcd z d)) hdk
theorem plus_val (a b : Rat) : ((a.num * (b.den : Int) + b.num * (a.den : Int) : Int) : Rat) / (((a.den : Int) * (b.den : Int) : Int) : Rat) = a + b := by
  rw [Rat.intCast_add, Rat.intCast_mul, Rat.intCast_mul, Rat.intCast_mul]
  have e1 := rat_self a
  have e2 := rat_self b
  have n1 := rat_den_ne a
  have n2 := rat_den_ne b
  grind
theorem sm_plus {k : Nat} {a b : Rat} (ha : Sm k a) (hb : Sm 200 b) : Sm (k + 201) (a + b) := by
  rw [← plus_val]
  have u1 := bd_mul ha.1 hb.dI
  have u2 := bd_mul hb.1 ha.dI
  have u3 := bd_mul ha.dI hb.dI
  rw [Nat.add_comm] at u2
  exact sm_of (Int.mul_ne_zero (den_ne a) (den_ne b)) (bd_add u1 u2) (bd_mono u3 (Nat.le_succ _))
theorem SpOk.sm200 {n : Nat} {l : List (Nat × Rat)} (h : SpOk n l) {p : Nat × Rat} (hp : p ∈ l) : Sm 200 p.2 := Pr.sm (m := 27720) ⟨Rat.le_of_lt (h.pos p hp), by rw [← h.one]; exact sh_le h.pos hp, h.wh p hp⟩ (by decide) (by decide)
theorem sumQ_sh : ∀ l : List (Nat × Rat), sumQ (l.map (·.2)) = shSum l
  | [] => rfl
  | p :: t => by show p.2 + sumQ (t.map (·.2)) = p.2 + shSum t; rw [sumQ_sh t]
section
variable {P : Program} {w : World} {K : PySem.W.Frag} {mg : Str → Option Value} {base : Heap}
theorem gcd_one (q : Rat) : decide (V.int (Int.gcd q.num (q.den : Int) : Int) = V.int 1) = true := by
  have : Int.gcd q.num (q.den : Int) = 1 := q.reduced
  rw [this]
  exact decide_eq_true rfl
theorem den_ge (q : Rat) : (1 : Int) ≤ (q.den : Int) := Int.ofNat_le.mpr (Nat.pos_of_ne_zero q.den_nz)
theorem ok_is_fractionV {f fW fG : Addr} {fd fdW fdG : FuncData} (B : Bn mg) (G : Df K mg "is_fraction" s_is_fraction p_is_fraction f fd) (G_is_whole : Df K mg "is_whole" s_is_whole p_is_whole fW fdW) (G_common_divisor : Df K mg "common_divisor" s_common_divisor p_common_divisor fG fdG) : FnOk P w K mg base CX0 2 f fd p_is_fraction (spFracV K) := by
  have C_is_whole := ok_is_whole (P := P) (w := w) (base := base) B G_is_whole
  have C_common_divisor := ok_common_divisor (P := P) (w := w) (base := base) B G_common_divisor
  refine G.F.okW sc_is_fraction (fun vs H Q E h => ?_) (fun cdv A outer s H vs Q E hr h => ?_)
  · obtain ⟨v, x, rfl, _⟩ := h
    rfl
  · obtain ⟨v, x, rfl, hv, q⟩ := h
    have hr_is_whole := hr
    have hr_common_divisor := hr
    obtain ⟨a, rfl, ha⟩ := datR hv
    refine ⟨_, (wpss_cons (wps_if (wpw_pt (wpw_or (wpt_not (wpt_val (wpe_callBF call_isD rfl B.isinstance PyProof.Rows.boot_isinstance (wpa_c (wpv 0) (wpa_c (wpe_bltn (v := .ty "tuple") rfl B.tuple PyProof.Rows.boot_tuple rfl) wpa_nil))))) (wpw_or1 (wpt_cmpR op_ne (wpe_callBF call_len_seq rfl B.len PySem.boot_len (wpa_c (wpv 0) wpa_nil)) wpe_int (nomark _))))) (wpss_one (wps_ret wpe_bl)) wpss_nil) (wpss_cons (wps_if (wpw_pt (wpw_or (wpt_not (wpt_val (wpe_callF C_is_whole hr_is_whole rfl G_is_whole.m G_is_whole.F.kp G_is_whole.b pass0 (wpa_c (wpe_ix ix_tup (wpv 0) wpe_int (fun _ _ => rfl)) wpa_nil)))) (wpw_or1 (wpt_not (wpt_val (wpe_callF C_is_whole hr_is_whole rfl G_is_whole.m G_is_whole.F.kp G_is_whole.b pass0 (wpa_c (wpe_ix ix_tup (wpv 0) wpe_int (fun _ _ => rfl)) wpa_nil))))))) (wpss_one (wps_ret wpe_bl)) wpss_nil) (wpss_one (wps_ret (wpe_and (wpe_cmpR op_ge (wpe_ix ix_tup (wpv 0) wpe_int (fun _ _ => rfl)) wpe_int (nomark _)) (wpe_one (wpe_cmpR op_eq (wpe_callF C_common_divisor hr_common_divisor rfl G_common_divisor.m G_common_divisor.F.kp G_common_divisor.b pass0 (wpa_c (wpe_ix ix_tup (wpv 0) wpe_int (fun _ _ => rfl)) (wpa_c (wpe_ix ix_tup (wpv 0) wpe_int (fun _ _ => rfl)) wpa_nil))) wpe_int (nomark _)))))))), ?_⟩
    refine ⟨_, rfl, .ref a, _, _, _, rfl, hv, kit_tuple _, _, rfl, iteF ?_⟩
    refine ⟨_, rfl, a, _, rfl, .inr ha, rfl, _, rfl, ndF rfl ?_⟩
    refine ⟨_, rfl, a, _, _, _, rfl, rfl, ha, rfl, _, _, rfl, .int _, _, rfl, iteF ?_⟩
    refine ⟨_, rfl, a, _, _, _, rfl, rfl, ha, rfl, _, _, rfl, .int _, _, rfl, iteF ?_⟩
    refine ⟨_, rfl, a, _, _, _, rfl, rfl, ha, rfl, _, _, rfl, rfl, _, rfl, decT (den_ge x) ?_⟩
    refine ⟨_, rfl, a, _, _, _, rfl, rfl, ha, rfl, _, rfl, a, _, _, _, rfl, rfl, ha, rfl, _, _, rfl, rfl, ?_⟩
    rw [gcd_one]
    exact q
theorem ok_is_roomV {f fW : Addr} {fd fdW : FuncData} (B : Bn mg) (G : Df K mg "is_room" s_is_room p_is_room f fd) (G_is_whole : Df K mg "is_whole" s_is_whole p_is_whole fW fdW) : FnOk P w K mg base CX0 2 f fd p_is_room spRoomV := by
  have C_is_whole := ok_is_whole (P := P) (w := w) (base := base) B G_is_whole
  refine G.F.okW sc_is_room (fun vs H Q E h => ?_) (fun cdv A outer s H vs Q E hr h => ?_)
  · obtain ⟨k, n, rfl, _⟩ := h
    rfl
  · obtain ⟨k, n, rfl, hk, q⟩ := h
    have hr_is_whole := hr
    refine ⟨_, (wpss_one (wps_ret (wpe_and (wpe_callF C_is_whole hr_is_whole rfl G_is_whole.m G_is_whole.F.kp G_is_whole.b pass0 (wpa_c (wpv 0) wpa_nil)) (wpe_one (wpe_chain op_le op_lt wpe_int (wpv 0) (wpv 1)))))), ?_⟩
    refine ⟨_, rfl, _, _, rfl, .int _, _, rfl, iteT ?_⟩
    refine ⟨_, rfl, _, _, rfl, rfl, _, rfl, decT (Int.natCast_nonneg k) ?_⟩
    refine ⟨_, rfl, _, _, rfl, rfl, ?_⟩
    show Q (.bl (decide ((k : Int) < (n : Int)))) H
    rw [decide_eq_true (Int.ofNat_lt.mpr hk)]
    exact q
theorem ok_is_pairV {f fR fF : Addr} {fd fdR fdF : FuncData} (B : Bn mg) (C_is_room : FnOk P w K mg base CX0 2 fR fdR p_is_room spRoomV) (C_is_fraction : FnOk P w K mg base CX0 2 fF fdF p_is_fraction (spFracV K)) (G : Df K mg "is_pair" s_is_pair p_is_pair f fd) (G_is_room : Df K mg "is_room" s_is_room p_is_room fR fdR)
    (G_is_fraction : Df K mg "is_fraction" s_is_fraction p_is_fraction fF fdF) : FnOk P w K mg base CX0 3 f fd p_is_pair (spPairV K) := by
  refine G.F.okW sc_is_pair (fun vs H Q E h => ?_) (fun cdv A outer s H vs Q E hr h => ?_)
  · obtain ⟨v, k, n, x, rfl, _⟩ := h
    rfl
  · obtain ⟨v, k, n, x, rfl, hv, hk, hx, q⟩ := h
    have hr_is_room := hr
    have hr_is_fraction := hr
    obtain ⟨a, sv, rfl, ha, hsv⟩ := dat_pair hv
    obtain ⟨b, rfl, hb⟩ := datR hsv
    refine ⟨_, (wpss_cons (wps_if (wpw_pt (wpw_or (wpt_not (wpt_val (wpe_callBF call_isD rfl B.isinstance PyProof.Rows.boot_isinstance (wpa_c (wpv 0) (wpa_c (wpe_bltn (v := .ty "tuple") rfl B.tuple PyProof.Rows.boot_tuple rfl) wpa_nil))))) (wpw_or1 (wpt_cmpR op_ne (wpe_callBF call_len_seq rfl B.len PySem.boot_len (wpa_c (wpv 0) wpa_nil)) wpe_int (nomark _))))) (wpss_one (wps_ret wpe_bl)) wpss_nil) (wpss_one (wps_ret (wpe_and (wpe_callF C_is_room hr_is_room rfl G_is_room.m G_is_room.F.kp G_is_room.b pass0 (wpa_c (wpe_ix ix_tup (wpv 0) wpe_int (fun _ _ => rfl)) (wpa_c (wpv 1) wpa_nil))) (wpe_and (wpe_callF C_is_fraction hr_is_fraction rfl G_is_fraction.m G_is_fraction.F.kp G_is_fraction.b pass0 (wpa_c (wpe_ix ix_tup (wpv 0) wpe_int (fun _ _ => rfl)) wpa_nil)) (wpe_one (wpe_cmpR op_gt (wpe_ix ix_tup (wpe_ix ix_tup (wpv 0) wpe_int (fun _ _ => rfl)) wpe_int (fun _ _ => rfl)) wpe_int (nomark _)))))))), ?_⟩
    refine ⟨_, rfl, .ref a, _, _, _, rfl, hv, kit_tuple _, _, rfl, iteF ?_⟩
    refine ⟨_, rfl, a, _, rfl, .inr ha, rfl, _, rfl, ndF rfl ?_⟩
    refine ⟨_, rfl, a, _, _, _, rfl, rfl, ha, rfl, _, rfl, k, n, rfl, hk, _, rfl, iteT ?_⟩
    refine ⟨_, rfl, a, _, _, _, rfl, rfl, ha, rfl, .ref b, x, rfl, hsv, _, rfl, iteT ?_⟩
    refine ⟨_, rfl, a, _, _, _, rfl, rfl, ha, rfl, b, _, _, _, rfl, rfl, hb, rfl, _, _, rfl, rfl, ?_⟩
    have hn : (0 : Int) < x.num := by
      have h0 : x.num ≠ 0 := fun z => Rat.ne_of_gt hx (Rat.num_eq_zero.mp z)
      have := Rat.num_nonneg.mpr (Rat.le_of_lt hx)
      omega
    show Q (.bl (decide (0 < x.num))) H
    rw [decide_eq_true hn]
    exact q
theorem ok_plusR {f fR fG : Addr} {fd fdR fdG : FuncData} (B : Bn mg) (G : Df K mg "plus" s_plus p_plus f fd) (G_reduced : Df K mg "reduced" s_reduced p_reduced fR fdR) (G_common_divisor : Df K mg "common_divisor" s_common_divisor p_common_divisor fG fdG) : FnOk P w K mg base CX0 3 f fd p_plus (spPlusR K) := by
  have C_reduced := ok_reducedR (P := P) (w := w) (base := base) B G_reduced G_common_divisor
  refine G.F.okW sc_plus (fun vs H Q E h => ?_) (fun cdv A outer s H vs Q E hr h => ?_)
  · obtain ⟨v1, v2, a, b, rfl, _⟩ := h
    rfl
  · obtain ⟨v1, v2, a, b, rfl, d1, d2, sa, sb, q⟩ := h
    obtain ⟨a1, rfl, h1⟩ := datR d1
    obtain ⟨a2, rfl, h2⟩ := datR d2
    have hr_reduced := hr
    have l1 : (3000 : Nat) ≤ 4000 := by decide
    have l2 : (200 : Nat) ≤ 4000 := by decide
    refine ⟨_, (wpss_one (wps_ret (wpe_callF C_reduced hr_reduced rfl G_reduced.m G_reduced.F.kp G_reduced.b pass0 (wpa_c (wpe_op op_add (wpe_op op_mulK (wpe_ix ix_tup (wpv 0) wpe_int (fun _ _ => rfl)) (wpe_ix ix_tup (wpv 1) wpe_int (fun _ _ => rfl))) (wpe_op op_mulK (wpe_ix ix_tup (wpv 1) wpe_int (fun _ _ => rfl)) (wpe_ix ix_tup (wpv 0) wpe_int (fun _ _ => rfl)))) (wpa_c (wpe_op op_mulK (wpe_ix ix_tup (wpv 0) wpe_int (fun _ _ => rfl)) (wpe_ix ix_tup (wpv 1) wpe_int (fun _ _ => rfl))) wpa_nil))))), ?_⟩
    refine ⟨_, rfl, a1, _, _, _, rfl, rfl, h1, rfl, _, rfl, a2, _, _, _, rfl, rfl, h2, rfl, _, _, rfl, rfl, ⟨bd_mono sa.1 l1, bd_mono sb.dI l2⟩, ?_⟩
    refine ⟨_, rfl, a2, _, _, _, rfl, rfl, h2, rfl, _, rfl, a1, _, _, _, rfl, rfl, h1, rfl, _, _, rfl, rfl, ⟨bd_mono sb.1 l2, bd_mono sa.dI l1⟩, _, _, rfl, rfl, ?_⟩
    refine ⟨_, rfl, a1, _, _, _, rfl, rfl, h1, rfl, _, rfl, a2, _, _, _, rfl, rfl, h2, rfl, _, _, rfl, rfl, ⟨bd_mono sa.dI l1, bd_mono sb.dI l2⟩, ?_⟩
    refine ⟨_, _, rfl, Int.mul_ne_zero (den_ne a) (den_ne b), bd_mono (bd_mul sa.dI sb.dI) (by decide), fun p H' S hp => q p H' S ?_⟩
    rw [plus_val] at hp
    exact hp
theorem ok_totalR {f fP aN aO : Addr} {t8 : Tok} {fd fdP : FuncData} (C : Cst K mg aN aO t8) (C_plus : FnOk P w K mg base CX0 3 fP fdP p_plus (spPlusR K)) (G : Df K mg "total" s_total p_total f fd) (G_plus : Df K mg "plus" s_plus p_plus fP fdP) : FnOk P w K mg base CX0 4 f fd p_total (spTotR K) := by
  refine G.F.okW sc_total (fun vs H Q E h => ?_) (fun cdv A outer s H vs Q E hr h => ?_)
  · obtain ⟨a, ys, qs, rfl, _⟩ := h
    rfl
  · obtain ⟨a, ys, qs, rfl, ha, hys, h9, hq, q⟩ := h
    have hr_plus := hr
    have hl : ys.length = qs.length := by rw [hys.length, List.length_map]
    refine ⟨_, (wpss_cons (wps_set (i := 1) sc_total.nd rfl (Or.inl rfl) (wpe_glob (v := .ref aN) rfl C.mN rfl)) (wpss_cons (wps_for PassesOwn.never rfl (wpi_list (wpv 0)) (wpg_name (i := 2) sc_total.nd rfl (Or.inl rfl)) (wpss_one (wps_set (i := 1) sc_total.nd rfl (Or.inl rfl) (wpe_callF C_plus hr_plus rfl G_plus.m G_plus.F.kp G_plus.b pass0 (wpa_c (wpv 1) (wpa_c (wpv 2) wpa_nil)))))) (wpss_one (wps_ret (wpv 1))))), ?_⟩
    refine ⟨_, rfl, a, rfl, ⟨_, ha⟩, for_list (K := K) (a := a) (xs := ys) (fun i σ H2 => ∃ (v1 : V) (o2 : Option V), σ = [some (.ref a), some v1, o2] ∧ Same H H2 ∧ DatAt K H2 v1 (ratD (sumQ (qs.take i))) ∧ Sm (1 + i * 201) (sumQ (qs.take i)))
      ⟨.ref aN, none, rfl, Same.refl H, datR_mk (q := 0) (C.sN H), ⟨(by show 0 < 2; decide), (by show 1 < 2; decide)⟩⟩ (fun i σ H2 _ ⟨_, _, _, S, _⟩ => S.seq ha) ?_ ?_⟩
    · rintro i x σ H2 hx ⟨v1, o2, rfl, S2, h1, hs1⟩
      obtain ⟨d, hd, hxd⟩ := hys.get' hx
      rw [List.getElem?_map] at hd
      have hi : i < qs.length := by rw [← hl]; exact (List.getElem?_eq_some_iff.mp hx).1
      rw [List.getElem?_eq_getElem hi] at hd
      cases hd
      have hqi := hq qs[i] (List.getElem_mem hi)
      have h8 : 1 + i * 201 ≤ 3000 := by omega
      refine ⟨_, rfl, _, rfl, v1, x, _, _, rfl, h1, hxd.same S2, hs1.mono h8, hqi, fun p H3 S3 hp => ?_⟩
      have e : sumQ (qs.take (i + 1)) = sumQ (qs.take i) + qs[i] := by rw [List.take_succ_eq_append_getElem hi, sumQ_app]
      refine ⟨p, _, rfl, S2.trans S3, by rw [e]; exact hp, ?_⟩
      rw [e]
      exact (sm_plus hs1 hqi).mono (by omega)
    · rintro σ H2 ⟨v1, o2, rfl, S2, h1, hs1⟩
      rw [hl, List.take_length] at h1 hs1
      exact ⟨_, rfl, q v1 H2 S2 h1 (hs1.mono (by omega))⟩
theorem ok_is_spreadV {f fP fT aN aO : Addr} {t8 : Tok} {fd fdP fdT : FuncData} (B : Bn mg) (C : Cst K mg aN aO t8) (C_is_pair : FnOk P w K mg base CX0 3 fP fdP p_is_pair (spPairV K)) (C_total : FnOk P w K mg base CX0 4 fT fdT p_total (spTotR K)) (G : Df K mg "is_spread" s_is_spread p_is_spread f fd)
    (G_is_pair : Df K mg "is_pair" s_is_pair p_is_pair fP fdP) (G_total : Df K mg "total" s_total p_total fT fdT) : FnOk P w K mg base CX0 5 f fd p_is_spread (spSprV K) := by
  refine G.F.okW sc_is_spread (fun vs H Q E h => ?_) (fun cdv A outer s H vs Q E hr h => ?_)
  · obtain ⟨v, l, n, rfl, _⟩ := h
    rfl
  · obtain ⟨v, l, n, rfl, hv, hs, q⟩ := h
    have hr_is_pair : Room 3 _ := hr.mono (by decide)
    have hr_total : Room 4 _ := hr
    have h3 := hs.few.2
    obtain ⟨a, vs, rfl, ha, hlen, hsp⟩ := dat_sp hv
    refine ⟨_, (wpss_cons (wps_if (wpt_not (wpt_val (wpe_callBF call_isD rfl B.isinstance PyProof.Rows.boot_isinstance (wpa_c (wpv 0) (wpa_c (wpe_bltn (v := .ty "tuple") rfl B.tuple PyProof.Rows.boot_tuple rfl) wpa_nil))))) (wpss_one (wps_ret wpe_bl)) wpss_nil) (wpss_cons (wps_set (i := 2) sc_is_spread.nd rfl (Or.inl rfl) (wpe_un un_neg wpe_int)) (wpss_cons (wps_set (i := 3) sc_is_spread.nd rfl (Or.inl rfl) (wpe_lstN wpa_nil)) (wpss_cons (wps_for PassesOwn.never rfl (wpi_tup (wpv 0)) (wpg_name (i := 4) sc_is_spread.nd rfl (Or.inl rfl)) (wpss_cons (wps_if (wpw_pt (wpw_or (wpt_not (wpt_val (wpe_callF C_is_pair hr_is_pair rfl G_is_pair.m G_is_pair.F.kp G_is_pair.b pass0 (wpa_c (wpv 4) (wpa_c (wpv 1) wpa_nil))))) (wpw_or1 (wpt_cmpR op_le (wpe_ix ix_tup (wpv 4) wpe_int (fun _ _ => rfl)) (wpv 2) (nomark _))))) (wpss_one (wps_ret wpe_bl)) wpss_nil) (wpss_cons (wps_set (i := 2) sc_is_spread.nd rfl (Or.inl rfl) (wpe_ix ix_tup (wpv 4) wpe_int (fun _ _ => rfl))) (wpss_one (wps_expr (wpe_bmF PySem.F.plainAttrs_list PySem.F.slot_list_append PySem.F.type_list_append mt_append (wpv 3) (wpa_c (wpe_ix ix_tup (wpv 4) wpe_int (fun _ _ => rfl)) wpa_nil))))))) (wpss_one (wps_ret (wpe_cmpR (op_eqD (hu60 hr)) (wpe_callF C_total hr_total rfl G_total.m G_total.F.kp G_total.b pass0 (wpa_c (wpv 3) wpa_nil)) (wpe_glob (v := .ref aO) rfl C.mO rfl) (nomark _)))))))), ?_⟩
    refine ⟨_, rfl, .ref a, _, _, _, rfl, hv, kit_tuple _, _, rfl, iteF ?_⟩
    refine ⟨_, rfl, (by show 0 ≤ sizeLine; exact Nat.zero_le _), fun b H1 hb S1 hb1 => ?_⟩
    refine ⟨_, rfl, a, rfl, ⟨_, S1.seqT ha⟩, for_tup (K := K) (a := a) (xs := vs) (fun i σ H2 => ∃ (last : Int) (ys : List V) (o4 : Option V), σ = [some (.ref a), some (.int n), some (.int last), some (.ref b), o4] ∧ Same H H2 ∧ H2 b = some (.lst ys) ∧ DatsAt K H2 ys ((l.take i).map fun p => ratD p.2) ∧ ∀ (j : Nat) (p : Nat × Rat), i ≤ j → l[j]? = some p → last < (p.1 : Int))
      ⟨-1, [], none, rfl, S1, hb1, .nil, fun j p _ _ => by omega⟩ (fun i σ H2 _ ⟨_, _, _, _, S, _⟩ => S.seqT ha) ?_ ?_⟩
    · rintro i x σ H2 hx ⟨last, ys, o4, rfl, S2, hb2, hys, hlast⟩
      obtain ⟨p, hp, hpd⟩ := hsp i x hx
      obtain ⟨pa, sv, rfl, hpa, hsv⟩ := dat_pair hpd
      have hpm : p ∈ l := List.mem_of_getElem? hp
      obtain ⟨hil, hpi⟩ := List.getElem?_eq_some_iff.mp hp
      have hpa2 := S2.seqT hpa
      have hl1 := hlast i p (Nat.le_refl _) hp
      refine ⟨_, rfl, _, rfl, .ref pa, p.1, n, p.2, rfl, hpd.same S2, hs.room p hpm, hs.pos p hpm, _, rfl, iteF ?_⟩
      refine ⟨_, rfl, pa, _, _, _, rfl, rfl, hpa2, rfl, _, rfl, _, _, rfl, rfl, _, rfl, decF (Int.not_le.mpr hl1) ?_⟩
      refine ⟨_, rfl, pa, _, _, _, rfl, rfl, hpa2, rfl, ?_⟩
      have hyl : ys.length ≤ 3 := by rw [hys.length, List.length_map, List.length_take]; omega
      refine ⟨_, rfl, .inl ⟨rfl, _, SqL.of hb2⟩, _, rfl, pa, _, _, _, rfl, rfl, hpa2, rfl, b, ys, _, rfl, rfl, hb2, small1000 (by omega), ?_⟩
      refine ⟨_, ys ++ [sv], _, rfl, S2.fresh_upd hb _, upd_same, ?_, fun j p' hj hp' => ?_⟩
      · rw [List.take_succ_eq_append_getElem hil, List.map_append, hpi]
        refine (DatsAt.kp ⟨_, hb2⟩ (kp_upd _) (noLs_all fun j d h => ?_) hys).append (.cons (DatAt.kp ⟨_, hb2⟩ (kp_upd _) rfl (hsv.same S2)) .nil)
        rw [List.getElem?_map] at h
        cases e : (l.take i)[j]? with
        | none => rw [e] at h; cases h
        | some y => rw [e] at h; cases h; rfl
      · obtain ⟨hj1, e2⟩ := List.getElem?_eq_some_iff.mp hp'
        have := List.pairwise_iff_getElem.mp hs.rise i j (by rw [List.length_map]; exact hil) (by rw [List.length_map]; exact hj1) hj
        rw [List.getElem_map, List.getElem_map, hpi, e2] at this
        exact Int.ofNat_lt.mpr this
    · rintro σ H2 ⟨last, ys, o4, rfl, S2, hb2, hys, _⟩
      rw [hlen, List.take_length] at hys
      have e : l.map (fun p => ratD p.2) = (l.map (·.2)).map ratD := by rw [List.map_map]; rfl
      rw [e] at hys
      refine ⟨_, rfl, b, ys, l.map (·.2), rfl, SqL.of hb2, hys, by rw [List.length_map]; omega, fun x hx => ?_, fun p H3 S3 hp _ => ?_⟩
      · obtain ⟨y, hy, rfl⟩ := List.mem_map.mp hx
        exact hs.sm200 hy
      · rw [sumQ_sh, hs.one] at hp
        refine ⟨_, _, .inl ⟨_, _, rfl, rfl⟩, hp, datR_mk (q := 1) (C.sO H3), (by decide), ?_⟩
        rw [eqD_refl]
        exact q H3 (S2.trans S3)
theorem ok_is_walkV {f fS aN aO : Addr} {t8 : Tok} {fd fdS : FuncData} (B : Bn mg) (C : Cst K mg aN aO t8) (C_is_spread : FnOk P w K mg base CX0 5 fS fdS p_is_spread (spSprV K)) (G : Df K mg "is_walk" s_is_walk p_is_walk f fd) (G_is_spread : Df K mg "is_spread" s_is_spread p_is_spread fS fdS) : FnOk P w K mg base CX0 6 f fd p_is_walk (spWlkV K) := by
  refine G.F.okW sc_is_walk (fun vs H Q E h => ?_) (fun cdv A outer s H vs Q E hr h => ?_)
  · obtain ⟨v, ws, rfl, _⟩ := h
    rfl
  · obtain ⟨v, ws, rfl, hv, hok, q⟩ := h
    have hr_is_spread := hr
    have h8 := hok.n8
    have h1 := hok.n1
    obtain ⟨a, vs, rfl, ha, hlen, hsp⟩ := dat_wk hv
    refine ⟨_, (wpss_cons (wps_if (wpw_pt (wpw_or (wpt_not (wpt_val (wpe_callBF call_isD rfl B.isinstance PyProof.Rows.boot_isinstance (wpa_c (wpv 0) (wpa_c (wpe_bltn (v := .ty "tuple") rfl B.tuple PyProof.Rows.boot_tuple rfl) wpa_nil))))) (wpw_or1 (wpt_not (wpt_chain op_le op_le wpe_int (wpe_callBF call_len_seq rfl B.len PySem.boot_len (wpa_c (wpv 0) wpa_nil)) (wpe_glob (v := .int 8) rfl C.m8 ⟨_, rfl⟩)))))) (wpss_one (wps_ret wpe_bl)) wpss_nil) (wpss_one (wps_ret (wpe_callBF (call_all_list rfl) rfl B.all PyProof.Rows.boot_all (wpa_c (wpe_comp (NB := ["spread", "thing"]) (n := 1) (capN := [0]) (by exact ⟨rfl, by decide, rfl, by decide, ⟨rfl, trivial⟩, rfl, rfl, rfl, rfl, rfl⟩) rfl (gk_name (by decide)) (wpi_tup (wpv 0)) (fun _ _ _ _ => (wpg_name (i := 0) (show (["spread", "thing"] : List Str).Nodup by decide +kernel) rfl (Or.inl rfl))) (fun _ _ _ _ => wpts_nil) (fun _ _ _ _ => (wpe_callF C_is_spread hr_is_spread rfl G_is_spread.m G_is_spread.F.kp G_is_spread.b pass0 (wpa_c (wpv 0) (wpa_c (wpe_callBF (call_len_K (K := K) rfl) rfl B.len PySem.boot_len (wpa_c (wpv 1) wpa_nil)) wpa_nil))))) wpa_nil))))), ?_⟩
    refine ⟨_, rfl, .ref a, _, _, _, rfl, hv, kit_tuple _, _, rfl, iteF ?_⟩
    refine ⟨_, rfl, a, vs, rfl, .inr ha, _, _, rfl, rfl, _, rfl, decT (by omega) ?_⟩
    refine ⟨_, _, rfl, rfl, _, rfl, ndF (by omega) ?_⟩
    refine ⟨_, rfl, a, rfl, ⟨_, ha⟩, fun p hp => ?_⟩
    refine comp_datT (K := K) (fun _ dd => dd = .bl true) hp ha (Nat.le_of_lt (small1000 (by omega))) (by rintro j d rfl; rfl) ?_ ?_
    · intro j x H1 RR hx S1 kk
      have hj : j < ws.length := by rw [← hlen]; exact (List.getElem?_eq_some_iff.mp hx).1
      obtain ⟨x', hx', hxd⟩ := hsp j hj
      rw [hx] at hx'
      cases hx'
      refine ⟨_, rfl, _, rfl, a, vs, rfl, .inr (S1.seqT ha), x, _, ws.length, (by rw [hlen]; rfl), hxd.same S1, hok.sp _ (getD_mem hj), fun H2 S2 => kk _ H2 _ S2 (.bl _) rfl⟩
    · intro ys H1 es S1 hp1 hl1 hes hdd
      have ee : es = (List.replicate ws.length true).map D.bl := by
        apply List.ext_getElem?
        intro j
        by_cases hj : j < ws.length
        · have e := List.getElem?_eq_getElem (l := es) (i := j) (by omega)
          rw [e, hes j _ e]
          simp [hj]
        · rw [List.getElem?_eq_none (by omega), List.getElem?_eq_none (by simp; omega)]
      rw [ee] at hdd
      have ey := dats_bl hdd
      subst ey
      refine ⟨p, _, rfl, SqL.of hp1, ?_⟩
      rw [show (List.replicate ws.length true).all id = true by simp]
      exact q H1 S1
theorem ok_checkedV {f fW : Addr} {fd fdW : FuncData} (C_is_walk : FnOk P w K mg base CX0 6 fW fdW p_is_walk (spWlkV K)) (G : Df K mg "checked" s_checked p_checked f fd) (G_is_walk : Df K mg "is_walk" s_is_walk p_is_walk fW fdW) : FnOk P w K mg base CX0 7 f fd p_checked (spChkV K) := by
  refine G.F.okW sc_checked (fun vs H Q E h => ?_) (fun cdv A outer s H vs Q E hr h => ?_)
  · obtain ⟨v, ws, rfl, _⟩ := h
    rfl
  · obtain ⟨v, ws, rfl, hv, hok, q⟩ := h
    have hr_is_walk := hr
    refine ⟨_, (wpss_cons (wps_if (wpt_not (wpt_val (wpe_callF C_is_walk hr_is_walk rfl G_is_walk.m G_is_walk.F.kp G_is_walk.b pass0 (wpa_c (wpv 0) wpa_nil)))) (wpss_one wps_never) wpss_nil) (wpss_one (wps_ret (wpv 0)))), ?_⟩
    exact ⟨_, rfl, v, ws, rfl, hv, hok, fun H1 S1 => ⟨_, rfl, iteF ⟨_, rfl, q H1 S1⟩⟩⟩
end
end Lw

namespace L2
open PySem PySem.StrLaws Builtin Builtin.Str
/-! ### a text, cut -/
def spl (y : List Nat) : Nat → List Nat → List (List Nat)
  | _, [] => [[]]
  | k + 1, _ :: t => spl y k t
  | 0, c :: t => if y.isPrefixOf (c :: t) = true then [] :: spl y (y.length - 1) t else match spl y 0 t with
    | h :: r => (c :: h) :: r
    | [] => [[c]]
theorem spl_ne (y : List Nat) : ∀ (k : Nat) (l : List Nat), spl y k l ≠ []
  | k, [] => by unfold spl; simp
  | k + 1, _ :: t => by unfold spl; exact spl_ne y k t
  | 0, c :: t => by
    unfold spl
    split
    · simp
    · split <;> simp
theorem spl_skip (y : List Nat) : ∀ (k : Nat) (l : List Nat), spl y k l = spl y 0 (l.drop k)
  | 0, l => by rw [List.drop_zero]
  | k + 1, [] => by unfold spl; rfl
  | k + 1, c :: t => by
    show spl y k t = _
    rw [spl_skip y k t]
    rfl
/-- no cut within p -/
theorem spl_app (y : List Nat) : ∀ (p rest : List Nat), (∀ q c, (c :: q) <:+ p → y.isPrefixOf (c :: q ++ rest) = false) → ∃ h r, spl y 0 rest = h :: r ∧ spl y 0 (p ++ rest) = (p ++ h) :: r
  | [], rest, _ => by
    cases e : spl y 0 rest with
    | nil => exact absurd e (spl_ne y 0 rest)
    | cons h r => exact ⟨h, r, rfl, by rw [List.nil_append, e]; rfl⟩
  | c :: p, rest, hn => by
    obtain ⟨h, r, e1, e2⟩ := spl_app y p rest fun q d hq => hn q d (hq.trans (List.suffix_cons c p))
    refine ⟨h, r, e1, ?_⟩
    have n0 := hn p c (List.suffix_refl _)
    show spl y 0 (c :: (p ++ rest)) = _
    unfold spl
    rw [if_neg (by rw [show c :: (p ++ rest) = c :: p ++ rest from rfl, n0]; exact Bool.false_ne_true), e2]
    rfl
theorem spl_cut (y : List Nat) (hy : y ≠ []) (rest : List Nat) : spl y 0 (y ++ rest) = [] :: spl y 0 rest := by
  cases y with
  | nil => exact absurd rfl hy
  | cons c t =>
    show spl (c :: t) 0 (c :: (t ++ rest)) = _
    rw [spl]
    rw [if_pos (by rw [List.isPrefixOf_iff_prefix]; exact ⟨rest, rfl⟩), spl_skip]
    show _ :: spl (c :: t) 0 ((t ++ rest).drop ((c :: t).length - 1)) = _
    rw [show (c :: t).length - 1 = t.length from rfl, List.drop_left]
theorem spl_last (y : List Nat) (p : List Nat) (hn : ∀ q c, (c :: q) <:+ p → y.isPrefixOf (c :: q) = false) : spl y 0 p = [p] := by
  obtain ⟨h, r, e1, e2⟩ := spl_app y p [] fun q c hq => by rw [List.append_nil]; exact hn q c hq
  have e1 : [[]] = h :: r := e1
  cases e1
  simpa using e2
/-- the parts of what was joined -/
def gl (y : List Nat) : List (List Nat) → List Nat
  | [] => []
  | [p] => p
  | p :: q :: r => p ++ y ++ gl y (q :: r)
theorem spl_gl (y : List Nat) (hy : y ≠ []) : ∀ (ps : List (List Nat)), ps ≠ [] → (∀ p ∈ ps, (∀ q c, (c :: q) <:+ p → y.isPrefixOf (c :: q) = false) ∧ ∀ q c rest, (c :: q) <:+ p → y.isPrefixOf (c :: q ++ (y ++ rest)) = false) → spl y 0 (gl y ps) = ps
  | [], h, _ => absurd rfl h
  | [p], _, h => spl_last y p (h p List.mem_cons_self).1
  | p :: q :: r, _, h => by
    obtain ⟨h1, r1, e1, e2⟩ := spl_app y p (y ++ gl y (q :: r)) fun s c hs => (h p List.mem_cons_self).2 s c _ hs
    show spl y 0 (p ++ y ++ gl y (q :: r)) = _
    rw [List.append_assoc, e2]
    rw [spl_cut y hy, spl_gl y hy (q :: r) (by simp) fun s hs => h s (List.mem_cons_of_mem _ hs)] at e1
    cases e1
    rw [List.append_nil]
theorem subAt_iff (x y : Str) (i : Nat) (h : i + y.length ≤ x.length) : subAt x y i = y.cps.toList.isPrefixOf (x.cps.toList.drop i) := by
  unfold subAt
  rw [Bool.eq_iff_iff, beq_iff_eq, List.isPrefixOf_iff_prefix]
  rw [← Array.toList_inj, Array.toList_extract]
  simp only [List.extract_eq_drop_take]
  have e : i + y.length - i = y.cps.toList.length := by simp [Str.length]
  rw [e]
  constructor
  · intro z
    rw [← z]
    exact ⟨_, List.take_append_drop _ _⟩
  · rintro ⟨r, hr⟩
    rw [← hr, List.take_left]
theorem not_at (x y : Str) (hw : 1 ≤ y.length) (i : Nat) (h : ¬ At x y x.length i) : y.cps.toList.isPrefixOf (x.cps.toList.drop i) = false := by
  by_cases c : i + y.length ≤ x.length
  · rw [← subAt_iff x y i c]
    cases e : subAt x y i with
    | false => rfl
    | true => exact absurd ⟨c, e⟩ h
  · cases e : y.cps.toList.isPrefixOf (x.cps.toList.drop i) with
    | false => rfl
    | true =>
      rw [List.isPrefixOf_iff_prefix] at e
      have := e.length_le
      rw [List.length_drop] at this
      simp only [Array.length_toList] at this
      have a1 : y.length = y.cps.size := rfl
      have a2 : x.length = x.cps.size := rfl
      omega
/-- cuts as far as the next place -/
theorem spl_to (x y : Str) (hw : 1 ≤ y.length) : ∀ (n a c : Nat), c - a = n → a ≤ c → c ≤ x.length → (∀ k, a ≤ k → k < c → ¬ At x y x.length k) →
    ∃ h r, spl y.cps.toList 0 (x.cps.toList.drop c) = h :: r ∧ spl y.cps.toList 0 (x.cps.toList.drop a) = ((strSub x a c).cps.toList ++ h) :: r := by
  intro n a c _ hac hc hn
  have ed : x.cps.toList.drop a = (strSub x a c).cps.toList ++ x.cps.toList.drop c := by
    rw [strSub_toList]
    have : x.cps.toList.drop c = (x.cps.toList.drop a).drop (c - a) := by rw [List.drop_drop]; congr 1; omega
    rw [this, List.take_append_drop]
  rw [ed]
  refine spl_app _ _ _ fun q d hq => ?_
  obtain ⟨pre, hp⟩ := hq
  have hl : (strSub x a c).cps.toList.length = c - a := by
    rw [strSub_toList, List.length_take, List.length_drop]
    have : x.cps.toList.length = x.length := by simp [Str.length]
    omega
  have hpl : pre.length + (d :: q).length = c - a := by rw [← hl, ← hp, List.length_append]
  have hcons : (d :: q).length = q.length + 1 := rfl
  have e2 : d :: q ++ x.cps.toList.drop c = x.cps.toList.drop (a + pre.length) := by
    rw [← List.drop_drop, ed, ← hp, List.append_assoc, List.drop_left]
  rw [e2]
  exact not_at x y hw _ (hn _ (by omega) (by omega))
theorem at_drop (x y : Str) {c : Nat} (h : At x y x.length c) : x.cps.toList.drop c = y.cps.toList ++ x.cps.toList.drop (c + y.length) := by
  obtain ⟨h1, h2⟩ := h
  rw [subAt_iff x y c h1, List.isPrefixOf_iff_prefix] at h2
  obtain ⟨r, hr⟩ := h2
  rw [← hr]
  congr 1
  rw [← List.drop_drop, ← hr]
  have : y.length = y.cps.toList.length := by simp [Str.length]
  rw [this, List.drop_left]
theorem parts_spl (x y : Str) (hw : 1 ≤ y.length) : ∀ (cuts : List Nat) (a f : Nat), a ≤ x.length → ChainG x y x.length a cuts f → (∀ k, f ≤ k → ¬ At x y x.length k) →
    (partsFrom x y.length a cuts).map (fun p => p.cps.toList) = spl y.cps.toList 0 (x.cps.toList.drop a)
  | [], a, f, ha, hc, hf => by
    have e : f = a := hc
    subst e
    obtain ⟨h, r, e1, e2⟩ := spl_to x y hw _ f x.length rfl ha (Nat.le_refl _) fun k h1 _ => hf k h1
    rw [e2]
    have e0 : x.cps.toList.drop x.length = [] := by
      have : x.length = x.cps.toList.length := by simp [Str.length]
      rw [this, List.drop_length]
    rw [e0] at e1
    have e1 : [[]] = h :: r := e1
    cases e1
    rw [List.append_nil]
    rfl
  | c :: cs, a, f, ha, hc, hf => by
    obtain ⟨h1, h2, h3, h4⟩ := hc
    have hcl := h2.1
    obtain ⟨h, r, e1, e2⟩ := spl_to x y hw _ a c rfl h1 (by omega) h3
    have ih := parts_spl x y hw cs (c + y.length) f hcl h4 hf
    rw [e2]
    rw [at_drop x y h2, spl_cut _ (by intro z; have : y.length = y.cps.toList.length := by simp [Str.length]
                                      rw [z] at this; simp at this; omega), ← ih] at e1
    cases e1
    rw [List.append_nil]
    rfl
theorem kind_prefix (x y : Str) (h : Builtin.Str.strKind x < Builtin.Str.strKind y) (k : Nat) (hA : At x y x.length k) : False := by
  obtain ⟨h1, h2⟩ := hA
  rw [subAt_iff x y k h1, List.isPrefixOf_iff_prefix] at h2
  have sub : ∀ c ∈ y.cps.toList, c ∈ x.cps.toList := fun c hc => List.mem_of_mem_drop (h2.subset hc)
  unfold Builtin.Str.strKind at h
  have imp : ∀ n : Nat, x.cps.all (fun c => decide (c < n)) = true → y.cps.all (fun c => decide (c < n)) = true := by
    intro n hx
    rw [← Array.all_toList, List.all_eq_true] at hx ⊢
    exact fun c hc => hx c (sub c hc)
  by_cases c1 : x.cps.all (fun c => decide (c < 256)) = true
  · rw [if_pos c1, if_pos (imp 256 c1)] at h
    omega
  · rw [if_neg c1] at h
    by_cases c2 : x.cps.all (fun c => decide (c < 65536)) = true
    · rw [if_pos c2] at h
      split at h
      · omega
      · rw [if_pos (imp 65536 c2)] at h; omega
    · rw [if_neg c2] at h
      split at h
      · omega
      · split at h <;> omega
theorem split_spl (x y : Str) (hw : 1 ≤ y.length) : (Txt.split x y).map (fun p => p.cps.toList) = spl y.cps.toList 0 x.cps.toList := by
  obtain ⟨f, h1, h2⟩ := occ_tight x y hw
  have whole : (∀ k, ¬ At x y x.length k) → [x.cps.toList] = spl y.cps.toList 0 x.cps.toList := fun hn => by
    have := parts_spl x y hw [] 0 0 (Nat.zero_le _) rfl fun k _ => hn k
    rw [List.drop_zero] at this
    rw [← this]
    show _ = [(strSub x 0 x.length).cps.toList]
    rw [sub_whole]
  unfold Txt.split
  split
  · rename_i c
    refine whole fun k hA => ?_
    rw [Bool.or_eq_true, decide_eq_true_eq, decide_eq_true_eq] at c
    rcases c with c | c
    · have := hA.1
      omega
    · exact kind_prefix x y c k hA
  · split
    · rename_i c
      rw [List.isEmpty_iff] at c
      rw [c] at h1
      have e : f = 0 := h1
      subst e
      exact whole fun k => h2 k (Nat.zero_le _)
    · rw [partsBetween_eq]
      have := parts_spl x y hw _ 0 f (Nat.zero_le _) h1 h2
      rw [List.drop_zero] at this
      exact this
theorem join_gl (y : Str) : ∀ ps : List Str, (Str.join y ps).cps.toList = gl y.cps.toList (ps.map fun p => p.cps.toList)
  | [] => rfl
  | [p] => rfl
  | p :: q :: r => by
    show (p ++ y ++ Str.join y (q :: r)).cps.toList = _
    have e : ∀ a b : Str, (a ++ b).cps.toList = a.cps.toList ++ b.cps.toList := fun a b => Array.toList_append
    rw [e, e, join_gl y (q :: r)]
    rfl
theorem str_inj {a b : Str} (h : a.cps.toList = b.cps.toList) : a = b := by
  obtain ⟨x⟩ := a
  obtain ⟨y⟩ := b
  exact congrArg Str.mk (Array.toList_inj.mp h)
theorem map_inj {f : Str → List Nat} (hf : ∀ a b, f a = f b → a = b) : ∀ {l m : List Str}, l.map f = m.map f → l = m
  | [], [], _ => rfl
  | [], _ :: _, h => by simp at h
  | _ :: _, [], h => by simp at h
  | a :: l, b :: m, h => by
    rw [List.map_cons, List.map_cons] at h
    injection h with h1 h2
    rw [hf a b h1, map_inj hf h2]
/-- cut where it was joined -/
theorem split_join (y : Str) (hw : 1 ≤ y.length) (ps : List Str) (hne : ps ≠ []) (h : ∀ p ∈ ps, (∀ q c, (c :: q) <:+ p.cps.toList → y.cps.toList.isPrefixOf (c :: q) = false) ∧ ∀ q c rest, (c :: q) <:+ p.cps.toList → y.cps.toList.isPrefixOf (c :: q ++ (y.cps.toList ++ rest)) = false) :
    Txt.split (Txt.join y ps) y = ps := by
  refine map_inj (f := fun p => p.cps.toList) (fun a b => str_inj) ?_
  rw [split_spl _ _ hw]
  show spl _ 0 (glued y ps).cps.toList = _
  rw [glued_eq_join, join_gl]
  refine spl_gl _ (by intro z; have : y.length = y.cps.toList.length := by simp [Str.length]
                      rw [z] at this; simp at this; omega) _ (by simpa using hne) fun p hp => ?_
  obtain ⟨s, hs, rfl⟩ := List.mem_map.mp hp
  exact h s hs
end L2

namespace Lw
open PySem L2
/-! ### texts of a walk -/
def nT (n : Int) : Str := Str.ofString (toString n)
def shT (u l : Int) : Str := if u = 1 ∧ l = 1 then "1" else nT u ++ "/" ++ nT l
def pairTx (r u l : Int) : Str := shT u l ++ ">" ++ nT r
def pT (W : Int) (p : Int × Int) : Str := pairTx p.1 (frU p.2 W) (frL p.2 W)
def sprT (ps : List (Int × Int)) : Str := Txt.join " " (ps.map (pT (totW ps)))
def walkT (ws : List (List (Int × Int))) : Str := Txt.join " ; " (ws.map sprT)
def inFig (c : Nat) : Bool := !(Builtin.Str.occurrences "0123456789" ⟨#[c]⟩ 0 (Str.length "0123456789") 1).isEmpty
def numOk (n : Nat) : Bool := decide (n.log2 < 1920) && decide ((nT (n : Int)).length ≤ 2) && decide (1 ≤ (nT (n : Int)).length) && (nT (n : Int)).cps.all (fun c => decide (48 ≤ c) && decide (c < 58))
theorem num_all : ∀ n : Fin 13, numOk n.val = true := by decide +kernel
theorem fig_all : ∀ k : Fin 10, inFig (48 + k.val) = true := by decide +kernel
structure NumT (n : Int) : Prop where
  lg : n.natAbs.log2 < 1920
  l2 : (nT n).length ≤ 2
  l1 : 1 ≤ (nT n).length
  dg : ∀ c ∈ (nT n).cps.toList, 48 ≤ c ∧ c < 58
theorem numT {n : Int} (h0 : 0 ≤ n) (h1 : n ≤ 12) : NumT n := by
  obtain ⟨k, rfl⟩ : ∃ k : Nat, n = (k : Int) := ⟨n.toNat, by omega⟩
  have h := num_all ⟨k, by omega⟩
  simp only [numOk, Bool.and_eq_true, decide_eq_true_eq] at h
  obtain ⟨⟨⟨a, b⟩, c⟩, d⟩ := h
  refine ⟨by rw [Int.natAbs_natCast]; exact a, b, c, fun x hx => ?_⟩
  rw [← Array.all_toList, List.all_eq_true] at d
  have := d x hx
  simpa using this
theorem fmt_num {n : Int} (h0 : 0 ≤ n) (h1 : n ≤ 12) : fmtV (.int n) = some (nT n) := by
  simp only [fmtV]
  rw [if_pos (numT h0 h1).lg]
  rfl
theorem shT_len {u l : Int} (hu : 0 ≤ u ∧ u ≤ 12) (hl : 0 ≤ l ∧ l ≤ 12) : (shT u l).length ≤ 5 := by
  unfold shT
  split
  · decide
  · rw [len_app, len_app]
    have := (numT hu.1 hu.2).l2
    have := (numT hl.1 hl.2).l2
    have : Str.length "/" = 1 := by decide
    omega
theorem pairTx_len {r u l : Int} (hr : 0 ≤ r ∧ r ≤ 12) (hu : 0 ≤ u ∧ u ≤ 12) (hl : 0 ≤ l ∧ l ≤ 12) : (pairTx r u l).length ≤ 8 := by
  unfold pairTx
  rw [len_app, len_app]
  have := shT_len hu hl
  have := (numT hr.1 hr.2).l2
  have : Str.length ">" = 1 := by decide
  omega
theorem join_ok {y : Str} {ts : List Str} {B : Nat} (hB : ∀ t ∈ ts, t.length ≤ B) (h : ts.length * B + ts.length * y.length ≤ 16777216) : JoinOk y ts = true := by
  unfold JoinOk
  rw [StrLaws.joinFits hB h]
  rfl
theorem join_len {y : Str} {ts : List Str} {B : Nat} (hB : ∀ t ∈ ts, t.length ≤ B) : (Txt.join y ts).length ≤ ts.length * B + ts.length * y.length := by
  show (Builtin.Str.glued y ts).length ≤ _
  rw [StrLaws.glued_eq_join]
  have a := StrLaws.join_length_le y ts
  have b := StrLaws.sumLen_le ts hB
  omega
theorem dats_strs {K : PySem.W.Frag} {H : Hp} : ∀ {vs : List V} {ts : List Str}, DatsAt K H vs (ts.map D.str) → vs = ts.map V.str
  | _, [], h => by cases h; rfl
  | _, t :: ts, h => by
    cases h with
    | cons r q => cases r; rw [dats_strs q]; rfl
theorem spr_num {many : Int} {ps : List (Int × Int)} (h : SprOk many ps) (hm : many ≤ 8) {p : Int × Int} (hp : p ∈ ps) : (0 ≤ p.1 ∧ p.1 ≤ 12) ∧ (0 ≤ frU p.2 (totW ps) ∧ frU p.2 (totW ps) ≤ 12) ∧ (0 ≤ frL p.2 (totW ps) ∧ frL p.2 (totW ps) ≤ 12) := by
  have a := spr_sm h hp
  have b := h.room p hp
  omega
theorem pT_len {many : Int} {ps : List (Int × Int)} (h : SprOk many ps) (hm : many ≤ 8) : ∀ t ∈ ps.map (pT (totW ps)), t.length ≤ 8 := fun t ht => by
  obtain ⟨p, hp, rfl⟩ := List.mem_map.mp ht
  obtain ⟨a, b, c⟩ := spr_num h hm hp
  exact pairTx_len a b c
theorem sprT_len {many : Int} {ps : List (Int × Int)} (h : SprOk many ps) (hm : many ≤ 8) : (sprT ps).length ≤ 27 := by
  have a := join_len (y := " ") (pT_len h hm)
  rw [List.length_map] at a
  have b := h.few
  have c : Str.length " " = 1 := by decide
  rw [c] at a
  unfold sprT
  omega
def spShS (K : PySem.W.Frag) : Sp := fun vs H Q _ => ∃ (v : V) (u l : Int), vs = [v] ∧ DatAt K H v (fracD (u, l)) ∧ (0 ≤ u ∧ u ≤ 12) ∧ (0 ≤ l ∧ l ≤ 12) ∧ Q (.str (shT u l)) H
def spPrS (K : PySem.W.Frag) : Sp := fun vs H Q _ => ∃ (v : V) (r u l : Int), vs = [v] ∧ DatAt K H v (.tup [.int r, fracD (u, l)]) ∧ (0 ≤ r ∧ r ≤ 12) ∧ (0 ≤ u ∧ u ≤ 12) ∧ (0 ≤ l ∧ l ≤ 12) ∧ Q (.str (pairTx r u l)) H
def spSpS (K : PySem.W.Frag) : Sp := fun vs H Q _ => ∃ (v : V) (ps : List (Int × Int)) (many : Int), vs = [v] ∧ DatAt K H v (sprD ps) ∧ SprOk many ps ∧ many ≤ 8 ∧ ∀ H', Same H H' → Q (.str (sprT ps)) H'
def spShown (K : PySem.W.Frag) : Sp := fun vs H Q _ => ∃ (v : V) (ws : List (List (Int × Int))), vs = [v] ∧ DatAt K H v (wlkD ws) ∧ WlkOk ws ∧ ∀ H', Same H H' → Q (.str (walkT ws)) H'
section
variable {P : Program} {w : World} {K : PySem.W.Frag} {mg : Str → Option Value} {base : Heap}
theorem ok_share_shown {f aN aO : Addr} {t8 : Tok} {fd : FuncData} (C : Cst K mg aN aO t8) (G : Df K mg "share_shown" s_share_shown p_share_shown f fd) : FnOk P w K mg base CX0 1 f fd p_share_shown (spShS K) := by
  refine G.F.okW sc_share_shown (fun vs H Q E h => ?_) (fun cdv A outer s H vs Q E hr h => ?_)
  · obtain ⟨v, u, l, rfl, _⟩ := h
    rfl
  · obtain ⟨v, u, l, rfl, hv, hu, hl, q⟩ := h
    refine ⟨_, (wpss_cons (wps_if (wpt_cmpR (op_eqD (hu60 hr)) (wpv 0) (wpe_glob (v := .ref aO) rfl C.mO rfl) (nomark _)) (wpss_one (wps_ret wpe_str)) wpss_nil) (wpss_cons (wps_set (i := 1) sc_share_shown.nd rfl (Or.inl rfl) (wpe_ix ix_tup (wpv 0) wpe_int (fun _ _ => rfl))) (wpss_cons (wps_set (i := 2) sc_share_shown.nd rfl (Or.inl rfl) (wpe_ix ix_tup (wpv 0) wpe_int (fun _ _ => rfl))) (wpss_one (wps_ret (wpe_fmt2 (wpv 1) (wpv 2))))))), ?_⟩
    obtain ⟨a, rfl, ha⟩ := datF hv
    refine ⟨_, rfl, _, _, .inl ⟨_, _, rfl, rfl⟩, hv, datF_mk (x := (1, 1)) (C.sO H), (by show depDs [D.int _, D.int _] + 1 ≤ 50; simp [depDs, depD]), _, rfl, ?_⟩
    have e : eqD (.tup [D.int u, D.int l]) (.tup [D.int 1, D.int 1]) = decide (u = 1 ∧ l = 1) := by
      simp only [eqD, eqDs, Bool.and_true]
      by_cases c1 : u = 1 <;> by_cases c2 : l = 1 <;> simp [c1, c2]
    rw [e]
    by_cases c : u = 1 ∧ l = 1
    · refine decT c ?_
      have e2 : shT u l = "1" := by unfold shT; rw [if_pos c]
      rw [e2] at q
      exact q
    · refine decF c ?_
      have e2 : shT u l = nT u ++ "/" ++ nT l := by unfold shT; rw [if_neg c]
      rw [e2] at q
      have h1 := (numT hu.1 hu.2).l2
      have h2 := (numT hl.1 hl.2).l2
      refine ⟨_, rfl, a, _, _, _, rfl, rfl, ha, rfl, _, rfl, a, _, _, _, rfl, rfl, ha, rfl, ?_⟩
      exact ⟨_, rfl, nT u, fmt_num hu.1 hu.2, by omega, by decide, _, rfl, nT l, fmt_num hl.1 hl.2, by omega, q⟩
theorem ok_pair_shown {f fS : Addr} {fd fdS : FuncData} (C_share_shown : FnOk P w K mg base CX0 1 fS fdS p_share_shown (spShS K)) (G : Df K mg "pair_shown" s_pair_shown p_pair_shown f fd) (G_share_shown : Df K mg "share_shown" s_share_shown p_share_shown fS fdS) : FnOk P w K mg base CX0 2 f fd p_pair_shown (spPrS K) := by
  refine G.F.okW sc_pair_shown (fun vs H Q E h => ?_) (fun cdv A outer s H vs Q E hr h => ?_)
  · obtain ⟨v, r, u, l, rfl, _⟩ := h
    rfl
  · obtain ⟨v, r, u, l, rfl, hv, hr0, hu, hl, q⟩ := h
    have hr_share_shown := hr
    refine ⟨_, (wpss_cons (wps_set (i := 1) sc_pair_shown.nd rfl (Or.inl rfl) (wpe_callF C_share_shown hr_share_shown rfl G_share_shown.m G_share_shown.F.kp G_share_shown.b pass0 (wpa_c (wpe_ix ix_tup (wpv 0) wpe_int (fun _ _ => rfl)) wpa_nil))) (wpss_cons (wps_set (i := 2) sc_pair_shown.nd rfl (Or.inl rfl) (wpe_ix ix_tup (wpv 0) wpe_int (fun _ _ => rfl))) (wpss_one (wps_ret (wpe_fmt2 (wpv 1) (wpv 2)))))), ?_⟩
    obtain ⟨a, vs, rfl, ha, hd⟩ := dat_tup hv
    obtain ⟨v0, v1, d0, d1, rfl, e2, r0, r1⟩ := dats2 hd rfl
    cases e2
    have ev0 := dat_int r0
    subst ev0
    have h1 := shT_len hu hl
    have h2 := (numT hr0.1 hr0.2).l2
    refine ⟨_, rfl, a, _, _, _, rfl, rfl, ha, rfl, v1, u, l, rfl, r1, hu, hl, ?_⟩
    refine ⟨_, rfl, a, _, _, _, rfl, rfl, ha, rfl, ?_⟩
    refine ⟨_, rfl, shT u l, ?_, by omega, by decide, _, rfl, nT r, fmt_num hr0.1 hr0.2, by omega, q⟩
    simp only [fmtV]
    rw [if_pos (Nat.le_trans h1 (by decide))]
theorem ok_spread_shown {f fP : Addr} {fd fdP : FuncData} (C_pair_shown : FnOk P w K mg base CX0 2 fP fdP p_pair_shown (spPrS K)) (G : Df K mg "spread_shown" s_spread_shown p_spread_shown f fd) (G_pair_shown : Df K mg "pair_shown" s_pair_shown p_pair_shown fP fdP) : FnOk P w K mg base CX0 3 f fd p_spread_shown (spSpS K) := by
  refine G.F.okW sc_spread_shown (fun vs H Q E h => ?_) (fun cdv A outer s H vs Q E hr h => ?_)
  · obtain ⟨v, ps, many, rfl, _⟩ := h
    rfl
  · obtain ⟨v, ps, many, rfl, hv, ok, hm, q⟩ := h
    have hr_pair_shown := hr
    refine ⟨_, (wpss_one (wps_ret (wpe_bmF PySem.F.plainAttrs_str PySem.F.slot_str_join PySem.F.type_str_join mt_join wpe_str (wpa_c (wpe_comp (NB := ["pair"]) (n := 1) (capN := []) (by exact ⟨rfl, by decide, rfl, by decide, trivial, rfl, rfl, rfl, rfl, rfl⟩) rfl (gk_name (by decide)) (wpi_tup (wpv 0)) (fun _ _ _ _ => (wpg_name (i := 0) (show (["pair"] : List Str).Nodup by decide +kernel) rfl (Or.inl rfl))) (fun _ _ _ _ => wpts_nil) (fun _ _ _ _ => (wpe_callF C_pair_shown hr_pair_shown rfl G_pair_shown.m G_pair_shown.F.kp G_pair_shown.b pass0 (wpa_c (wpv 0) wpa_nil)))) wpa_nil)))), ?_⟩
    obtain ⟨a, vs, rfl, ha, hd⟩ := dat_tup hv
    have hlen : vs.length = ps.length := by rw [hd.length, List.length_map]
    have hf := ok.few
    refine ⟨rfl, _, rfl, a, rfl, ⟨_, ha⟩, fun p hp => ?_⟩
    refine comp_datT (K := K) (fun j dd => ∃ x, ps[j]? = some x ∧ dd = .str (pT (totW ps) x)) hp ha ?_ ?_ ?_ ?_
    · exact Nat.le_of_lt (small1000 (by omega))
    · rintro j dd ⟨x, _, rfl⟩
      rfl
    · intro j x H1 RR hx S1 k
      obtain ⟨d, hd1, hxd⟩ := hd.get' hx
      rw [List.getElem?_map] at hd1
      obtain ⟨pp, hpp, rfl⟩ := Option.map_eq_some_iff.mp hd1
      obtain ⟨b1, b2, b3⟩ := spr_num ok hm (List.mem_of_getElem? hpp)
      exact ⟨_, rfl, x, pp.1, frU pp.2 (totW ps), frL pp.2 (totW ps), rfl, hxd.same S1, b1, b2, b3, k _ H1 _ (Same.refl _) (.str _) ⟨pp, hpp, rfl⟩⟩
    · intro ys H1 es S1 hp1 hl1 hes hdd
      have ee : es = (ps.map (pT (totW ps))).map D.str := by
        refine dats_eq (n := ps.length) (f := fun j => (ps[j]?).map fun x => D.str (pT (totW ps) x)) (by omega) (fun j e he => ?_) _ (by simp) fun j hj => by simp [Function.comp_def]
        obtain ⟨x, e1, e2⟩ := hes j e he
        rw [e1, e2]
        rfl
      rw [ee] at hdd
      have ey := dats_strs hdd
      subst ey
      refine ⟨" ", p, ps.map (pT (totW ps)), rfl, rfl, SqL.of hp1, join_ok (pT_len ok hm) ?_, q H1 S1⟩
      rw [List.length_map]
      have c : Str.length " " = 1 := by decide
      rw [c]
      omega
theorem ok_shown {f fC fP : Addr} {fd fdC fdP : FuncData} (C_checked : FnOk P w K mg base CX0 7 fC fdC p_checked (spChkV K)) (C_spread_shown : FnOk P w K mg base CX0 3 fP fdP p_spread_shown (spSpS K)) (G : Df K mg "shown" s_shown p_shown f fd) (G_checked : Df K mg "checked" s_checked p_checked fC fdC)
    (G_spread_shown : Df K mg "spread_shown" s_spread_shown p_spread_shown fP fdP) : FnOk P w K mg base CX0 8 f fd p_shown (spShown K) := by
  refine G.F.okW sc_shown (fun vs H Q E h => ?_) (fun cdv A outer s H vs Q E hr h => ?_)
  · obtain ⟨v, ws, rfl, _⟩ := h
    rfl
  · obtain ⟨v, ws, rfl, hv, ok, q⟩ := h
    have hr_checked : Room 7 _ := hr
    have hr_spread_shown : Room 3 _ := hr.mono (by decide)
    obtain ⟨rs, hok, ew, _⟩ := wk_of_law ok
    refine ⟨_, (wpss_cons (wps_expr (wpe_callF C_checked hr_checked rfl G_checked.m G_checked.F.kp G_checked.b pass0 (wpa_c (wpv 0) wpa_nil))) (wpss_one (wps_ret (wpe_bmF PySem.F.plainAttrs_str PySem.F.slot_str_join PySem.F.type_str_join mt_join wpe_str (wpa_c (wpe_comp (NB := ["spread"]) (n := 1) (capN := []) (by exact ⟨rfl, by decide, rfl, by decide, trivial, rfl, rfl, rfl, rfl, rfl⟩) rfl (gk_name (by decide)) (wpi_tup (wpv 0)) (fun _ _ _ _ => (wpg_name (i := 0) (show (["spread"] : List Str).Nodup by decide +kernel) rfl (Or.inl rfl))) (fun _ _ _ _ => wpts_nil) (fun _ _ _ _ => (wpe_callF C_spread_shown hr_spread_shown rfl G_spread_shown.m G_spread_shown.F.kp G_spread_shown.b pass0 (wpa_c (wpv 0) wpa_nil)))) wpa_nil))))), ?_⟩
    refine ⟨_, rfl, v, rs, rfl, (by rw [← ew]; exact hv), hok, fun H0 S0 => ?_⟩
    obtain ⟨a, vs, rfl, ha, hd⟩ := dat_tup (hv.same S0)
    have hlen : vs.length = ws.length := by rw [hd.length, List.length_map]
    have h8 := ok.n8
    have h1 := ok.n1
    refine ⟨rfl, _, rfl, a, rfl, ⟨_, ha⟩, fun p hp => ?_⟩
    refine comp_datT (K := K) (fun j dd => ∃ x, ws[j]? = some x ∧ dd = .str (sprT x)) hp ha ?_ ?_ ?_ ?_
    · exact Nat.le_of_lt (small1000 (by omega))
    · rintro j dd ⟨x, _, rfl⟩
      rfl
    · intro j x H1 RR hx S1 k
      obtain ⟨d, hd1, hxd⟩ := hd.get' hx
      rw [List.getElem?_map] at hd1
      obtain ⟨pp, hpp, rfl⟩ := Option.map_eq_some_iff.mp hd1
      exact ⟨_, rfl, x, pp, _, rfl, hxd.same S1, ok.sp pp (List.mem_of_getElem? hpp), by omega, fun H2 S2 => k _ H2 _ S2 (.str _) ⟨pp, hpp, rfl⟩⟩
    · intro ys H1 es S1 hp1 hl1 hes hdd
      have ee : es = (ws.map sprT).map D.str := by
        refine dats_eq (n := ws.length) (f := fun j => (ws[j]?).map fun x => D.str (sprT x)) (by omega) (fun j e he => ?_) _ (by simp) fun j hj => by simp [Function.comp_def]
        obtain ⟨x, e1, e2⟩ := hes j e he
        rw [e1, e2]
        rfl
      rw [ee] at hdd
      have ey := dats_strs hdd
      subst ey
      refine ⟨" ; ", p, ws.map sprT, rfl, rfl, SqL.of hp1, join_ok (B := 27) (fun t ht => ?_) ?_, q H1 (S0.trans S1)⟩
      · obtain ⟨x, hx, rfl⟩ := List.mem_map.mp ht
        exact sprT_len (ok.sp x hx) (by omega)
      · rw [List.length_map]
        have c : Str.length " ; " = 3 := by decide
        rw [c]
        omega
end
end Lw

namespace L2
open PySem PySem.StrLaws Builtin Builtin.Str
theorem spl_len (y : List Nat) : ∀ (k : Nat) (l : List Nat), (spl y k l).length ≤ l.length + 1
  | k, [] => by unfold spl; simp
  | k + 1, c :: t => by
    have := spl_len y k t
    show (spl y k t).length ≤ _
    rw [List.length_cons]
    omega
  | 0, c :: t => by
    rw [spl]
    split
    · have := spl_len y (y.length - 1) t
      simp only [List.length_cons]
      omega
    · have := spl_len y 0 t
      cases e : spl y 0 t with
      | nil => simp
      | cons h r =>
        rw [e] at this
        simp only [List.length_cons] at this ⊢
        omega
theorem pb_len (x y : Str) (hw : 1 ≤ y.length) : (partsBetween x (occurrences x y 0 x.length (x.length + 1)) y.length).length ≤ x.length + 1 := by
  obtain ⟨f, h1, h2⟩ := occ_tight x y hw
  have e := congrArg List.length (parts_spl x y hw _ 0 f (Nat.zero_le _) h1 h2)
  rw [List.length_map, List.drop_zero] at e
  rw [partsBetween_eq, e]
  have := spl_len y.cps.toList 0 x.cps.toList
  have a : x.cps.toList.length = x.length := by simp [Str.length]
  omega
theorem split_len' (x y : Str) (hw : 1 ≤ y.length) : (Txt.split x y).length ≤ x.length + 1 := by
  have e := congrArg List.length (split_spl x y hw)
  rw [List.length_map] at e
  rw [e]
  have := spl_len y.cps.toList 0 x.cps.toList
  have a : x.cps.toList.length = x.length := by simp [Str.length]
  omega
/-- parts without the sign at which they are joined -/
theorem split_one (d : Nat) (ps : List Str) (hne : ps ≠ []) (h : ∀ p ∈ ps, ∀ c ∈ p.cps.toList, c ≠ d) : Txt.split (Txt.join ⟨#[d]⟩ ps) ⟨#[d]⟩ = ps := by
  refine split_join ⟨#[d]⟩ (by show 1 ≤ 1; decide) ps hne fun p hp => ?_
  have key : ∀ q c, (c :: q) <:+ p.cps.toList → ∀ r, List.isPrefixOf [d] (c :: r) = false := fun q c hq r => by
    have hc : c ∈ p.cps.toList := hq.subset List.mem_cons_self
    have := h p hp c hc
    simp only [List.isPrefixOf, Bool.and_true]
    exact beq_eq_false_iff_ne.mpr (fun z => this z.symm)
  exact ⟨fun q c hq => key q c hq q, fun q c rest hq => key q c hq _⟩
end L2
namespace Lw
open PySem L2
theorem app_list (a b : Str) : (a ++ b).cps.toList = a.cps.toList ++ b.cps.toList := Array.toList_append
theorem sh_split {u l : Int} (hu : 0 ≤ u ∧ u ≤ 12) (hl : 0 ≤ l ∧ l ≤ 12) : Txt.split (shT u l) "/" = if u = 1 ∧ l = 1 then [("1" : Str)] else [nT u, nT l] := by
  unfold shT
  by_cases c : u = 1 ∧ l = 1
  · rw [if_pos c, if_pos c]
    exact split_one 47 ["1"] (by simp) (fun p hp d hd => by
      rw [List.mem_singleton.mp hp] at hd
      have : d ∈ [49] := hd
      rw [List.mem_singleton.mp this]; decide)
  · rw [if_neg c, if_neg c]
    exact split_one 47 [nT u, nT l] (by simp) (fun p hp d hd => by
      simp only [List.mem_cons, List.not_mem_nil, or_false] at hp
      rcases hp with rfl | rfl
      · have := (numT hu.1 hu.2).dg d hd; omega
      · have := (numT hl.1 hl.2).dg d hd; omega)
theorem shT_sign {u l : Int} (hu : 0 ≤ u ∧ u ≤ 12) (hl : 0 ≤ l ∧ l ≤ 12) : ∀ d ∈ (shT u l).cps.toList, 47 ≤ d ∧ d < 58 := by
  intro d hd
  unfold shT at hd
  split at hd
  · have : d ∈ [49] := hd
    rw [List.mem_singleton.mp this]; decide
  · rw [app_list, app_list, List.mem_append, List.mem_append] at hd
    rcases hd with (hd | hd) | hd
    · have := (numT hu.1 hu.2).dg d hd; omega
    · have : d ∈ [47] := hd
      rw [List.mem_singleton.mp this]; decide
    · have := (numT hl.1 hl.2).dg d hd; omega
theorem pair_split {r u l : Int} (hr : 0 ≤ r ∧ r ≤ 12) (hu : 0 ≤ u ∧ u ≤ 12) (hl : 0 ≤ l ∧ l ≤ 12) : Txt.split (pairTx r u l) ">" = [shT u l, nT r] :=
  split_one 62 [shT u l, nT r] (by simp) (fun p hp d hd => by
    simp only [List.mem_cons, List.not_mem_nil, or_false] at hp
    rcases hp with rfl | rfl
    · have := shT_sign hu hl d hd; omega
    · have := (numT hr.1 hr.2).dg d hd; omega)
theorem pairTx_sign {r u l : Int} (hr : 0 ≤ r ∧ r ≤ 12) (hu : 0 ≤ u ∧ u ≤ 12) (hl : 0 ≤ l ∧ l ≤ 12) : ∀ d ∈ (pairTx r u l).cps.toList, 47 ≤ d ∧ d < 63 ∧ d ≠ 59 := by
  intro d hd
  unfold pairTx at hd
  rw [app_list, app_list, List.mem_append, List.mem_append] at hd
  rcases hd with (hd | hd) | hd
  · have := shT_sign hu hl d hd; omega
  · have : d ∈ [62] := hd
    rw [List.mem_singleton.mp this]; decide
  · have := (numT hr.1 hr.2).dg d hd; omega
theorem spr_split {many : Int} {ps : List (Int × Int)} (ok : SprOk many ps) (hm : many ≤ 8) : Txt.split (sprT ps) " " = ps.map (pT (totW ps)) :=
  split_one 32 (ps.map (pT (totW ps))) (by have := ok.ne; intro z; rw [List.map_eq_nil_iff] at z; subst z; simp at this) (fun p hp d hd => by
    obtain ⟨x, hx, rfl⟩ := List.mem_map.mp hp
    obtain ⟨a, b, c⟩ := spr_num ok hm hx
    have := pairTx_sign a b c d hd
    omega)
theorem gl_mem {y : List Nat} {d : Nat} : ∀ {ps : List (List Nat)}, d ∈ gl y ps → d ∈ y ∨ ∃ p ∈ ps, d ∈ p
  | [], h => by cases h
  | [p], h => .inr ⟨p, List.mem_cons_self, h⟩
  | p :: q :: r, h => by
    have h : d ∈ p ++ y ++ gl y (q :: r) := h
    rw [List.mem_append, List.mem_append] at h
    rcases h with (h | h) | h
    · exact .inr ⟨p, List.mem_cons_self, h⟩
    · exact .inl h
    · rcases gl_mem h with h | ⟨s, hs, hd⟩
      · exact .inl h
      · exact .inr ⟨s, List.mem_cons_of_mem _ hs, hd⟩
theorem sprT_sign {many : Int} {ps : List (Int × Int)} (ok : SprOk many ps) (hm : many ≤ 8) : ∀ d ∈ (sprT ps).cps.toList, d ≠ 59 := by
  intro d hd
  have hd : d ∈ (Builtin.Str.glued " " (ps.map (pT (totW ps)))).cps.toList := hd
  rw [StrLaws.glued_eq_join, join_gl] at hd
  rcases gl_mem hd with h | ⟨p, hp, h⟩
  · have : d ∈ [32] := h
    rw [List.mem_singleton.mp this]; decide
  · rw [List.map_map] at hp
    obtain ⟨x, hx, rfl⟩ := List.mem_map.mp hp
    obtain ⟨a, b, c⟩ := spr_num ok hm hx
    exact (pairTx_sign a b c d h).2.2
theorem walk_split {ws : List (List (Int × Int))} (ok : WlkOk ws) : Txt.split (walkT ws) " ; " = ws.map sprT := by
  have h1 := ok.n1
  have h8 := ok.n8
  refine split_join " ; " (by decide) (ws.map sprT) (by intro z; rw [List.map_eq_nil_iff] at z; subst z; simp at h1) fun p hp => ?_
  obtain ⟨ps, hps, rfl⟩ := List.mem_map.mp hp
  have sg := sprT_sign (ok.sp ps hps) (by omega)
  have ey : (Str.ofString " ; ").cps.toList = [32, 59, 32] := by decide +kernel
  refine ⟨fun q c hq => ?_, fun q c rest hq => ?_⟩
  · show List.isPrefixOf (Str.ofString " ; ").cps.toList (c :: q) = false
    rw [ey]
    cases q with
    | nil => simp [List.isPrefixOf]
    | cons e t =>
      have := sg e (hq.subset (List.mem_cons_of_mem _ List.mem_cons_self))
      simp only [List.isPrefixOf, Bool.and_eq_false_iff]
      exact .inr (.inl (beq_eq_false_iff_ne.mpr fun z => this z.symm))
  · show List.isPrefixOf (Str.ofString " ; ").cps.toList (c :: q ++ ((Str.ofString " ; ").cps.toList ++ rest)) = false
    rw [ey]
    cases q with
    | nil => simp [List.isPrefixOf]
    | cons e t =>
      have := sg e (hq.subset (List.mem_cons_of_mem _ List.mem_cons_self))
      simp only [List.cons_append, List.isPrefixOf, Bool.and_eq_false_iff]
      exact .inr (.inl (beq_eq_false_iff_ne.mpr fun z => this z.symm))
end Lw

namespace Lw
open PySem L2
/-! ### reading a walk -/
def spNumR (K : PySem.W.Frag) : Sp := fun vs H Q _ => ∃ n : Int, vs = [.str (nT n)] ∧ 0 ≤ n ∧ n ≤ 12 ∧ ∀ H', Same H H' → Q (.int n) H'
def spShR (K : PySem.W.Frag) : Sp := fun vs H Q _ => ∃ u l : Int, vs = [.str (shT u l)] ∧ (0 ≤ u ∧ u ≤ 12) ∧ (0 ≤ l ∧ l ≤ 12) ∧ ∀ v H', Same H H' → DatAt K H' v (fracD (u, l)) → Q v H'
def spPrR (K : PySem.W.Frag) : Sp := fun vs H Q _ => ∃ r u l : Int, vs = [.str (pairTx r u l)] ∧ (0 ≤ r ∧ r ≤ 12) ∧ (0 ≤ u ∧ u ≤ 12) ∧ (0 ≤ l ∧ l ≤ 12) ∧ ∀ v H', Same H H' → DatAt K H' v (.tup [.int r, fracD (u, l)]) → Q v H'
def spSpR (K : PySem.W.Frag) : Sp := fun vs H Q _ => ∃ (ps : List (Int × Int)) (many : Int), vs = [.str (sprT ps)] ∧ SprOk many ps ∧ many ≤ 8 ∧ ∀ v H', Same H H' → DatAt K H' v (sprD ps) → Q v H'
def spRead (K : PySem.W.Frag) : Sp := fun vs H Q _ => ∃ (ws : List (List (Int × Int))), vs = [.str (walkT ws)] ∧ WlkOk ws ∧ ∀ v H', Same H H' → DatAt K H' v (wlkD ws) → Q v H'
theorem walkT_len {ws : List (List (Int × Int))} (ok : WlkOk ws) : (walkT ws).length ≤ 240 := by
  have h8 := ok.n8
  have a := join_len (y := " ; ") (ts := ws.map sprT) (B := 27) fun t ht => by
    obtain ⟨x, hx, rfl⟩ := List.mem_map.mp ht
    exact sprT_len (ok.sp x hx) (by omega)
  rw [List.length_map] at a
  have c : Str.length " ; " = 3 := by decide
  rw [c] at a
  unfold walkT
  omega
section
variable {P : Program} {w : World} {K : PySem.W.Frag} {mg : Str → Option Value} {base : Heap}
theorem ok_number_read {f : Addr} {fd : FuncData} {t30 tF : Tok} (B : Bn mg) (m30 : mg "MOST_FIGURES" = some (.int 30 t30)) (mF : mg "FIGURES" = some (.str "0123456789" tF)) (G : Df K mg "number_read" s_number_read p_number_read f fd) : FnOk P w K mg base CX0 1 f fd p_number_read (spNumR K) := by
  refine G.F.okW sc_number_read (fun vs H Q E h => ?_) (fun cdv A outer s H vs Q E hr h => ?_)
  · obtain ⟨n, rfl, _⟩ := h
    rfl
  · obtain ⟨n, rfl, h0, h1, q⟩ := h
    have N := numT h0 h1
    have l1 := N.l1
    have l2 := N.l2
    have sz : (2 : Nat) ≤ sizeLine := by decide
    refine ⟨_, (wpss_cons (wps_if (wpw_pt (wpw_or (wpt_not (wpt_chain op_le op_le wpe_int (wpe_callBF call_lenS rfl B.len PySem.boot_len (wpa_c (wpv 0) wpa_nil)) (wpe_glob (v := .int 30) rfl m30 ⟨_, rfl⟩))) (wpw_or1 (wpt_not (wpt_val (wpe_callBF (call_all_list rfl) rfl B.all PyProof.Rows.boot_all (wpa_c (wpe_comp (NB := ["sign"]) (n := 1) (capN := []) (by exact ⟨rfl, by decide, rfl, by decide, trivial, rfl, rfl, rfl, rfl, rfl⟩) rfl (gk_name (by decide)) (wpi_strA (wpv 0)) (fun _ _ _ _ => (wpg_name (i := 0) (show (["sign"] : List Str).Nodup by decide +kernel) rfl (Or.inl rfl))) (fun _ _ _ _ => wpts_nil) (fun _ _ _ _ => (wpe_cmpR op_in_str (wpv 0) (wpe_glob (v := .str "0123456789") rfl mF ⟨_, rfl⟩) rfl))) wpa_nil))))))) (wpss_one wps_never) wpss_nil) (wpss_one (wps_ret (wpe_callTyF call_int_str rfl B.int PyProof.Rows.boot_int (wpa_c (wpv 0) wpa_nil))))), ?_⟩
    refine ⟨_, rfl, nT n, rfl, by omega, _, _, rfl, rfl, _, rfl, decT (by omega) ⟨_, _, rfl, rfl, _, rfl, ndF (by omega) ?_⟩⟩
    refine ⟨_, rfl, nT n, rfl, ?_, fun p hp => ?_⟩
    · rw [← Array.all_toList, List.all_eq_true]
      intro c hc
      have := N.dg c hc
      exact decide_eq_true (by omega)
    · refine comp_datS (K := K) (fun j dd => dd = .bl true) hp (by show (nT n).length ≤ _; omega) ?_ ?_ ?_
      · rintro j dd rfl
        rfl
      · intro j c H1 RR hc S1 k
        have hm : c ∈ (nT n).cps.toList := by
          rw [Array.mem_toList_iff]
          exact Array.mem_of_getElem? hc
        have d := N.dg c hm
        have e : inFig c = true := by
          have := fig_all ⟨c - 48, by omega⟩
          have ec : 48 + (c - 48) = c := by omega
          rw [show 48 + (⟨c - 48, by omega⟩ : Fin 10).val = c from ec] at this
          exact this
        refine ⟨_, rfl, _, _, rfl, rfl, ?_⟩
        refine k _ H1 _ (Same.refl _) ?_ rfl
        rw [← e]
        exact .bl _
      · intro ys H1 es S1 hp1 hl1 hes hdd
        have ee : es = (List.replicate es.length true).map D.bl := by
          refine List.ext_getElem? fun j => ?_
          by_cases hj : j < es.length
          · rw [List.getElem?_eq_getElem hj, List.getElem?_map, List.getElem?_replicate, if_pos hj]
            exact congrArg some (hes j es[j] (List.getElem?_eq_getElem hj))
          · rw [List.getElem?_eq_none (by omega), List.getElem?_map, List.getElem?_replicate, if_neg hj]
            rfl
        rw [ee] at hdd
        have ey := dats_bl hdd
        subst ey
        refine ⟨p, _, rfl, SqL.of hp1, _, rfl, ?_⟩
        have ea : (List.replicate es.length true).all id = true := by rw [List.all_eq_true]; intro x hx; exact List.eq_of_mem_replicate hx
        rw [ea]
        refine iteF ⟨_, rfl, nT n, n, rfl, PySem.W.KIN.num_reads h0 (by omega), by omega, q H1 S1⟩
theorem ok_share_read {f fN : Addr} {fd fdN : FuncData} (B : Bn mg) (C_number_read : FnOk P w K mg base CX0 1 fN fdN p_number_read (spNumR K)) (G : Df K mg "share_read" s_share_read p_share_read f fd) (G_number_read : Df K mg "number_read" s_number_read p_number_read fN fdN) : FnOk P w K mg base CX0 2 f fd p_share_read (spShR K) := by
  refine G.F.okW sc_share_read (fun vs H Q E h => ?_) (fun cdv A outer s H vs Q E hr h => ?_)
  · obtain ⟨u, l, rfl, _⟩ := h
    rfl
  · obtain ⟨u, l, rfl, hu, hl, q⟩ := h
    have hr_number_read := hr
    have sl := shT_len hu hl
    have s2 : 2 ≤ sizeLine := by decide
    have s9 : 9 ≤ sizeLine := by decide
    have w1 : 1 ≤ Str.length "/" := by decide
    have b1 := pb_len (shT u l) "/" w1
    have b2 := split_len' (shT u l) "/" w1
    refine ⟨_, (wpss_cons (wps_set (i := 1) sc_share_read.nd rfl (Or.inl rfl) (wpe_bmF PySem.F.plainAttrs_str PySem.F.slot_str_split PySem.F.type_str_split mt_split (wpv 0) (wpa_c wpe_str wpa_nil))) (wpss_cons (wps_if (wpt_cmpR op_eq (wpe_callBF call_len_seq rfl B.len PySem.boot_len (wpa_c (wpv 1) wpa_nil)) wpe_int (nomark _)) (wpss_one (wps_ret (wpe_tupN (wpa_c (wpe_callF C_number_read hr_number_read rfl G_number_read.m G_number_read.F.kp G_number_read.b pass0 (wpa_c (wpv 0) wpa_nil)) (wpa_c wpe_int wpa_nil))))) wpss_nil) (wpss_cons (wps_if (wpt_cmpR op_ne (wpe_callBF call_len_seq rfl B.len PySem.boot_len (wpa_c (wpv 1) wpa_nil)) wpe_int (nomark _)) (wpss_one wps_never) wpss_nil) (wpss_one (wps_ret (wpe_tupN (wpa_c (wpe_callF C_number_read hr_number_read rfl G_number_read.m G_number_read.F.kp G_number_read.b pass0 (wpa_c (wpe_ix ix_list (wpv 1) wpe_int (fun _ _ => rfl)) wpa_nil)) (wpa_c (wpe_callF C_number_read hr_number_read rfl G_number_read.m G_number_read.F.kp G_number_read.b pass0 (wpa_c (wpe_ix ix_list (wpv 1) wpe_int (fun _ _ => rfl)) wpa_nil)) wpa_nil)))))))), ?_⟩
    refine ⟨_, rfl, rfl, shT u l, "/", rfl, rfl, by decide, by omega, by omega, by omega, fun a H1 _ S1 h1 => ?_⟩
    rw [sh_split hu hl] at h1
    by_cases c : u = 1 ∧ l = 1
    · rw [if_pos c] at h1
      obtain ⟨rfl, rfl⟩ := c
      refine ⟨_, rfl, a, _, rfl, .inl (SqL.of h1), rfl, _, rfl, decT rfl ?_⟩
      refine ⟨_, rfl, 1, rfl, by decide, by decide, fun H2 S2 => ⟨s2, fun t H3 _ S3 h3 => ?_⟩⟩
      exact q _ H3 ((S1.trans S2).trans S3) (datF_mk (SqT.of h3))
    · rw [if_neg c] at h1
      refine ⟨_, rfl, a, _, rfl, .inl (SqL.of h1), rfl, _, rfl, decF (vint (by show ((2 : Nat) : Int) ≠ 1; decide)) ?_⟩
      refine ⟨_, rfl, a, _, rfl, .inl (SqL.of h1), rfl, _, rfl, ndF rfl ?_⟩
      refine ⟨_, rfl, a, _, _, _, rfl, rfl, SqL.of h1, rfl, u, rfl, hu.1, hu.2, fun H2 S2 => ?_⟩
      refine ⟨_, rfl, a, _, _, _, rfl, rfl, SqL.of (S2 _ _ h1), rfl, l, rfl, hl.1, hl.2, fun H3 S3 => ⟨s2, fun t H4 _ S4 h4 => ?_⟩⟩
      exact q _ H4 (((S1.trans S2).trans S3).trans S4) (datF_mk (SqT.of h4))
theorem ok_pair_read {f fN fS : Addr} {fd fdN fdS : FuncData} (B : Bn mg) (C_number_read : FnOk P w K mg base CX0 1 fN fdN p_number_read (spNumR K)) (C_share_read : FnOk P w K mg base CX0 2 fS fdS p_share_read (spShR K)) (G : Df K mg "pair_read" s_pair_read p_pair_read f fd)
    (G_number_read : Df K mg "number_read" s_number_read p_number_read fN fdN) (G_share_read : Df K mg "share_read" s_share_read p_share_read fS fdS) : FnOk P w K mg base CX0 3 f fd p_pair_read (spPrR K) := by
  refine G.F.okW sc_pair_read (fun vs H Q E h => ?_) (fun cdv A outer s H vs Q E hr h => ?_)
  · obtain ⟨r, u, l, rfl, _⟩ := h
    rfl
  · obtain ⟨r, u, l, rfl, hr0, hu, hl, q⟩ := h
    have hr_number_read : Room 1 _ := hr.mono (by decide)
    have hr_share_read : Room 2 _ := hr
    have sl := pairTx_len hr0 hu hl
    have s9 : 9 ≤ sizeLine := by decide
    have w1 : 1 ≤ Str.length ">" := by decide
    have b1 := pb_len (pairTx r u l) ">" w1
    have b2 := split_len' (pairTx r u l) ">" w1
    refine ⟨_, (wpss_cons (wps_set (i := 1) sc_pair_read.nd rfl (Or.inl rfl) (wpe_bmF PySem.F.plainAttrs_str PySem.F.slot_str_split PySem.F.type_str_split mt_split (wpv 0) (wpa_c wpe_str wpa_nil))) (wpss_cons (wps_if (wpt_cmpR op_ne (wpe_callBF call_len_seq rfl B.len PySem.boot_len (wpa_c (wpv 1) wpa_nil)) wpe_int (nomark _)) (wpss_one wps_never) wpss_nil) (wpss_one (wps_ret (wpe_tupN (wpa_c (wpe_callF C_number_read hr_number_read rfl G_number_read.m G_number_read.F.kp G_number_read.b pass0 (wpa_c (wpe_ix ix_list (wpv 1) wpe_int (fun _ _ => rfl)) wpa_nil)) (wpa_c (wpe_callF C_share_read hr_share_read rfl G_share_read.m G_share_read.F.kp G_share_read.b pass0 (wpa_c (wpe_ix ix_list (wpv 1) wpe_int (fun _ _ => rfl)) wpa_nil)) wpa_nil))))))), ?_⟩
    refine ⟨_, rfl, rfl, pairTx r u l, ">", rfl, rfl, by decide, by omega, by omega, by omega, fun a H1 _ S1 h1 => ?_⟩
    rw [pair_split hr0 hu hl] at h1
    refine ⟨_, rfl, a, _, rfl, .inl (SqL.of h1), rfl, _, rfl, ndF rfl ?_⟩
    refine ⟨_, rfl, a, _, _, _, rfl, rfl, SqL.of h1, rfl, r, rfl, hr0.1, hr0.2, fun H2 S2 => ?_⟩
    refine ⟨_, rfl, a, _, _, _, rfl, rfl, SqL.of (S2 _ _ h1), rfl, u, l, rfl, hu, hl, fun sv H3 S3 hsv => ⟨(by show 2 ≤ sizeLine; decide), fun t H4 _ S4 h4 => ?_⟩⟩
    exact q _ H4 (((S1.trans S2).trans S3).trans S4) (.tup (SqT.of h4) (.cons (.int r) (.cons (hsv.same S4) .nil)))
theorem ok_spread_read {f fP : Addr} {fd fdP : FuncData} (B : Bn mg) (C_pair_read : FnOk P w K mg base CX0 3 fP fdP p_pair_read (spPrR K)) (G : Df K mg "spread_read" s_spread_read p_spread_read f fd) (G_pair_read : Df K mg "pair_read" s_pair_read p_pair_read fP fdP) : FnOk P w K mg base CX0 4 f fd p_spread_read (spSpR K) := by
  refine G.F.okW sc_spread_read (fun vs H Q E h => ?_) (fun cdv A outer s H vs Q E hr h => ?_)
  · obtain ⟨ps, many, rfl, _⟩ := h
    rfl
  · obtain ⟨ps, many, rfl, ok, hm, q⟩ := h
    have hr_pair_read := hr
    have sl := sprT_len ok hm
    have s9 : 30 ≤ sizeLine := by decide
    have w1 : 1 ≤ Str.length " " := by decide
    have b1 := pb_len (sprT ps) " " w1
    have b2 := split_len' (sprT ps) " " w1
    have hf := ok.few
    refine ⟨_, (wpss_one (wps_ret (wpe_callTyF call_tuple_ofN rfl B.tuple PyProof.Rows.boot_tuple (wpa_c (wpe_comp (NB := ["part"]) (n := 1) (capN := []) (by exact ⟨rfl, by decide, rfl, by decide, trivial, rfl, rfl, rfl, rfl, rfl⟩) rfl (gk_name (by decide)) (wpi_list (wpe_bmF PySem.F.plainAttrs_str PySem.F.slot_str_split PySem.F.type_str_split mt_split (wpv 0) (wpa_c wpe_str wpa_nil))) (fun _ _ _ _ => (wpg_name (i := 0) (show (["part"] : List Str).Nodup by decide +kernel) rfl (Or.inl rfl))) (fun _ _ _ _ => wpts_nil) (fun _ _ _ _ => (wpe_callF C_pair_read hr_pair_read rfl G_pair_read.m G_pair_read.F.kp G_pair_read.b pass0 (wpa_c (wpv 0) wpa_nil)))) wpa_nil)))), ?_⟩
    refine ⟨_, rfl, rfl, sprT ps, " ", rfl, rfl, by decide, by omega, by omega, by omega, fun a H1 _ S1 h1 => ?_⟩
    rw [spr_split ok hm] at h1
    refine ⟨a, rfl, ⟨_, SqL.of h1⟩, fun p hp => ?_⟩
    refine comp_datL (K := K) (fun j dd => ∃ x, ps[j]? = some x ∧ dd = pairD (totW ps) x) hp (SqL.of h1) ?_ ?_ ?_ ?_
    · rw [List.length_map, List.length_map]
      exact Nat.le_of_lt (small1000 (by omega))
    · rintro j dd ⟨x, _, rfl⟩
      rfl
    · intro j x H2 RR hx S2 k
      rw [List.getElem?_map, List.getElem?_map] at hx
      obtain ⟨t, ht, rfl⟩ := Option.map_eq_some_iff.mp hx
      obtain ⟨pp, hpp, rfl⟩ := Option.map_eq_some_iff.mp ht
      obtain ⟨c1, c2, c3⟩ := spr_num ok hm (List.mem_of_getElem? hpp)
      exact ⟨_, rfl, pp.1, frU pp.2 (totW ps), frL pp.2 (totW ps), rfl, c1, c2, c3, fun v H3 S3 hv => k v H3 _ S3 hv ⟨pp, hpp, rfl⟩⟩
    · intro ys H2 es S2 hp2 hl2 hes hdd
      have ee : es = ps.map (pairD (totW ps)) := by
        rw [List.length_map, List.length_map] at hl2
        refine dats_eq (n := ps.length) (f := fun j => (ps[j]?).map fun x => pairD (totW ps) x) hl2 (fun j e he => ?_) _ (by simp) fun j hj => by simp
        obtain ⟨x, e1, e2⟩ := hes j e he
        rw [e1, e2]
        rfl
      refine ⟨p, ys, rfl, .inl (SqL.of hp2), fun t H3 S3 h3 => ?_⟩
      refine q _ H3 ((S1.trans S2).trans S3) ?_
      unfold sprD
      rw [← ee]
      exact .tup h3 (hdd.same S3)
theorem kit_str (d : D) : PySem.W.kitOne K (.type (tyD d)) (.type "str") = some (match d with | .str _ => true | _ => false) := by cases d <;> kernel_rfl
theorem ok_read {f fP fW fS : Addr} {fd fdP fdW fdS : FuncData} (B : Bn mg) (nb_str : mg "str" = none) (C_spread_read : FnOk P w K mg base CX0 4 fP fdP p_spread_read (spSpR K)) (C_is_walk : FnOk P w K mg base CX0 6 fW fdW p_is_walk (spWlkV K)) (C_shown : FnOk P w K mg base CX0 8 fS fdS p_shown (spShown K))
    (G : Df K mg "read" s_read p_read f fd) (G_spread_read : Df K mg "spread_read" s_spread_read p_spread_read fP fdP) (G_is_walk : Df K mg "is_walk" s_is_walk p_is_walk fW fdW) (G_shown : Df K mg "shown" s_shown p_shown fS fdS) : FnOk P w K mg base CX0 9 f fd p_read (spRead K) := by
  refine G.F.okW sc_read (fun vs H Q E h => ?_) (fun cdv A outer s H vs Q E hr h => ?_)
  · obtain ⟨ws, rfl, _⟩ := h
    rfl
  · obtain ⟨ws, rfl, ok, q⟩ := h
    have hr_spread_read : Room 4 _ := hr.mono (by decide)
    have hr_is_walk : Room 6 _ := hr.mono (by decide)
    have hr_shown : Room 8 _ := hr
    have sl := walkT_len ok
    have s9 : 250 ≤ sizeLine := by decide
    have w1 : 1 ≤ Str.length " ; " := by decide
    have b1 := pb_len (walkT ws) " ; " w1
    have b2 := split_len' (walkT ws) " ; " w1
    have h8 := ok.n8
    obtain ⟨rs, hok, ew, _⟩ := wk_of_law ok
    refine ⟨_, (wpss_cons (wps_if (wpt_not (wpt_val (wpe_callBF call_isD rfl B.isinstance PyProof.Rows.boot_isinstance (wpa_c (wpv 0) (wpa_c (wpe_bltn (v := .ty "str") rfl nb_str PyProof.Rows.boot_str rfl) wpa_nil))))) (wpss_one wps_never) wpss_nil) (wpss_cons (wps_set (i := 1) sc_read.nd rfl (Or.inl rfl) (wpe_callTyF call_tuple_ofN rfl B.tuple PyProof.Rows.boot_tuple (wpa_c (wpe_comp (NB := ["part"]) (n := 1) (capN := []) (by exact ⟨rfl, by decide, rfl, by decide, trivial, rfl, rfl, rfl, rfl, rfl⟩) rfl (gk_name (by decide)) (wpi_list (wpe_bmF PySem.F.plainAttrs_str PySem.F.slot_str_split PySem.F.type_str_split mt_split (wpv 0) (wpa_c wpe_str wpa_nil))) (fun _ _ _ _ => (wpg_name (i := 0) (show (["part"] : List Str).Nodup by decide +kernel) rfl (Or.inl rfl))) (fun _ _ _ _ => wpts_nil) (fun _ _ _ _ => (wpe_callF C_spread_read hr_spread_read rfl G_spread_read.m G_spread_read.F.kp G_spread_read.b pass0 (wpa_c (wpv 0) wpa_nil)))) wpa_nil))) (wpss_cons (wps_if (wpw_pt (wpw_or (wpt_not (wpt_val (wpe_callF C_is_walk hr_is_walk rfl G_is_walk.m G_is_walk.F.kp G_is_walk.b pass0 (wpa_c (wpv 1) wpa_nil)))) (wpw_or1 (wpt_cmpR op_ne (wpe_callF C_shown hr_shown rfl G_shown.m G_shown.F.kp G_shown.b pass0 (wpa_c (wpv 1) wpa_nil)) (wpv 0) (nomark _))))) (wpss_one wps_never) wpss_nil) (wpss_one (wps_ret (wpv 1)))))), ?_⟩
    refine ⟨_, rfl, _, _, .str (walkT ws), _, rfl, .str _, kit_str _, _, rfl, iteF ?_⟩
    refine ⟨_, rfl, rfl, walkT ws, " ; ", rfl, rfl, by decide, by omega, by omega, by omega, fun a H1 _ S1 h1 => ?_⟩
    rw [walk_split ok] at h1
    refine ⟨a, rfl, ⟨_, SqL.of h1⟩, fun p hp => ?_⟩
    refine comp_datL (K := K) (fun j dd => ∃ x, ws[j]? = some x ∧ dd = sprD x) hp (SqL.of h1) ?_ ?_ ?_ ?_
    · rw [List.length_map, List.length_map]
      exact Nat.le_of_lt (small1000 (by omega))
    · rintro j dd ⟨x, _, rfl⟩
      exact noL_spr x
    · intro j x H2 RR hx S2 k
      rw [List.getElem?_map, List.getElem?_map] at hx
      obtain ⟨t, ht, rfl⟩ := Option.map_eq_some_iff.mp hx
      obtain ⟨pp, hpp, rfl⟩ := Option.map_eq_some_iff.mp ht
      exact ⟨_, rfl, pp, _, rfl, ok.sp pp (List.mem_of_getElem? hpp), by omega, fun v H3 S3 hv => k v H3 _ S3 hv ⟨pp, hpp, rfl⟩⟩
    · intro ys H2 es S2 hp2 hl2 hes hdd
      have ee : es = ws.map sprD := by
        rw [List.length_map, List.length_map] at hl2
        refine dats_eq (n := ws.length) (f := fun j => (ws[j]?).map fun x => sprD x) hl2 (fun j e he => ?_) _ (by simp) fun j hj => by simp
        obtain ⟨x, e1, e2⟩ := hes j e he
        rw [e1, e2]
        rfl
      refine ⟨p, ys, rfl, .inl (SqL.of hp2), fun t H3 S3 h3 => ?_⟩
      have hv3 : DatAt K H3 (.ref t) (wlkD ws) := by
        unfold wlkD
        rw [← ee]
        exact .tup h3 (hdd.same S3)
      have S03 := (S1.trans S2).trans S3
      refine ⟨_, rfl, _, rs, rfl, (by rw [← ew]; exact hv3), hok, fun H4 S4 => ⟨_, rfl, iteF ?_⟩⟩
      refine ⟨_, rfl, _, ws, rfl, hv3.same S4, ok, fun H5 S5 => ?_⟩
      refine ⟨_, rfl, rfl, _, rfl, ndF rfl ?_⟩
      exact ⟨_, rfl, q _ H5 ((S03.trans S4).trans S5) ((hv3.same S4).same S5)⟩
end
end Lw

namespace Lw
open PySem L2
/-! ### the law of texts -/
def spLaw (K : PySem.W.Frag) : Sp := fun vs H Q _ => ∃ (a : Addr) (ns : List Int), vs = [.ref a] ∧ SqL K H a (ns.map V.int) ∧ ∀ H', Q (.bl true) H'
def spFig (K : PySem.W.Frag) : Sp := fun vs H Q _ => ∃ n : Int, vs = [.int n] ∧ 0 ≤ n ∧ n ≤ 12 ∧ Q (.str (nT n)) H
def figM (σ : St) : Nat := slotN 0 σ + (match σ[1]? with
  | some (some (V.str t)) => if t.length = 0 then 1 else 0
  | _ => 0)
def digS (k : Nat) : Str := ⟨#[48 + k]⟩
theorem fig_small : ∀ n : Fin 13, nT (n.val : Int) = if n.val < 10 then digS n.val else digS (n.val / 10) ++ digS (n.val % 10) := by decide +kernel
theorem dig_at : ∀ k : Fin 10, (Str.ofString "0123456789").cps[k.val]? = some (48 + k.val) := by decide +kernel
section
variable {P : Program} {w : World} {K : PySem.W.Frag} {mg : Str → Option Value} {base : Heap}
theorem ok_law_figures {f : Addr} {fd : FuncData} (G : Df K mg "_law_figures" s_law_figures p_law_figures f fd) : FnOk P w K mg base CX0 1 f fd p_law_figures (spFig K) := by
  refine G.F.okW sc_law_figures (fun vs H Q E h => ?_) (fun cdv A outer s H vs Q E hr h => ?_)
  · obtain ⟨n, rfl, _⟩ := h
    rfl
  · obtain ⟨n, rfl, h0, h1, q⟩ := h
    obtain ⟨k, rfl⟩ : ∃ k : Nat, n = (k : Int) := ⟨n.toNat, by omega⟩
    refine ⟨_, (wpss_cons (wps_set (i := 1) sc_law_figures.nd rfl (Or.inl rfl) wpe_str) (wpss_cons (wps_while PassesOwn.never (wpw_pt (wpw_or (wpt_cmpR op_gt (wpv 0) wpe_int (nomark _)) (wpw_or1 (wpt_cmpR op_eq (wpv 1) wpe_str (nomark _))))) (wpss_cons (wps_set (i := 1) sc_law_figures.nd rfl (Or.inl rfl) (wpe_op op_add_str (wpe_itemS wpe_str (wpe_op op_mod (wpv 0) wpe_int)) (wpv 1))) (wpss_one (wps_set (i := 0) sc_law_figures.nd rfl (Or.inl rfl) (wpe_op op_fdiv (wpv 0) wpe_int))))) (wpss_one (wps_ret (wpv 1))))), ?_⟩
    have e := fig_small ⟨k, by omega⟩
    have e : nT (k : Int) = if k < 10 then digS k else digS (k / 10) ++ digS (k % 10) := e
    have hl : Str.length "0123456789" = 10 := by decide
    have ap : ∀ a : Str, a ++ (Str.ofString "") = a := fun a => str_inj (by rw [app_list]; exact List.append_nil _)
    have dl : ∀ j : Nat, (digS j).length = 1 := fun j => rfl
    have dn : ∀ j : Nat, ¬ V.str (digS j) = V.str (Str.ofString "") := fun j z => by
      injection z with z
      have := congrArg Str.length z
      rw [dl] at this
      have h : Str.length (Str.ofString "") = 0 := by decide
      omega
    refine while_by (fun σ H' => ∃ (m : Nat) (t : Str), σ = [some (.int m), some (.str t)] ∧ H' = H ∧ ((m = k ∧ t = Str.ofString "") ∨ (m = k / 10 ∧ t = digS (k % 10)) ∨ (m = 0 ∧ 10 ≤ k ∧ t = digS (k / 10) ++ digS (k % 10)))) (fun σ _ => figM σ) ⟨k, _, rfl, rfl, .inl ⟨rfl, rfl⟩⟩ ?_ ?_
    · rintro σ H' ⟨m, t, rfl, rfl, hc⟩
      have at10 : ∀ j : Nat, (0 : Int) ≤ (j : Int) % 10 ∧ (j : Int) % 10 < 2 ^ 63 ∧ (j : Int) % 10 < ((Str.length (Str.ofString "0123456789") : Nat) : Int) ∧ (Str.ofString "0123456789").cps[((j : Int) % 10).toNat]? = some (48 + j % 10) := fun j => by
        have h1 : ((j : Int) % 10).toNat = j % 10 := by omega
        have h2 : Str.length (Str.ofString "0123456789") = 10 := hl
        refine ⟨by omega, by omega, by rw [h2]; omega, ?_⟩
        rw [h1]
        exact dig_at ⟨j % 10, by omega⟩
      have d10 : ∀ j : Nat, (j : Int) / 10 = ((j / 10 : Nat) : Int) := fun j => by omega
      refine ⟨_, rfl, _, _, rfl, rfl, _, rfl, ?_⟩
      rcases hc with ⟨rfl, rfl⟩ | ⟨rfl, rfl⟩ | ⟨rfl, h10, rfl⟩
      · have a := at10 m
        have step : ∃ m' t', [some (V.int ((m : Int) / 10)), some (V.str ((⟨#[48 + m % 10]⟩ : Str) ++ Str.ofString ""))] = [some (V.int (m' : Nat)), some (V.str t')] ∧ H' = H' ∧ ((m' = m ∧ t' = Str.ofString "") ∨ (m' = m / 10 ∧ t' = digS (m % 10)) ∨ (m' = 0 ∧ 10 ≤ m ∧ t' = digS (m / 10) ++ digS (m % 10))) := ⟨m / 10, digS (m % 10), by rw [d10, ap]; rfl, rfl, .inr (.inl ⟨rfl, rfl⟩)⟩
        have mes : figM [some (V.int ((m : Int) / 10)), some (V.str ((⟨#[48 + m % 10]⟩ : Str) ++ Str.ofString ""))] < figM [some (V.int (m : Nat)), some (V.str (Str.ofString ""))] := by
          rw [ap, d10]
          show m / 10 + (if (digS (m % 10)).length = 0 then 1 else 0) < m + (if Str.length (Str.ofString "") = 0 then 1 else 0)
          rw [dl, if_neg (by decide), if_pos (by decide)]
          omega
        by_cases c0 : (0 : Int) < (m : Int)
        · refine decT c0 (iteT ?_)
          refine ⟨_, rfl, _, _, rfl, rfl, (by show (0 : Int) < 10; decide), _, _, _, rfl, rfl, a.1, a.2.1, a.2.2.1, a.2.2.2, _, rfl, _, _, rfl, rfl, (by show 1 + 0 ≤ sizeLine; decide), ?_⟩
          refine ⟨_, rfl, _, _, rfl, rfl, ⟨by decide, by decide⟩, step, mes⟩
        · refine decF c0 ⟨_, rfl, rfl, _, rfl, decT rfl ?_⟩
          refine ⟨_, rfl, _, _, rfl, rfl, (by show (0 : Int) < 10; decide), _, _, _, rfl, rfl, a.1, a.2.1, a.2.2.1, a.2.2.2, _, rfl, _, _, rfl, rfl, (by show 1 + 0 ≤ sizeLine; decide), ?_⟩
          refine ⟨_, rfl, _, _, rfl, rfl, ⟨by decide, by decide⟩, step, mes⟩
      · by_cases c0 : (0 : Int) < ((k / 10 : Nat) : Int)
        · have a := at10 (k / 10)
          have h1 : k / 10 = 1 := by omega
          refine decT c0 (iteT ?_)
          refine ⟨_, rfl, _, _, rfl, rfl, (by show (0 : Int) < 10; decide), _, _, _, rfl, rfl, a.1, a.2.1, a.2.2.1, a.2.2.2, _, rfl, _, _, rfl, rfl, (by show 1 + 1 ≤ sizeLine; decide), ?_⟩
          have step : ∃ m' t', [some (V.int (((k / 10 : Nat) : Int) / 10)), some (V.str ((⟨#[48 + k / 10 % 10]⟩ : Str) ++ digS (k % 10)))] = [some (V.int (m' : Nat)), some (V.str t')] ∧ H' = H' ∧ ((m' = k ∧ t' = Str.ofString "") ∨ (m' = k / 10 ∧ t' = digS (k % 10)) ∨ (m' = 0 ∧ 10 ≤ k ∧ t' = digS (k / 10) ++ digS (k % 10))) :=
            ⟨0, _, by rw [d10, h1] <;> rfl, rfl, .inr (.inr ⟨rfl, by omega, by rw [h1] <;> rfl⟩)⟩
          have mes : figM [some (V.int (((k / 10 : Nat) : Int) / 10)), some (V.str ((⟨#[48 + k / 10 % 10]⟩ : Str) ++ digS (k % 10)))] < figM [some (V.int ((k / 10 : Nat) : Int)), some (V.str (digS (k % 10)))] := by
            rw [d10]
            show k / 10 / 10 + (if Str.length _ = 0 then 1 else 0) < k / 10 + (if (digS (k % 10)).length = 0 then 1 else 0)
            rw [if_neg (by rw [len_app]; show ¬ 1 + 1 = 0; decide)]
            omega
          refine ⟨_, rfl, _, _, rfl, rfl, ⟨by decide, by decide⟩, step, mes⟩
        · have hk : k < 10 := by omega
          refine decF c0 ⟨_, rfl, rfl, _, rfl, decF (dn _) ?_⟩
          refine ⟨_, rfl, ?_⟩
          rw [if_pos hk] at e
          rw [e] at q
          have e2 : k % 10 = k := by omega
          rw [e2]
          exact q
      · refine decF (by decide) ⟨_, rfl, rfl, _, rfl, decF (fun z => ?_) ?_⟩
        · injection z with z
          have := congrArg Str.length z
          rw [len_app, dl, dl] at this
          have h : Str.length (Str.ofString "") = 0 := by decide
          omega
        · refine ⟨_, rfl, ?_⟩
          rw [if_neg (by omega)] at e
          rw [e] at q
          exact q
    · rintro σ H' Q1 Q2 hq ⟨v, e, i, j, h1, h2, c, h3, h4⟩
      refine ⟨v, e, i, j, h1, h2, c, h3, ?_⟩
      cases c with
      | true =>
        simp only [if_true] at h4 ⊢
        exact hq _ _ h4
      | false =>
        simp only [Bool.false_eq_true, if_false] at h4 ⊢
        obtain ⟨v', e', h1', c', h3', h4'⟩ := h4
        exact ⟨v', e', h1', c', h3', hq _ _ h4'⟩
end
end Lw

namespace Lw
open PySem L2
theorem frU_one {u l : Int} (h : 1 ≤ u) : 1 ≤ frU u l := by
  unfold frU
  have hd : (Int.gcd u l : Int) ∣ u := Int.gcd_dvd_left ..
  obtain ⟨c, hc⟩ := hd
  have g0 : 0 < (Int.gcd u l : Int) := by
    have : Int.gcd u l ≠ 0 := fun z => by
      have := Int.gcd_eq_zero_iff.mp z
      omega
    omega
  rw [show u / (Int.gcd u l : Int) = c from by
    conv => lhs; arg 1; rw [hc]
    exact Int.mul_ediv_cancel_left _ (by omega)]
  have : 0 < c := by
    refine Int.pos_of_mul_pos_right (a := (Int.gcd u l : Int)) ?_ (by omega)
    rw [← hc]
    omega
  omega
theorem fr_le {u l : Int} (h : u ≤ l) (hl : 0 < l) : frU u l ≤ frL u l := by
  unfold frU frL
  exact Int.ediv_le_ediv (by have := gcd_pos (u := u) hl; omega) h
theorem spr_one {many : Int} {ps : List (Int × Int)} (h : SprOk many ps) {p : Int × Int} (hp : p ∈ ps) (h1 : frL p.2 (totW ps) = 1) : frU p.2 (totW ps) = 1 := by
  have a := frU_one (l := totW ps) (h.pos p hp)
  have b := totW_ge ps h.pos p hp
  have c := h.pos p hp
  have d := fr_le b (by omega)
  omega
section
variable {P : Program} {w : World} {K : PySem.W.Frag} {mg : Str → Option Value} {base : Heap}
theorem ok_law {f fW fF fS fR : Addr} {fd fdW fdF fdS fdR : FuncData} (B : Bn mg) (nb_str : mg "str" = none) (C_law_walk : FnOk P w K mg base CX0 4 fW fdW p_law_walk (spWalk K)) (C_law_figures : FnOk P w K mg base CX0 1 fF fdF p_law_figures (spFig K)) (C_shown : FnOk P w K mg base CX0 8 fS fdS p_shown (spShown K)) (C_read : FnOk P w K mg base CX0 9 fR fdR p_read (spRead K))
    (G : Df K mg "law" s_law p_law f fd) (G_law_walk : Df K mg "_law_walk" s_law_walk p_law_walk fW fdW) (G_law_figures : Df K mg "_law_figures" s_law_figures p_law_figures fF fdF) (G_shown : Df K mg "shown" s_shown p_shown fS fdS) (G_read : Df K mg "read" s_read p_read fR fdR) :
    FnOk P w K mg base CX0 10 f fd p_law (spLaw K) := by
  refine G.F.okW sc_law (fun vs H Q E h => ?_) (fun cdv A outer s H vs Q E hr h => ?_)
  · obtain ⟨a, ns, rfl, _⟩ := h
    rfl
  · obtain ⟨a, ns, rfl, hS, q⟩ := h
    have hr_law_walk : Room 4 _ := hr.mono (by decide)
    have hr_law_figures : Room 1 _ := hr.mono (by decide)
    have hr_shown : Room 8 _ := hr.mono (by decide)
    have hr_read : Room 9 _ := hr
    refine ⟨_, (wpss_cons (wps_set (i := 1) sc_law.nd rfl (Or.inl rfl) (wpe_callF C_law_walk hr_law_walk rfl G_law_walk.m G_law_walk.F.kp G_law_walk.b pass0 (wpa_c (wpv 0) (wpa_c wpe_int wpa_nil)))) (wpss_cons (wps_set (i := 2) sc_law.nd rfl (Or.inl rfl) (wpe_lstN wpa_nil)) (wpss_cons (wps_for PassesOwn.never rfl (wpi_tup (wpv 1)) (wpg_name (i := 3) sc_law.nd rfl (Or.inl rfl)) (wpss_cons (wps_set (i := 4) sc_law.nd rfl (Or.inl rfl) (wpe_lstN wpa_nil)) (wpss_cons (wps_for PassesOwn.never rfl (wpi_tup (wpv 3)) (wpg_tup rfl (wpgs_cons (wpg_name (i := 5) sc_law.nd rfl (Or.inl rfl)) (wpgs_cons (wpg_name (i := 6) sc_law.nd rfl (Or.inl rfl)) wpgs_nil))) (wpss_cons (wps_set (i := 7) sc_law.nd rfl (Or.inl rfl) (wpe_callF C_law_figures hr_law_figures rfl G_law_figures.m G_law_figures.F.kp G_law_figures.b pass0 (wpa_c (wpe_ix ix_tup (wpv 6) wpe_int (fun _ _ => rfl)) wpa_nil))) (wpss_cons (wps_if (wpt_cmpR op_ne (wpe_ix ix_tup (wpv 6) wpe_int (fun _ _ => rfl)) wpe_int (nomark _)) (wpss_one (wps_set (i := 7) sc_law.nd rfl (Or.inl rfl) (wpe_op op_add_str (wpe_op op_add_str (wpv 7) wpe_str) (wpe_callF C_law_figures hr_law_figures rfl G_law_figures.m G_law_figures.F.kp G_law_figures.b pass0 (wpa_c (wpe_ix ix_tup (wpv 6) wpe_int (fun _ _ => rfl)) wpa_nil))))) wpss_nil) (wpss_one (wps_expr (wpe_bmF PySem.F.plainAttrs_list PySem.F.slot_list_append PySem.F.type_list_append mt_append (wpv 4) (wpa_c (wpe_op op_add_str (wpe_op op_add_str (wpv 7) wpe_str) (wpe_callF C_law_figures hr_law_figures rfl G_law_figures.m G_law_figures.F.kp G_law_figures.b pass0 (wpa_c (wpv 5) wpa_nil))) wpa_nil))))))) (wpss_one (wps_expr (wpe_bmF PySem.F.plainAttrs_list PySem.F.slot_list_append PySem.F.type_list_append mt_append (wpv 2) (wpa_c (wpe_bmF PySem.F.plainAttrs_str PySem.F.slot_str_join PySem.F.type_str_join mt_join wpe_str (wpa_c (wpv 4) wpa_nil)) wpa_nil))))))) (wpss_cons (wps_set (i := 8) sc_law.nd rfl (Or.inl rfl) (wpe_callF C_shown hr_shown rfl G_shown.m G_shown.F.kp G_shown.b pass0 (wpa_c (wpv 1) wpa_nil))) (wpss_one (wps_ret (wpe_and (wpe_callBF call_isD rfl B.isinstance PyProof.Rows.boot_isinstance (wpa_c (wpv 8) (wpa_c (wpe_bltn (v := .ty "str") rfl nb_str PyProof.Rows.boot_str rfl) wpa_nil))) (wpe_and (wpe_cmpR op_eq (wpv 8) (wpe_bmF PySem.F.plainAttrs_str PySem.F.slot_str_join PySem.F.type_str_join mt_join wpe_str (wpa_c (wpv 2) wpa_nil)) (nomark _)) (wpe_one (wpe_cmpR (op_eqD (hu60 hr)) (wpe_callF C_read hr_read rfl G_read.m G_read.F.kp G_read.b pass0 (wpa_c (wpv 8) wpa_nil)) (wpv 1) (nomark _))))))))))), ?_⟩
    refine ⟨_, rfl, a, ns, 0, rfl, hS, by decide, by decide, fun ws v H1 S1 ok hv => ?_⟩
    obtain ⟨wa, wvs, rfl, hwa, hwd⟩ := dat_tup hv
    have hwl : wvs.length = ws.length := by rw [hwd.length, List.length_map]
    have h8 := ok.n8
    have sz : (100 : Nat) ≤ sizeLine := by decide
    refine ⟨Nat.zero_le _, fun l H2 nl S2 hl2 => ?_⟩
    have nl1 : H1 l = none := nl
    refine ⟨_, rfl, wa, rfl, ⟨_, S2.seqT hwa⟩, for_tup (K := K) (a := wa) (xs := wvs) (fun i σ H3 => ∃ (o3 o4 o5 o6 o7 : Option V), σ = [some (.ref a), some (.ref wa), some (.ref l), o3, o4, o5, o6, o7, none] ∧ Same H1 H3 ∧ H3 l = some (.lst (((ws.take i).map sprT).map V.str)))
      ⟨none, none, none, none, none, rfl, S2, hl2⟩ (fun i σ H3 _ ⟨_, _, _, _, _, _, S3, _⟩ => S3.seqT hwa) ?_ ?_⟩
    · rintro i x σ H3 hx ⟨o3, o4, o5, o6, o7, rfl, S3, hl3⟩
      have hi : i < ws.length := by
        have := (List.getElem?_eq_some_iff.mp hx).1
        omega
      obtain ⟨d, hd, hxd⟩ := hwd.get' hx
      rw [List.getElem?_map] at hd
      obtain ⟨ps, hps, rfl⟩ := Option.map_eq_some_iff.mp hd
      have okp := ok.sp ps (List.mem_of_getElem? hps)
      have hm8 : (ws.length : Int) ≤ 8 := by omega
      obtain ⟨sa, svs, rfl, hsa, hsd⟩ := dat_tup hxd
      have hsl : svs.length = ps.length := by rw [hsd.length, List.length_map]
      have hfew := okp.few
      refine ⟨Nat.zero_le _, fun wl H4 nw S4 hw4 => ?_⟩
      have nw1 : H1 wl = none := S3.free nw
      have wll : wl ≠ l := fun z => by rw [z, hl3] at nw; cases nw
      have hl4 := S4 _ _ hl3
      have S14 := S3.trans S4
      refine ⟨_, rfl, sa, rfl, ⟨_, S14.seqT hsa⟩, for_tup (K := K) (a := sa) (xs := svs) (fun j σ H5 => ∃ (o5 o6 o7 : Option V), σ = [some (.ref a), some (.ref wa), some (.ref l), some (.ref sa), some (.ref wl), o5, o6, o7, none] ∧ Same H1 H5 ∧ H5 l = some (.lst (((ws.take i).map sprT).map V.str)) ∧ H5 wl = some (.lst (((ps.take j).map (pT (totW ps))).map V.str)))
        ⟨o5, o6, o7, rfl, S14, hl4, hw4⟩ (fun j σ H5 _ ⟨_, _, _, _, S5, _⟩ => S5.seqT hsa) ?_ ?_⟩
      · rintro j y σ H5 hy ⟨o5', o6', o7', rfl, S5, hl5, hw5⟩
        have hj : j < ps.length := by
          have := (List.getElem?_eq_some_iff.mp hy).1
          omega
        obtain ⟨e, he, hye⟩ := hsd.get' hy
        rw [List.getElem?_map] at he
        obtain ⟨pp, hpp, rfl⟩ := Option.map_eq_some_iff.mp he
        have hpm := List.mem_of_getElem? hpp
        obtain ⟨br, bu, bl⟩ := spr_num okp hm8 hpm
        obtain ⟨pa, pvs, rfl, hpa, hpd⟩ := dat_tup (hye.same S5)
        obtain ⟨v0, v1, d0, d1, rfl, e2, r0, r1⟩ := dats2 hpd rfl
        cases e2
        have ev0 := dat_int r0
        subst ev0
        obtain ⟨fa, rfl, hfa⟩ := datF (x := (frU pp.2 (totW ps), frL pp.2 (totW ps))) r1
        have Nr := (numT br.1 br.2).l2
        have Nu := (numT bu.1 bu.2).l2
        have Nl := (numT bl.1 bl.2).l2
        have ls : Str.length (Str.ofString "/") = 1 := by decide
        have lg : Str.length (Str.ofString ">") = 1 := by decide
        refine ⟨pa, _, rfl, hpa, rfl, _, _, rfl, _, _, rfl, rfl, ?_⟩
        refine ⟨_, rfl, fa, _, _, _, rfl, rfl, hfa, rfl, frU pp.2 (totW ps), rfl, bu.1, bu.2, ?_⟩
        refine ⟨_, rfl, fa, _, _, _, rfl, rfl, hfa, rfl, rfl, _, rfl, ?_⟩
        have fin : ∀ t : Str, t = shT (frU pp.2 (totW ps)) (frL pp.2 (totW ps)) → ∃ (o5 o6 o7 : Option V), [some (V.ref a), some (.ref wa), some (.ref l), some (.ref sa), some (.ref wl), some (.int pp.1), some (.ref fa), some (.str t), none] = [some (V.ref a), some (.ref wa), some (.ref l), some (.ref sa), some (.ref wl), o5, o6, o7, none] ∧
            Same H1 (upd H5 wl (.lst (((ps.take j).map (pT (totW ps))).map V.str ++ [V.str (t ++ Str.ofString ">" ++ nT pp.1)]))) ∧ upd H5 wl (.lst (((ps.take j).map (pT (totW ps))).map V.str ++ [V.str (t ++ Str.ofString ">" ++ nT pp.1)])) l = some (.lst (((ws.take i).map sprT).map V.str)) ∧
            upd H5 wl (.lst (((ps.take j).map (pT (totW ps))).map V.str ++ [V.str (t ++ Str.ofString ">" ++ nT pp.1)])) wl = some (.lst (((ps.take (j + 1)).map (pT (totW ps))).map V.str)) := by
          intro t ht
          refine ⟨_, _, _, rfl, S5.fresh_upd nw1 _, by rw [upd_ne (Ne.symm wll)]; exact hl5, ?_⟩
          rw [upd_same]
          have et : ps.take (j + 1) = ps.take j ++ [pp] := by
            rw [List.take_succ, hpp]
            rfl
          rw [et, List.map_append, List.map_append, ht]
          rfl
        have sm : (((ps.take j).map (pT (totW ps))).map V.str).length < 1000 := by
          rw [List.length_map, List.length_map, List.length_take]
          omega
        by_cases c : frL pp.2 (totW ps) = 1
        · refine ndF (by rw [c]) ?_
          have eu := spr_one okp hpm c
          have e1 : nT (frU pp.2 (totW ps)) = shT (frU pp.2 (totW ps)) (frL pp.2 (totW ps)) := by
            rw [eu, c]
            decide +kernel
          refine ⟨_, rfl, .inl ⟨rfl, _, SqL.of hw5⟩, _, rfl, _, _, rfl, rfl, by omega, _, rfl, pp.1, rfl, br.1, br.2, _, _, rfl, rfl, by rw [len_app]; omega, wl, _, _, rfl, rfl, hw5, small1000 (by omega), ?_⟩
          exact fin _ e1
        · refine ndT (vint c) ?_
          have e1 : nT (frU pp.2 (totW ps)) ++ Str.ofString "/" ++ nT (frL pp.2 (totW ps)) = shT (frU pp.2 (totW ps)) (frL pp.2 (totW ps)) := by
            unfold shT
            rw [if_neg (fun z => c z.2)]
          refine ⟨_, rfl, _, _, rfl, rfl, by omega, _, rfl, fa, _, _, _, rfl, rfl, hfa, rfl, frL pp.2 (totW ps), rfl, bl.1, bl.2, _, _, rfl, rfl, by rw [len_app]; omega, ?_⟩
          refine ⟨_, rfl, .inl ⟨rfl, _, SqL.of hw5⟩, _, rfl, _, _, rfl, rfl, by rw [len_app, len_app]; omega, _, rfl, pp.1, rfl, br.1, br.2, _, _, rfl, rfl, by rw [len_app, len_app, len_app]; omega, wl, _, _, rfl, rfl, hw5, small1000 (by omega), ?_⟩
          exact fin _ e1
      · rintro σ H5 ⟨o5', o6', o7', rfl, S5, hl5, hw5⟩
        rw [hsl, List.take_length] at hw5
        have c1 : Str.length (Str.ofString " ") = 1 := by decide
        refine ⟨_, rfl, .inl ⟨rfl, _, SqL.of hl5⟩, rfl, _, rfl, Str.ofString " ", wl, ps.map (pT (totW ps)), rfl, rfl, SqL.of hw5, join_ok (pT_len okp hm8) (by rw [List.length_map, c1]; omega), ?_⟩
        refine ⟨l, _, _, rfl, rfl, hl5, small1000 (by rw [List.length_map, List.length_map, List.length_take]; omega), ?_⟩
        refine ⟨_, _, _, _, _, rfl, S5.fresh_upd nl1 _, ?_⟩
        rw [upd_same]
        have et : ws.take (i + 1) = ws.take i ++ [ps] := by
          rw [List.take_succ, hps]
          rfl
        rw [et, List.map_append, List.map_append]
        rfl
    · rintro σ H3 ⟨o3, o4, o5, o6, o7, rfl, S3, hl3⟩
      rw [hwl, List.take_length] at hl3
      refine ⟨_, rfl, _, ws, rfl, hv.same S3, ok, fun H4 S4 => ?_⟩
      refine ⟨_, rfl, _, _, .str (walkT ws), _, rfl, .str _, kit_str _, _, rfl, iteT ?_⟩
      have c3 : Str.length (Str.ofString " ; ") = 3 := by decide
      refine ⟨_, rfl, rfl, _, rfl, Str.ofString " ; ", l, ws.map sprT, rfl, rfl, SqL.of (S4 _ _ hl3), join_ok (B := 27) (fun t ht => ?_) (by rw [List.length_map, c3]; omega), rfl, _, rfl, decT rfl ?_⟩
      · obtain ⟨x, hx, rfl⟩ := List.mem_map.mp ht
        exact sprT_len (ok.sp x hx) (by omega)
      · refine ⟨_, rfl, ws, rfl, ok, fun v5 H5 S5 hv5 => ?_⟩
        refine ⟨_, rfl, _, _, .inl ⟨_, _, rfl, rfl⟩, hv5, ((hv.same S3).same S4).same S5, Nat.le_trans (dep_wlk ws) (by decide), ?_⟩
        have er : eqD (wlkD ws) (wlkD ws) = true := eqD_refl _
        unfold wlkD at er
        rw [er]
        exact q _
end
end Lw

namespace Lw
open PySem L2
end Lw
namespace Lw
open PySem L2
theorem all_mk {l : PySem.W.OpenLaw} {w : World} {K : PySem.W.Frag} {h : Heap} {mg : Str → Option Value} {fa : Addr} (X : K.In h) (G : h.Ns mainGlobals mg) (hfa : mg "law" = some (.ref fa))
    {f0 : Addr} {od0 an0 : Option Addr} {sl0 : Array (Option Value)} {oc0 kV0 dc0 pm0 cd0 ct0 : Value}
    {f1 : Addr} {od1 an1 : Option Addr} {sl1 : Array (Option Value)} {oc1 kV1 dc1 pm1 cd1 ct1 : Value}
    {f2 : Addr} {od2 an2 : Option Addr} {sl2 : Array (Option Value)} {oc2 kV2 dc2 pm2 cd2 ct2 : Value}
    {f3 : Addr} {od3 an3 : Option Addr} {sl3 : Array (Option Value)} {oc3 kV3 dc3 pm3 cd3 ct3 : Value}
    {f4 : Addr} {od4 an4 : Option Addr} {sl4 : Array (Option Value)} {oc4 kV4 dc4 pm4 cd4 ct4 : Value}
    {f5 : Addr} {od5 an5 : Option Addr} {sl5 : Array (Option Value)} {oc5 kV5 dc5 pm5 cd5 ct5 : Value}
    {f6 : Addr} {od6 an6 : Option Addr} {sl6 : Array (Option Value)} {oc6 kV6 dc6 pm6 cd6 ct6 : Value}
    {f7 : Addr} {od7 an7 : Option Addr} {sl7 : Array (Option Value)} {oc7 kV7 dc7 pm7 cd7 ct7 : Value}
    {f8 : Addr} {od8 an8 : Option Addr} {sl8 : Array (Option Value)} {oc8 kV8 dc8 pm8 cd8 ct8 : Value}
    {f9 : Addr} {od9 an9 : Option Addr} {sl9 : Array (Option Value)} {oc9 kV9 dc9 pm9 cd9 ct9 : Value}
    {f10 : Addr} {od10 an10 : Option Addr} {sl10 : Array (Option Value)} {oc10 kV10 dc10 pm10 cd10 ct10 : Value}
    {f11 : Addr} {od11 an11 : Option Addr} {sl11 : Array (Option Value)} {oc11 kV11 dc11 pm11 cd11 ct11 : Value}
    {f12 : Addr} {od12 an12 : Option Addr} {sl12 : Array (Option Value)} {oc12 kV12 dc12 pm12 cd12 ct12 : Value}
    {f13 : Addr} {od13 an13 : Option Addr} {sl13 : Array (Option Value)} {oc13 kV13 dc13 pm13 cd13 ct13 : Value}
    {f14 : Addr} {od14 an14 : Option Addr} {sl14 : Array (Option Value)} {oc14 kV14 dc14 pm14 cd14 ct14 : Value}
    {f15 : Addr} {od15 an15 : Option Addr} {sl15 : Array (Option Value)} {oc15 kV15 dc15 pm15 cd15 ct15 : Value}
    {f16 : Addr} {od16 an16 : Option Addr} {sl16 : Array (Option Value)} {oc16 kV16 dc16 pm16 cd16 ct16 : Value}
    {f17 : Addr} {od17 an17 : Option Addr} {sl17 : Array (Option Value)} {oc17 kV17 dc17 pm17 cd17 ct17 : Value}
    {f18 : Addr} {od18 an18 : Option Addr} {sl18 : Array (Option Value)} {oc18 kV18 dc18 pm18 cd18 ct18 : Value}
    {f19 : Addr} {od19 an19 : Option Addr} {sl19 : Array (Option Value)} {oc19 kV19 dc19 pm19 cd19 ct19 : Value}
    {f20 : Addr} {od20 an20 : Option Addr} {sl20 : Array (Option Value)} {oc20 kV20 dc20 pm20 cd20 ct20 : Value}
    {f21 : Addr} {od21 an21 : Option Addr} {sl21 : Array (Option Value)} {oc21 kV21 dc21 pm21 cd21 ct21 : Value}
    {f22 : Addr} {od22 an22 : Option Addr} {sl22 : Array (Option Value)} {oc22 kV22 dc22 pm22 cd22 ct22 : Value}
    {f23 : Addr} {od23 an23 : Option Addr} {sl23 : Array (Option Value)} {oc23 kV23 dc23 pm23 cd23 ct23 : Value}
    {f24 : Addr} {od24 an24 : Option Addr} {sl24 : Array (Option Value)} {oc24 kV24 dc24 pm24 cd24 ct24 : Value}
    {f25 : Addr} {od25 an25 : Option Addr} {sl25 : Array (Option Value)} {oc25 kV25 dc25 pm25 cd25 ct25 : Value}
    {f26 : Addr} {od26 an26 : Option Addr} {sl26 : Array (Option Value)} {oc26 kV26 dc26 pm26 cd26 ct26 : Value}
    {f27 : Addr} {od27 an27 : Option Addr} {sl27 : Array (Option Value)} {oc27 kV27 dc27 pm27 cd27 ct27 : Value}
    {a_NOUGHT : Addr} {dd_NOUGHT : Option Addr} {n_NOUGHT : Nat} {sl_NOUGHT : Array (Option Value)} {u_NOUGHT_0 u_NOUGHT_1 : Tok}
    {a_ONE : Addr} {dd_ONE : Option Addr} {n_ONE : Nat} {sl_ONE : Array (Option Value)} {u_ONE_0 u_ONE_1 : Tok}
    {t_MOST_ROOMS : Tok}
    {t_FIGURES : Tok}
    {t_MOST_FIGURES : Tok}
    (a0 : PySem.W.nsIn K mainGlobals "is_whole" = some (some (.ref f0))) (l0 : K.lookup f0 = some ⟨oc0, od0, .func (PySem.W.fnOf "is_whole" "is_whole" (defArgs s_is_whole) (defBody s_is_whole) (defScope s_is_whole) .none kV0 dc0 pm0 an0 cd0 ct0), sl0⟩) (c0 : PySem.W.codeIn K cd0 "is_whole" = true) (k0 : PySem.W.keepIn K (.ref f0) = true)
    (a1 : PySem.W.nsIn K mainGlobals "common_divisor" = some (some (.ref f1))) (l1 : K.lookup f1 = some ⟨oc1, od1, .func (PySem.W.fnOf "common_divisor" "common_divisor" (defArgs s_common_divisor) (defBody s_common_divisor) (defScope s_common_divisor) .none kV1 dc1 pm1 an1 cd1 ct1), sl1⟩) (c1 : PySem.W.codeIn K cd1 "common_divisor" = true) (k1 : PySem.W.keepIn K (.ref f1) = true)
    (a2 : PySem.W.nsIn K mainGlobals "is_fraction" = some (some (.ref f2))) (l2 : K.lookup f2 = some ⟨oc2, od2, .func (PySem.W.fnOf "is_fraction" "is_fraction" (defArgs s_is_fraction) (defBody s_is_fraction) (defScope s_is_fraction) .none kV2 dc2 pm2 an2 cd2 ct2), sl2⟩) (c2 : PySem.W.codeIn K cd2 "is_fraction" = true) (k2 : PySem.W.keepIn K (.ref f2) = true)
    (a3 : PySem.W.nsIn K mainGlobals "reduced" = some (some (.ref f3))) (l3 : K.lookup f3 = some ⟨oc3, od3, .func (PySem.W.fnOf "reduced" "reduced" (defArgs s_reduced) (defBody s_reduced) (defScope s_reduced) .none kV3 dc3 pm3 an3 cd3 ct3), sl3⟩) (c3 : PySem.W.codeIn K cd3 "reduced" = true) (k3 : PySem.W.keepIn K (.ref f3) = true)
    (a4 : PySem.W.nsIn K mainGlobals "plus" = some (some (.ref f4))) (l4 : K.lookup f4 = some ⟨oc4, od4, .func (PySem.W.fnOf "plus" "plus" (defArgs s_plus) (defBody s_plus) (defScope s_plus) .none kV4 dc4 pm4 an4 cd4 ct4), sl4⟩) (c4 : PySem.W.codeIn K cd4 "plus" = true) (k4 : PySem.W.keepIn K (.ref f4) = true)
    (a5 : PySem.W.nsIn K mainGlobals "total" = some (some (.ref f5))) (l5 : K.lookup f5 = some ⟨oc5, od5, .func (PySem.W.fnOf "total" "total" (defArgs s_total) (defBody s_total) (defScope s_total) .none kV5 dc5 pm5 an5 cd5 ct5), sl5⟩) (c5 : PySem.W.codeIn K cd5 "total" = true) (k5 : PySem.W.keepIn K (.ref f5) = true)
    (a6 : PySem.W.nsIn K mainGlobals "is_room" = some (some (.ref f6))) (l6 : K.lookup f6 = some ⟨oc6, od6, .func (PySem.W.fnOf "is_room" "is_room" (defArgs s_is_room) (defBody s_is_room) (defScope s_is_room) .none kV6 dc6 pm6 an6 cd6 ct6), sl6⟩) (c6 : PySem.W.codeIn K cd6 "is_room" = true) (k6 : PySem.W.keepIn K (.ref f6) = true)
    (a7 : PySem.W.nsIn K mainGlobals "is_pair" = some (some (.ref f7))) (l7 : K.lookup f7 = some ⟨oc7, od7, .func (PySem.W.fnOf "is_pair" "is_pair" (defArgs s_is_pair) (defBody s_is_pair) (defScope s_is_pair) .none kV7 dc7 pm7 an7 cd7 ct7), sl7⟩) (c7 : PySem.W.codeIn K cd7 "is_pair" = true) (k7 : PySem.W.keepIn K (.ref f7) = true)
    (a8 : PySem.W.nsIn K mainGlobals "is_spread" = some (some (.ref f8))) (l8 : K.lookup f8 = some ⟨oc8, od8, .func (PySem.W.fnOf "is_spread" "is_spread" (defArgs s_is_spread) (defBody s_is_spread) (defScope s_is_spread) .none kV8 dc8 pm8 an8 cd8 ct8), sl8⟩) (c8 : PySem.W.codeIn K cd8 "is_spread" = true) (k8 : PySem.W.keepIn K (.ref f8) = true)
    (a9 : PySem.W.nsIn K mainGlobals "is_walk" = some (some (.ref f9))) (l9 : K.lookup f9 = some ⟨oc9, od9, .func (PySem.W.fnOf "is_walk" "is_walk" (defArgs s_is_walk) (defBody s_is_walk) (defScope s_is_walk) .none kV9 dc9 pm9 an9 cd9 ct9), sl9⟩) (c9 : PySem.W.codeIn K cd9 "is_walk" = true) (k9 : PySem.W.keepIn K (.ref f9) = true)
    (a10 : PySem.W.nsIn K mainGlobals "checked" = some (some (.ref f10))) (l10 : K.lookup f10 = some ⟨oc10, od10, .func (PySem.W.fnOf "checked" "checked" (defArgs s_checked) (defBody s_checked) (defScope s_checked) .none kV10 dc10 pm10 an10 cd10 ct10), sl10⟩) (c10 : PySem.W.codeIn K cd10 "checked" = true) (k10 : PySem.W.keepIn K (.ref f10) = true)
    (a11 : PySem.W.nsIn K mainGlobals "share_shown" = some (some (.ref f11))) (l11 : K.lookup f11 = some ⟨oc11, od11, .func (PySem.W.fnOf "share_shown" "share_shown" (defArgs s_share_shown) (defBody s_share_shown) (defScope s_share_shown) .none kV11 dc11 pm11 an11 cd11 ct11), sl11⟩) (c11 : PySem.W.codeIn K cd11 "share_shown" = true) (k11 : PySem.W.keepIn K (.ref f11) = true)
    (a12 : PySem.W.nsIn K mainGlobals "pair_shown" = some (some (.ref f12))) (l12 : K.lookup f12 = some ⟨oc12, od12, .func (PySem.W.fnOf "pair_shown" "pair_shown" (defArgs s_pair_shown) (defBody s_pair_shown) (defScope s_pair_shown) .none kV12 dc12 pm12 an12 cd12 ct12), sl12⟩) (c12 : PySem.W.codeIn K cd12 "pair_shown" = true) (k12 : PySem.W.keepIn K (.ref f12) = true)
    (a13 : PySem.W.nsIn K mainGlobals "spread_shown" = some (some (.ref f13))) (l13 : K.lookup f13 = some ⟨oc13, od13, .func (PySem.W.fnOf "spread_shown" "spread_shown" (defArgs s_spread_shown) (defBody s_spread_shown) (defScope s_spread_shown) .none kV13 dc13 pm13 an13 cd13 ct13), sl13⟩) (c13 : PySem.W.codeIn K cd13 "spread_shown" = true) (k13 : PySem.W.keepIn K (.ref f13) = true)
    (a14 : PySem.W.nsIn K mainGlobals "shown" = some (some (.ref f14))) (l14 : K.lookup f14 = some ⟨oc14, od14, .func (PySem.W.fnOf "shown" "shown" (defArgs s_shown) (defBody s_shown) (defScope s_shown) .none kV14 dc14 pm14 an14 cd14 ct14), sl14⟩) (c14 : PySem.W.codeIn K cd14 "shown" = true) (k14 : PySem.W.keepIn K (.ref f14) = true)
    (a15 : PySem.W.nsIn K mainGlobals "number_read" = some (some (.ref f15))) (l15 : K.lookup f15 = some ⟨oc15, od15, .func (PySem.W.fnOf "number_read" "number_read" (defArgs s_number_read) (defBody s_number_read) (defScope s_number_read) .none kV15 dc15 pm15 an15 cd15 ct15), sl15⟩) (c15 : PySem.W.codeIn K cd15 "number_read" = true) (k15 : PySem.W.keepIn K (.ref f15) = true)
    (a16 : PySem.W.nsIn K mainGlobals "share_read" = some (some (.ref f16))) (l16 : K.lookup f16 = some ⟨oc16, od16, .func (PySem.W.fnOf "share_read" "share_read" (defArgs s_share_read) (defBody s_share_read) (defScope s_share_read) .none kV16 dc16 pm16 an16 cd16 ct16), sl16⟩) (c16 : PySem.W.codeIn K cd16 "share_read" = true) (k16 : PySem.W.keepIn K (.ref f16) = true)
    (a17 : PySem.W.nsIn K mainGlobals "pair_read" = some (some (.ref f17))) (l17 : K.lookup f17 = some ⟨oc17, od17, .func (PySem.W.fnOf "pair_read" "pair_read" (defArgs s_pair_read) (defBody s_pair_read) (defScope s_pair_read) .none kV17 dc17 pm17 an17 cd17 ct17), sl17⟩) (c17 : PySem.W.codeIn K cd17 "pair_read" = true) (k17 : PySem.W.keepIn K (.ref f17) = true)
    (a18 : PySem.W.nsIn K mainGlobals "spread_read" = some (some (.ref f18))) (l18 : K.lookup f18 = some ⟨oc18, od18, .func (PySem.W.fnOf "spread_read" "spread_read" (defArgs s_spread_read) (defBody s_spread_read) (defScope s_spread_read) .none kV18 dc18 pm18 an18 cd18 ct18), sl18⟩) (c18 : PySem.W.codeIn K cd18 "spread_read" = true) (k18 : PySem.W.keepIn K (.ref f18) = true)
    (a19 : PySem.W.nsIn K mainGlobals "read" = some (some (.ref f19))) (l19 : K.lookup f19 = some ⟨oc19, od19, .func (PySem.W.fnOf "read" "read" (defArgs s_read) (defBody s_read) (defScope s_read) .none kV19 dc19 pm19 an19 cd19 ct19), sl19⟩) (c19 : PySem.W.codeIn K cd19 "read" = true) (k19 : PySem.W.keepIn K (.ref f19) = true)
    (a20 : PySem.W.nsIn K mainGlobals "_law_cell_at" = some (some (.ref f20))) (l20 : K.lookup f20 = some ⟨oc20, od20, .func (PySem.W.fnOf "_law_cell_at" "_law_cell_at" (defArgs s_law_cell_at) (defBody s_law_cell_at) (defScope s_law_cell_at) .none kV20 dc20 pm20 an20 cd20 ct20), sl20⟩) (c20 : PySem.W.codeIn K cd20 "_law_cell_at" = true) (k20 : PySem.W.keepIn K (.ref f20) = true)
    (a21 : PySem.W.nsIn K mainGlobals "_law_mixed" = some (some (.ref f21))) (l21 : K.lookup f21 = some ⟨oc21, od21, .func (PySem.W.fnOf "_law_mixed" "_law_mixed" (defArgs s_law_mixed) (defBody s_law_mixed) (defScope s_law_mixed) .none kV21 dc21 pm21 an21 cd21 ct21), sl21⟩) (c21 : PySem.W.codeIn K cd21 "_law_mixed" = true) (k21 : PySem.W.keepIn K (.ref f21) = true)
    (a22 : PySem.W.nsIn K mainGlobals "_law_divisor" = some (some (.ref f22))) (l22 : K.lookup f22 = some ⟨oc22, od22, .func (PySem.W.fnOf "_law_divisor" "_law_divisor" (defArgs s_law_divisor) (defBody s_law_divisor) (defScope s_law_divisor) .none kV22 dc22 pm22 an22 cd22 ct22), sl22⟩) (c22 : PySem.W.codeIn K cd22 "_law_divisor" = true) (k22 : PySem.W.keepIn K (.ref f22) = true)
    (a23 : PySem.W.nsIn K mainGlobals "_law_frac" = some (some (.ref f23))) (l23 : K.lookup f23 = some ⟨oc23, od23, .func (PySem.W.fnOf "_law_frac" "_law_frac" (defArgs s_law_frac) (defBody s_law_frac) (defScope s_law_frac) .none kV23 dc23 pm23 an23 cd23 ct23), sl23⟩) (c23 : PySem.W.codeIn K cd23 "_law_frac" = true) (k23 : PySem.W.keepIn K (.ref f23) = true)
    (a24 : PySem.W.nsIn K mainGlobals "_law_spread" = some (some (.ref f24))) (l24 : K.lookup f24 = some ⟨oc24, od24, .func (PySem.W.fnOf "_law_spread" "_law_spread" (defArgs s_law_spread) (defBody s_law_spread) (defScope s_law_spread) .none kV24 dc24 pm24 an24 cd24 ct24), sl24⟩) (c24 : PySem.W.codeIn K cd24 "_law_spread" = true) (k24 : PySem.W.keepIn K (.ref f24) = true)
    (a25 : PySem.W.nsIn K mainGlobals "_law_walk" = some (some (.ref f25))) (l25 : K.lookup f25 = some ⟨oc25, od25, .func (PySem.W.fnOf "_law_walk" "_law_walk" (defArgs s_law_walk) (defBody s_law_walk) (defScope s_law_walk) .none kV25 dc25 pm25 an25 cd25 ct25), sl25⟩) (c25 : PySem.W.codeIn K cd25 "_law_walk" = true) (k25 : PySem.W.keepIn K (.ref f25) = true)
    (a26 : PySem.W.nsIn K mainGlobals "_law_figures" = some (some (.ref f26))) (l26 : K.lookup f26 = some ⟨oc26, od26, .func (PySem.W.fnOf "_law_figures" "_law_figures" (defArgs s_law_figures) (defBody s_law_figures) (defScope s_law_figures) .none kV26 dc26 pm26 an26 cd26 ct26), sl26⟩) (c26 : PySem.W.codeIn K cd26 "_law_figures" = true) (k26 : PySem.W.keepIn K (.ref f26) = true)
    (a27 : PySem.W.nsIn K mainGlobals "law" = some (some (.ref f27))) (l27 : K.lookup f27 = some ⟨oc27, od27, .func (PySem.W.fnOf "law" "law" (defArgs s_law) (defBody s_law) (defScope s_law) .none kV27 dc27 pm27 an27 cd27 ct27), sl27⟩) (c27 : PySem.W.codeIn K cd27 "law" = true) (k27 : PySem.W.keepIn K (.ref f27) = true)
    (z_len : PySem.W.nsIn K mainGlobals "len" = some none)
    (z_abs : PySem.W.nsIn K mainGlobals "abs" = some none)
    (z_range : PySem.W.nsIn K mainGlobals "range" = some none)
    (z_sum : PySem.W.nsIn K mainGlobals "sum" = some none)
    (z_tuple : PySem.W.nsIn K mainGlobals "tuple" = some none)
    (z_list : PySem.W.nsIn K mainGlobals "list" = some none)
    (z_sorted : PySem.W.nsIn K mainGlobals "sorted" = some none)
    (z_isinstance : PySem.W.nsIn K mainGlobals "isinstance" = some none)
    (z_int : PySem.W.nsIn K mainGlobals "int" = some none)
    (z_bool : PySem.W.nsIn K mainGlobals "bool" = some none)
    (z_all : PySem.W.nsIn K mainGlobals "all" = some none)
    (z_str : PySem.W.nsIn K mainGlobals "str" = some none)
    (m_NOUGHT : PySem.W.nsIn K mainGlobals "NOUGHT" = some (some (.ref a_NOUGHT))) (o_NOUGHT : K.lookup a_NOUGHT = some ⟨.type "tuple", dd_NOUGHT, .seq #[.int 0 u_NOUGHT_0, .int 1 u_NOUGHT_1] n_NOUGHT, sl_NOUGHT⟩)
    (m_ONE : PySem.W.nsIn K mainGlobals "ONE" = some (some (.ref a_ONE))) (o_ONE : K.lookup a_ONE = some ⟨.type "tuple", dd_ONE, .seq #[.int 1 u_ONE_0, .int 1 u_ONE_1] n_ONE, sl_ONE⟩)
    (m_MOST_ROOMS : PySem.W.nsIn K mainGlobals "MOST_ROOMS" = some (some (.int 8 t_MOST_ROOMS)))
    (m_FIGURES : PySem.W.nsIn K mainGlobals "FIGURES" = some (some (.str "0123456789" t_FIGURES)))
    (m_MOST_FIGURES : PySem.W.nsIn K mainGlobals "MOST_FIGURES" = some (some (.int 30 t_MOST_FIGURES)))
    : ∃ fd : FuncData, (∀ (s : Shared) (v : Value), BindsTo s fd ⟨[v], []⟩ [("_law_script", v)]) ∧ ∀ base : Heap, K.In base → base.Ns mainGlobals mg → FnOk l.prog w K mg base CX0 10 fa fd ["_law_script"] (spLaw K) := by
  have e := hfa.symm.trans (PySem.W.mg_of X G a27)
  cases e
  have D_is_whole : Df K mg "is_whole" s_is_whole p_is_whole f0 (PySem.W.fnOf "is_whole" "is_whole" (defArgs s_is_whole) (defBody s_is_whole) (defScope s_is_whole) .none kV0 dc0 pm0 an0 cd0 ct0) := ⟨fun_mk l0 c0 k0, (fun_mk (st := s_is_whole) l0 c0 k0).binds (ps := p_is_whole) fun _ _ _ _ _ _ us hl => match us, hl with | [_], _ => rfl, PySem.W.mg_of X G a0⟩
  have D_common_divisor : Df K mg "common_divisor" s_common_divisor p_common_divisor f1 (PySem.W.fnOf "common_divisor" "common_divisor" (defArgs s_common_divisor) (defBody s_common_divisor) (defScope s_common_divisor) .none kV1 dc1 pm1 an1 cd1 ct1) := ⟨fun_mk l1 c1 k1, (fun_mk (st := s_common_divisor) l1 c1 k1).binds (ps := p_common_divisor) fun _ _ _ _ _ _ us hl => match us, hl with | [_, _], _ => rfl, PySem.W.mg_of X G a1⟩
  have D_is_fraction : Df K mg "is_fraction" s_is_fraction p_is_fraction f2 (PySem.W.fnOf "is_fraction" "is_fraction" (defArgs s_is_fraction) (defBody s_is_fraction) (defScope s_is_fraction) .none kV2 dc2 pm2 an2 cd2 ct2) := ⟨fun_mk l2 c2 k2, (fun_mk (st := s_is_fraction) l2 c2 k2).binds (ps := p_is_fraction) fun _ _ _ _ _ _ us hl => match us, hl with | [_], _ => rfl, PySem.W.mg_of X G a2⟩
  have D_reduced : Df K mg "reduced" s_reduced p_reduced f3 (PySem.W.fnOf "reduced" "reduced" (defArgs s_reduced) (defBody s_reduced) (defScope s_reduced) .none kV3 dc3 pm3 an3 cd3 ct3) := ⟨fun_mk l3 c3 k3, (fun_mk (st := s_reduced) l3 c3 k3).binds (ps := p_reduced) fun _ _ _ _ _ _ us hl => match us, hl with | [_, _], _ => rfl, PySem.W.mg_of X G a3⟩
  have D_plus : Df K mg "plus" s_plus p_plus f4 (PySem.W.fnOf "plus" "plus" (defArgs s_plus) (defBody s_plus) (defScope s_plus) .none kV4 dc4 pm4 an4 cd4 ct4) := ⟨fun_mk l4 c4 k4, (fun_mk (st := s_plus) l4 c4 k4).binds (ps := p_plus) fun _ _ _ _ _ _ us hl => match us, hl with | [_, _], _ => rfl, PySem.W.mg_of X G a4⟩
  have D_total : Df K mg "total" s_total p_total f5 (PySem.W.fnOf "total" "total" (defArgs s_total) (defBody s_total) (defScope s_total) .none kV5 dc5 pm5 an5 cd5 ct5) := ⟨fun_mk l5 c5 k5, (fun_mk (st := s_total) l5 c5 k5).binds (ps := p_total) fun _ _ _ _ _ _ us hl => match us, hl with | [_], _ => rfl, PySem.W.mg_of X G a5⟩
  have D_is_room : Df K mg "is_room" s_is_room p_is_room f6 (PySem.W.fnOf "is_room" "is_room" (defArgs s_is_room) (defBody s_is_room) (defScope s_is_room) .none kV6 dc6 pm6 an6 cd6 ct6) := ⟨fun_mk l6 c6 k6, (fun_mk (st := s_is_room) l6 c6 k6).binds (ps := p_is_room) fun _ _ _ _ _ _ us hl => match us, hl with | [_, _], _ => rfl, PySem.W.mg_of X G a6⟩
  have D_is_pair : Df K mg "is_pair" s_is_pair p_is_pair f7 (PySem.W.fnOf "is_pair" "is_pair" (defArgs s_is_pair) (defBody s_is_pair) (defScope s_is_pair) .none kV7 dc7 pm7 an7 cd7 ct7) := ⟨fun_mk l7 c7 k7, (fun_mk (st := s_is_pair) l7 c7 k7).binds (ps := p_is_pair) fun _ _ _ _ _ _ us hl => match us, hl with | [_, _], _ => rfl, PySem.W.mg_of X G a7⟩
  have D_is_spread : Df K mg "is_spread" s_is_spread p_is_spread f8 (PySem.W.fnOf "is_spread" "is_spread" (defArgs s_is_spread) (defBody s_is_spread) (defScope s_is_spread) .none kV8 dc8 pm8 an8 cd8 ct8) := ⟨fun_mk l8 c8 k8, (fun_mk (st := s_is_spread) l8 c8 k8).binds (ps := p_is_spread) fun _ _ _ _ _ _ us hl => match us, hl with | [_, _], _ => rfl, PySem.W.mg_of X G a8⟩
  have D_is_walk : Df K mg "is_walk" s_is_walk p_is_walk f9 (PySem.W.fnOf "is_walk" "is_walk" (defArgs s_is_walk) (defBody s_is_walk) (defScope s_is_walk) .none kV9 dc9 pm9 an9 cd9 ct9) := ⟨fun_mk l9 c9 k9, (fun_mk (st := s_is_walk) l9 c9 k9).binds (ps := p_is_walk) fun _ _ _ _ _ _ us hl => match us, hl with | [_], _ => rfl, PySem.W.mg_of X G a9⟩
  have D_checked : Df K mg "checked" s_checked p_checked f10 (PySem.W.fnOf "checked" "checked" (defArgs s_checked) (defBody s_checked) (defScope s_checked) .none kV10 dc10 pm10 an10 cd10 ct10) := ⟨fun_mk l10 c10 k10, (fun_mk (st := s_checked) l10 c10 k10).binds (ps := p_checked) fun _ _ _ _ _ _ us hl => match us, hl with | [_], _ => rfl, PySem.W.mg_of X G a10⟩
  have D_share_shown : Df K mg "share_shown" s_share_shown p_share_shown f11 (PySem.W.fnOf "share_shown" "share_shown" (defArgs s_share_shown) (defBody s_share_shown) (defScope s_share_shown) .none kV11 dc11 pm11 an11 cd11 ct11) := ⟨fun_mk l11 c11 k11, (fun_mk (st := s_share_shown) l11 c11 k11).binds (ps := p_share_shown) fun _ _ _ _ _ _ us hl => match us, hl with | [_], _ => rfl, PySem.W.mg_of X G a11⟩
  have D_pair_shown : Df K mg "pair_shown" s_pair_shown p_pair_shown f12 (PySem.W.fnOf "pair_shown" "pair_shown" (defArgs s_pair_shown) (defBody s_pair_shown) (defScope s_pair_shown) .none kV12 dc12 pm12 an12 cd12 ct12) := ⟨fun_mk l12 c12 k12, (fun_mk (st := s_pair_shown) l12 c12 k12).binds (ps := p_pair_shown) fun _ _ _ _ _ _ us hl => match us, hl with | [_], _ => rfl, PySem.W.mg_of X G a12⟩
  have D_spread_shown : Df K mg "spread_shown" s_spread_shown p_spread_shown f13 (PySem.W.fnOf "spread_shown" "spread_shown" (defArgs s_spread_shown) (defBody s_spread_shown) (defScope s_spread_shown) .none kV13 dc13 pm13 an13 cd13 ct13) := ⟨fun_mk l13 c13 k13, (fun_mk (st := s_spread_shown) l13 c13 k13).binds (ps := p_spread_shown) fun _ _ _ _ _ _ us hl => match us, hl with | [_], _ => rfl, PySem.W.mg_of X G a13⟩
  have D_shown : Df K mg "shown" s_shown p_shown f14 (PySem.W.fnOf "shown" "shown" (defArgs s_shown) (defBody s_shown) (defScope s_shown) .none kV14 dc14 pm14 an14 cd14 ct14) := ⟨fun_mk l14 c14 k14, (fun_mk (st := s_shown) l14 c14 k14).binds (ps := p_shown) fun _ _ _ _ _ _ us hl => match us, hl with | [_], _ => rfl, PySem.W.mg_of X G a14⟩
  have D_number_read : Df K mg "number_read" s_number_read p_number_read f15 (PySem.W.fnOf "number_read" "number_read" (defArgs s_number_read) (defBody s_number_read) (defScope s_number_read) .none kV15 dc15 pm15 an15 cd15 ct15) := ⟨fun_mk l15 c15 k15, (fun_mk (st := s_number_read) l15 c15 k15).binds (ps := p_number_read) fun _ _ _ _ _ _ us hl => match us, hl with | [_], _ => rfl, PySem.W.mg_of X G a15⟩
  have D_share_read : Df K mg "share_read" s_share_read p_share_read f16 (PySem.W.fnOf "share_read" "share_read" (defArgs s_share_read) (defBody s_share_read) (defScope s_share_read) .none kV16 dc16 pm16 an16 cd16 ct16) := ⟨fun_mk l16 c16 k16, (fun_mk (st := s_share_read) l16 c16 k16).binds (ps := p_share_read) fun _ _ _ _ _ _ us hl => match us, hl with | [_], _ => rfl, PySem.W.mg_of X G a16⟩
  have D_pair_read : Df K mg "pair_read" s_pair_read p_pair_read f17 (PySem.W.fnOf "pair_read" "pair_read" (defArgs s_pair_read) (defBody s_pair_read) (defScope s_pair_read) .none kV17 dc17 pm17 an17 cd17 ct17) := ⟨fun_mk l17 c17 k17, (fun_mk (st := s_pair_read) l17 c17 k17).binds (ps := p_pair_read) fun _ _ _ _ _ _ us hl => match us, hl with | [_], _ => rfl, PySem.W.mg_of X G a17⟩
  have D_spread_read : Df K mg "spread_read" s_spread_read p_spread_read f18 (PySem.W.fnOf "spread_read" "spread_read" (defArgs s_spread_read) (defBody s_spread_read) (defScope s_spread_read) .none kV18 dc18 pm18 an18 cd18 ct18) := ⟨fun_mk l18 c18 k18, (fun_mk (st := s_spread_read) l18 c18 k18).binds (ps := p_spread_read) fun _ _ _ _ _ _ us hl => match us, hl with | [_], _ => rfl, PySem.W.mg_of X G a18⟩
  have D_read : Df K mg "read" s_read p_read f19 (PySem.W.fnOf "read" "read" (defArgs s_read) (defBody s_read) (defScope s_read) .none kV19 dc19 pm19 an19 cd19 ct19) := ⟨fun_mk l19 c19 k19, (fun_mk (st := s_read) l19 c19 k19).binds (ps := p_read) fun _ _ _ _ _ _ us hl => match us, hl with | [_], _ => rfl, PySem.W.mg_of X G a19⟩
  have D_law_cell_at : Df K mg "_law_cell_at" s_law_cell_at p_law_cell_at f20 (PySem.W.fnOf "_law_cell_at" "_law_cell_at" (defArgs s_law_cell_at) (defBody s_law_cell_at) (defScope s_law_cell_at) .none kV20 dc20 pm20 an20 cd20 ct20) := ⟨fun_mk l20 c20 k20, (fun_mk (st := s_law_cell_at) l20 c20 k20).binds (ps := p_law_cell_at) fun _ _ _ _ _ _ us hl => match us, hl with | [_, _], _ => rfl, PySem.W.mg_of X G a20⟩
  have D_law_mixed : Df K mg "_law_mixed" s_law_mixed p_law_mixed f21 (PySem.W.fnOf "_law_mixed" "_law_mixed" (defArgs s_law_mixed) (defBody s_law_mixed) (defScope s_law_mixed) .none kV21 dc21 pm21 an21 cd21 ct21) := ⟨fun_mk l21 c21 k21, (fun_mk (st := s_law_mixed) l21 c21 k21).binds (ps := p_law_mixed) fun _ _ _ _ _ _ us hl => match us, hl with | [_, _, _], _ => rfl, PySem.W.mg_of X G a21⟩
  have D_law_divisor : Df K mg "_law_divisor" s_law_divisor p_law_divisor f22 (PySem.W.fnOf "_law_divisor" "_law_divisor" (defArgs s_law_divisor) (defBody s_law_divisor) (defScope s_law_divisor) .none kV22 dc22 pm22 an22 cd22 ct22) := ⟨fun_mk l22 c22 k22, (fun_mk (st := s_law_divisor) l22 c22 k22).binds (ps := p_law_divisor) fun _ _ _ _ _ _ us hl => match us, hl with | [_, _], _ => rfl, PySem.W.mg_of X G a22⟩
  have D_law_frac : Df K mg "_law_frac" s_law_frac p_law_frac f23 (PySem.W.fnOf "_law_frac" "_law_frac" (defArgs s_law_frac) (defBody s_law_frac) (defScope s_law_frac) .none kV23 dc23 pm23 an23 cd23 ct23) := ⟨fun_mk l23 c23 k23, (fun_mk (st := s_law_frac) l23 c23 k23).binds (ps := p_law_frac) fun _ _ _ _ _ _ us hl => match us, hl with | [_, _], _ => rfl, PySem.W.mg_of X G a23⟩
  have D_law_spread : Df K mg "_law_spread" s_law_spread p_law_spread f24 (PySem.W.fnOf "_law_spread" "_law_spread" (defArgs s_law_spread) (defBody s_law_spread) (defScope s_law_spread) .none kV24 dc24 pm24 an24 cd24 ct24) := ⟨fun_mk l24 c24 k24, (fun_mk (st := s_law_spread) l24 c24 k24).binds (ps := p_law_spread) fun _ _ _ _ _ _ us hl => match us, hl with | [_, _, _], _ => rfl, PySem.W.mg_of X G a24⟩
  have D_law_walk : Df K mg "_law_walk" s_law_walk p_law_walk f25 (PySem.W.fnOf "_law_walk" "_law_walk" (defArgs s_law_walk) (defBody s_law_walk) (defScope s_law_walk) .none kV25 dc25 pm25 an25 cd25 ct25) := ⟨fun_mk l25 c25 k25, (fun_mk (st := s_law_walk) l25 c25 k25).binds (ps := p_law_walk) fun _ _ _ _ _ _ us hl => match us, hl with | [_, _], _ => rfl, PySem.W.mg_of X G a25⟩
  have D_law_figures : Df K mg "_law_figures" s_law_figures p_law_figures f26 (PySem.W.fnOf "_law_figures" "_law_figures" (defArgs s_law_figures) (defBody s_law_figures) (defScope s_law_figures) .none kV26 dc26 pm26 an26 cd26 ct26) := ⟨fun_mk l26 c26 k26, (fun_mk (st := s_law_figures) l26 c26 k26).binds (ps := p_law_figures) fun _ _ _ _ _ _ us hl => match us, hl with | [_], _ => rfl, PySem.W.mg_of X G a26⟩
  have D_law : Df K mg "law" s_law p_law fa (PySem.W.fnOf "law" "law" (defArgs s_law) (defBody s_law) (defScope s_law) .none kV27 dc27 pm27 an27 cd27 ct27) := ⟨fun_mk l27 c27 k27, (fun_mk (st := s_law) l27 c27 k27).binds (ps := p_law) fun _ _ _ _ _ _ us hl => match us, hl with | [_], _ => rfl, PySem.W.mg_of X G a27⟩
  have nb_len := PySem.W.mg_none_of X G z_len
  have nb_abs := PySem.W.mg_none_of X G z_abs
  have nb_range := PySem.W.mg_none_of X G z_range
  have nb_sum := PySem.W.mg_none_of X G z_sum
  have nb_tuple := PySem.W.mg_none_of X G z_tuple
  have nb_list := PySem.W.mg_none_of X G z_list
  have nb_sorted := PySem.W.mg_none_of X G z_sorted
  have nb_isinstance := PySem.W.mg_none_of X G z_isinstance
  have nb_int := PySem.W.mg_none_of X G z_int
  have nb_bool := PySem.W.mg_none_of X G z_bool
  have nb_all := PySem.W.mg_none_of X G z_all
  have nb_str := PySem.W.mg_none_of X G z_str
  have B : Bn mg := ⟨nb_len, nb_abs, nb_range, nb_sum, nb_tuple, nb_list, nb_sorted, nb_isinstance, nb_int, nb_bool, nb_all⟩
  have Cm_NOUGHT := PySem.W.mg_of X G m_NOUGHT
  have Cs_NOUGHT : ∀ H : Hp, SqT K H a_NOUGHT [.int 0, .int 1] := fun H => .inr ⟨_, _, _, o_NOUGHT, rfl, rfl, (by show 2 ≤ sizeLine; decide), .cons ⟨_, rfl⟩ (.cons ⟨_, rfl⟩ (.nil))⟩
  have Cm_ONE := PySem.W.mg_of X G m_ONE
  have Cs_ONE : ∀ H : Hp, SqT K H a_ONE [.int 1, .int 1] := fun H => .inr ⟨_, _, _, o_ONE, rfl, rfl, (by show 2 ≤ sizeLine; decide), .cons ⟨_, rfl⟩ (.cons ⟨_, rfl⟩ (.nil))⟩
  have Cm_MOST_ROOMS := PySem.W.mg_of X G m_MOST_ROOMS
  have Cm_FIGURES := PySem.W.mg_of X G m_FIGURES
  have Cm_MOST_FIGURES := PySem.W.mg_of X G m_MOST_FIGURES
  refine ⟨(PySem.W.fnOf "law" "law" (defArgs s_law) (defBody s_law) (defScope s_law) .none kV27 dc27 pm27 an27 cd27 ct27), fun s v => .of_eq rfl, fun base _ _ => ?_⟩
  have Cst_ : Cst K mg a_NOUGHT a_ONE t_MOST_ROOMS := ⟨Cm_NOUGHT, Cs_NOUGHT, Cm_ONE, Cs_ONE, Cm_MOST_ROOMS⟩
  have RmV := ok_is_roomV (P := l.prog) (w := w) (base := base) B D_is_room D_is_whole
  have FrV := ok_is_fractionV (P := l.prog) (w := w) (base := base) B D_is_fraction D_is_whole D_common_divisor
  have PrV := ok_is_pairV B RmV FrV D_is_pair D_is_room D_is_fraction
  have PlR := ok_plusR (P := l.prog) (w := w) (base := base) B D_plus D_reduced D_common_divisor
  have ToR := ok_totalR Cst_ PlR D_total D_plus
  have SpV := ok_is_spreadV B Cst_ PrV ToR D_is_spread D_is_pair D_total
  have WlV := ok_is_walkV B Cst_ SpV D_is_walk D_is_spread
  have CkV := ok_checkedV WlV D_checked D_is_walk
  have ShS := ok_share_shown (P := l.prog) (w := w) (base := base) Cst_ D_share_shown
  have PrS := ok_pair_shown ShS D_pair_shown D_share_shown
  have SpS := ok_spread_shown PrS D_spread_shown D_pair_shown
  have Shn := ok_shown CkV SpS D_shown D_checked D_spread_shown
  have NuR := ok_number_read (P := l.prog) (w := w) (base := base) B Cm_MOST_FIGURES Cm_FIGURES D_number_read
  have ShR := ok_share_read B NuR D_share_read D_number_read
  have PrR := ok_pair_read B NuR ShR D_pair_read D_number_read D_share_read
  have SpR := ok_spread_read B PrR D_spread_read D_pair_read
  have Rd := ok_read B nb_str SpR WlV Shn D_read D_spread_read D_is_walk D_shown
  exact ok_law B nb_str (ok_law_walk B D_law_walk D_law_spread D_law_cell_at D_law_mixed D_law_divisor D_law_frac) (ok_law_figures D_law_figures) Shn Rd D_law D_law_walk D_law_figures D_shown D_read
theorem walk {l : PySem.W.OpenLaw} {q : Program} {loose : List Str} {XP : (Str → Option Value) → Heap → Prop} {YP : World → Heap → Prop} {d : DefRec} {K : Params → PySem.W.Frag} (hn : l.most = some 63) (hdf : d.params.defaults = [])
    (hY : ∀ (w : World) (h : Heap), YP w h → (K w.params).In h)
    (F : ∀ (w : World) (mg : Str → Option Value) (fa : Addr) (h : Heap), (K w.params).In h → h.Ns mainGlobals mg → mg d.name = some (.ref fa) →
      ∃ fd : FuncData, (∀ (s : Shared) (u : Value), BindsTo s fd ⟨[u], []⟩ [("_law_script", u)]) ∧ ∀ base : Heap, (K w.params).In base → base.Ns mainGlobals mg → FnOk l.prog w (K w.params) mg base CX0 10 fa fd ["_law_script"] (spLaw (K w.params))) :
    PySem.W.WalkO q loose XP YP l.row.toRowW d [] (fun f vs => PySem.call f vs) :=
  L2.walk_of (n := 63) (k := 10) (x := "_law_script") (CX := fun _ => CX0) (sp := fun w => spLaw (K w.params)) hn (by decide) hdf ⟨rfl, by decide, by decide⟩ hY F (fun _ _ a ns hl _ hS => ⟨a, ns, rfl, hS, fun _ => rfl⟩) fun _ _ _ _ _ z => z
end Lw
open PySem PySem.W PyProof.Rows
set_option maxRecDepth 100000 in
set_option maxHeartbeats 0 in
theorem PySem.Challenge.cw_lotwander_k18_texts_there_and_back_holds : PySem.Challenge.rw_lotwander_k18_texts_there_and_back.Holds := by
  w_on; o_law; k_head; (case hw => w_witness2)
  k_fill
  refine Lw.walk (l := PySem.Challenge.rw_lotwander_k18_texts_there_and_back) rfl rfl (fun w h Y => PySem.W.kIn_of Y) ?F
  case F =>
    intro w mg fa h KX G hmg
    refine' Lw.all_mk KX G hmg ?a0 ?l0 ?c0 ?k0 ?a1 ?l1 ?c1 ?k1 ?a2 ?l2 ?c2 ?k2 ?a3 ?l3 ?c3 ?k3 ?a4 ?l4 ?c4 ?k4 ?a5 ?l5 ?c5 ?k5 ?a6 ?l6 ?c6 ?k6 ?a7 ?l7 ?c7 ?k7 ?a8 ?l8 ?c8 ?k8 ?a9 ?l9 ?c9 ?k9 ?a10 ?l10 ?c10 ?k10 ?a11 ?l11 ?c11 ?k11 ?a12 ?l12 ?c12 ?k12 ?a13 ?l13 ?c13 ?k13 ?a14 ?l14 ?c14 ?k14 ?a15 ?l15 ?c15 ?k15 ?a16 ?l16 ?c16 ?k16 ?a17 ?l17 ?c17 ?k17 ?a18 ?l18 ?c18 ?k18 ?a19 ?l19 ?c19 ?k19 ?a20 ?l20 ?c20 ?k20 ?a21 ?l21 ?c21 ?k21 ?a22 ?l22 ?c22 ?k22 ?a23 ?l23 ?c23 ?k23 ?a24 ?l24 ?c24 ?k24 ?a25 ?l25 ?c25 ?k25 ?a26 ?l26 ?c26 ?k26 ?a27 ?l27 ?c27 ?k27 ?z_len ?z_abs ?z_range ?z_sum ?z_tuple ?z_list ?z_sorted ?z_isinstance ?z_int ?z_bool ?z_all ?z_str ?m_NOUGHT ?o_NOUGHT ?m_ONE ?o_ONE ?m_MOST_ROOMS ?m_FIGURES ?m_MOST_FIGURES
    (case a0 => k_is)
    (case l0 => k_is)
    (case c0 => k_is)
    (case k0 => k_is)
    (case a1 => k_is)
    (case l1 => k_is)
    (case c1 => k_is)
    (case k1 => k_is)
    (case a2 => k_is)
    (case l2 => k_is)
    (case c2 => k_is)
    (case k2 => k_is)
    (case a3 => k_is)
    (case l3 => k_is)
    (case c3 => k_is)
    (case k3 => k_is)
    (case a4 => k_is)
    (case l4 => k_is)
    (case c4 => k_is)
    (case k4 => k_is)
    (case a5 => k_is)
    (case l5 => k_is)
    (case c5 => k_is)
    (case k5 => k_is)
    (case a6 => k_is)
    (case l6 => k_is)
    (case c6 => k_is)
    (case k6 => k_is)
    (case a7 => k_is)
    (case l7 => k_is)
    (case c7 => k_is)
    (case k7 => k_is)
    (case a8 => k_is)
    (case l8 => k_is)
    (case c8 => k_is)
    (case k8 => k_is)
    (case a9 => k_is)
    (case l9 => k_is)
    (case c9 => k_is)
    (case k9 => k_is)
    (case a10 => k_is)
    (case l10 => k_is)
    (case c10 => k_is)
    (case k10 => k_is)
    (case a11 => k_is)
    (case l11 => k_is)
    (case c11 => k_is)
    (case k11 => k_is)
    (case a12 => k_is)
    (case l12 => k_is)
    (case c12 => k_is)
    (case k12 => k_is)
    (case a13 => k_is)
    (case l13 => k_is)
    (case c13 => k_is)
    (case k13 => k_is)
    (case a14 => k_is)
    (case l14 => k_is)
    (case c14 => k_is)
    (case k14 => k_is)
    (case a15 => k_is)
    (case l15 => k_is)
    (case c15 => k_is)
    (case k15 => k_is)
    (case a16 => k_is)
    (case l16 => k_is)
    (case c16 => k_is)
    (case k16 => k_is)
    (case a17 => k_is)
    (case l17 => k_is)
    (case c17 => k_is)
    (case k17 => k_is)
    (case a18 => k_is)
    (case l18 => k_is)
    (case c18 => k_is)
    (case k18 => k_is)
    (case a19 => k_is)
    (case l19 => k_is)
    (case c19 => k_is)
    (case k19 => k_is)
    (case a20 => k_is)
    (case l20 => k_is)
    (case c20 => k_is)
    (case k20 => k_is)
    (case a21 => k_is)
    (case l21 => k_is)
    (case c21 => k_is)
    (case k21 => k_is)
    (case a22 => k_is)
    (case l22 => k_is)
    (case c22 => k_is)
    (case k22 => k_is)
    (case a23 => k_is)
    (case l23 => k_is)
    (case c23 => k_is)
    (case k23 => k_is)
    (case a24 => k_is)
    (case l24 => k_is)
    (case c24 => k_is)
    (case k24 => k_is)
    (case a25 => k_is)
    (case l25 => k_is)
    (case c25 => k_is)
    (case k25 => k_is)
    (case a26 => k_is)
    (case l26 => k_is)
    (case c26 => k_is)
    (case k26 => k_is)
    (case a27 => k_is)
    (case l27 => k_is)
    (case c27 => k_is)
    (case k27 => k_is)
    (case z_len => k_is)
    (case z_abs => k_is)
    (case z_range => k_is)
    (case z_sum => k_is)
    (case z_tuple => k_is)
    (case z_list => k_is)
    (case z_sorted => k_is)
    (case z_isinstance => k_is)
    (case z_int => k_is)
    (case z_bool => k_is)
    (case z_all => k_is)
    (case z_str => k_is)
    (case m_NOUGHT => k_is)
    (case o_NOUGHT => k_is)
    (case m_ONE => k_is)
    (case o_ONE => k_is)
    (case m_MOST_ROOMS => k_is)
    (case m_FIGURES => k_is)
    (case m_MOST_FIGURES => k_is)
#print axioms PySem.Challenge.cw_lotwander_k18_texts_there_and_back_holds
