import PyProof.Rows.All
import Wide.All
import OpenK.AllK
import Wide.FinOn
import PyProof.EqAt
import PyProof.EqKinds
import PyProof.TupleCall
import KE.BitLaws
import PySem.Challenge.RW_fallstones_k81_normal_rows
set_option Elab.async false
set_option linter.all false
set_option maxRecDepth 100000
/-! THE HAND LAYER, for ints, bools, texts, own classes, lists, tuples, dicts, comprehensions, walks over dicts, enumerate, zip, reversed, texts, calls, loops. Paste it whole ahead of your own text; what your proof does not reach may be deleted. -/
namespace L2
open PySem PySem.Spec PyProof.Rows

/-- a key: an int or a str -/
abbrev Key := Sum Int Str
def keyIs : Key → Value → Bool
  | .inl k, v => Value.isInt k v
  | .inr x, v => Value.isStrOf x v
def keyH (w : World) : Key → Int
  | .inl k => hashInt k
  | .inr x => hashStr w x
theorem keyIs_shape : ∀ {k : Key} {v : Value}, keyIs k v = true → (∃ i t, k = Sum.inl i ∧ v = Value.int i t) ∨ (∃ x t, k = Sum.inr x ∧ v = Value.str x t)
  | .inl i, v, h => by
    obtain ⟨t, e⟩ := Value.isInt_shape (k := i) (v := v) h
    exact .inl ⟨i, t, rfl, e⟩
  | .inr x, v, h => by
    obtain ⟨t, e⟩ := Value.isStrOf_shape (x := x) (v := v) h
    exact .inr ⟨x, t, rfl, e⟩
theorem keyIs_int (i : Int) (t : Tok) : keyIs (.inl i) (.int i t) = true := by simp [keyIs, Value.isInt]
theorem keyIs_str (x : Str) (t : Tok) : keyIs (.inr x) (.str x t) = true := by simp [keyIs, Value.isStrOf]
theorem key_ll (a b : Int) : decide ((Sum.inl a : Key) = Sum.inl b) = (a == b) := by
  by_cases e : a = b
  · subst e; simp
  · have h : ¬ (Sum.inl a : Key) = Sum.inl b := fun q => e (Sum.inl.inj q)
    rw [decide_eq_false h]
    exact (beq_eq_false_iff_ne.mpr e).symm
theorem key_rr (a b : Str) : decide ((Sum.inr a : Key) = Sum.inr b) = decide (a = b) := by
  by_cases e : a = b
  · subst e; simp
  · have h : ¬ (Sum.inr a : Key) = Sum.inr b := fun q => e (Sum.inr.inj q)
    rw [decide_eq_false h, decide_eq_false e]
theorem key_lr (a : Int) (b : Str) : decide ((Sum.inl a : Key) = Sum.inr b) = false := decide_eq_false (fun q => nomatch q)
theorem key_rl (a : Str) (b : Int) : decide ((Sum.inr a : Key) = Sum.inl b) = false := decide_eq_false (fun q => nomatch q)

def mixKind (prog : Program) (w : World) : PySem.KeyKind prog w Key where
  is := keyIs
  hash := keyH w
  inj := fun v a b ha hb => by
    rcases keyIs_shape ha with ⟨i, t, rfl, rfl⟩ | ⟨x, t, rfl, rfl⟩
    · rcases keyIs_shape hb with ⟨j, u, rfl, e⟩ | ⟨y, u, rfl, e⟩
      · injection e with e1 _; rw [e1]
      · exact nomatch e
    · rcases keyIs_shape hb with ⟨j, u, rfl, e⟩ | ⟨y, u, rfl, e⟩
      · exact nomatch e
      · injection e with e1 _; rw [e1]
  byValue := fun k v h => by
    rcases keyIs_shape h with ⟨i, t, rfl, rfl⟩ | ⟨x, t, rfl, rfl⟩ <;> rfl
  pyHash := fun hv h => by
    rcases keyIs_shape hv with ⟨i, t, rfl, rfl⟩ | ⟨x, t, rfl, rfl⟩
    · exact wpAny_pyHash_int h
    · exact wpAny_pyHash_str h
  eqBool := fun hu hv h => by
    rcases keyIs_shape hu with ⟨i, t, rfl, rfl⟩ | ⟨x, t, rfl, rfl⟩
    · rcases keyIs_shape hv with ⟨j, u, rfl, rfl⟩ | ⟨y, u, rfl, rfl⟩
      · rw [key_ll] at h; exact wpAny_eqBool_int h
      · rw [key_lr] at h; exact SeqAt.EqAt.int_str i t y u _ _ _ _ h
    · rcases keyIs_shape hv with ⟨j, u, rfl, rfl⟩ | ⟨y, u, rfl, rfl⟩
      · rw [key_rl] at h; exact SeqAt.EqAt.str_int x t j u _ _ _ _ h
      · rw [key_rr] at h; exact wpAny_eqBool_str h
  «strs» := fun k x t v h => by
    rcases keyIs_shape h with ⟨i, u, rfl, e⟩ | ⟨y, u, rfl, e⟩
    · exact nomatch e
    · injection e with e1 _
      subst e1
      cases v <;> rfl

theorem mixKind_int (prog : Program) (w : World) (i : Int) (t : Tok) : (mixKind prog w).is (.inl i) (.int i t) = true := keyIs_int i t
theorem mixKind_str (prog : Program) (w : World) (x : Str) (t : Tok) : (mixKind prog w).is (.inr x) (.str x t) = true := keyIs_str x t
end L2

namespace L2
open PySem PySem.Spec PyProof.Rows

/-- a value, without the heap -/
inductive V where
  | non | bl (b : Bool) | int (i : Int) | str (x : Str) | byt (b : Array UInt8) | flt (b : UInt64) | ref (a : Addr) | ty (n : String)
  deriving DecidableEq

def RelV : V → Value → Prop
  | .non, u => u = Value.none
  | .bl b, u => u = Value.bool b
  | .int i, u => ∃ t, u = Value.int i t
  | .str x, u => ∃ t, u = Value.str x t
  | .byt b, u => ∃ t, u = Value.bytes b t
  | .flt b, u => ∃ t, u = Value.float b t
  | .ref a, u => u = Value.ref a
  | .ty n, u => u = Value.type n

abbrev Vals : List V → List Value → Prop := Paired RelV
theorem Vals.length {xs : List V} {us : List Value} (r : Vals xs us) : xs.length = us.length := Paired.length r
theorem Vals.get : ∀ {xs : List V} {us : List Value} {i : Nat} {x : V}, Vals xs us → xs[i]? = some x → ∃ u, us[i]? = some u ∧ RelV x u
  | _, _, _, _, .nil, e => by simp at e
  | _, _, 0, _, .cons r _, e => by simp at e; subst e; exact ⟨_, rfl, r⟩
  | _, _, i + 1, x, .cons _ t, e => by
    obtain ⟨u, h1, h2⟩ := Vals.get (i := i) (x := x) t (by simpa using e)
    exact ⟨u, by simpa using h1, h2⟩
theorem Vals.set {x : V} {u : Value} (r : RelV x u) : ∀ {xs : List V} {us : List Value} (i : Nat), Vals xs us → Vals (xs.set i x) (us.set i u)
  | _, _, _, .nil => .nil
  | _, _, 0, .cons _ t => .cons r t
  | _, _, i + 1, .cons q t => .cons q (Vals.set r i t)
theorem Vals.append : ∀ {xs ys : List V} {us ws : List Value}, Vals xs us → Vals ys ws → Vals (xs ++ ys) (us ++ ws)
  | _, _, _, _, .nil, s => s
  | _, _, _, _, .cons r t, s => .cons r (Vals.append t s)
theorem Vals.take : ∀ {xs : List V} {us : List Value} (n : Nat), Vals xs us → Vals (xs.take n) (us.take n)
  | _, _, 0, _ => .nil
  | _, _, _ + 1, .nil => .nil
  | _, _, n + 1, .cons r t => .cons r (Vals.take n t)
theorem Vals.drop : ∀ {xs : List V} {us : List Value} (n : Nat), Vals xs us → Vals (xs.drop n) (us.drop n)
  | _, _, 0, r => r
  | _, _, _ + 1, .nil => .nil
  | _, _, n + 1, .cons _ t => Vals.drop n t
theorem Vals.none_of : ∀ {xs : List V} {us : List Value} {i : Nat}, Vals xs us → xs[i]? = none → us[i]? = none := fun {xs us i} r e => by
  have h1 := r.length
  have h2 : xs.length ≤ i := List.getElem?_eq_none_iff.mp e
  exact List.getElem?_eq_none_iff.mpr (by omega)

def RelO : Option V → Option Value → Prop
  | some v, some u => RelV v u
  | none, none => True
  | _, _ => False
def KV {κ : Type} : List (κ × V) → List (κ × Value) → Prop := Paired fun (p : κ × V) (q : κ × Value) => p.1 = q.1 ∧ RelV p.2 q.2

/-- a key of a dict (00_mix): an int or a text -/
def kV : Key → V
  | .inl i => .int i
  | .inr x => .str x

/-- what stands at a tracked address -/
inductive HO where
  /-- a list -/
  | lst (xs : List V)
  /-- a tuple (never changes) -/
  | tup (xs : List V)
  /-- a dict whose keys are ints and texts; one whose keys are tuples of ints and texts (the empty one is both) -/
  | dK (kvs : List (Key × V)) | dT (kvs : List (List Key × V))
  /-- a set of ints: its members, its size -/
  | set (S : Int → Bool) (n : Nat)
  /-- an instance of the class at C, its dict at dx, its attributes -/
  | ins (C dx : Addr) (fs : List (Str × V))
  /-- the dict of the instance at x -/
  | own (x : Addr)
  /-- the dict of an exception -/
  | xd (fs : List (Str × V))
  /-- a bound method, f of x -/
  | met (f x : Addr)
  /-- a range object lo, lo + 1, .. below hi -/
  | rng (lo hi : Int)
  /-- a thing that is known to the object (the script; a dict while a loop walks it): read, never written while it is so -/
  | frz (o : Obj) (u : HO)
  /-- a code object's table -/
  | tbl (ps : Array Value)
  /-- any other thing, by what is true of its one object (a def of one's own: SetO a S n := HO.ext fun h => ..) -/
  | ext (φ : Heap → Prop)

abbrev Hp := Addr → Option HO
def upd (H : Hp) (a : Addr) (o : HO) : Hp := fun b => if b = a then some o else H b
theorem upd_same {H : Hp} {a : Addr} {o : HO} : upd H a o a = some o := by unfold upd; rw [if_pos rfl]
theorem upd_ne {H : Hp} {a b : Addr} {o : HO} (h : b ≠ a) : upd H a o b = H b := by unfold upd; rw [if_neg h]
theorem ne_of_none {H : Hp} {a b : Addr} {o : HO} (h : H a = some o) (h' : H b = none) : a ≠ b := by
  intro e; subst e; rw [h] at h'; cases h'

section
variable (P : Program) (w : World)
def ObjOk (H : Hp) (h : Heap) (a : Addr) : HO → Prop
  | .lst xs => xs.length ≤ sizeLine ∧ ∃ (its : List Value) (n : Nat), Vals xs its ∧ h.get? a = some { cls := .type "list", data := .seq its.toArray n }
  | .tup xs => xs.length ≤ sizeLine ∧ ∃ its : List Value, Vals xs its ∧ IsTup h a its.toArray
  | .dK kvs => kvs.length ≤ sizeLine ∧ (a == sysModules) = false ∧ ∃ vs, KV kvs vs ∧ h.DictOf (mixKind P w) a vs
  | .dT kvs => kvs.length ≤ sizeLine ∧ (a == sysModules) = false ∧ ∃ xs : List (List Key × Addr × Value),
      Paired (fun (p : List Key × V) (q : List Key × Addr × Value) => p.1 = q.1 ∧ H q.2.1 = some (.tup (p.1.map kV)) ∧ RelV p.2 q.2.2) kvs xs ∧
      ∃ o es ep, h.get? a = some o ∧ o.ExactDict ∧ o.data = .dict es ep ∧ es.toList = xs.map (entryOfKey (tupleKind (mixKind P w))) ∧ (xs.map (·.1)).Nodup
  | .set S n => h.SetOf (intKind P w) a S n
  | .ins C dx fs => H dx = some (.own a) ∧ fs.length ≤ 1000 ∧ dx ≠ a ∧ h.get? a = some (PySem.W.instObj C dx) ∧
      ∃ mA, h.Ns1 dx mA ∧ (∀ f, RelO (fs.lookup f) (mA f)) ∧ PySem.Within mA (fs.map (·.1))
  | .own _ => ∃ o, h.get? a = some o
  | .xd fs => ∃ mA, h.Ns1 a mA ∧ ∀ f, RelO (fs.lookup f) (mA f)
  | .rng lo hi => ∃ t u v, h.get? a = some { cls := .type "range", data := .fields #[.int lo t, .int hi u, .int 1 v] }
  | .frz o u => h.get? a = some o ∧ ObjOk H h a u
  | .tbl ps => h.get? a = some { cls := .none, data := .fields ps }
  | .met f x => h.get? a = some (PySem.W.methodObj (.ref f) (.ref x))
  | .ext φ => φ h ∧ (∃ o, h.get? a = some o) ∧ ∀ h1 h2 : Heap, φ h1 → (∀ o, h1.get? a = some o → h2.get? a = some o) → φ h2
/-- the abstract heap is held -/
def HOk (H : Hp) (h : Heap) : Prop := ∀ a o, H a = some o → ObjOk P w H h a o
end

section
variable {P : Program} {w : World} {H H' : Hp} {h h' : Heap} {a : Addr} {o : HO}
theorem ObjOk.lt (x : ObjOk P w H h a o) : a < h.objs.size := by
  cases o with
  | lst xs => obtain ⟨_, _, _, _, e⟩ := x; exact Heap.lt_size e
  | tup xs => obtain ⟨_, _, _, p⟩ := x; exact p.lt
  | dK kvs => obtain ⟨_, _, _, _, o, _, _, e, _⟩ := x; exact Heap.lt_size e
  | dT kvs => obtain ⟨_, _, _, _, o, _, _, e, _⟩ := x; exact Heap.lt_size e
  | set S n => obtain ⟨o, _, _, _, e, _⟩ := x; exact Heap.lt_size e
  | ins C dx fs => obtain ⟨_, _, _, e, _⟩ := x; exact Heap.lt_size e
  | own y => obtain ⟨_, e⟩ := x; exact Heap.lt_size e
  | xd fs => obtain ⟨_, ⟨_, _, _, e, _⟩, _⟩ := x; exact Heap.lt_size e
  | rng lo hi => obtain ⟨_, _, _, e⟩ := x; exact Heap.lt_size e
  | frz ob u => obtain ⟨e, _⟩ := x; exact Heap.lt_size e
  | tbl ps => exact Heap.lt_size (show h.get? a = some _ from x)
  | met f y => exact Heap.lt_size (show h.get? a = some _ from x)
  | ext φ => obtain ⟨_, ⟨_, e⟩, _⟩ := x; exact Heap.lt_size e
theorem Paired.mapP {α β : Type} {F G : α → β → Prop} : ∀ {l₁ : List α} {l₂ : List β}, Paired F l₁ l₂ → (∀ a b, F a b → G a b) → Paired G l₁ l₂
  | _, _, .nil, _ => .nil
  | _, _, .cons r t, f => .cons (f _ _ r) (Paired.mapP t f)
/-- what an object's description leans on: its own object, its own dict, the tuples -/
theorem ObjOk.stay (x : ObjOk P w H h a o) (k : ∀ b u, (b = a ∨ H b = some (.own a)) → h.get? b = some u → h'.get? b = some u)
    (ho : ∀ b, H b = some (.own a) → H' b = some (.own a)) (ht : ∀ b xs, H b = some (.tup xs) → H' b = some (.tup xs)) : ObjOk P w H' h' a o := by
  induction o with
  | lst xs => obtain ⟨z, its, n, r, e⟩ := x; exact ⟨z, its, n, r, k _ _ (.inl rfl) e⟩
  | tup xs => obtain ⟨z, its, r, ob, e, c⟩ := x; exact ⟨z, its, r, ob, k _ _ (.inl rfl) e, c⟩
  | dK kvs => obtain ⟨z, y, vs, r, ob, es, ep, e, c⟩ := x; exact ⟨z, y, vs, r, ob, es, ep, k _ _ (.inl rfl) e, c⟩
  | dT kvs =>
    obtain ⟨z, y, xs, r, ob, es, ep, e, c⟩ := x
    exact ⟨z, y, xs, Paired.mapP r fun p q z => ⟨z.1, ht _ _ z.2.1, z.2.2⟩, ob, es, ep, k _ _ (.inl rfl) e, c⟩
  | set S n => obtain ⟨ob, es, ep, t, e, c⟩ := x; exact ⟨ob, es, ep, t, k _ _ (.inl rfl) e, c⟩
  | ins C dx fs =>
    obtain ⟨d, z, ne, e, mA, ⟨od, es, ep, e2, c⟩, r⟩ := x
    exact ⟨ho _ d, z, ne, k _ _ (.inl rfl) e, mA, ⟨od, es, ep, k _ _ (.inr d) e2, c⟩, r⟩
  | own y => obtain ⟨ob, e⟩ := x; exact ⟨ob, k _ _ (.inl rfl) e⟩
  | xd fs => obtain ⟨mA, ⟨od, es, ep, e, c⟩, r⟩ := x; exact ⟨mA, ⟨od, es, ep, k _ _ (.inl rfl) e, c⟩, r⟩
  | rng lo hi => obtain ⟨t, u, v, e⟩ := x; exact ⟨t, u, v, k _ _ (.inl rfl) e⟩
  | frz ob u ih => obtain ⟨e, q⟩ := x; exact ⟨k _ _ (.inl rfl) e, ih q⟩
  | tbl ps =>
    have e : h.get? a = some { cls := .none, data := .fields ps } := x
    show h'.get? a = some { cls := .none, data := .fields ps }
    exact k a _ (.inl rfl) e
  | met f y =>
    have e : h.get? a = some (PySem.W.methodObj (.ref f) (.ref y)) := x
    show h'.get? a = some (PySem.W.methodObj (.ref f) (.ref y))
    exact k a _ (.inl rfl) e
  | ext φ => obtain ⟨p, ⟨o, e⟩, st⟩ := x; exact ⟨st _ _ p fun o q => k _ _ (.inl rfl) q, ⟨o, k _ _ (.inl rfl) e⟩, st⟩
theorem HOk.lt (x : HOk P w H h) (e : H a = some o) : a < h.objs.size := (x a o e).lt
theorem HOk.fresh (x : HOk P w H h) (e : h.objs.size ≤ a) : H a = none := by
  cases q : H a with
  | none => rfl
  | some u => exact absurd (Nat.lt_of_lt_of_le (x.lt q) e) (Nat.lt_irrefl _)
/-- every object of the heap is kept -/
theorem HOk.kept (x : HOk P w H h) (k : ∀ b u, h.get? b = some u → h'.get? b = some u) : HOk P w H h' := fun a o e =>
  (x a o e).stay (fun b u _ q => k b u q) (fun _ q => q) fun _ _ q => q
/-- a new object is laid and tracked -/
theorem HOk.laid (x : HOk P w H h) (k : ∀ b u, h.get? b = some u → h'.get? b = some u) (hp : h.objs.size ≤ a) (new : ObjOk P w (upd H a o) h' a o) : HOk P w (upd H a o) h' := fun b u e => by
  have hn := x.fresh hp
  by_cases hb : b = a
  · subst hb; rw [upd_same] at e; cases e; exact new
  · rw [upd_ne hb] at e
    exact (x b u e).stay (fun c v _ q => k c v q) (fun c q => by rw [upd_ne (ne_of_none q hn)]; exact q) fun c xs q => by rw [upd_ne (ne_of_none q hn)]; exact q
end

/-- what may be read as u: it is u, or a known u -/
def Rd (H : Hp) (a : Addr) (u : HO) : Prop := H a = some u ∨ ∃ o, H a = some (.frz o u)
theorem Rd.of {H : Hp} {a : Addr} {u : HO} (h : H a = some u) : Rd H a u := .inl h
theorem Rd.ok {P : Program} {w : World} {H : Hp} {h : Heap} {a : Addr} {u : HO} (r : Rd H a u) (x : HOk P w H h) : ObjOk P w H h a u := by
  rcases r with r | ⟨o, r⟩
  · exact x a u r
  · obtain ⟨_, q⟩ := x a _ r
    exact q
/-- what may be written -/
def Mut : Option HO → Prop
  | some (.lst _) => True
  | some (.dK _) => True
  | some (.dT _) => True
  | some (.set _ _) => True
  | some (.ins _ _ _) => True
  | some (.ext _) => True
  | _ => False
section
variable {P : Program} {w : World} {H : Hp} {h h' : Heap} {x e : Addr} {o' : HO}
/-- the object at e is changed: x itself, or the dict of the instance x -/
theorem HOk.write (ok : HOk P w H h) (mu : Mut (H x)) (he : e = x ∨ H e = some (.own x)) (k : ∀ b u, b ≠ e → h.get? b = some u → h'.get? b = some u) (heo : ∃ u, h'.get? e = some u)
    (new : ObjOk P w (upd H x o') h' x o') : HOk P w (upd H x o') h' := fun b u q => by
  have nown : ∀ c y, H c = some (.own y) → c ≠ x := fun c y r z => by subst z; rw [r] at mu; exact mu
  have ntup : ∀ c xs, H c = some (.tup xs) → c ≠ x := fun c xs r z => by subst z; rw [r] at mu; exact mu
  by_cases hb : b = x
  · subst hb; rw [upd_same] at q; cases q; exact new
  · rw [upd_ne hb] at q
    by_cases hbe : b = e
    · have q' : H b = some (.own x) := by
        rcases he with z | z
        · exact absurd (hbe.trans z) hb
        · rw [hbe]; exact z
      rw [q] at q'; cases q'
      obtain ⟨v, hv⟩ := heo
      exact ⟨v, by rw [hbe]; exact hv⟩
    · refine (ok b u q).stay (fun c v hc r => k c v ?_ r) (fun c r => by rw [upd_ne (nown c b r)]; exact r) fun c xs r => by rw [upd_ne (ntup c xs r)]; exact r
      rcases hc with rfl | hc
      · exact hbe
      · rintro rfl
        rcases he with z | z
        · exact nown c b hc z
        · rw [hc] at z; cases z; exact hb rfl
end

/-! ### kept unless tracked; of the frames at fs (the callers') the slots may change (an exception that passes writes there); of the records at ex (iterators) nothing is said -/
structure Un (fs ex : List Addr) (H H' : Hp) (h h' : Heap) : Prop where
  keep : ∀ b o, h.get? b = some o → H b = none → b ∉ fs → b ∉ ex → h'.get? b = some o
  slot : ∀ b o, h.get? b = some o → H b = none → b ∈ fs → b ∉ ex → ∃ sl, h'.get? b = some { o with slots := sl }
  free : ∀ b o, h.get? b = some o → H b = none → b ∉ ex → H' b = none
  there : ∀ b o, h.get? b = some o → b ∉ ex → ∃ o', h'.get? b = some o'
  tups : ∀ b xs, H b = some (.tup xs) → H' b = some (.tup xs)
  frzs : ∀ b o u, H b = some (.frz o u) → H' b = some (.frz o u)
  tbls : ∀ b ps, H b = some (.tbl ps) → ∃ more, H' b = some (.tbl (ps ++ more))
section
variable {fs fs' ex ex' : List Addr} {H H1 H2 : Hp} {h h1 h2 h' : Heap} {a x e : Addr} {o : HO}
theorem Un.any (u : Un fs ex H H1 h h1) {b : Addr} {ob : Obj} (q : h.get? b = some ob) (n : H b = none) (hx : b ∉ ex) : ∃ sl, h1.get? b = some { ob with slots := sl } := by
  by_cases hb : b ∈ fs
  · exact u.slot b ob q n hb hx
  · exact ⟨ob.slots, u.keep b ob q n hb hx⟩
theorem Un.trans (a : Un fs ex H H1 h h1) (b : Un fs ex H1 H2 h1 h2) : Un fs ex H H2 h h2 where
  keep := fun c ob q n hc hx => b.keep c ob (a.keep c ob q n hc hx) (a.free c ob q n hx) hc hx
  slot := fun c ob q n hc hx => by
    obtain ⟨sl, e1⟩ := a.slot c ob q n hc hx
    obtain ⟨sl', e2⟩ := b.slot c _ e1 (a.free c ob q n hx) hc hx
    exact ⟨sl', e2⟩
  free := fun c ob q n hx => by
    obtain ⟨o', e1⟩ := a.there c ob q hx
    exact b.free c o' e1 (a.free c ob q n hx) hx
  there := fun c ob q hx => by
    obtain ⟨o', e1⟩ := a.there c ob q hx
    exact b.there c o' e1 hx
  tups := fun c xs q => b.tups c xs (a.tups c xs q)
  frzs := fun c ob xs q => b.frzs c ob xs (a.frzs c ob xs q)
  tbls := fun c ps q => by
    obtain ⟨m1, e1⟩ := a.tbls c ps q
    obtain ⟨m2, e2⟩ := b.tbls c _ e1
    exact ⟨m1 ++ m2, by rw [e2, Array.append_assoc]⟩
theorem Un.kept (k : ∀ b u, h.get? b = some u → h'.get? b = some u) : Un fs ex H H h h' :=
  ⟨fun b ob q _ _ _ => k b ob q, fun b ob q _ _ _ => ⟨ob.slots, k b ob q⟩, fun _ _ _ n _ => n, fun b ob q _ => ⟨ob, k b ob q⟩, fun _ _ q => q, fun _ _ _ q => q, fun _ ps q => ⟨#[], by rw [q]; simp⟩⟩
theorem Un.refl : Un fs ex H H h h := Un.kept fun _ _ q => q
theorem Un.laid (k : ∀ b u, h.get? b = some u → h'.get? b = some u) (hp : h.objs.size ≤ a) (hn : H a = none) : Un fs ex H (upd H a o) h h' where
  keep := fun b u q _ _ _ => k b u q
  slot := fun b u q _ _ _ => ⟨u.slots, k b u q⟩
  free := fun b u q n _ => by rw [upd_ne (Nat.ne_of_lt (Nat.lt_of_lt_of_le (Heap.lt_size q) hp))]; exact n
  there := fun b u q _ => ⟨u, k b u q⟩
  tups := fun b xs q => by rw [upd_ne (ne_of_none q hn)]; exact q
  frzs := fun b u xs q => by rw [upd_ne (ne_of_none q hn)]; exact q
  tbls := fun b ps q => ⟨#[], by rw [upd_ne (ne_of_none q hn), q]; simp⟩
theorem Un.write (mu : Mut (H x)) (he : e = x ∨ H e = some (.own x)) (k : ∀ b u, b ≠ e → h.get? b = some u → h'.get? b = some u) (heo : ∃ u, h'.get? e = some u) : Un fs ex H (upd H x o) h h' := by
  have hx : ∀ b, H b = none → b ≠ x := fun b n z => by subst z; rw [n] at mu; exact mu
  have hb : ∀ b, H b = none → b ≠ e := fun b n z => by
    subst z
    rcases he with r | r
    · exact hx b n r
    · rw [n] at r; cases r
  have hm : ∀ b u, H b = some u → ¬ Mut (some u) → b ≠ x := fun b u q nm z => by subst z; rw [q] at mu; exact nm mu
  refine ⟨fun b u q n _ _ => k b u (hb b n) q, fun b u q n _ _ => ⟨u.slots, k b u (hb b n) q⟩, fun b u q n _ => by rw [upd_ne (hx b n)]; exact n, fun b u q _ => ?_,
    fun b xs q => by rw [upd_ne (hm b _ q fun z => z)]; exact q, fun b u xs q => by rw [upd_ne (hm b _ q fun z => z)]; exact q, fun b ps q => ⟨#[], by rw [upd_ne (hm b _ q fun z => z), q]; simp⟩⟩
  by_cases hbe : b = e
  · subst hbe; exact heo
  · exact ⟨u, k b u hbe q⟩
theorem Un.mono (u : Un fs ex H H1 h h1) (hs : ∀ b ∈ fs, b ∈ fs') (hx : ∀ b ∈ ex, b ∈ ex') : Un fs' ex' H H1 h h1 :=
  ⟨fun b ob q n hb he => u.keep b ob q n (fun z => hb (hs b z)) fun z => he (hx b z), fun _ _ q n _ he => u.any q n fun z => he (hx _ z), fun b ob q n he => u.free b ob q n fun z => he (hx b z), fun b ob q he => u.there b ob q fun z => he (hx b z), u.tups, u.frzs, u.tbls⟩
end

/-! ### the heap without what is tracked -/
def trk (h : Heap) (H : Hp) : List Addr := (List.range h.objs.size).filter fun a => (H a).isSome
def hidT (h : Heap) (H : Hp) : Heap := PySem.W.hideAll h (trk h H)
theorem hidT_size (h : Heap) (H : Hp) : (hidT h H).objs.size = h.objs.size := PySem.W.hideAll_size _ _
theorem hidT_get {h : Heap} {H : Hp} {b : Addr} {o : Obj} (e : h.get? b = some o) (n : H b = none) : (hidT h H).get? b = some o :=
  PySem.W.hideAll_get _ e fun hm => by
    have q : (H b).isSome = true := (List.mem_filter.mp hm).2
    rw [n] at q; simp at q
theorem of_hidT {h : Heap} {H : Hp} {b : Addr} {o : Obj} (e : (hidT h H).get? b = some o) : h.get? b = some o ∧ H b = none := by
  have e' : h.get? b = some o := PySem.W.of_hideAll (trk h H) e
  refine ⟨e', ?_⟩
  cases q : H b with
  | none => rfl
  | some x =>
    have hm : b ∈ trk h H := List.mem_filter.mpr ⟨List.mem_range.mpr (Heap.lt_size e'), by simp [q]⟩
    have z : (hidT h H).get? b = none := PySem.W.hideAll_none (trk h H) hm
    rw [z] at e; cases e

/-! ### OpenK's ledger, filled with every new object but one -/
def allNews (g h : Heap) (L : Addr) : List (Addr × Obj) := (List.range h.objs.size).filterMap fun a => if a = L ∨ (g.get? a).isSome = true then none else (h.get? a).map fun o => (a, o)
def rest (g h : Heap) (L d : Addr) : List (Addr × Obj) := (allNews g h L).filter fun p => decide (p.1 ≠ d)
end L2

namespace L2
open PySem PySem.Spec PyProof.Rows

/-- the module's facts, over the base: the heap at the law's entry without what is tracked there -/
structure Mod (K : PySem.W.Frag) (mg : Str → Option Value) (base : Heap) : Prop where
  kin : K.In base
  glob : base.Ns mainGlobals mg
  blt : ∃ mb, base.Ns builtinsNs mb ∧ ∀ x : Str, x ≠ "__name__" → mb x = bootBuiltins x
  nolimit : base.NoLimit

/-- the context: a def's body (or a comprehension's block) running. base: fixed through the whole law; s₀, H₀: the entry; outer: the frames whose slots others may change (a def's callers); stack: all frames that run;
   ex: iterators that were made ahead of the entry and are walked here (a comprehension's); fn: the names whose cells were made at the entry (a def: all; a comprehension's block: its own); calm: not within an except suite; pn: pins that every state bears; xe: what is wanted of an exception that leaves the code -/
structure Cx where
  prog : Program
  w : World
  K : PySem.W.Frag
  mg : Str → Option Value
  base : Heap
  A : Around
  N : List Str
  s_0 : Shared
  H_0 : Hp
  env : Env
  outer : List Env
  stack : List Env
  ex : List Addr
  fn : Str → Bool
  calm : Bool
  pn : List (Addr × Obj)
  xe : Value → Shared → Prop
/-- the callers' frames -/
def frs (l : List Env) : List Addr := l.filterMap (·.frame)
abbrev Cx.fs (X : Cx) : List Addr := frs X.outer

def Vis (sc : Scope) (x : Str) : Prop := sc.names.lookup x = some .local ∨ sc.names.lookup x = some .cell ∨ sc.names.lookup x = some .free
def Loc (sc : Scope) (x : Str) : Prop := sc.names.lookup x = some .local ∨ sc.names.lookup x = some .cell
def Look (env : Env) (h : Heap) (m : Str → Option Value) (x : Str) (u : Value) : Prop :=
  (env.kindOf x = some .local ∧ m x = some u) ∨ ((env.kindOf x = some .cell ∨ env.kindOf x = some .free) ∧ ∃ c, env.cells.lookup x = some c ∧ h.IsCell c (some u))

structure Cx.Ok (X : Cx) : Prop where
  mod : Mod X.K X.mg X.base
  kind : X.env.scope.kind = .function
  glob : X.env.globals = mainGlobals
  blt : X.env.builtins = builtinsNs
  above : X.s_0.heap.objs.size ≤ X.env.locals
  inj : ∀ x y c, X.env.cells.lookup x = some c → X.env.cells.lookup y = some c → x = y
  has : ∀ x, (X.env.kindOf x = some .cell ∨ X.env.kindOf x = some .free) → ∃ c, X.env.cells.lookup x = some c
  cab : ∀ x c, X.fn x = true → X.env.cells.lookup x = some c → X.s_0.heap.objs.size ≤ c
  hd : X.calm = true → X.A.handled = none
  frames : X.A.frames = some X.stack
  stk : X.stack = X.outer ∨ (X.stack = X.env :: X.outer ∧ X.env.frame = some X.env.locals)
  exf : ∀ b ∈ X.ex, b ≠ X.env.locals ∧ ∀ x c, X.env.cells.lookup x = some c → c ≠ b
  bs : ∀ b o, X.base.get? b = some o → X.s_0.heap.get? b = some o ∧ X.H_0 b = none
  bsz : X.base.objs.size ≤ X.s_0.heap.objs.size
  noex : ∀ b o, X.base.get? b = some o → b ∉ X.ex
  exfs : ∀ b ∈ X.ex, b ∉ X.fs
  funs : X.s_0.heap.FunFrames X.base X.outer
  frf : ∀ b ∈ X.fs, X.H_0 b = none

structure Inv (X : Cx) (pins : List (Addr × Obj)) (σ : List (Option V)) (H : Hp) (s : Shared) : Prop where
  ok : X.Ok
  os : s.os = X.s_0.os
  bare : AllBare s.gens
  base : Un X.fs X.ex X.H_0 H X.s_0.heap s.heap
  loc : ∃ m, s.heap.Ns X.env.locals m ∧ ∀ (i : Nat) (x : Str) (v : V), X.N[i]? = some x → σ[i]? = some (some v) → Vis X.env.scope x → ∃ u, RelV v u ∧ Look X.env s.heap m x u
  cell : ∀ x c, X.env.cells.lookup x = some c → ∃ v, s.heap.IsCell c v
  free : H X.env.locals = none
  freeC : ∀ x c, X.env.cells.lookup x = some c → H c = none
  pin : ∀ p ∈ X.pn ++ pins, s.heap.get? p.1 = some p.2 ∧ H p.1 = none ∧ p.1 ≠ X.env.locals ∧ p.1 ∉ X.fs ∧ ∀ v, p.2.data ≠ .cell v
  hok : HOk X.prog X.w H s.heap
  len : σ.length = X.N.length

section
variable {X : Cx} {pins : List (Addr × Obj)} {σ : List (Option V)} {H H' : Hp} {s : Shared} {h' : Heap}

theorem Cx.Ok.nofr (ok : X.Ok) {b : Addr} {o : Obj} (e : X.base.get? b = some o) : b ∉ X.fs := fun hb => by
  have := (ok.funs.mem hb).1
  rw [e] at this; cases this
theorem Inv.bs (I : Inv X pins σ H s) : ∀ b o, X.base.get? b = some o → s.heap.get? b = some o ∧ H b = none := fun b o e =>
  ⟨I.base.keep b o (I.ok.bs b o e).1 (I.ok.bs b o e).2 (I.ok.nofr e) (I.ok.noex b o e), I.base.free b o (I.ok.bs b o e).1 (I.ok.bs b o e).2 (I.ok.noex b o e)⟩
theorem Inv.bk (I : Inv X pins σ H s) : ∀ b o, X.base.get? b = some o → s.heap.get? b = some o := fun b o e => (I.bs b o e).1
theorem Inv.mod (I : Inv X pins σ H s) : Mod X.K X.mg X.base := I.ok.mod
theorem Inv.kIn (I : Inv X pins σ H s) : X.K.In s.heap := I.ok.mod.kin.keeps I.bk
theorem Inv.nolimit (I : Inv X pins σ H s) : s.heap.NoLimit := I.ok.mod.nolimit.keeps I.bk
/-- the frame over the base: for OpenK's rules (K.In X.base is I.mod.kin) -/
theorem Inv.fr (I : Inv X pins σ H s) : ∃ m, Fr X.base X.env.locals s.heap m :=
  let ⟨m, hn, _⟩ := I.loc
  ⟨m, hn, I.bk, Nat.le_trans I.ok.bsz I.ok.above⟩
theorem Inv.lt (I : Inv X pins σ H s) : X.env.locals < s.heap.objs.size := let ⟨_, hn, _⟩ := I.loc; hn.lt
theorem Inv.sz (I : Inv X pins σ H s) : X.s_0.heap.objs.size ≤ s.heap.objs.size := Nat.le_trans I.ok.above (Nat.le_of_lt I.lt)
theorem Inv.nofs (I : Inv X pins σ H s) {a : Addr} (h : s.heap.objs.size ≤ a) : a ∉ X.fs := fun hb => by
  obtain ⟨_, o, ho, _⟩ := I.ok.funs.mem hb
  exact absurd (Nat.lt_of_lt_of_le (Heap.lt_size ho) (Nat.le_trans I.sz h)) (Nat.lt_irrefl _)
theorem Inv.cne (I : Inv X pins σ H s) : ∀ x c, X.env.cells.lookup x = some c → c ≠ X.env.locals := fun x c e z => by
  obtain ⟨v, o, ho, hd⟩ := I.cell x c e
  obtain ⟨m, ⟨o', es, ep, ho', hd', _⟩, _⟩ := I.loc
  rw [z, ho'] at ho; cases ho; rw [hd'] at hd; cases hd
theorem Inv.funs (I : Inv X pins σ H s) : s.heap.FunFrames X.base X.outer := by
  have all : ∀ (l : List Env), (∀ b ∈ frs l, b ∈ X.fs) → X.s_0.heap.FunFrames X.base l → s.heap.FunFrames X.base l := by
    intro l
    induction l with
    | nil => intro _ _; trivial
    | cons env r ih =>
      intro hs hl
      obtain ⟨hk, ⟨L, o, hf, hn, ho, hd⟩, hr⟩ := hl
      have hL : L ∈ X.fs := hs L (by unfold frs; rw [List.filterMap_cons, hf]; exact List.mem_cons_self)
      obtain ⟨sl, e⟩ := I.base.slot L o ho (I.ok.frf L hL) hL fun z => I.ok.exfs L z hL
      exact ⟨hk, ⟨L, _, hf, hn, e, hd⟩, ih (fun b hb => hs b (by unfold frs; rw [List.filterMap_cons, hf]; exact List.mem_cons_of_mem _ hb)) hr⟩
  exact all X.outer (fun _ hb => hb) I.ok.funs

/-- the frames that run, for a call -/
theorem Inv.stack (I : Inv X pins σ H s) : s.heap.FunFrames X.base X.stack := by
  rcases I.ok.stk with e | ⟨e, hf⟩
  · rw [e]; exact I.funs
  · rw [e]
    obtain ⟨m, hn, _⟩ := I.loc
    refine .cons (by rw [I.ok.kind]; decide) hf hn ?_ I.funs
    exact Heap.get?_none_of_le (Nat.le_trans I.ok.bsz I.ok.above)
theorem Inv.stkSub (I : Inv X pins σ H s) : ∀ b ∈ frs X.stack, b ∈ X.env.locals :: X.fs := fun b hb => by
  rcases I.ok.stk with e | ⟨e, hf⟩
  · rw [e] at hb; exact List.mem_cons_of_mem _ hb
  · rw [e] at hb
    unfold frs at hb
    rw [List.filterMap_cons, hf] at hb
    exact hb
theorem Inv.stkFree (I : Inv X pins σ H s) : ∀ b ∈ frs X.stack, H b = none := fun b hb => by
  rcases List.mem_cons.mp (I.stkSub b hb) with e | hb
  · rw [e]; exact I.free
  · obtain ⟨_, o, ho, _⟩ := I.ok.funs.mem hb
    exact I.base.free b o ho (I.ok.frf b hb) fun z => I.ok.exfs b z hb

/-- THE STEP: the untracked objects but the frame and the records at ch are kept (the callers' frames up to slots), the frame's map is kept, the new abstract heap is held -/
theorem Inv.step {g' : Array GenState} {t' : Nat} {d' : Drawn} {ch : List Addr} (I : Inv X pins σ H s)
    (hch : ∀ b ∈ ch, (b ∈ X.ex ∨ X.s_0.heap.objs.size ≤ b) ∧ b ≠ X.env.locals ∧ (∀ x c, X.env.cells.lookup x = some c → c ≠ b) ∧ ∀ p ∈ X.pn ++ pins, p.1 ≠ b)
    (keep : ∀ b o, b ≠ X.env.locals → b ∉ X.fs → b ∉ ch → s.heap.get? b = some o → H b = none → h'.get? b = some o)
    (slot : ∀ b o, b ≠ X.env.locals → b ∈ X.fs → b ∉ ch → s.heap.get? b = some o → H b = none → ∃ sl, h'.get? b = some { o with slots := sl }) (free : ∀ b o, b ∉ ch → s.heap.get? b = some o → H b = none → H' b = none)
    (there : ∀ b o, b ∉ ch → s.heap.get? b = some o → ∃ o', h'.get? b = some o')
    (tups : ∀ b xs, H b = some (.tup xs) → H' b = some (.tup xs)) (frzs : ∀ b o u, H b = some (.frz o u) → H' b = some (.frz o u)) (tbls : ∀ b ps, H b = some (.tbl ps) → ∃ more, H' b = some (.tbl (ps ++ more)))
    (ns : ∀ m, s.heap.Ns X.env.locals m → h'.Ns X.env.locals m) (hok : HOk X.prog X.w H' h') (hg : AllBare g') :
    Inv X pins σ H' { s with heap := h', gens := g', drawn := d', toks := t' } := by
  have neL : ∀ b o, X.s_0.heap.get? b = some o → b ≠ X.env.locals := fun b o e => Nat.ne_of_lt (Nat.lt_of_lt_of_le (Heap.lt_size e) I.ok.above)
  have neC : ∀ b o, X.s_0.heap.get? b = some o → b ∉ X.ex → b ∉ ch := fun b o e hx hb => by
    rcases (hch b hb).1 with z | z
    · exact hx z
    · exact absurd (Nat.lt_of_lt_of_le (Heap.lt_size e) z) (Nat.lt_irrefl _)
  have cellK : ∀ x c, X.env.cells.lookup x = some c → ∀ v, s.heap.IsCell c v → h'.IsCell c v := fun x c e v ⟨o, ho, hd⟩ => by
    have nch : c ∉ ch := fun z => (hch c z).2.2.1 x c e rfl
    by_cases hc : c ∈ X.fs
    · obtain ⟨sl, q⟩ := slot c o (I.cne x c e) hc nch ho (I.freeC x c e)
      exact ⟨_, q, hd⟩
    · exact ⟨o, keep c o (I.cne x c e) hc nch ho (I.freeC x c e), hd⟩
  refine ⟨I.ok, I.os, hg, ⟨fun b o e n hb hx => ?_, fun b o e n hb hx => ?_, fun b o e n hx => ?_, fun b o e hx => ?_, fun b xs e => tups b xs (I.base.tups b xs e), fun b o xs e => frzs b o xs (I.base.frzs b o xs e), fun b ps e => ?_⟩, ?_, fun x c e => ?_, ?_, fun x c e => ?_, fun p hp => ?_, hok, I.len⟩
  · exact keep b o (neL b o e) hb (neC b o e hx) (I.base.keep b o e n hb hx) (I.base.free b o e n hx)
  · obtain ⟨sl, e1⟩ := I.base.slot b o e n hb hx
    obtain ⟨sl', e2⟩ := slot b _ (neL b o e) hb (neC b o e hx) e1 (I.base.free b o e n hx)
    exact ⟨sl', e2⟩
  · obtain ⟨o', e1⟩ := I.base.there b o e hx
    exact free b o' (neC b o e hx) e1 (I.base.free b o e n hx)
  · obtain ⟨o', e1⟩ := I.base.there b o e hx
    exact there b o' (neC b o e hx) e1
  · obtain ⟨m1, e1⟩ := I.base.tbls b ps e
    obtain ⟨m2, e2⟩ := tbls b _ e1
    exact ⟨m1 ++ m2, by rw [e2, Array.append_assoc]⟩
  · obtain ⟨m, hn, hl⟩ := I.loc
    refine ⟨m, ns m hn, fun i x v e1 e2 e3 => ?_⟩
    obtain ⟨u, r, l⟩ := hl i x v e1 e2 e3
    refine ⟨u, r, ?_⟩
    rcases l with l | ⟨k, c, e, z⟩
    · exact .inl l
    · exact .inr ⟨k, c, e, cellK x c e _ z⟩
  · obtain ⟨v, z⟩ := I.cell x c e
    exact ⟨v, cellK x c e v z⟩
  · obtain ⟨m, ⟨o, _, _, ho, _⟩, _⟩ := I.loc
    exact free _ o (fun z => (hch _ z).2.1 rfl) ho I.free
  · obtain ⟨v, o, ho, hd⟩ := I.cell x c e
    exact free c o (fun z => (hch c z).2.2.1 x c e rfl) ho (I.freeC x c e)
  · obtain ⟨e, n, ne, nf, d⟩ := I.pin p hp
    have nch : p.1 ∉ ch := fun z => (hch p.1 z).2.2.2 p hp rfl
    exact ⟨keep p.1 p.2 ne nf nch e n, free p.1 p.2 nch e n, ne, nf, d⟩
/-- .. where the frame's own object is kept too -/
theorem Inv.un {t' : Nat} (I : Inv X pins σ H s) (u : Un X.fs [] H H' s.heap h') (hok : HOk X.prog X.w H' h') : Inv X pins σ H' { s with heap := h', toks := t' } := by
  obtain ⟨m, ⟨o, es, ep, ho, r⟩, _⟩ := id I.loc
  obtain ⟨sl, hL⟩ := u.any ho I.free (by simp)
  exact I.step (g' := s.gens) (d' := s.drawn) (ch := []) (fun _ z => nomatch z) (fun b o _ hb _ e n => u.keep b o e n hb (by simp)) (fun b o _ hb _ e n => u.slot b o e n hb (by simp)) (fun b o _ e n => u.free b o e n (by simp)) (fun b o _ e => u.there b o e (by simp)) u.tups u.frzs u.tbls (fun m' hm => by
    obtain ⟨o', es', ep', ho', r'⟩ := hm
    rw [ho] at ho'; cases ho'
    exact ⟨_, es', ep', hL, r'⟩) hok I.bare
/-- behind a call (or a comprehension's block): the slots of this frame may have changed too, the records at ch may have turned -/
theorem Inv.call {g' : Array GenState} {t' : Nat} {d' : Drawn} {ch : List Addr} (I : Inv X pins σ H s) (u : Un (frs X.stack) ch H H' s.heap h') (hok : HOk X.prog X.w H' h') (hg : AllBare g')
    (hch : ∀ b ∈ ch, (b ∈ X.ex ∨ X.s_0.heap.objs.size ≤ b) ∧ b ≠ X.env.locals ∧ (∀ x c, X.env.cells.lookup x = some c → c ≠ b) ∧ ∀ p ∈ X.pn ++ pins, p.1 ≠ b) :
    Inv X pins σ H' { s with heap := h', gens := g', drawn := d', toks := t' } := by
  obtain ⟨m, ⟨o, es, ep, ho, r⟩, _⟩ := id I.loc
  obtain ⟨sl, hL⟩ := u.any ho I.free fun z => (hch _ z).2.1 rfl
  exact I.step (ch := ch) hch (fun b o hL hb hc e n => u.keep b o e n (fun z => (List.mem_cons.mp (I.stkSub b z)).elim hL hb) hc) (fun b o _ _ hc e n => u.any e n hc) (fun b o hc e n => u.free b o e n hc) (fun b o hc e => u.there b o e hc) u.tups u.frzs u.tbls (fun m' hm => by
    obtain ⟨o', es', ep', ho', r'⟩ := hm
    rw [ho] at ho'; cases ho'
    exact ⟨_, es', ep', hL, r'⟩) hok hg
/-- an untracked record of ours (an iterator) has turned -/
theorem Inv.turned {t' : Nat} {it : Addr} (I : Inv X pins σ H s) (k : ∀ b o, b ≠ it → s.heap.get? b = some o → h'.get? b = some o) (hn : H it = none) (hL : it ≠ X.env.locals)
    (h1 : it ∈ X.ex ∨ X.s_0.heap.objs.size ≤ it) (h2 : ∀ x c, X.env.cells.lookup x = some c → c ≠ it) (h3 : ∀ p ∈ X.pn ++ pins, p.1 ≠ it) : Inv X pins σ H { s with heap := h', toks := t' } := by
  have nit : ∀ b u, H b = some u → b ≠ it := fun b u e z => by rw [z, hn] at e; cases e
  refine I.step (g' := s.gens) (d' := s.drawn) (ch := [it]) (fun b hb => ?_) (fun b o _ _ hc e _ => k b o (fun z => hc (by simp [z])) e) (fun b o _ _ hc e _ => ⟨o.slots, k b o (fun z => hc (by simp [z])) e⟩) (fun _ _ _ _ n => n)
    (fun b o hc e => ⟨o, k b o (fun z => hc (by simp [z])) e⟩) (fun _ _ e => e) (fun _ _ _ e => e) (fun b ps e => ⟨#[], by rw [e]; simp⟩) (fun m hm => ?_) (fun b u e => ?_) I.bare
  · have e : b = it := by simpa using hb
    subst e
    exact ⟨h1, hL, h2, h3⟩
  · obtain ⟨o, es, ep, ho, r⟩ := hm
    exact ⟨o, es, ep, k _ o (Ne.symm hL) ho, r⟩
  · refine (I.hok b u e).stay (fun c v hc q => k c v ?_ q) (fun _ q => q) fun _ _ q => q
    rcases hc with z | z
    · rw [z]; exact nit b u e
    · exact nit c _ z
theorem Inv.tok (I : Inv X pins σ H s) (t : Nat) : Inv X pins σ H { s with toks := t } := I.un (h' := s.heap) (t' := t) Un.refl I.hok
/-- all objects kept -/
theorem Inv.kept {t' : Nat} (I : Inv X pins σ H s) (k : ∀ b u, s.heap.get? b = some u → h'.get? b = some u) : Inv X pins σ H { s with heap := h', toks := t' } := I.un (Un.kept k) (I.hok.kept k)
/-- a new object laid and tracked -/
theorem Inv.laid {a : Addr} {o : HO} {t' : Nat} (I : Inv X pins σ H s) (k : ∀ b u, s.heap.get? b = some u → h'.get? b = some u) (hp : s.heap.objs.size ≤ a) (new : ObjOk X.prog X.w (upd H a o) h' a o) :
    Inv X pins σ (upd H a o) { s with heap := h', toks := t' } := I.un (Un.laid k hp (I.hok.fresh hp)) (I.hok.laid k hp new)
/-- an object written -/
theorem Inv.write {x e : Addr} {o : HO} {t' : Nat} (I : Inv X pins σ H s) (mu : Mut (H x)) (he : e = x ∨ H e = some (.own x)) (k : ∀ b u, b ≠ e → s.heap.get? b = some u → h'.get? b = some u) (heo : ∃ u, h'.get? e = some u)
    (new : ObjOk X.prog X.w (upd H x o) h' x o) : Inv X pins σ (upd H x o) { s with heap := h', toks := t' } := I.un (Un.write mu he k heo) (I.hok.write mu he k heo new)
/-- forgetting slots, pins -/
theorem Inv.weak {σ' : List (Option V)} (I : Inv X pins σ H s) (hl : σ'.length = σ.length) (w : ∀ (i : Nat) v, σ'[i]? = some (some v) → σ[i]? = some (some v)) : Inv X pins σ' H s :=
  ⟨I.ok, I.os, I.bare, I.base, let ⟨m, hn, hl'⟩ := I.loc; ⟨m, hn, fun i x v e1 e2 e3 => hl' i x v e1 (w i v e2) e3⟩, I.cell, I.free, I.freeC, I.pin, I.hok, hl.trans I.len⟩
theorem Inv.pins_of {pins' : List (Addr × Obj)} (I : Inv X pins σ H s) (h : ∀ p ∈ pins', s.heap.get? p.1 = some p.2 ∧ H p.1 = none ∧ p.1 ≠ X.env.locals ∧ p.1 ∉ X.fs ∧ ∀ v, p.2.data ≠ .cell v) : Inv X pins' σ H s :=
  ⟨I.ok, I.os, I.bare, I.base, I.loc, I.cell, I.free, I.freeC, fun p hp => (List.mem_append.mp hp).elim (fun z => I.pin p (List.mem_append_left _ z)) (h p), I.hok, I.len⟩

theorem nodup_ix {N : List Str} (hN : N.Nodup) {i j : Nat} {x : Str} (a : N[i]? = some x) (b : N[j]? = some x) : i = j := by
  obtain ⟨h1, e1⟩ := List.getElem?_eq_some_iff.mp a
  obtain ⟨h2, e2⟩ := List.getElem?_eq_some_iff.mp b
  exact (List.getElem_inj hN).mp (e1.trans e2.symm)

/-- a name is stored; what changed -/
theorem store_ok2 {M : Model} {A : Around} {E : Value → Shared → Prop} {i : Nat} {x : Str} {v : V} {u : Value} {Q : Unit → Shared → Prop} (I : Inv X pins σ H s) (hN : X.N.Nodup) (hi : X.N[i]? = some x) (hx : Loc X.env.scope x) (r : RelV v u)
    (h : ∀ s', Inv X pins (σ.set i (some v)) H s' → (∃ a, Heap.SameBut a s.heap s'.heap ∧ (a = X.env.locals ∨ X.env.cells.lookup x = some a)) → Q () s') (hf : X.fn x = true ∨ X.env.scope.names.lookup x = some .local := by first | exact .inl rfl | exact .inr rfl | assumption) : wpAny M A (storeName X.env x u) Q E s := by
  obtain ⟨m, hn, hl⟩ := id I.loc
  have hcls : (X.env.scope.kind == .class || (X.env.scope.kind == .module && X.env.locals != X.env.globals)) = false := by rw [I.ok.kind]; rfl
  have hiσ : i < σ.length := by rw [I.len]; exact (List.getElem?_eq_some_iff.mp hi).1
  have cne := I.cne
  have tracked : ∀ {a : Addr} {h' : Heap}, (∃ o, s.heap.get? a = some o ∧ H a = none) → Heap.SameBut a s.heap h' → HOk X.prog X.w H h' := fun {a h'} ha hs b ob e => by
    obtain ⟨_, _, hfree⟩ := ha
    refine (I.hok b ob e).stay (fun c w' hc q => (hs.2 c ?_).trans q) (fun _ q => q) fun _ _ q => q
    rintro rfl
    rcases hc with rfl | hc
    · rw [hfree] at e; cases e
    · rw [hfree] at hc; cases hc
  rcases hx with hk | hk
  · refine wpAny_storeName_local hk hn (fun h' hn' hs => ?_) hcls
    obtain ⟨oL, _, _, hoL, _⟩ := id hn
    refine h _ ⟨I.ok, I.os, I.bare, ⟨fun b o e n hb hx => ?_, fun b o e n hb hx => ?_, I.base.free, fun b o e hx => ?_, I.base.tups, I.base.frzs, I.base.tbls⟩, ⟨_, hn', fun j y v' e1 e2 e3 => ?_⟩, fun y c e => ?_, I.free, I.freeC, fun p hp => ?_, tracked ⟨oL, hoL, I.free⟩ hs, by simpa using I.len⟩ ⟨_, hs, .inl rfl⟩
    · exact (hs.2 b (Nat.ne_of_lt (Nat.lt_of_lt_of_le (Heap.lt_size e) I.ok.above))).trans (I.base.keep b o e n hb hx)
    · obtain ⟨sl, e1⟩ := I.base.slot b o e n hb hx
      exact ⟨sl, (hs.2 b (Nat.ne_of_lt (Nat.lt_of_lt_of_le (Heap.lt_size e) I.ok.above))).trans e1⟩
    · obtain ⟨o', e1⟩ := I.base.there b o e hx
      exact ⟨o', (hs.2 b (Nat.ne_of_lt (Nat.lt_of_lt_of_le (Heap.lt_size e) I.ok.above))).trans e1⟩
    · by_cases hj : j = i
      · subst hj
        rw [hi] at e1; cases e1
        rw [List.getElem?_set_self hiσ] at e2
        cases e2
        exact ⟨u, r, .inl ⟨hk, by simp⟩⟩
      · rw [List.getElem?_set_ne (Ne.symm hj)] at e2
        obtain ⟨u', r', q⟩ := hl j y v' e1 e2 e3
        refine ⟨u', r', ?_⟩
        rcases q with ⟨k, e⟩ | ⟨k, c, e, z⟩
        · refine .inl ⟨k, ?_⟩
          have : y ≠ x := fun e => hj (nodup_ix hN e1 (e ▸ hi))
          simp [this, e]
        · exact .inr ⟨k, c, e, z.sameBut hs (cne y c e)⟩
    · obtain ⟨w', z⟩ := I.cell y c e
      exact ⟨w', z.sameBut hs (cne y c e)⟩
    · obtain ⟨e, n, ne, nf, d⟩ := I.pin p hp
      exact ⟨(hs.2 p.1 ne).trans e, n, ne, nf, d⟩
  · have hfn : X.fn x = true := by
      rcases hf with z | z
      · exact z
      · rw [z] at hk; cases hk
    obtain ⟨c, hc⟩ := I.ok.has x (.inl hk)
    obtain ⟨w', z⟩ := I.cell x c hc
    refine wpAny_storeName_cell I.ok.kind hk hc z (fun h' hc' hs => ?_)
    obtain ⟨oc, hoc, hocd⟩ := id z
    refine h { s with heap := h' } ⟨I.ok, I.os, I.bare, ⟨fun b o e n hb hx => ?_, fun b o e n hb hx => ?_, I.base.free, fun b o e hx => ?_, I.base.tups, I.base.frzs, I.base.tbls⟩, ⟨m, hn.sameBut hs (Ne.symm (cne x c hc)), fun j y v' e1 e2 e3 => ?_⟩, fun y c' e => ?_, I.free, I.freeC, fun p hp => ?_, tracked ⟨oc, hoc, I.freeC x c hc⟩ hs, by simpa using I.len⟩ ⟨c, hs, .inr hc⟩
    · exact (hs.2 b (Nat.ne_of_lt (Nat.lt_of_lt_of_le (Heap.lt_size e) (I.ok.cab x c hfn hc)))).trans (I.base.keep b o e n hb hx)
    · obtain ⟨sl, e1⟩ := I.base.slot b o e n hb hx
      exact ⟨sl, (hs.2 b (Nat.ne_of_lt (Nat.lt_of_lt_of_le (Heap.lt_size e) (I.ok.cab x c hfn hc)))).trans e1⟩
    · obtain ⟨o', e1⟩ := I.base.there b o e hx
      exact ⟨o', (hs.2 b (Nat.ne_of_lt (Nat.lt_of_lt_of_le (Heap.lt_size e) (I.ok.cab x c hfn hc)))).trans e1⟩
    · by_cases hj : j = i
      · subst hj
        rw [hi] at e1; cases e1
        rw [List.getElem?_set_self hiσ] at e2
        cases e2
        exact ⟨u, r, .inr ⟨.inl hk, c, hc, hc'⟩⟩
      · rw [List.getElem?_set_ne (Ne.symm hj)] at e2
        obtain ⟨u', r', q⟩ := hl j y v' e1 e2 e3
        refine ⟨u', r', ?_⟩
        rcases q with q | ⟨k, c', e, z'⟩
        · exact .inl q
        · refine .inr ⟨k, c', e, z'.sameBut hs ?_⟩
          rintro rfl
          exact hj (nodup_ix hN e1 (I.ok.inj _ _ _ e hc ▸ hi))
    · by_cases hcc : c' = c
      · subst hcc; exact ⟨_, hc'⟩
      · obtain ⟨w2, z2⟩ := I.cell y c' e
        exact ⟨w2, z2.sameBut hs hcc⟩
    · obtain ⟨e, n, ne, nf, d⟩ := I.pin p hp
      refine ⟨(hs.2 p.1 ?_).trans e, n, ne, nf, d⟩
      intro q
      rw [q, hoc] at e
      have q' : oc = p.2 := Option.some.inj e
      exact d w' (by rw [← q']; exact hocd)
theorem store_ok {M : Model} {A : Around} {E : Value → Shared → Prop} {i : Nat} {x : Str} {v : V} {u : Value} {Q : Unit → Shared → Prop} (I : Inv X pins σ H s) (hN : X.N.Nodup) (hi : X.N[i]? = some x) (hx : Loc X.env.scope x) (r : RelV v u)
    (h : ∀ s', Inv X pins (σ.set i (some v)) H s' → Q () s') (hf : X.fn x = true ∨ X.env.scope.names.lookup x = some .local := by first | exact .inl rfl | exact .inr rfl | assumption) : wpAny M A (storeName X.env x u) Q E s :=
  store_ok2 I hN hi hx r (fun s' I' _ => h s' I') hf
/-- behind a call or a block, the state as it is -/
theorem Inv.call' {s' : Shared} {ch : List Addr} (I : Inv X pins σ H s) (ho : s'.os = s.os) (u : Un (frs X.stack) ch H H' s.heap s'.heap) (hok : HOk X.prog X.w H' s'.heap) (hg : AllBare s'.gens)
    (hch : ∀ b ∈ ch, (b ∈ X.ex ∨ X.s_0.heap.objs.size ≤ b) ∧ b ≠ X.env.locals ∧ (∀ x c, X.env.cells.lookup x = some c → c ≠ b) ∧ ∀ p ∈ X.pn ++ pins, p.1 ≠ b) : Inv X pins σ H' s' := by
  obtain ⟨h', g', d', t', o'⟩ := s'
  have e : o' = s.os := ho
  subst e
  exact I.call (g' := g') (t' := t') (d' := d') u hok hg hch
end

/-! ### the judgements -/
/-- an exception: its class, its own dict's address (where it has one), the abstract heap behind it -/
abbrev XK := Value → Option Addr → Hp → Prop
abbrev St := List (Option V)
abbrev VK := V → Hp → Prop
/-- an expression's reading; a test's; an argument list's -/
abbrev TE := St → Hp → VK → Prop
abbrev TT := St → Hp → (Bool → Hp → Prop) → Prop
abbrev TA := St → Hp → (List V → Hp → Prop) → Prop
/-- what is wanted behind a statement -/
structure Ends where
  nx : St → Hp → Prop
  rt : VK
  bk : St → Hp → Prop := fun _ _ => False
  ct : St → Hp → Prop := fun _ _ => False
abbrev TS := Ends → St → Hp → Prop

def EP (X : Cx) (pins : List (Addr × Obj)) (σ : St) (Q : VK) (u : Value) (s' : Shared) : Prop := ∃ v H', Inv X pins σ H' s' ∧ RelV v u ∧ Q v H'
def TP (X : Cx) (pins : List (Addr × Obj)) (σ : St) (Q : Bool → Hp → Prop) (b : Bool) (s' : Shared) : Prop := ∃ H', Inv X pins σ H' s' ∧ Q b H'
def AP (X : Cx) (pins : List (Addr × Obj)) (σ : St) (Q : List V → Hp → Prop) (us : List Value) (s' : Shared) : Prop := ∃ vs H', Inv X pins σ H' s' ∧ Vals vs us ∧ Q vs H'
def SP (X : Cx) (pins : List (Addr × Obj)) (D : Ends) (f : Flow) (s' : Shared) : Prop :=
  match f with
  | .next => ∃ σ' H', Inv X pins σ' H' s' ∧ D.nx σ' H'
  | .brk => ∃ σ' H', Inv X pins σ' H' s' ∧ D.bk σ' H'
  | .cont => ∃ σ' H', Inv X pins σ' H' s' ∧ D.ct σ' H'
  | .ret u => ∃ v σ' H', Inv X pins σ' H' s' ∧ RelV v u ∧ D.rt v H'

def PE (X : Cx) (e : Expr) (t : TE) : Prop :=
  ∀ (pins : List (Addr × Obj)) (s : Shared) (σ : St) (H : Hp) (Q : VK), Inv X pins σ H s → t σ H Q → wpAny (model X.prog X.w) X.A (eval e X.env) (EP X pins σ Q) X.xe s
def PT (X : Cx) (e : Expr) (t : TT) : Prop :=
  ∀ (pins : List (Addr × Obj)) (s : Shared) (σ : St) (H : Hp) (Q : Bool → Hp → Prop), Inv X pins σ H s → t σ H Q → wpAny (model X.prog X.w) X.A (isTrue e X.env (eval e X.env)) (TP X pins σ Q) X.xe s
/-- a test whatever its 'whole' is (and, or) -/
def PW (X : Cx) (e : Expr) (t : TT) : Prop :=
  ∀ (whole : Sem Value) (pins : List (Addr × Obj)) (s : Shared) (σ : St) (H : Hp) (Q : Bool → Hp → Prop), Inv X pins σ H s → t σ H Q → wpAny (model X.prog X.w) X.A (isTrue e X.env whole) (TP X pins σ Q) X.xe s
theorem PW.pt {X : Cx} {e : Expr} {t : TT} (h : PW X e t) : PT X e t := h _
/-- an argument list (no star), from the left -/
def PA (X : Cx) (es : List Expr) (t : TA) : Prop :=
  ∀ (pos : Pos) (pins : List (Addr × Obj)) (s : Shared) (σ : St) (H : Hp) (Q : List V → Hp → Prop), Inv X pins σ H s → t σ H Q → wpAny (model X.prog X.w) X.A (spliced (backTo pos (starEach es X.env))) (AP X pins σ Q) X.xe s
def PS (X : Cx) (st : Stmt) (t : TS) : Prop :=
  ∀ (pins : List (Addr × Obj)) (s : Shared) (σ : St) (H : Hp) (D : Ends), Inv X pins σ H s → t D σ H → wpAny (model X.prog X.w) X.A (exec st X.env) (SP X pins D) X.xe s
def PSs (X : Cx) (st : List Stmt) (t : TS) : Prop :=
  ∀ (pins : List (Addr × Obj)) (s : Shared) (σ : St) (H : Hp) (D : Ends), Inv X pins σ H s → t D σ H → wpAny (model X.prog X.w) X.A (execs st X.env) (SP X pins D) X.xe s
/-- weaken the end -/
theorem thn {α : Type} {t : Sem α} {Q Q' : α → Shared → Prop} {M : Model} {A : Around} {E : Value → Shared → Prop} {s : Shared} (h : wpAny M A t Q E s) (hQ : ∀ a s, Q a s → Q' a s) : wpAny M A t Q' E s := wpAny_mono h hQ fun _ _ x => x
end L2

namespace L2
open PySem PySem.Spec PyProof.Rows
section
variable {X : Cx}

/-! ### names and constants -/
def tVar (i : Nat) : TE := fun σ H Q => ∃ v, σ[i]? = some (some v) ∧ Q v H
def tC (v : V) : TE := fun _ H Q => Q v H
theorem pe_var {i : Nat} {x : Str} {pos : Pos} (hN : X.N[i]? = some x) (hv : Vis X.env.scope x) (hd : (x == ("__debug__" : Str)) = false := by decide) (hcd : (x == ("__classdict__" : Str)) = false := by decide) : PE X (.Name x pos) (tVar i) := by
  intro pins s σ H Q I h
  obtain ⟨v, e, h⟩ := h
  obtain ⟨m, hn, hl⟩ := I.loc
  obtain ⟨u, r, l⟩ := hl i x v hN e hv
  have fin : EP X pins σ Q u s := ⟨v, H, I, r, h⟩
  rcases l with ⟨hk, hm⟩ | ⟨hk, c, hc, hcell⟩
  · exact wpAny_Name (wpAny_loadName_local I.ok.kind hk hn hm fin) hd
  · rcases hk with hk | hk
    · exact wpAny_Name (wpAny_loadName_cell I.ok.kind hk hc hcell fin) hd
    · exact wpAny_Name (wpAny_loadName_free I.ok.kind hk hc hcell fin hcd) hd
theorem pe_int {i j pos} : PE X (.Constant (.int i) j pos) (tC (.int i)) := fun _ _ _ H _ I h => wpAny_Constant_int ⟨.int i, H, I.tok _, ⟨_, rfl⟩, h⟩
theorem pe_bl {b j pos} : PE X (.Constant (.bool b) j pos) (tC (.bl b)) := fun _ _ _ H _ I h => Constant_bool ⟨.bl b, H, I, rfl, h⟩
theorem pe_non {j pos} : PE X (.Constant .none j pos) (tC .non) := fun _ _ _ H _ I h => Constant_none ⟨.non, H, I, rfl, h⟩
theorem pe_str {x j pos} : PE X (.Constant (.str x) j pos) (tC (.str x)) := fun _ _ _ H _ I h => Calls.Constant_str ⟨.str x, H, I.tok _, ⟨_, rfl⟩, h⟩

/-- a global name of the def -/
def Gl (X : Cx) (x : Str) : Prop := X.env.kindOf x = some .globalImplicit
theorem ld_glob {E : Value → Shared → Prop} {pins : List (Addr × Obj)} {s : Shared} {σ : St} {H : Hp} {x : Str} {u : Value} {pos : Pos} {Q : Value → Shared → Prop} (I : Inv X pins σ H s) (hg : Gl X x) (hm : X.mg x = some u) (h : Q u s)
    (hd : (x == ("__debug__" : Str)) = false := by decide) : wpAny (model X.prog X.w) X.A (eval (.Name x pos) X.env) Q E s :=
  Calls.Name_function_global I.ok.kind hg (Calls.loadGlobal_global (by rw [I.ok.glob]; exact I.mod.glob.keeps I.bk) hm h) hd
theorem ld_blt {E : Value → Shared → Prop} {pins : List (Addr × Obj)} {s : Shared} {σ : St} {H : Hp} {x : Str} {u : Value} {pos : Pos} {Q : Value → Shared → Prop} (I : Inv X pins σ H s) (hg : Gl X x) (hm : X.mg x = none) (hv : bootBuiltins x = some u) (h : Q u s)
    (hn : x ≠ "__name__" := by decide) (hd : (x == ("__debug__" : Str)) = false := by decide) : wpAny (model X.prog X.w) X.A (eval (.Name x pos) X.env) Q E s := by
  obtain ⟨mb, h1, h2⟩ := I.mod.blt
  exact Calls.Name_function_global I.ok.kind hg (Calls.loadGlobal_builtin (by rw [I.ok.glob]; exact I.mod.glob.keeps I.bk) hm (by rw [I.ok.blt]; exact h1.keeps I.bk) ((h2 x hn).trans hv) h) hd
/-- a module's constant, a class, a function, as a value -/
theorem pe_glob {x : Str} {v : V} {u : Value} {pos : Pos} (hg : Gl X x) (hm : X.mg x = some u) (r : RelV v u) (hd : (x == ("__debug__" : Str)) = false := by decide) : PE X (.Name x pos) (tC v) :=
  fun _ _ _ H _ I h => ld_glob I hg hm ⟨v, H, I, r, h⟩ hd
theorem pe_bltn {x : Str} {v : V} {u : Value} {pos : Pos} (hg : Gl X x) (hm : X.mg x = none) (hv : bootBuiltins x = some u) (r : RelV v u) (hn : x ≠ "__name__" := by decide) (hd : (x == ("__debug__" : Str)) = false := by decide) : PE X (.Name x pos) (tC v) :=
  fun _ _ _ H _ I h => ld_blt I hg hm hv ⟨v, H, I, r, h⟩ hn hd

/-! ### arithmetic -/
variable {a b : Expr} {ta tb : TE} {pos : Pos}
/-! ### comparisons -/
/-- a comparison as a value, as a test -/
def tB (t : TE) : TT := fun σ H Q => t σ H fun x H1 => ∃ c, x = .bl c ∧ Q c H1
/-- an expression whose value is a bool, as a test -/
theorem pt_val {e : Expr} {t : TE} (h : PE X e t) (he : ∀ whole, isTrue e X.env whole = (do let v ← whole; standAt e.pos; holding [v] (truthy v)) := by intro _; rfl) : PT X e (tB t) := by
  intro pins s σ H Q I hw
  refine isTrue_plain (thn (h pins s σ H _ I hw) fun v s1 ⟨x, H1, I1, r1, q1⟩ => ?_) (he _)
  obtain ⟨d, rfl, q⟩ := q1
  cases r1
  exact wpAny_truthy_bool ⟨H1, I1, q⟩

/-! ### and, or, not -/
variable {tA tB' : TT} {rest : List Expr}
def tNot (t : TT) : TT := fun σ H Q => t σ H fun c H1 => Q (!c) H1
theorem pt_not (ha : PT X a tA) : PT X (.UnaryOp .Not a pos) (tNot tA) := by
  intro pins s σ H Q I h
  exact isTrue_not (ha pins s σ H (fun c H1 => Q (!c) H1) I h)
/-- .. as values (bools) -/
def tAndV (ta tb : TE) : TE := fun σ H Q => ta σ H fun x H1 => ∃ c, x = .bl c ∧ if c = true then tb σ H1 Q else Q (.bl false) H1
def tNotV (ta : TE) : TE := fun σ H Q => ta σ H fun x H1 => ∃ c, x = .bl c ∧ Q (.bl (!c)) H1
theorem pe_one {op} {t : TE} (h : PE X a t) : PE X (.BoolOp op [a] pos) t := fun pins s σ H Q I hw => BoolOp_one (h pins s σ H Q I hw)
theorem pe_and (ha : PE X a ta) (hb : PE X (.BoolOp .And (b :: rest) pos) tb) : PE X (.BoolOp .And (a :: b :: rest) pos) (tAndV ta tb) := by
  intro pins s σ H Q I h
  refine BoolOp_and (thn (ha pins s σ H _ I h) fun v s1 ⟨x, H1, I1, r1, q1⟩ => ?_)
  obtain ⟨c, rfl, q1⟩ := q1
  cases r1
  refine wpAny_truthy_bool ?_
  cases c with
  | true => exact hb pins s1 σ H1 Q I1 q1
  | false => exact ⟨.bl false, H1, I1, rfl, q1⟩
theorem pe_not (ha : PE X a ta) : PE X (.UnaryOp .Not a pos) (tNotV ta) := by
  intro pins s σ H Q I h
  refine UnaryOp_ (thn (ha pins s σ H _ I h) fun v s1 ⟨x, H1, I1, r1, q1⟩ => ?_)
  obtain ⟨c, rfl, q1⟩ := q1
  cases r1
  exact not_of (wpAny_truthy_bool ⟨.bl (!c), H1, I1, rfl, q1⟩)
end
end L2

namespace L2
open PySem PySem.Spec PyProof.Rows

/-! ### a list, a tuple that is read: tracked, frozen, or an object of the module -/
def SqL (K : PySem.W.Frag) (H : Hp) (a : Addr) (xs : List V) : Prop :=
  Rd H a (.lst xs) ∨
    ∃ (o : Obj) (its : Array Value) (n : Nat), K.lookup a = some o ∧ o.cls = .type "list" ∧ o.dict = none ∧ o.data = .seq its n ∧ its.size ≤ sizeLine ∧ Vals xs its.toList
def SqT (K : PySem.W.Frag) (H : Hp) (a : Addr) (xs : List V) : Prop :=
  Rd H a (.tup xs) ∨
    ∃ (o : Obj) (its : Array Value) (n : Nat), K.lookup a = some o ∧ o.cls = .type "tuple" ∧ o.data = .seq its n ∧ its.size ≤ sizeLine ∧ Vals xs its.toList
def absV : Value → Option V
  | .none => some .non
  | .bool b => some (.bl b)
  | .int i _ => some (.int i)
  | .str x _ => some (.str x)
  | .bytes b _ => some (.byt b)
  | .float b _ => some (.flt b)
  | .ref a => some (.ref a)
  | .type n => some (.ty n)
  | _ => none
theorem RelV.abs {x : V} {u : Value} (r : RelV x u) : absV u = some x := by
  cases x with
  | non => cases r; rfl
  | bl _ => cases r; rfl
  | int _ => obtain ⟨t, rfl⟩ := r; rfl
  | str _ => obtain ⟨t, rfl⟩ := r; rfl
  | byt _ => obtain ⟨t, rfl⟩ := r; rfl
  | flt _ => obtain ⟨t, rfl⟩ := r; rfl
  | ref _ => cases r; rfl
  | ty _ => cases r; rfl
theorem RelV.inj {x y : V} {u : Value} (r : RelV x u) (q : RelV y u) : x = y := Option.some.inj (r.abs.symm.trans q.abs)
theorem Vals.inj : ∀ {xs ys : List V} {us : List Value}, Vals xs us → Vals ys us → xs = ys
  | _, _, _, .nil, .nil => rfl
  | _, _, _, .cons r t, .cons r' t' => by rw [r.inj r', Vals.inj t t']
section
variable {X : Cx} {pins : List (Addr × Obj)} {σ : St} {H : Hp} {s : Shared} {a : Addr} {xs ys : List V}
theorem SqL.of {K : PySem.W.Frag} (h : H a = some (.lst xs)) : SqL K H a xs := .inl (.inl h)
theorem SqT.of {K : PySem.W.Frag} (h : H a = some (.tup xs)) : SqT K H a xs := .inl (.inl h)
theorem Inv.list (I : Inv X pins σ H s) (h : SqL X.K H a xs) : ∃ its : List Value, Vals xs its ∧ PlainL s.heap a its.toArray ∧ xs.length ≤ sizeLine := by
  rcases h with h | ⟨o, its, n, hk, hc, hd, hs, hz, r⟩
  · obtain ⟨z, its, n, r, e⟩ := h.ok I.hok
    exact ⟨its, r, ⟨_, n, e, rfl, rfl, rfl⟩, z⟩
  · refine ⟨its.toList, r, ⟨o, n, I.kIn a o hk, hc, hd, by simpa using hs⟩, ?_⟩
    have e := r.length
    simp only [Array.length_toList] at e
    omega
theorem Inv.tuple (I : Inv X pins σ H s) (h : SqT X.K H a xs) : ∃ its : List Value, Vals xs its ∧ IsTup s.heap a its.toArray ∧ xs.length ≤ sizeLine := by
  rcases h with h | ⟨o, its, n, hk, hc, hs, hz, r⟩
  · obtain ⟨z, its, r, p⟩ := h.ok I.hok
    exact ⟨its, r, p, z⟩
  · refine ⟨its.toList, r, ⟨o, I.kIn a o hk, hc, n, by simpa using hs⟩, ?_⟩
    have e := r.length
    simp only [Array.length_toList] at e
    omega
theorem Inv.list_inj (I : Inv X pins σ H s) (h : SqL X.K H a xs) (h' : SqL X.K H a ys) : xs = ys := by
  obtain ⟨its, r, ⟨o, n, e, _, _, d⟩, _⟩ := I.list h
  obtain ⟨its', r', ⟨o', n', e', _, _, d'⟩, _⟩ := I.list h'
  rw [e] at e'; cases e'
  rw [d] at d'
  injection d' with d1 _
  have : its = its' := by simpa using congrArg Array.toList d1
  subst this
  exact r.inj r'
theorem Inv.tuple_inj (I : Inv X pins σ H s) (h : SqT X.K H a xs) (h' : SqT X.K H a ys) : xs = ys := by
  obtain ⟨its, r, ⟨o, e, _, n, d⟩, _⟩ := I.tuple h
  obtain ⟨its', r', ⟨o', e', _, n', d'⟩, _⟩ := I.tuple h'
  rw [e] at e'; cases e'
  rw [d] at d'
  injection d' with d1 _
  have : its = its' := by simpa using congrArg Array.toList d1
  subst this
  exact r.inj r'
end

/-! ### another wish about exceptions -/
abbrev Cx.wish (X : Cx) (E : Value → Shared → Prop) : Cx := { X with xe := E }
/-- no exception leaves -/
abbrev Cx.nox (X : Cx) : Cx := X.wish fun _ _ => False
theorem Cx.Ok.wish {X : Cx} (ok : X.Ok) (E : Value → Shared → Prop) : (X.wish E).Ok :=
  ⟨ok.mod, ok.kind, ok.glob, ok.blt, ok.above, ok.inj, ok.has, ok.cab, ok.hd, ok.frames, ok.stk, ok.exf, ok.bs, ok.bsz, ok.noex, ok.exfs, ok.funs, ok.frf⟩
theorem Cx.Ok.unwish {X : Cx} {E : Value → Shared → Prop} (ok : (X.wish E).Ok) : X.Ok :=
  ⟨ok.mod, ok.kind, ok.glob, ok.blt, ok.above, ok.inj, ok.has, ok.cab, ok.hd, ok.frames, ok.stk, ok.exf, ok.bs, ok.bsz, ok.noex, ok.exfs, ok.funs, ok.frf⟩
section
variable {X : Cx} {pins : List (Addr × Obj)} {σ : St} {H : Hp} {s : Shared} {E : Value → Shared → Prop}
theorem Inv.wish (I : Inv X pins σ H s) (E : Value → Shared → Prop) : Inv (X.wish E) pins σ H s := ⟨I.ok.wish E, I.os, I.bare, I.base, I.loc, I.cell, I.free, I.freeC, I.pin, I.hok, I.len⟩
theorem Inv.unwish (I : Inv (X.wish E) pins σ H s) : Inv X pins σ H s := ⟨I.ok.unwish, I.os, I.bare, I.base, I.loc, I.cell, I.free, I.freeC, I.pin, I.hok, I.len⟩
theorem SP.unwish {D : Ends} {f : Flow} {s' : Shared} (h : SP (X.wish E) pins D f s') : SP X pins D f s' := by
  cases f with
  | next => obtain ⟨σ', H', I, q⟩ := h; exact ⟨σ', H', I.unwish, q⟩
  | brk => obtain ⟨σ', H', I, q⟩ := h; exact ⟨σ', H', I.unwish, q⟩
  | cont => obtain ⟨σ', H', I, q⟩ := h; exact ⟨σ', H', I.unwish, q⟩
  | ret u => obtain ⟨v, σ', H', I, r, q⟩ := h; exact ⟨v, σ', H', I.unwish, r, q⟩
theorem PE.nox {e : Expr} {t : TE} (h : PE X.nox e t) : PE X e t := fun pins s σ H Q I hw =>
  wpAny_mono (h pins s σ H Q (I.wish _) hw) (fun _ _ ⟨v, H', I', r, q⟩ => ⟨v, H', I'.unwish, r, q⟩) fun _ _ z => False.elim z
theorem PT.nox {e : Expr} {t : TT} (h : PT X.nox e t) : PT X e t := fun pins s σ H Q I hw =>
  wpAny_mono (h pins s σ H Q (I.wish _) hw) (fun _ _ ⟨H', I', q⟩ => ⟨H', I'.unwish, q⟩) fun _ _ z => False.elim z
theorem PSs.nox {st : List Stmt} {t : TS} (h : PSs X.nox st t) : PSs X st t := fun pins s σ H D I hw =>
  wpAny_mono (h pins s σ H D (I.wish _) hw) (fun _ _ q => q.unwish) fun _ _ z => False.elim z
end

/-! ### blocks and small statements -/
section
variable {X : Cx} {st : Stmt} {rest : List Stmt} {t u : TS} {e : Expr} {te : TE} {pos : Pos}
def tNext : TS := fun D σ H => D.nx σ H
def tSeq (t u : TS) : TS := fun D σ H => t { D with nx := u D } σ H
theorem pss_nil : PSs X [] tNext := fun _ _ σ H _ I h => wpAny_execs_nil ⟨σ, H, I, h⟩
theorem pss_cons (h1 : PS X st t) (h2 : PSs X rest u) : PSs X (st :: rest) (tSeq t u) := by
  intro pins s σ H D I h
  refine wpAny_execs_cons (thn (h1 pins s σ H { D with nx := u D } I h) fun f s1 q => ?_)
  cases f with
  | next =>
    obtain ⟨σ', H', I', q⟩ := q
    exact h2 pins s1 σ' H' D I' q
  | ret v => exact q
  | brk => exact q
  | cont => exact q
theorem pss_one (h1 : PS X st t) : PSs X [st] t := by
  intro pins s σ H D I h
  refine wpAny_execs_cons (thn (h1 pins s σ H D I h) fun f s1 q => ?_)
  cases f with
  | next => exact wpAny_execs_nil q
  | ret v => exact q
  | brk => exact q
  | cont => exact q
/-- in a def's body nothing is shown -/
theorem Inv.quiet {pins : List (Addr × Obj)} {σ : St} {H : Hp} {s : Shared} (I : Inv X pins σ H s) : interactive X.env = false := by simp [interactive, I.ok.kind]
/-- an expression whose value is dropped -/
def tDrop (te : TE) : TS := fun D σ H => te σ H fun _ H1 => D.nx σ H1
theorem ps_expr (he : PE X e te) (hs : swapsWith e none pos.line X.env = pure false := by rfl) : PS X (.Expr e pos) (tDrop te) := by
  intro pins s σ H D I h
  exact wpAny_Expr_any (thn (he pins s σ H _ I h) fun v s1 ⟨x, H1, I1, r1, q1⟩ => ⟨σ, H1, I1, q1⟩) I.quiet hs
def tRet (te : TE) : TS := fun D σ H => te σ H D.rt
theorem ps_ret (he : PE X e te) : PS X (.Return (some e) pos) (tRet te) := by
  intro pins s σ H D I h
  exact wpAny_Return_some (thn (he pins s σ H _ I h) fun v s1 ⟨x, H1, I1, r1, q1⟩ => ⟨x, σ, H1, I1, r1, q1⟩)
def tIfS (c : TT) (t u : TS) : TS := fun D σ H => c σ H fun b H1 => if b = true then t D σ H1 else u D σ H1
theorem ps_if {c : Expr} {a b : List Stmt} {tc : TT} (hc : PT X c tc) (ha : PSs X a t) (hb : PSs X b u) : PS X (.If c a b pos) (tIfS tc t u) := by
  intro pins s σ H D I h
  refine wpAny_If (thn (hc pins s σ H _ I h) fun d s1 ⟨H1, I1, q1⟩ => ?_)
  cases d with
  | true => exact ha pins s1 σ H1 D I1 q1
  | false => exact hb pins s1 σ H1 D I1 q1
end

/-! ### targets -/
abbrev TG := V → St → Hp → (St → Hp → Prop) → Prop
abbrev TGs := List V → St → Hp → (St → Hp → Prop) → Prop
def PG (X : Cx) (target : Expr) (t : TG) : Prop :=
  ∀ (pins : List (Addr × Obj)) (s : Shared) (σ : St) (H : Hp) (v : V) (u : Value) (Q : St → Hp → Prop), Inv X pins σ H s → RelV v u → t v σ H Q →
    wpAny (model X.prog X.w) X.A (assign target X.env u) (fun _ s' => ∃ σ' H', Inv X pins σ' H' s' ∧ Q σ' H') X.xe s
/-- several targets, one after another -/
def PGs (X : Cx) (ts : List Expr) (t : TGs) : Prop :=
  ∀ (pins : List (Addr × Obj)) (s : Shared) (σ : St) (H : Hp) (vs : List V) (us : List Value) (Q : St → Hp → Prop), Inv X pins σ H s → Vals vs us → t vs σ H Q →
    wpAny (model X.prog X.w) X.A (assignInOrder ((assignEach ts X.env).map (·.2)) us) (fun _ s' => ∃ σ' H', Inv X pins σ' H' s' ∧ Q σ' H') X.xe s
/-- o[i] = v, by values -/
abbrev TSet := V → V → V → Hp → (Hp → Prop) → Prop
def PSet (X : Cx) (t : TSet) : Prop :=
  ∀ (pins : List (Addr × Obj)) (s : Shared) (σ : St) (H : Hp) (o i v : V) (ov iv u : Value) (Q : Hp → Prop), Inv X pins σ H s → RelV o ov → RelV i iv → RelV v u → t o i v H Q →
    wpAny (model X.prog X.w) X.A (setItem ov iv u) (fun _ s' => ∃ H', Inv X pins σ H' s' ∧ Q H') X.xe s
section
variable {X : Cx} {pos : Pos}
def gName (i : Nat) : TG := fun v σ H Q => Q (σ.set i (some v)) H
theorem pg_name {i : Nat} {x : Str} (hN : X.N.Nodup) (hi : X.N[i]? = some x) (hx : Loc X.env.scope x) (hf : X.fn x = true ∨ X.env.scope.names.lookup x = some .local := by first | exact .inl rfl | exact .inr rfl | assumption) : PG X (.Name x pos) (gName i) := by
  intro pins s σ H v u Q I r h
  exact wpAny_assign_Name (store_ok I hN hi hx r (fun s' I' => ⟨_, H, I', h⟩) hf)
def gNil : TGs := fun vs σ H Q => vs = [] ∧ Q σ H
def gCons (t : TG) (u : TGs) : TGs := fun vs σ H Q => ∃ v r, vs = v :: r ∧ t v σ H fun σ' H' => u r σ' H' Q
theorem pgs_nil : PGs X [] gNil := by
  intro pins s σ H vs us Q I r h
  obtain ⟨e, h⟩ := h
  subst e
  cases r
  exact assignInOrder_nil ⟨σ, H, I, h⟩
theorem pgs_cons {e : Expr} {es : List Expr} {t : TG} {u : TGs} (h1 : PG X e t) (h2 : PGs X es u)
    (hs : (assignEach (e :: es) X.env).map (·.2) = assign e X.env :: (assignEach es X.env).map (·.2) := by rfl) : PGs X (e :: es) (gCons t u) := by
  intro pins s σ H vs us Q I r h
  obtain ⟨v, vr, e1, h⟩ := h
  subst e1
  cases r with
  | cons r rr =>
    rw [hs]
    refine assignInOrder_cons (thn (h1 pins s σ H _ _ _ I r h) fun _ s1 ⟨σ1, H1, I1, q1⟩ => ?_)
    exact h2 pins s1 σ1 H1 _ _ Q I1 rr q1
/-- (a, b, ..) = a tuple of that length -/
def gTup (K : PySem.W.Frag) (n : Nat) (t : TGs) : TG := fun v σ H Q => ∃ a xs, v = .ref a ∧ SqT K H a xs ∧ xs.length = n ∧ t xs σ H Q
theorem pg_tup {es : List Expr} {k : Nat} {t : TGs} {n : Nat} (hc : X.calm = true) (h : PGs X es t)
    (hn : (assignEach es X.env).length = n := by rfl) (hst : (assignEach es X.env).findIdx? (·.1) = none := by rfl) : PG X (.Tuple es k pos) (gTup X.K n t) := by
  intro pins s σ H v u Q I r hw
  obtain ⟨a, xs, e1, hq, hl, hw⟩ := hw
  subst e1
  cases r
  obtain ⟨its, rv, ht, hz⟩ := I.tuple hq
  refine assign_Tuple_tuple (I.ok.hd hc) ht (by simp [hn, ← hl, rv.length]) hst fun h' hx => ?_
  have I1 : Inv X pins σ H { s with heap := h' } := I.kept (t' := s.toks) fun b o e => hx b o (Nat.ne_of_lt (Heap.lt_size e)) e
  exact h pins _ σ H xs _ Q I1 (by simpa using rv) hw
/-- o[i] = .. -/
def gSub (to ti : TE) (t : TSet) : TG := fun v σ H Q => to σ H fun o H1 => ti σ H1 fun i H2 => t o i v H2 fun H3 => Q σ H3
theorem pg_sub {o i : Expr} {to ti : TE} {t : TSet} (ho : PE X o to) (hi : PE X i ti) (hs : PSet X t)
    (ha : ∀ v, assign (.Subscript o i pos) X.env v = (do
      let ov ← holding [v] (eval o X.env)
      let iv ← holding [v, ov] (eval i X.env)
      standAt pos
      holding [v, ov, iv] (setItem ov iv v)
      release [v, ov, iv] []) := by intro _; rfl) : PG X (.Subscript o i pos) (gSub to ti t) := by
  intro pins s σ H v u Q I r h
  rw [ha]
  refine wpAny_bind (wpAny_holding (thn (ho pins s σ H _ I h) fun ov s1 ⟨x, H1, I1, r1, q1⟩ => ?_))
  refine wpAny_bind (wpAny_holding (thn (hi pins s1 σ H1 _ I1 q1) fun iv s2 ⟨y, H2, I2, r2, q2⟩ => ?_))
  refine wpAny_bind (wpAny_standAt (wpAny_bind (wpAny_holding (thn (hs pins s2 σ H2 x y v ov iv u _ I2 r1 r2 r q2) fun _ s3 ⟨H3, I3, q3⟩ => ?_))))
  exact wpAny_release ⟨σ, H3, I3, q3⟩
/-- target = value -/
def tAsg (te : TE) (g : TG) : TS := fun D σ H => te σ H fun x H1 => g x σ H1 D.nx
theorem ps_asg {tg e : Expr} {te : TE} {g : TG} (he : PE X e te) (hg : PG X tg g) (hs : swapsWithSole [tg] e pos.line X.env = pure false := by rfl) (hw : swappedStores [tg] e X.env = pure none := by rfl)
    (h1 : (assignEach [tg] X.env).map (·.2) = [assign tg X.env] := by rfl) : PS X (.Assign [tg] e pos) (tAsg te g) := by
  intro pins s σ H D I h
  refine wpAny_Assign_stores (thn (he pins s σ H _ I h) fun v s1 ⟨x, H1, I1, r1, q1⟩ => ?_) hs hw
  rw [h1]
  exact thn (hg pins s1 σ H1 x v _ I1 r1 q1) fun _ s2 q => q
/-- name = value -/
theorem ps_set {i : Nat} {x : Str} {e : Expr} {te : TE} {pos' : Pos} (hN : X.N.Nodup) (hi : X.N[i]? = some x) (hx : Loc X.env.scope x) (he : PE X e te) (hs : swapsWith e (some (.Name x pos')) pos.line X.env = pure false := by rfl) (hf : X.fn x = true ∨ X.env.scope.names.lookup x = some .local := by first | exact .inl rfl | exact .inr rfl | assumption) :
    PS X (.Assign [.Name x pos'] e pos) (tAsg te (gName i)) := by
  intro pins s σ H D I h
  refine wpAny_Assign_Name (thn (he pins s σ H _ I h) fun v s1 ⟨y, H1, I1, r1, q1⟩ => ?_) hs
  exact store_ok I1 hN hi hx r1 (fun s2 I2 => ⟨_, H1, I2, q1⟩) hf
/-- a, b = x, y with plain local names: stored from the right; the pair itself is not tracked (the opening rows as in PyProof/Rows/TupAssign.lean:23) -/
def tPar (i j : Nat) (ta : TA) : TS := fun D σ H => ta σ H fun vs H1 => ∃ v w, vs = [v, w] ∧ D.nx ((σ.set i (some v)).set j (some w)) H1
theorem ps_par {i j : Nat} {x y : Str} {a b : Expr} {ta : TA} {px py pt : Pos} {kt k2 pt2} (hc : X.calm = true) (hN : X.N.Nodup) (hi : X.N[i]? = some x) (hj : X.N[j]? = some y) (hij : i ≠ j)
    (hx : X.env.scope.names.lookup x = some .local) (hy : X.env.scope.names.lookup y = some .local) (ha : PA X [a, b] ta)
    (hw : swappedStores [.Tuple [.Name x px, .Name y py] kt pt] (.Tuple [a, b] k2 pt2) X.env = pure (some [x, y]))
    (hs : swapsWithSole [.Tuple [.Name x px, .Name y py] kt pt] (.Tuple [a, b] k2 pt2) pos.line X.env = pure false := by rfl) :
    PS X (.Assign [.Tuple [.Name x px, .Name y py] kt pt] (.Tuple [a, b] k2 pt2) pos) (tPar i j ta) := by
  intro pins s σ H D I h
  rw [exec_Assign_arm]
  refine wpAny_bind (wpAny_standAt ?_)
  rw [hs]
  refine wpAny_bind (wpAny_pure ?_)
  rw [if_neg (by decide)]
  refine wpAny_bind (Tuple_ (thn (ha _ pins s σ H _ I h) fun us s1 ⟨vs, H1, I1, r1, q1⟩ => ?_))
  obtain ⟨v, w, e1, q1⟩ := q1
  subst e1
  obtain ⟨u1, u2, rfl, rv, rw'⟩ : ∃ u1 u2, us = [u1, u2] ∧ RelV v u1 ∧ RelV w u2 := by
    cases r1 with
    | cons p q =>
      cases q with
      | cons p' q' =>
        cases q'
        exact ⟨_, _, rfl, p, p'⟩
  refine wpAny_newObj_type ?_ (by show 2 ≤ sizeLine; decide)
  have I2 : Inv X pins σ H1 { s1 with heap := s1.heap.push { cls := .type "tuple", data := .seq [u1, u2].toArray } } := I1.kept (t' := s1.toks) fun b o e => Heap.get?_push_of_some _ e
  rw [hw]
  refine wpAny_bind (wpAny_pure ?_)
  show wpAny (model X.prog X.w) X.A (do rule "assign.swapped-stores"; let items ← unpackItems (.ref s1.heap.objs.size) 2 none; assignInOrder [fun v => bindName X.env y v, fun v => bindName X.env x v] items.reverse; pure Flow.next) _ _ _
  refine wpAny_bind (wpAny_rule (wpAny_bind (unpackItems_tuple (items := #[u1, u2]) (I.ok.hd hc) (IsTup.new s1.heap _) fun h' hx' => ?_)))
  have I3 := I2.kept (h' := h') (t' := s1.toks) fun b o e => hx' b o (Nat.ne_of_lt (Heap.lt_size e)) e
  show wpAny _ _ (assignInOrder [fun v => bindName X.env y v, fun v => bindName X.env x v] [u2, u1] >>= fun _ => pure Flow.next) _ _ _
  refine wpAny_bind (assignInOrder_cons (wpAny_bindName (store_ok I3 hN hj (.inl hy) rw' (fun s2 I4 => ?_) (.inr hy))))
  refine assignInOrder_cons (wpAny_bindName (store_ok I4 hN hi (.inl hx) rv (fun s3 I5 => assignInOrder_nil (wpAny_pure ?_)) (.inr hx)))
  rw [List.set_comm _ _ (Ne.symm hij)] at I5
  exact ⟨_, H1, I5, q1⟩
end

/-! ### while -/
section
variable {X : Cx} {pos : Pos}
end

/-! ### what a loop or a comprehension walks -/
/-- at turn i: it yields x (the heap may grow), or it stops -/
structure It where
  go : Nat → Hp → Prop
  yld : Nat → Hp → V → Hp → Prop
  stop : Nat → Hp → Prop
/-- the iterator's own objects may turn: they are not the frame's, not pinned, younger than the entry (or a comprehension's own) -/
def FpOk (X : Cx) (pins : List (Addr × Obj)) (H : Hp) (b : Addr) : Prop :=
  H b = none ∧ b ≠ X.env.locals ∧ b ∉ X.fs ∧ (b ∈ X.ex ∨ X.s_0.heap.objs.size ≤ b) ∧ (∀ x c, X.env.cells.lookup x = some c → c ≠ b) ∧ ∀ p ∈ X.pn ++ pins, p.1 ≠ b
theorem Inv.fpOk {X : Cx} {pins : List (Addr × Obj)} {σ : St} {H H' : Hp} {s : Shared} {b : Addr} (I : Inv X pins σ H s) (hb : s.heap.objs.size ≤ b) (hn : H' b = none) : FpOk X pins H' b := by
  refine ⟨hn, Nat.ne_of_gt (Nat.lt_of_lt_of_le I.lt hb), I.nofs hb, .inr (Nat.le_trans I.sz hb), fun x c e z => ?_, fun p hp z => ?_⟩
  · obtain ⟨v, q⟩ := I.cell x c e
    exact absurd (Nat.lt_of_lt_of_le q.lt (by rw [z]; exact hb)) (Nat.lt_irrefl _)
  · exact absurd (Nat.lt_of_lt_of_le (Heap.lt_size (I.pin p hp).1) (by rw [z]; exact hb)) (Nat.lt_irrefl _)
structure Turn (P : Program) (w : World) (K : PySem.W.Frag) (tg : Expr) (J : It) (fp : List Addr) (it : Addr) (tn : Nat → Heap → Prop) : Prop where
  mem : it ∈ fp
  obj : ∀ i h, tn i h → ∀ b ∈ fp, ∃ o, h.get? b = some o ∧ ∀ v, o.data ≠ .cell v
  keep : ∀ i h h', tn i h → (∀ b ∈ fp, ∀ o, h.get? b = some o → h'.get? b = some o) → tn i h'
  item : ∀ (X : Cx), X.prog = P → X.w = w → X.K = K → X.calm = true → ∀ (i : Nat) (pins : List (Addr × Obj)) (s : Shared) (σ : St) (H : Hp) (E : Value → Shared → Prop), Inv X pins σ H s → (∀ b ∈ fp, FpOk X pins H b) → tn i s.heap → J.go i H →
    wpAny (model P w) X.A (pyNext (.ref it)) (fun r s1 => ∃ u, r = some u ∧
      wpAny (model P w) X.A (letOwnedTupleGo tg (.ref it) u) (fun _ s2 => ∃ x H', Inv X pins σ H' s2 ∧ RelV x u ∧ J.yld i H x H' ∧ tn (i + 1) s2.heap ∧ ∀ b ∈ fp, H' b = none) E s1) E s
  done : ∀ (X : Cx), X.prog = P → X.w = w → X.K = K → X.calm = true → ∀ (i : Nat) (pins : List (Addr × Obj)) (s : Shared) (σ : St) (H : Hp) (E : Value → Shared → Prop), Inv X pins σ H s → (∀ b ∈ fp, FpOk X pins H b) → tn i s.heap → J.stop i H →
    wpAny (model P w) X.A (pyNext (.ref it)) (fun r s1 => r = none ∧ Inv X pins σ H s1) E s
  self : ∀ (A : Around) (i : Nat) (s : Shared) (Q : Value → Shared → Prop) (E : Value → Shared → Prop), tn i s.heap → Q (.ref it) s → wpAny (model P w) A (pyIter (.ref it)) Q E s
abbrev TI := St → Hp → (It → Hp → Prop) → Prop
/-- an iterator has come -/
def PIE (X : Cx) (pins : List (Addr × Obj)) (σ : St) (tg : Expr) (R : It → Hp → Prop) (itv : Value) (s2 : Shared) : Prop :=
  ∃ (it : Addr) (fp : List Addr) (tn : Nat → Heap → Prop) (J : It) (H' : Hp), itv = .ref it ∧ Inv X pins σ H' s2 ∧ Turn X.prog X.w X.K tg J fp it tn ∧ tn 0 s2.heap ∧ (∀ b ∈ fp, FpOk X pins H' b) ∧ R J H'
def PI (X : Cx) (tg iter : Expr) (wi : TI) : Prop :=
  ∀ (pins : List (Addr × Obj)) (s : Shared) (σ : St) (H : Hp) (R : It → Hp → Prop), Inv X pins σ H s → wi σ H R →
    wpAny (model X.prog X.w) X.A (eval iter X.env) (fun v s1 => wpAny (model X.prog X.w) X.A (pyIter v) (PIE X pins σ tg R) X.xe s1) X.xe s

/-- the step ahead of the store is nothing for an iterator that keeps no tuple -/
theorem go_of {M : Model} {A : Around} {E : Value → Shared → Prop} {s : Shared} {tg : Expr} {it : Addr} {u : Value} {o : Obj} {n : String} {vs : Array Value} {Q : Unit → Shared → Prop} (ho : s.heap.get? it = some o) (hc : o.cls = .type n) (hd : o.data = .fields vs)
    (hn : ["enumerate", "zip", "dict_itemiterator", "dict_reverseitemiterator", "odict_iterator", "itertools.zip_longest", "itertools.pairwise"].contains n = false) (hQ : Q () s) : wpAny M A (letOwnedTupleGo tg (.ref it) u) Q E s := by
  unfold letOwnedTupleGo
  cases tg <;> first
    | exact wpAny_pure hQ
    | (cases u <;> first
        | exact wpAny_pure hQ
        | (refine wpAny_bind (wpAny_load ho ?_)
           rw [hc, hd]
           show wpAny M A (if (["enumerate", "zip", "dict_itemiterator", "dict_reverseitemiterator", "odict_iterator", "itertools.zip_longest", "itertools.pairwise"].contains n && vs[0]? == some (rawInt _)) = true then _ else _) Q E s
           rw [if_neg (by intro h; rw [hn, Bool.false_and] at h; cases h)]
           exact wpAny_pure hQ))

/-- the list at a, as it stands at each turn (a loop may append to it) -/
def Itl (K : PySem.W.Frag) (a : Addr) : It :=
  ⟨fun i H => ∃ xs x, SqL K H a xs ∧ xs[i]? = some x, fun i H x H' => H' = H ∧ ∀ xs, SqL K H a xs → xs[i]? = some x, fun i H => ∃ xs, SqL K H a xs ∧ xs.length ≤ i⟩
def Itt (K : PySem.W.Frag) (a : Addr) : It :=
  ⟨fun i H => ∃ xs x, SqT K H a xs ∧ xs[i]? = some x, fun i H x H' => H' = H ∧ ∀ xs, SqT K H a xs → xs[i]? = some x, fun i H => ∃ xs, SqT K H a xs ∧ xs.length ≤ i⟩
/-- lo, lo + 1, .. (n of them) -/
def Itr (lo : Int) (n : Nat) : It := ⟨fun i _ => i < n, fun i H x H' => H' = H ∧ x = .int (lo + i), fun i _ => n ≤ i⟩
theorem turn_list {P : Program} {w : World} {K : PySem.W.Frag} {tg : Expr} (a it : Addr) : Turn P w K tg (Itl K a) [it] it (fun i h => h.IsListIter it a i) where
  mem := by simp
  obj := fun i h st b hb => by
    have e : b = it := by simpa using hb
    subst e
    obtain ⟨o, e, c, d⟩ := st
    exact ⟨o, e, fun v z => by rw [d] at z; cases z⟩
  keep := fun i h h' st k => st.at fun o e => k it (by simp) o e
  item := by
    intro X hP hw hK hc i pins s σ H E I hf st hg
    subst hP hw hK
    obtain ⟨xs, x, hq, hx⟩ := hg
    obtain ⟨its, rv, p, hz⟩ := I.list hq
    obtain ⟨u, hu, ru⟩ := rv.get hx
    obtain ⟨f0, f1, f2, f3, f4, f5⟩ := hf it (by simp)
    refine wpAny_pyNext_list_item st p.isList (x := u) (by simpa using hu) fun h' st' sb => ?_
    have I1 : Inv X pins σ H { s with heap := h' } := I.turned (t' := s.toks) (fun b o hb e => (sb.2 b hb).trans e) f0 f1 f3 f4 f5
    obtain ⟨o, e, c, d⟩ := id st'
    exact ⟨u, rfl, go_of (s := { s with heap := h' }) e c d (by decide) ⟨x, H, I1, ru, ⟨rfl, fun ys hy => by rw [I.list_inj hy hq]; exact hx⟩, st', fun b hb => (hf b hb).1⟩⟩
  done := by
    intro X hP hw hK hc i pins s σ H E I hf st hg
    subst hP hw hK
    obtain ⟨xs, hq, hx⟩ := hg
    obtain ⟨its, rv, p, hz⟩ := I.list hq
    obtain ⟨f0, f1, f2, f3, f4, f5⟩ := hf it (by simp)
    have hl := rv.length
    exact wpAny_pyNext_list_end (I.ok.hd hc) st p.isList (by simp; omega) fun h' eb => ⟨rfl, I.turned (t' := s.toks) (fun b o hb e => eb b o hb e) f0 f1 f3 f4 f5⟩
  self := fun _ _ _ _ _ st h => wpAny_pyIter_listiter st h
theorem turn_tuple {P : Program} {w : World} {K : PySem.W.Frag} {tg : Expr} (a it : Addr) : Turn P w K tg (Itt K a) [it] it (fun i h => h.IsTupleIter it a i) where
  mem := by simp
  obj := fun i h st b hb => by
    have e : b = it := by simpa using hb
    subst e
    obtain ⟨o, e, c, d⟩ := st
    exact ⟨o, e, fun v z => by rw [d] at z; cases z⟩
  keep := fun i h h' st k => st.at fun o e => k it (by simp) o e
  item := by
    intro X hP hw hK hc i pins s σ H E I hf st hg
    subst hP hw hK
    obtain ⟨xs, x, hq, hx⟩ := hg
    obtain ⟨its, rv, p, hz⟩ := I.tuple hq
    obtain ⟨u, hu, ru⟩ := rv.get hx
    obtain ⟨f0, f1, f2, f3, f4, f5⟩ := hf it (by simp)
    refine wpAny_pyNext_tuple_item st (show s.heap.IsTuple a its.toArray from p) (x := u) (by simpa using hu) fun h' st' sb => ?_
    have I1 : Inv X pins σ H { s with heap := h' } := I.turned (t' := s.toks) (fun b o hb e => (sb.2 b hb).trans e) f0 f1 f3 f4 f5
    obtain ⟨o, e, c, d⟩ := id st'
    exact ⟨u, rfl, go_of (s := { s with heap := h' }) e c d (by decide) ⟨x, H, I1, ru, ⟨rfl, fun ys hy => by rw [I.tuple_inj hy hq]; exact hx⟩, st', fun b hb => (hf b hb).1⟩⟩
  done := by
    intro X hP hw hK hc i pins s σ H E I hf st hg
    subst hP hw hK
    obtain ⟨xs, hq, hx⟩ := hg
    obtain ⟨its, rv, p, hz⟩ := I.tuple hq
    obtain ⟨f0, f1, f2, f3, f4, f5⟩ := hf it (by simp)
    have hl := rv.length
    exact wpAny_pyNext_tuple_end (I.ok.hd hc) st (show s.heap.IsTuple a its.toArray from p) (by simp; omega) fun h' eb => ⟨rfl, I.turned (t' := s.toks) (fun b o hb e => eb b o hb e) f0 f1 f3 f4 f5⟩
  self := fun _ _ _ _ _ st h => wpAny_pyIter_tupleiter st h
theorem turn_range {P : Program} {w : World} {K : PySem.W.Frag} {tg : Expr} (it : Addr) (lo : Int) (n : Nat) : Turn P w K tg (Itr lo n) [it] it (fun i h => IsRangeIter h it (lo + (i : Nat) * 1) ((n : Int) - (i : Nat)) 1) where
  mem := by simp
  obj := fun i h st b hb => by
    have e : b = it := by simpa using hb
    subst e
    exact ⟨_, st, fun v z => by
      have z' : Data.fields _ = Data.cell v := z
      cases z'⟩
  keep := fun i h h' st k => k it (by simp) _ st
  item := by
    intro X hP hw hK hc i pins s σ H E I hf st hg
    subst hP hw hK
    obtain ⟨f0, f1, f2, f3, f4, f5⟩ := hf it (by simp)
    have W := Walks.range (prog := X.prog) (w := X.w) (I.ok.hd hc) it lo 1 n
    refine W.item i s _ _ hg st fun v h' tk hv st' kk => ?_
    obtain ⟨t, rfl⟩ := hv
    have I1 : Inv X pins σ H { s with heap := h', toks := tk } := I.turned (fun b o hb e => kk b o (by simpa using hb) e) f0 f1 f3 f4 f5
    refine ⟨_, rfl, go_of (s := { s with heap := h', toks := tk }) (n := "range_iterator") st' rfl rfl (by decide) ⟨.int (lo + i), H, I1, ⟨t, ?_⟩, ⟨rfl, rfl⟩, st', fun b hb => (hf b hb).1⟩⟩
    rw [Int.mul_one]
  done := by
    intro X hP hw hK hc i pins s σ H E I hf st hg
    subst hP hw hK
    obtain ⟨f0, f1, f2, f3, f4, f5⟩ := hf it (by simp)
    exact wpAny_pyNext_range_end (I.ok.hd hc) st (by have : n ≤ i := hg; omega) fun h' eb => ⟨rfl, I.turned (t' := s.toks) (fun b o hb e => eb b o hb e) f0 f1 f3 f4 f5⟩
  self := fun _ _ _ _ _ st h => wpAny_pyIter_rangeiter st h
end L2

namespace L2
open PySem PySem.Spec PyProof.Rows
section
variable {X : Cx} {tg : Expr}
def iList (K : PySem.W.Frag) (tl : TE) : TI := fun σ H R => tl σ H fun x H1 => ∃ a, x = .ref a ∧ (∃ xs, SqL K H1 a xs) ∧ R (Itl K a) H1
def iTup (K : PySem.W.Frag) (tl : TE) : TI := fun σ H R => tl σ H fun x H1 => ∃ a, x = .ref a ∧ (∃ xs, SqT K H1 a xs) ∧ R (Itt K a) H1
theorem pi_list {l : Expr} {tl : TE} (hl : PE X l tl) : PI X tg l (iList X.K tl) := by
  intro pins s σ H R I h
  refine thn (hl pins s σ H _ I h) fun v s1 ⟨x, H1, I1, r1, q1⟩ => ?_
  obtain ⟨a, e, ⟨xs, hq⟩, q⟩ := q1
  subst e
  cases r1
  obtain ⟨its, rv, p, hz⟩ := I1.list hq
  refine wpAny_pyIter_list p.isList ?_
  refine ⟨s1.heap.objs.size, [s1.heap.objs.size], _, _, H1, rfl, I1.kept (t' := s1.toks) fun b o e => Heap.get?_push_of_some _ e, turn_list a _, ⟨_, Heap.get?_push_size _ rfl, rfl, rfl⟩, fun b hb => ?_, q⟩
  have e : b = s1.heap.objs.size := by simpa using hb
  subst e
  exact I1.fpOk (Nat.le_refl _) (I1.hok.fresh (Nat.le_refl _))
theorem pi_tup {l : Expr} {tl : TE} (hl : PE X l tl) : PI X tg l (iTup X.K tl) := by
  intro pins s σ H R I h
  refine thn (hl pins s σ H _ I h) fun v s1 ⟨x, H1, I1, r1, q1⟩ => ?_
  obtain ⟨a, e, ⟨xs, hq⟩, q⟩ := q1
  subst e
  cases r1
  obtain ⟨its, rv, p, hz⟩ := I1.tuple hq
  refine wpAny_pyIter_tuple (show s1.heap.IsTuple a its.toArray from p) ?_
  refine ⟨s1.heap.objs.size, [s1.heap.objs.size], _, _, H1, rfl, I1.kept (t' := s1.toks) fun b o e => Heap.get?_push_of_some _ e, turn_tuple a _, ⟨_, Heap.get?_push_size _ rfl, rfl, rfl⟩, fun b hb => ?_, q⟩
  have e : b = s1.heap.objs.size := by simpa using hb
  subst e
  exact I1.fpOk (Nat.le_refl _) (I1.hok.fresh (Nat.le_refl _))
/-- a range object just made, walked -/
theorem range_it {pins : List (Addr × Obj)} {σ : St} {H : Hp} {s : Shared} {R : It → Hp → Prop} {E : Value → Shared → Prop} {lo hi : Int} {t u v : Tok} {tk : Nat} (I : Inv X pins σ H s) (h1 : -(2 ^ 62) ≤ lo) (h2 : lo < 2 ^ 62) (h3 : -(2 ^ 62) ≤ hi) (h4 : hi < 2 ^ 62)
    (q : R (Itr lo (hi - lo).toNat) H) : wpAny (model X.prog X.w) X.A (pyIter (.ref s.heap.objs.size)) (PIE X pins σ tg R) E { s with heap := s.heap.push { cls := .type "range", data := .fields #[.int lo t, .int hi u, .int 1 v] }, toks := tk } := by
  refine wpAny_pyIter_range (IsRange.new ..) (small_one h1 h2 h3 h4) ?_
  have I1 : Inv X pins σ H { s with heap := s.heap.push { cls := .type "range", data := .fields #[.int lo t, .int hi u, .int 1 v] }, toks := tk } := I.kept fun b o e => Heap.get?_push_of_some _ e
  refine ⟨(s.heap.push { cls := .type "range", data := .fields #[.int lo t, .int hi u, .int 1 v] }).objs.size, [(s.heap.push { cls := .type "range", data := .fields #[.int lo t, .int hi u, .int 1 v] }).objs.size], _, _, H, rfl,
    I1.kept (t' := tk) fun b o e => Heap.get?_push_of_some _ e, turn_range _ lo (hi - lo).toNat, ?_, fun b hb => ?_, q⟩
  · have e1 : lo + ((0 : Nat) : Int) * 1 = lo := by simp
    have e2 : (((hi - lo).toNat : Nat) : Int) - ((0 : Nat) : Int) = Builtin.Range.rangeSize lo hi 1 := by rw [rangeSize_one]; split <;> omega
    show IsRangeIter _ _ (lo + ((0 : Nat) : Int) * 1) ((((hi - lo).toNat : Nat) : Int) - ((0 : Nat) : Int)) 1
    rw [e1, e2]
    exact Heap.get?_push_size _ rfl
  · have e : b = (s.heap.push { cls := .type "range", data := .fields #[.int lo t, .int hi u, .int 1 v] }).objs.size := by simpa using hb
    subst e
    exact I1.fpOk (Nat.le_refl _) (I1.hok.fresh (Nat.le_refl _))
def iRng1 (ta : TA) : TI := fun σ H R => ta σ H fun vs H1 => ∃ j : Int, vs = [.int j] ∧ -(2 ^ 62) ≤ j ∧ j < 2 ^ 62 ∧ R (Itr 0 j.toNat) H1
theorem pi_range1 {a : Expr} {ta : TA} {p pos : Pos} (hg : Gl X "range") (hm : X.mg "range" = none) (ha : PA X [a] ta) (hs : starEach [a] X.env = [(false, eval a X.env)] := by rfl) : PI X tg (.Call (.Name "range" p) [a] [] pos) (iRng1 ta) := by
  intro pins s σ H R I h
  refine Call_ (ld_blt I hg hm boot_range (PyProof.Rows.callWith_type1 (thn (ha pos pins s σ H _ I h) fun us s1 ⟨vs, H1, I1, r1, q1⟩ => ?_) hs rfl))
  obtain ⟨j, e, q1, q2, q⟩ := q1
  subst e
  cases r1 with
  | cons r rr =>
    cases rr
    obtain ⟨t, rfl⟩ := r
    exact call_range_1 (range_it I1 (by omega) (by omega) q1 q2 (by simpa using q))
/-! ### for -/
/-- W: the invariant by the turn and a measure; N: what the body is to reach -/
def tFor (wi : TI) (g : TG) (tb : TS) : TS := fun D σ H => wi σ H fun J H1 => ∃ W : Nat → Nat → St → Hp → Prop, (∃ m, W 0 m σ H1) ∧ ∀ i m σ H, W i m σ H →
  (J.stop i H ∧ D.nx σ H) ∨ (J.go i H ∧ ∃ N : St → Hp → Prop, (∀ σ' H', N σ' H' → ∃ m', m' < m ∧ W (i + 1) m' σ' H') ∧ ∀ x H', J.yld i H x H' → g x σ H' fun σ2 H2 => tb { D with nx := N, ct := N, bk := D.nx } σ2 H2)
/-- the records at fp as they stand -/
def pinsAt (fp : List Addr) (h : Heap) : List (Addr × Obj) := fp.filterMap fun b => (h.get? b).map fun o => (b, o)
theorem mem_pinsAt {fp : List Addr} {h : Heap} {b : Addr} {o : Obj} (hb : b ∈ fp) (e : h.get? b = some o) : (b, o) ∈ pinsAt fp h := List.mem_filterMap.mpr ⟨b, hb, by rw [e]; rfl⟩
theorem of_pinsAt {fp : List Addr} {h : Heap} {p : Addr × Obj} (hp : p ∈ pinsAt fp h) : p.1 ∈ fp ∧ h.get? p.1 = some p.2 := by
  obtain ⟨b, hb, e⟩ := List.mem_filterMap.mp hp
  cases q : h.get? b with
  | none => rw [q] at e; cases e
  | some o =>
    rw [q] at e
    have e' : (b, o) = p := Option.some.inj e
    subst e'
    exact ⟨hb, q⟩
theorem Inv.pinned {pins : List (Addr × Obj)} {σ : St} {H : Hp} {s : Shared} {fp : List Addr} (I : Inv X pins σ H s) (hf : ∀ b ∈ fp, FpOk X pins H b) (ho : ∀ b ∈ fp, ∃ o, s.heap.get? b = some o ∧ ∀ v, o.data ≠ .cell v) : Inv X (pins ++ pinsAt fp s.heap) σ H s :=
  I.pins_of fun p hp => (List.mem_append.mp hp).elim (fun z => I.pin p (List.mem_append_right _ z)) fun z => by
    obtain ⟨hb, e⟩ := of_pinsAt z
    obtain ⟨f0, f1, f2, _⟩ := hf p.1 hb
    obtain ⟨o, e', d⟩ := ho p.1 hb
    rw [e] at e'; cases e'
    exact ⟨e, f0, f1, f2, d⟩
theorem Inv.unpinned {pins pl : List (Addr × Obj)} {σ : St} {H : Hp} {s : Shared} (I : Inv X (pins ++ pl) σ H s) : Inv X pins σ H s := I.pins_of fun p hp => I.pin p (List.mem_append_right _ (List.mem_append_left _ hp))
theorem ps_for {iter : Expr} {body : List Stmt} {wi : TI} {g : TG} {tb : TS} {pos : Pos} (hp : PassesOwn (model X.prog X.w) X.A X.env X.xe) (hc : X.calm = true) (hi : PI X tg iter wi) (hg : PG X tg g) (hb : PSs X body tb)
    (hs : ∀ x, foldedSetIterable iter X.env x = pure x := by intro _; rfl) : PS X (.For tg iter body [] pos) (tFor wi g tb) := by
  intro pins s σ H D I h
  refine wpAny_For (thn (hi pins s σ H _ I h) fun v s1 h1 => thn h1 fun itv s2 h2 => ?_) hs
  obtain ⟨it, fp, tn, J, H2, e, I2, T, st2, f2, W, ⟨m0, w0⟩, turn⟩ := h2
  subst e
  -- what stays true of the iterator's objects through the loop
  have stat : ∀ {H' : Hp}, (∀ b ∈ fp, H' b = none) → ∀ b ∈ fp, FpOk X pins H' b := fun hn b hb => ⟨hn b hb, (f2 b hb).2⟩
  refine codeAny_forLoop_any (fun n s' => ∃ i σ' H', Inv X pins σ' H' s' ∧ tn i s'.heap ∧ (∀ b ∈ fp, H' b = none) ∧ W i n σ' H') ?_ m0 ⟨0, σ, H2, I2, st2, fun b hb => (f2 b hb).1, w0⟩
  rintro n s3 ⟨i, σ3, H3, I3, st3, fr3, w3⟩
  rcases turn i n σ3 H3 w3 with ⟨stop, qn⟩ | ⟨go, N, hN, step⟩
  · refine wpAny_passesOwn hp (thn (T.done X rfl rfl rfl hc i pins s3 σ3 H3 X.xe I3 (stat fr3) st3 stop) fun r s4 ⟨hr, I4⟩ => ?_)
    subst hr
    exact wpAny_execs_nil ⟨σ3, H3, I4, qn⟩
  · refine wpAny_passesOwn hp (thn (T.item X rfl rfl rfl hc i pins s3 σ3 H3 X.xe I3 (stat fr3) st3 go) fun r s4 ⟨u, hr, h4⟩ => ?_)
    subst hr
    refine wpAny_passesOwn hp (thn h4 fun _ s5 ⟨x, H5, I5, r5, y5, st5, fr5⟩ => ?_)
    have I5' := I5.pinned (stat fr5) (T.obj _ _ st5)
    refine wpAny_passesOwn hp (thn (hg _ s5 σ3 H5 x u _ I5' r5 (step x H5 y5)) fun _ s6 ⟨σ6, H6, I6, q6⟩ => ?_)
    refine wpAny_passesOwn hp (thn (hb _ s6 σ6 H6 _ I6 q6) fun f s7 q7 => ?_)
    have again : ∀ {σ7 : St} {H7 : Hp}, Inv X (pins ++ pinsAt fp s5.heap) σ7 H7 s7 → N σ7 H7 → ∃ m, m < n ∧ ∃ i σ' H', Inv X pins σ' H' s7 ∧ tn i s7.heap ∧ (∀ b ∈ fp, H' b = none) ∧ W i m σ' H' := fun {σ7 H7} I7 n7 => by
      obtain ⟨m', hm, w7⟩ := hN σ7 H7 n7
      refine ⟨m', hm, i + 1, σ7, H7, I7.unpinned, T.keep _ _ _ st5 fun b hb o e => (I7.pin (b, o) (List.mem_append_right _ (List.mem_append_right _ (mem_pinsAt hb e)))).1, fun b hb => ?_, w7⟩
      obtain ⟨o, e, d⟩ := T.obj _ _ st5 b hb
      exact (I7.pin (b, o) (List.mem_append_right _ (List.mem_append_right _ (mem_pinsAt hb e)))).2.1
    cases f with
    | next => obtain ⟨σ7, H7, I7, n7⟩ := q7; exact again I7 n7
    | cont => obtain ⟨σ7, H7, I7, n7⟩ := q7; exact again I7 n7
    | brk => obtain ⟨σ7, H7, I7, q7⟩ := q7; exact ⟨σ7, H7, I7.unpinned, q7⟩
    | ret v => obtain ⟨x7, σ7, H7, I7, r7, q7⟩ := q7; exact ⟨x7, σ7, H7, I7.unpinned, r7, q7⟩
end

/-! ### the forms one uses -/
end L2

namespace L2
open PySem PySem.Spec PyProof.Rows

abbrev R2 := V → V → Hp → VK → Prop
/-- a two-place operation on values: f is binaryOp op, inplaceOp op or compareOp op -/
def OpR (X : Cx) (f : Value → Value → Sem Value) (r : R2) : Prop :=
  ∀ (pins : List (Addr × Obj)) (s : Shared) (σ : St) (H : Hp) (x y : V) (v u : Value) (Q : VK), Inv X pins σ H s → RelV x v → RelV y u → r x y H Q →
    wpAny (model X.prog X.w) X.A (f v u) (EP X pins σ Q) X.xe s
/-- a one-place operation -/
def UnR (X : Cx) (f : Value → Sem Value) (r : V → Hp → VK → Prop) : Prop :=
  ∀ (pins : List (Addr × Obj)) (s : Shared) (σ : St) (H : Hp) (x : V) (v : Value) (Q : VK), Inv X pins σ H s → RelV x v → r x H Q →
    wpAny (model X.prog X.w) X.A (f v) (EP X pins σ Q) X.xe s
/-- a call of a value that is known (a builtin, a type) with values -/
def CallR (X : Cx) (f : Value) (r : List V → Hp → VK → Prop) : Prop :=
  ∀ (pins : List (Addr × Obj)) (s : Shared) (σ : St) (H : Hp) (xs : List V) (us : List Value) (Q : VK), Inv X pins σ H s → Vals xs us → r xs H Q →
    wpAny (model X.prog X.w) X.A (call f us) (EP X pins σ Q) X.xe s
def tOp (r : R2) (ta tb : TE) : TE := fun σ H Q => ta σ H fun x H1 => tb σ H1 fun y H2 => r x y H2 Q
def tUn (r : V → Hp → VK → Prop) (ta : TE) : TE := fun σ H Q => ta σ H fun x H1 => r x H1 Q
/-- ints in, under C, and a value out -/
def rI (C : Int → Int → Prop) (g : Int → Int → V) : R2 := fun x y H Q => ∃ i j, x = .int i ∧ y = .int j ∧ C i j ∧ Q (g i j) H
def rI0 (g : Int → Int → V) : R2 := fun x y H Q => ∃ i j, x = .int i ∧ y = .int j ∧ Q (g i j) H
def rU (g : Int → V) : V → Hp → VK → Prop := fun x H Q => ∃ i, x = .int i ∧ Q (g i) H

section
variable {X : Cx} {a b c : Expr} {ta tb tc : TE} {pos : Pos}

theorem binT (ha : PE X a ta) (hb : PE X b tb) {pins : List (Addr × Obj)} {s : Shared} {σ : St} {H : Hp} {R : V → V → Hp → Prop} (I : Inv X pins σ H s)
    (h : ta σ H fun x H1 => tb σ H1 fun y H2 => R x y H2) {Q : Value → Shared → Prop} {f : Value → Value → Sem Value}
    (hf : ∀ v u s2 x y H2, Inv X pins σ H2 s2 → RelV x v → RelV y u → R x y H2 → wpAny (model X.prog X.w) X.A (f v u) Q X.xe s2) :
    wpAny (model X.prog X.w) X.A (eval a X.env) (fun v s₁ => wpAny (model X.prog X.w) X.A (eval b X.env) (fun u s₂ => wpAny (model X.prog X.w) X.A (f v u) Q X.xe s₂) X.xe s₁) X.xe s := by
  refine thn (ha pins s σ H _ I h) fun v s1 ⟨x, H1, I1, r1, q1⟩ => ?_
  refine thn (hb pins s1 σ H1 _ I1 q1) fun u s2 ⟨y, H2, I2, r2, q2⟩ => ?_
  exact hf v u s2 x y H2 I2 r1 r2 q2

theorem pe_op {op : Operator} {r : R2} (ho : OpR X (binaryOp op) r) (ha : PE X a ta) (hb : PE X b tb) : PE X (.BinOp a op b pos) (tOp r ta tb) := by
  intro pins s σ H Q I h
  exact wpAny_BinOp (binT ha hb I h fun v u s2 x y H2 I2 rx ry q => ho pins s2 σ H2 x y v u Q I2 rx ry q)
theorem pe_un {op : UnaryOp} {r : V → Hp → VK → Prop} (ho : UnR X (unaryOp op) r) (ha : PE X a ta) : PE X (.UnaryOp op a pos) (tUn r ta) := by
  intro pins s σ H Q I h
  exact UnaryOp_ (thn (ha pins s σ H _ I h) fun v s1 ⟨x, H1, I1, r1, q1⟩ => ho pins s1 σ H1 x v Q I1 r1 q1)
/-! ### ints -/
theorem opI {f : Value → Value → Sem Value} {C : Int → Int → Prop} {g : Int → Int → Int}
    (rule : ∀ (i j : Int) (t u : Tok) (s : Shared) (Q : Value → Shared → Prop) (E : Value → Shared → Prop), C i j → Q (.int (g i j) s.toks) { s with toks := s.toks + 1 } → wpAny (model X.prog X.w) X.A (f (.int i t) (.int j u)) Q E s) :
    OpR X f (rI C fun i j => .int (g i j)) := by
  intro pins s σ H x y v u Q I rx ry h
  obtain ⟨i, j, rfl, rfl, hc, q⟩ := h
  obtain ⟨t, rfl⟩ := rx
  obtain ⟨t', rfl⟩ := ry
  exact rule i j t t' s _ _ hc ⟨.int (g i j), H, I.tok _, ⟨_, rfl⟩, q⟩
theorem opI0 {f : Value → Value → Sem Value} {g : Int → Int → Int}
    (rule : ∀ (i j : Int) (t u : Tok) (s : Shared) (Q : Value → Shared → Prop) (E : Value → Shared → Prop), Q (.int (g i j) s.toks) { s with toks := s.toks + 1 } → wpAny (model X.prog X.w) X.A (f (.int i t) (.int j u)) Q E s) :
    OpR X f (rI0 fun i j => .int (g i j)) := by
  intro pins s σ H x y v u Q I rx ry h
  obtain ⟨i, j, rfl, rfl, q⟩ := h
  obtain ⟨t, rfl⟩ := rx
  obtain ⟨t', rfl⟩ := ry
  exact rule i j t t' s _ _ ⟨.int (g i j), H, I.tok _, ⟨_, rfl⟩, q⟩
theorem opB0 {f : Value → Value → Sem Value} {g : Int → Int → Bool}
    (rule : ∀ (i j : Int) (t u : Tok) (s : Shared) (Q : Value → Shared → Prop) (E : Value → Shared → Prop), Q (.bool (g i j)) s → wpAny (model X.prog X.w) X.A (f (.int i t) (.int j u)) Q E s) :
    OpR X f (rI0 fun i j => .bl (g i j)) := by
  intro pins s σ H x y v u Q I rx ry h
  obtain ⟨i, j, rfl, rfl, q⟩ := h
  obtain ⟨t, rfl⟩ := rx
  obtain ⟨t', rfl⟩ := ry
  exact rule i j t t' s _ _ ⟨.bl (g i j), H, I, rfl, q⟩

def CDivN (i j : Int) : Prop := j ≠ 0 ∧ j.natAbs < 1073741824
def CPow (i j : Int) : Prop := 0 ≤ j ∧ j ≤ 1000000 ∧ i.natAbs < 2 ^ 64
def CMul (i j : Int) : Prop := (-(2 ^ 64) < i ∧ i < 2 ^ 64) ∨ (-(2 ^ 64) < j ∧ j < 2 ^ 64)
theorem CMul.ok {i j : Int} (h : CMul i j) : IntMulOk i j := by
  rcases h with ⟨h1, h2⟩ | ⟨h1, h2⟩
  · exact .of_left (intBits_le_64 h1 h2)
  · exact .of_right (intBits_le_64 h1 h2)
theorem op_add : OpR X (binaryOp .Add) (rI0 fun i j => .int (i + j)) := opI0 fun _ _ _ _ _ _ _ q => add_int q
theorem op_sub : OpR X (binaryOp .Sub) (rI0 fun i j => .int (i - j)) := opI0 fun _ _ _ _ _ _ _ q => sub_int q
theorem op_mul : OpR X (binaryOp .Mult) (rI CMul fun i j => .int (i * j)) := opI fun _ _ _ _ _ _ _ hc q => mul_int q hc.ok
theorem op_fdivN : OpR X (binaryOp .FloorDiv) (rI CDivN fun i j => .int (i.fdiv j)) := opI fun _ _ _ _ _ _ _ hc q => floordiv_int hc.1 q (.inl (PyProof.noPylong_small hc.2))
theorem op_modN : OpR X (binaryOp .Mod) (rI (fun _ j => j ≠ 0) fun i j => .int (i.fmod j)) := opI fun _ _ _ _ _ _ _ hc q => mod_int' hc q
theorem op_pow : OpR X (binaryOp .Pow) (rI CPow fun i j => .int (i ^ j.toNat)) := opI fun _ _ _ _ _ _ _ hc q => pow_int_small hc.1 hc.2.1 hc.2.2 q
theorem unI {f : Value → Sem Value} {g : Int → Int}
    (rule : ∀ (i : Int) (t : Tok) (s : Shared) (Q : Value → Shared → Prop) (E : Value → Shared → Prop), Q (.int (g i) s.toks) { s with toks := s.toks + 1 } → wpAny (model X.prog X.w) X.A (f (.int i t)) Q E s) :
    UnR X f (rU fun i => .int (g i)) := by
  intro pins s σ H x v Q I rx h
  obtain ⟨i, rfl, q⟩ := h
  obtain ⟨t, rfl⟩ := rx
  exact rule i t s _ _ ⟨.int (g i), H, I.tok _, ⟨_, rfl⟩, q⟩
theorem un_neg : UnR X (unaryOp .USub) (rU fun i => .int (-i)) := unI fun _ _ _ _ _ q => neg_int q
/-! ### bools among ints: n += (a < b) -/
end

/-! ### comparisons -/
/-- the scalars that == tells apart as data does -/
def scal : V → V → Bool
  | .non, .non => true | .non, .int _ => true | .int _, .non => true | .non, .bl _ => true | .bl _, .non => true | .non, .str _ => true | .str _, .non => true
  | .int _, .int _ => true | .bl _, .bl _ => true | .str _, .str _ => true | .byt _, .byt _ => true
  | .int _, .str _ => true | .str _, .int _ => true | .bl _, .str _ => true | .str _, .bl _ => true
  | _, _ => false
def rNe : R2 := fun x y H Q => scal x y = true ∧ Q (.bl (!decide (x = y))) H

theorem dec_int {i j : Int} : decide (V.int i = V.int j) = (i == j) := by
  rw [Bool.eq_iff_iff]
  simp
theorem dec_bl {i j : Bool} : decide (V.bl i = V.bl j) = (i == j) := by
  rw [Bool.eq_iff_iff]
  simp
theorem dec_str {i j : Str} : decide (V.str i = V.str j) = (i == j) := by
  rw [Bool.eq_iff_iff]
  simp
theorem dec_byt {i j : Array UInt8} : decide (V.byt i = V.byt j) = (i.toList == j.toList) := by
  rw [Bool.eq_iff_iff]
  cases i
  cases j
  simp

section
variable {X : Cx} {a b c : Expr} {ta tb tc : TE} {pos : Pos}
theorem fin_bl {pins : List (Addr × Obj)} {σ : St} {H : Hp} {s : Shared} {Q : VK} {k k' : Bool} (I : Inv X pins σ H s) (q : Q (.bl k) H) (e : k = k') : EP X pins σ Q (.bool k') s := by
  subst e
  exact ⟨.bl k, H, I, rfl, q⟩
theorem op_ne : OpR X (compareOp .NotEq) rNe := by
  intro pins s σ H x y v u Q I rx ry h
  obtain ⟨hs, q⟩ := h
  cases x with
  | non =>
    cases rx
    cases y with
    | non => cases ry; exact PySem.EqNone.ne_none_none (fin_bl I q (by simp))
    | bl j => cases ry; exact PySem.EqNone.ne_none_bool (fin_bl I q (by simp))
    | int j => obtain ⟨t', rfl⟩ := ry; exact PySem.EqNone.ne_none_int (fin_bl I q (by simp))
    | str j => obtain ⟨t', rfl⟩ := ry; exact PySem.EqNone.ne_none_str (fin_bl I q (by simp))
    | _ => exact absurd (show false = true from hs) Bool.false_ne_true
  | bl i =>
    cases rx
    cases y with
    | non => cases ry; exact PySem.EqNone.ne_bool_none (fin_bl I q (by simp))
    | bl j => cases ry; exact ne_bool (fin_bl I q (congrArg not dec_bl))
    | str j => obtain ⟨t', rfl⟩ := ry; exact PySem.EqMixed.ne_bool_str (fin_bl I q (by simp))
    | _ => exact absurd (show false = true from hs) Bool.false_ne_true
  | int i =>
    obtain ⟨t, rfl⟩ := rx
    cases y with
    | non => cases ry; exact PySem.EqNone.ne_int_none (fin_bl I q (by simp))
    | int j => obtain ⟨t', rfl⟩ := ry; exact ne_int (fin_bl I q (congrArg not dec_int))
    | str j => obtain ⟨t', rfl⟩ := ry; exact PySem.EqMixed.ne_int_str (fin_bl I q (by simp))
    | _ => exact absurd (show false = true from hs) Bool.false_ne_true
  | str i =>
    obtain ⟨t, rfl⟩ := rx
    cases y with
    | non => cases ry; exact PySem.EqNone.ne_str_none (fin_bl I q (by simp))
    | bl j => cases ry; exact PySem.EqMixed.ne_str_bool (fin_bl I q (by simp))
    | int j => obtain ⟨t', rfl⟩ := ry; exact PySem.EqMixed.ne_str_int (fin_bl I q (by simp))
    | str j => obtain ⟨t', rfl⟩ := ry; exact ne_str (fin_bl I q (congrArg not dec_str))
    | _ => exact absurd (show false = true from hs) Bool.false_ne_true
  | byt i =>
    obtain ⟨t, rfl⟩ := rx
    cases y with
    | byt j => obtain ⟨t', rfl⟩ := ry; exact PySem.W.ne_bytes (fin_bl I q (congrArg not dec_byt))
    | _ => exact absurd (show false = true from hs) Bool.false_ne_true
  | _ => cases y <;> exact absurd (show false = true from hs) Bool.false_ne_true

theorem op_lt : OpR X (compareOp .Lt) (rI0 fun i j => .bl (decide (i < j))) := opB0 fun _ _ _ _ _ _ _ q => lt_int q
theorem op_le : OpR X (compareOp .LtE) (rI0 fun i j => .bl (decide (i ≤ j))) := opB0 fun _ _ _ _ _ _ _ q => le_int q
theorem op_gt : OpR X (compareOp .Gt) (rI0 fun i j => .bl (decide (j < i))) := opB0 fun _ _ _ _ _ _ _ q => gt_int q
/-- the one string within the other -/
theorem op_in_str : OpR X (compareOp .In) (fun x y H Q => ∃ i j, x = .str i ∧ y = .str j ∧ Q (.bl (!(Builtin.Str.occurrences j i 0 j.length 1).isEmpty)) H) := by
  intro pins s σ H x y v u Q I rx ry h
  obtain ⟨i, j, rfl, rfl, q⟩ := h
  obtain ⟨t, rfl⟩ := rx
  obtain ⟨t', rfl⟩ := ry
  exact in_str (fin_bl I q rfl)

/-- two rules for one operation: by cases -/
theorem OpR.or {f : Value → Value → Sem Value} {r r' : R2} (h : OpR X f r) (h' : OpR X f r') : OpR X f (fun x y H Q => r x y H Q ∨ r' x y H Q) := by
  intro pins s σ H x y v u Q I rx ry q
  rcases q with q | q
  · exact h pins s σ H x y v u Q I rx ry q
  · exact h' pins s σ H x y v u Q I rx ry q

theorem nomark (b : Expr) {op : CmpOp} (h : op ≠ .In := by decide) (h2 : op ≠ .NotIn := by decide) : behindInMarks op b = false := by
  have e1 : (op == CmpOp.In) = false := by cases op <;> first | rfl | exact absurd rfl h
  have e2 : (op == CmpOp.NotIn) = false := by cases op <;> first | rfl | exact absurd rfl h2
  cases b <;> simp [behindInMarks, e1, e2]
/-- a comparison as a value; hm: nomark b, or (for in, not in) by with_unfolding_all rfl -/
theorem pe_cmpR {op : CmpOp} {r : R2} (ho : OpR X (compareOp op) r) (ha : PE X a ta) (hb : PE X b tb) (hm : behindInMarks op b = false) : PE X (.Compare a [op] [b] pos) (tOp r ta tb) := by
  intro pins s σ H Q I h
  exact wpAny_Compare1 (binT ha hb I h fun v u s2 x y H2 I2 rx ry q => ho pins s2 σ H2 x y v u Q I2 rx ry q) hm
/-- a reading of a value as a test -/
def tTest (t : TE) : TT := fun σ H Q => t σ H fun x H' => ∃ k, x = .bl k ∧ Q k H'
theorem pt_cmpR {op : CmpOp} {r : R2} (ho : OpR X (compareOp op) r) (ha : PE X a ta) (hb : PE X b tb) (hm : behindInMarks op b = false) : PT X (.Compare a [op] [b] pos) (tTest (tOp r ta tb)) := by
  intro pins s σ H Q I h
  refine wpAny_isTrue_Compare1 (thn (ha pins s σ H _ I h) fun v s1 ⟨x, H1, I1, r1, q1⟩ => thn (hb pins s1 σ H1 _ I1 q1) fun u s2 ⟨y, H2, I2, r2, q2⟩ =>
    thn (ho pins s2 σ H2 x y v u _ I2 r1 r2 q2) fun c s3 ⟨z, H3, I3, r3, k, e, q3⟩ => ?_) hm
  subst e
  cases r3
  exact wpAny_truthy_bool ⟨H3, I3, q3⟩
/-- a op1 b op2 c -/
def tChain (r r' : R2) (ta tb tc : TE) : TE := fun σ H Q => ta σ H fun x H1 => tb σ H1 fun y H2 => r x y H2 fun z H3 => ∃ k, z = .bl k ∧
  (if k = true then tc σ H3 fun w' H4 => r' y w' H4 Q else Q (.bl false) H3)
theorem pe_chain {op op' : CmpOp} {r r' : R2} (ho : OpR X (compareOp op) r) (ho' : OpR X (compareOp op') r') (ha : PE X a ta) (hb : PE X b tb) (hc : PE X c tc)
    (hm : lastMarks [op, op'] [b, c] = false := by with_unfolding_all rfl) : PE X (.Compare a [op, op'] [b, c] pos) (tChain r r' ta tb tc) := by
  intro pins s σ H Q I h
  refine Compare_chain (thn (ha pins s σ H _ I h) fun v s1 ⟨x, H1, I1, r1, q1⟩ => chain_link (thn (hb pins s1 σ H1 _ I1 q1) fun u s2 ⟨y, H2, I2, r2, q2⟩ =>
    thn (ho pins s2 σ H2 x y v u _ I2 r1 r2 q2) fun d s3 ⟨z, H3, I3, r3, k, e, q3⟩ => ?_)) hm
  subst e
  cases r3
  refine wpAny_truthy_bool ?_
  cases k with
  | false => exact ite_ff ⟨.bl false, H3, I3, rfl, q3⟩
  | true => exact ite_tt (chain_last (thn (hc pins s3 σ H3 _ I3 q3) fun w' s4 ⟨z', H4, I4, r4, q4⟩ => ho' pins s4 σ H4 y z' u w' Q I4 r2 r4 q4))
/-! ### truth -/
theorem line63 : (sizeLine : Nat) < 2 ^ 63 := by rw [sizeLine_eq]; decide
/-! ### strs and bytes -/
theorem op_add_str : OpR X (binaryOp .Add) (fun x y H Q => ∃ i j, x = .str i ∧ y = .str j ∧ i.length + j.length ≤ sizeLine ∧ Q (.str (i ++ j)) H) := by
  intro pins s σ H x y v u Q I rx ry h
  obtain ⟨i, j, rfl, rfl, hz, q⟩ := h
  obtain ⟨t, rfl⟩ := rx
  obtain ⟨t', rfl⟩ := ry
  exact add_str (fun t' tk => ⟨.str (i ++ j), H, I.tok _, ⟨_, rfl⟩, q⟩) hz
/-! ### scalar builtins, by CallR -/
theorem vals1 {x : V} {us : List Value} (r : Vals [x] us) : ∃ u, us = [u] ∧ RelV x u := by
  cases r with
  | cons r1 r2 => cases r2; exact ⟨_, rfl, r1⟩
theorem vals2 {x y : V} {us : List Value} (r : Vals [x, y] us) : ∃ u w', us = [u, w'] ∧ RelV x u ∧ RelV y w' := by
  cases r with
  | cons r1 r2 =>
    cases r2 with
    | cons r3 r4 => cases r4; exact ⟨_, _, rfl, r1, r3⟩
theorem call_abs : CallR X (.builtin "abs") (fun xs H Q => ∃ i, xs = [.int i] ∧ Q (.int (if i < 0 then -i else i)) H) := by
  intro pins s σ H xs us Q I r h
  obtain ⟨i, rfl, q⟩ := h
  obtain ⟨u, rfl, t, rfl⟩ := vals1 r
  exact call_abs_int fun u tk => ⟨.int (if i < 0 then -i else i), H, I.tok _, ⟨_, rfl⟩, q⟩
theorem call_max2 (hc : X.calm = true) : CallR X (.builtin "max") (fun xs H Q => ∃ i j, xs = [.int i, .int j] ∧ Q (.int (if j > i then j else i)) H) := by
  intro pins s σ H xs us Q I r h
  obtain ⟨i, j, rfl, q⟩ := h
  obtain ⟨u, w', rfl, ⟨t, rfl⟩, ⟨t', rfl⟩⟩ := vals2 r
  refine max_two_ints (I.ok.hd hc) fun h' tk k => ⟨_, H, I.kept k, ?_, q⟩
  by_cases hj : j > i
  · rw [if_pos hj, if_pos hj]; exact ⟨_, rfl⟩
  · rw [if_neg hj, if_neg hj]; exact ⟨_, rfl⟩
theorem call_min2 (hc : X.calm = true) : CallR X (.builtin "min") (fun xs H Q => ∃ i j, xs = [.int i, .int j] ∧ Q (.int (if j < i then j else i)) H) := by
  intro pins s σ H xs us Q I r h
  obtain ⟨i, j, rfl, q⟩ := h
  obtain ⟨u, w', rfl, ⟨t, rfl⟩, ⟨t', rfl⟩⟩ := vals2 r
  refine min_two_ints (I.ok.hd hc) fun h' tk k => ⟨_, H, I.kept k, ?_, q⟩
  by_cases hj : j < i
  · rw [if_pos hj, if_pos hj]; exact ⟨_, rfl⟩
  · rw [if_neg hj, if_neg hj]; exact ⟨_, rfl⟩
theorem call_int1 : CallR X (.type "int") (fun xs H Q => (∃ i, xs = [.int i] ∧ Q (.int i) H) ∨ ∃ k, xs = [.bl k] ∧ Q (.int (if k then 1 else 0)) H) := by
  intro pins s σ H xs us Q I r h
  rcases h with ⟨i, rfl, q⟩ | ⟨k, rfl, q⟩
  · obtain ⟨u, rfl, t, rfl⟩ := vals1 r
    exact call_int_int ⟨.int i, H, I, ⟨_, rfl⟩, q⟩
  · obtain ⟨u, rfl, r1⟩ := vals1 r
    cases r1
    exact call_int_bool ⟨.int (if k then 1 else 0), H, I.tok _, ⟨_, rfl⟩, q⟩
/-- len of a str, a bytes, a list, a tuple -/
def LenV (K : PySem.W.Frag) (x : V) (H : Hp) (n : Nat) : Prop :=
  match x with
  | .str y => y.length ≤ sizeLine ∧ n = y.length
  | .byt y => y.size ≤ sizeLine ∧ n = y.size
  | .ref p => (∃ xs, SqL K H p xs ∧ n = xs.length) ∨ ∃ xs, SqT K H p xs ∧ n = xs.length
  | _ => False
theorem call_len : CallR X (.builtin "len") (fun xs H Q => ∃ x n, xs = [x] ∧ LenV X.K x H n ∧ Q (.int n) H) := by
  intro pins s σ H xs us Q I r h
  obtain ⟨x, n, rfl, e, q⟩ := h
  obtain ⟨u, rfl, rx⟩ := vals1 r
  have hl := line63
  have hs : sizeLine = 16777216 := sizeLine_eq
  cases x with
  | str y =>
    obtain ⟨t, rfl⟩ := rx
    obtain ⟨hy, e'⟩ : y.length ≤ sizeLine ∧ n = y.length := e
    subst e'
    exact len_str (by omega) ⟨.int _, H, I.tok _, ⟨_, rfl⟩, q⟩
  | byt y =>
    obtain ⟨t, rfl⟩ := rx
    obtain ⟨hy, e'⟩ : y.size ≤ sizeLine ∧ n = y.size := e
    subst e'
    exact PySem.W.len_bytes (by omega) ⟨.int _, H, I.tok _, ⟨_, rfl⟩, q⟩
  | ref p =>
    cases rx
    have e' : (∃ xs, SqL X.K H p xs ∧ n = xs.length) ∨ ∃ xs, SqT X.K H p xs ∧ n = xs.length := e
    rcases e' with ⟨xs, hx, e'⟩ | ⟨xs, hx, e'⟩
    · subst e'
      obtain ⟨its, r', pl, hz⟩ := I.list hx
      have hlen := r'.length
      exact Calls.call_len_list pl.isList (by simp only [List.size_toArray]; omega) ⟨.int xs.length, H, I.tok _, ⟨_, by simp only [List.size_toArray]; rw [hlen]⟩, q⟩
    · subst e'
      obtain ⟨its, r', pl, hz⟩ := I.tuple hx
      have hlen := r'.length
      exact len_tuple pl (by simp only [List.size_toArray]; omega) ⟨.int xs.length, H, I.tok _, ⟨_, by simp only [List.size_toArray]; rw [hlen]⟩, q⟩
  | _ => exact (show False from e).elim
end
end L2

namespace L2
open PySem PySem.Spec PyProof.Rows

/-! ### an instance, its attributes a map -/
structure ObjM (h : Heap) (x dx C : Addr) (mA : Str → Option Value) : Prop where
  obj : h.get? x = some (PySem.W.instObj C dx)
  ns : h.Ns1 dx mA
  ne : dx ≠ x

theorem lookIn_ns {h : Heap} {dx : Addr} {mA : Str → Option Value} (n : h.Ns1 dx mA) : ∃ od, h.get? dx = some od ∧ ∀ name, PySem.W.lookIn name od = some (mA name) := by
  obtain ⟨o, es, ep, ho, hd, hk, _, hm⟩ := n
  refine ⟨o, ho, fun name => ?_⟩
  have e := hm name
  unfold nsFind findBy at e
  rw [← Array.find?_toList] at e
  unfold PySem.W.lookIn
  rw [hd]
  dsimp only
  split
  · rename_i y q
    rw [q] at e
    exact congrArg some e
  · rename_i q
    rw [q] at e
    have a : es.toList.any (·.refKey) = false := by
      rw [List.any_eq_false]
      intro y hy
      obtain ⟨z, t, hkey⟩ := hk y (Array.mem_toList_iff.mp hy)
      simp [DictEntry.refKey, hkey]
    have a' : ¬ es.toList.any (·.refKey) = true := by rw [a]; exact Bool.false_ne_true
    rw [if_neg a']
    exact congrArg some e

theorem ObjM.look {h : Heap} {x dx C : Addr} {mA : Str → Option Value} (I : ObjM h x dx C mA) : ∃ od, PySem.W.InstAt h x (PySem.W.instObj C dx) C (some od) ∧ ∀ name, PySem.W.lookIn name od = some (mA name) :=
  let ⟨od, ho, hl⟩ := lookIn_ns I.ns
  ⟨od, ⟨I.obj, rfl, rfl, ho⟩, hl⟩

section
variable {prog : Program} {w : World} {A : Around} {E : Value → Shared → Prop} {s : Shared} {K : PySem.W.Frag} {x dx C f : Addr} {mA : Str → Option Value} {name : Str} {v : Value}

end

/-! ### the attributes as a list of pairs -/
theorem RelO.none_of {o : Option Value} (r : RelO none o) : o = none := by
  cases o with
  | none => rfl
  | some u => exact (show False from r).elim
section
variable {P : Program} {w : World} {H H' : Hp} {h h' : Heap} {a C dx : Addr} {fs fs' : List (Str × V)}
theorem ins_get (hok : HOk P w H h) (e : H a = some (.ins C dx fs)) : ∃ mA, ObjM h a dx C mA ∧ (∀ f, RelO (fs.lookup f) (mA f)) ∧ PySem.Within mA (fs.map (·.1)) ∧ fs.length ≤ 1000 ∧ H dx = some (.own a) := by
  obtain ⟨d, z, ne, ob, mA, n, r, q⟩ := (show ObjOk P w H h a (.ins C dx fs) from hok a _ e)
  exact ⟨mA, ⟨ob, n, ne⟩, r, q, z, d⟩
end

/-! ### what of the text a class must have -/
structure Cls (K : PySem.W.Frag) (C : Addr) : Prop where
  pg : PySem.W.plainGet K C Str.empty = true
  hd : PySem.W.hasDictIn K C = true
  po : PySem.W.plainOver K C = true
  sa : PySem.W.findIn K (.ref C) "__setattr__" = some (some (.builtin "object.__setattr__"))
theorem Cls.get {K : PySem.W.Frag} {C : Addr} (c : Cls K C) (f : Str) : PySem.W.plainGet K C f = true := c.pg
/-- a constant of the class -/
structure Con (K : PySem.W.Frag) (C : Addr) (f : Str) (v : V) (u : Value) : Prop where
  at_ : PySem.W.findIn K (.ref C) f = some (some u)
  rel : RelV v u
  get : PySem.W.specialIn K u "__get__" = some none
  cp : PySem.W.copiedNames.contains f = false
/-- a method: a plain def of the class or of one above it -/
structure Meth (K : PySem.W.Frag) (C : Addr) (m : Str) (f : Addr) : Prop where
  at_ : PySem.W.findIn K (.ref C) m = some (some (.ref f))
  fn : PySem.W.isFn K (.ref f) = true
  kp : PySem.W.keepIn K (.ref f) = true

section
variable {X : Cx} {pins : List (Addr × Obj)} {σ : St} {H : Hp} {s : Shared} {a C dx : Addr} {fs : List (Str × V)} {f : Str} {v : V} {A : Around} {E : Value → Shared → Prop}

/-- a new instance, tracked, without attributes -/
theorem Inv.made (I : Inv X pins σ H s) : Inv X pins σ (upd (upd H s.heap.objs.size (.own (s.heap.objs.size + 1))) (s.heap.objs.size + 1) (.ins C s.heap.objs.size []))
    { s with heap := (s.heap.push PySem.W.emptyDict).push (PySem.W.instObj C s.heap.objs.size) } := by
  have e1 : (s.heap.push PySem.W.emptyDict).get? s.heap.objs.size = some PySem.W.emptyDict := Heap.get?_push_size s.heap rfl
  have e2 : ((s.heap.push PySem.W.emptyDict).push (PySem.W.instObj C s.heap.objs.size)).get? (s.heap.objs.size + 1) = some (PySem.W.instObj C s.heap.objs.size) := by
    have := Heap.get?_push_size (s.heap.push PySem.W.emptyDict) (o := PySem.W.instObj C s.heap.objs.size) rfl
    rwa [Heap.size_push] at this
  have e3 : (s.heap.push PySem.W.emptyDict).Ns s.heap.objs.size (fun _ => none) := ⟨PySem.W.emptyDict, #[], _, e1, rfl, (fun e he => absurd he (by simp)), fun _ => rfl⟩
  have I1 := I.laid (a := s.heap.objs.size) (o := .own (s.heap.objs.size + 1)) (h' := s.heap.push PySem.W.emptyDict) (t' := s.toks) (fun b u q => Heap.get?_push_of_some _ q) (Nat.le_refl _) ⟨_, e1⟩
  refine I1.laid (a := s.heap.objs.size + 1) (o := .ins C s.heap.objs.size []) (t' := s.toks) (fun b u q => Heap.get?_push_of_some _ q) (Nat.le_of_eq (Heap.size_push _ _)) ?_
  have ne : s.heap.objs.size ≠ s.heap.objs.size + 1 := Nat.ne_of_lt (Nat.lt_succ_self _)
  refine ⟨by rw [upd_ne ne, upd_same], Nat.zero_le _, ne, e2, fun _ => none, (Heap.Ns1.of_empty e3).at fun o q => Heap.get?_push_of_some _ q, fun _ => True.intro, fun y hy => absurd rfl hy⟩

end

/-! ### readings and rules -/
section
variable {X : Cx} {o e value : Expr} {f : Str} {pos pos' tpos : Pos} {ta tv : TE}
end

/-! ### isinstance -/
section
variable {X : Cx} {pins : List (Addr × Obj)} {σ : St} {H : Hp} {s : Shared} {A : Around} {E : Value → Shared → Prop} {Q : Value → Shared → Prop} {c : Value} {b : Bool}
/-- the type of a value, as the fragment's deciders take it; for an instance its class -/
inductive TyOf (K : PySem.W.Frag) (H : Hp) : V → Value → Prop where
  | non : TyOf K H .non (.type "NoneType")
  | bl (x : Bool) : TyOf K H (.bl x) (.type "bool")
  | int (i : Int) : TyOf K H (.int i) (.type "int")
  | str (x : Str) : TyOf K H (.str x) (.type "str")
  | flt (x : UInt64) : TyOf K H (.flt x) (.type "float")
  | lst {a : Addr} {xs : List V} (e : H a = some (.lst xs)) : TyOf K H (.ref a) (.type "list")
  | frz {a : Addr} {o : Obj} {xs : List V} (e : H a = some (.frz o (.lst xs))) : TyOf K H (.ref a) (.type "list")
  | tup {a : Addr} {xs : List V} (e : H a = some (.tup xs)) : TyOf K H (.ref a) (.type "tuple")
  | dK {a : Addr} {kvs : List (Key × V)} (e : H a = some (.dK kvs)) : TyOf K H (.ref a) (.type "dict")
  | dT {a : Addr} {kvs : List (List Key × V)} (e : H a = some (.dT kvs)) : TyOf K H (.ref a) (.type "dict")
  | ins {a C dx : Addr} {fs : List (Str × V)} (e : H a = some (.ins C dx fs)) (cl : Cls K C) (ha : PySem.W.findIn K (.ref C) "__class__" = some (some (.builtin "object.__class__")))
      (hn : PySem.W.specialIn K (.builtin "object.__class__") "__get__" = some (some (.builtin "getset_descriptor.__get__"))) (htk : PySem.W.takesIn K (.builtin "object.__class__") = some true)
      (hm : PySem.W.mroIn K C (.type "object") = some true) : TyOf K H (.ref a) (.ref C)
/-- isinstance(x, c) for one class c, a built-in or an own one: kitOne's answer -/
theorem isinst_ok {x : V} {u t : Value} (I : Inv X pins σ H s) (rx : RelV x u) (ty : TyOf X.K H x t) (e : PySem.W.kitOne X.K t c = some b) (h : ∀ tk, Q (.bool b) { s with toks := tk }) :
    wpAny (model X.prog X.w) A (call (.builtin "isinstance") [u, c]) Q E s := by
  cases ty with
  | non => cases (show u = Value.none from rx); exact PySem.W.kia_one PySem.W.kitx_none I.kIn True.intro e (fun z => nomatch z) h
  | bl y => cases (show u = Value.bool y from rx); exact PySem.W.kia_one PySem.W.kitx_bool I.kIn True.intro e (fun z => nomatch z) h
  | int i => obtain ⟨t, q⟩ := (show ∃ t, u = Value.int i t from rx); cases q; exact PySem.W.kia_one PySem.W.kitx_int I.kIn True.intro e (fun z => nomatch z) h
  | str y => obtain ⟨t, q⟩ := (show ∃ t, u = Value.str y t from rx); cases q; exact PySem.W.kia_one PySem.W.kitx_str I.kIn True.intro e (fun z => nomatch z) h
  | flt y => obtain ⟨t, q⟩ := (show ∃ t, u = Value.float y t from rx); cases q; exact PySem.W.kia_one PySem.W.kitx_float I.kIn True.intro e (fun z => nomatch z) h
  | @lst a xs ea =>
    cases (show u = Value.ref a from rx)
    obtain ⟨_, _, n, _, h1⟩ := (show ObjOk X.prog X.w H s.heap a (.lst xs) from I.hok a _ ea)
    exact PySem.W.kia_one PySem.W.kitx_list I.kIn ⟨_, h1, rfl⟩ e (fun z => nomatch z) h
  | @frz a ob xs ea =>
    cases (show u = Value.ref a from rx)
    obtain ⟨_, _, _, n, _, h1⟩ := (show ObjOk X.prog X.w H s.heap a (.frz ob (.lst xs)) from I.hok a _ ea)
    exact PySem.W.kia_one PySem.W.kitx_list I.kIn ⟨_, h1, rfl⟩ e (fun z => nomatch z) h
  | @tup a xs ea =>
    cases (show u = Value.ref a from rx)
    obtain ⟨_, _, _, p⟩ := (show ObjOk X.prog X.w H s.heap a (.tup xs) from I.hok a _ ea)
    obtain ⟨o, h1, h2, _⟩ := p
    exact PySem.W.kia_one PySem.W.kitx_tuple I.kIn ⟨o, h1, h2⟩ e (fun z => nomatch z) h
  | @dK a kvs ea =>
    cases (show u = Value.ref a from rx)
    obtain ⟨_, _, vs, _, p⟩ := (show ObjOk X.prog X.w H s.heap a (.dK kvs) from I.hok a _ ea)
    obtain ⟨o, es, ep, h1, h2, _⟩ := p
    exact PySem.W.kia_one PySem.W.kitx_dict I.kIn ⟨o, h1, h2.1⟩ e (fun z => nomatch z) h
  | @dT a kvs ea =>
    cases (show u = Value.ref a from rx)
    obtain ⟨_, _, xs, _, o, es, ep, h1, h2, _⟩ := (show ObjOk X.prog X.w H s.heap a (.dT kvs) from I.hok a _ ea)
    exact PySem.W.kia_one PySem.W.kitx_dict I.kIn ⟨o, h1, h2.1⟩ e (fun z => nomatch z) h
  | @ins a C dx fs ea cl ha hn htk hm =>
    cases (show u = Value.ref a from rx)
    obtain ⟨mA, O, _⟩ := ins_get I.hok ea
    obtain ⟨od, J, _⟩ := O.look
    exact PySem.W.kia_one (PySem.W.kitx_own (cl.get _) cl.hd ha hn htk hm) I.kIn J e (fun z => nomatch z) h
end
end L2

namespace L2
open PySem PySem.Spec PyProof.Rows

/-! ### room -/
structure Room (k : Nat) (A : Around) : Prop where
  hd : A.handled = none
  dp : A.depth + 3 * k + 5 < recursionLimit
  un : A.units + 16 * k + 200 < cLine
  gd : A.guards = some []
theorem Room.mono {j k : Nat} {A : Around} (r : Room k A) (h : j ≤ k) : Room j A := ⟨r.hd, by have := r.dp; omega, by have := r.un; omega, r.gd⟩
theorem Room.deeper {k : Nat} {A : Around} (r : Room (k + 1) A) (env : Env) : Room k (A.deeper env) :=
  ⟨r.hd, by have := r.dp; show A.depth + 1 + 3 * k + 5 < _; omega, by have := r.un; show A.units + 3 + 16 * k + 200 < _; omega, r.gd⟩
theorem Room.in1 {k : Nat} {A : Around} (r : Room (k + 1) A) : Room k A.in1 :=
  ⟨r.hd, by have := r.dp; show A.depth + 3 * k + 5 < _; omega, by have := r.un; show A.units + 1 + 16 * k + 200 < _; omega, r.gd⟩
theorem Room.depth {k : Nat} {A : Around} (r : Room k A) : A.depth < recursionLimit := by have := r.dp; omega
theorem Room.units {k : Nat} {A : Around} (r : Room k A) : A.units + 64 < cLine := by have := r.un; omega
/-! ### argument lists and displays -/
def tNil : TA := fun _ H Q => Q [] H
def tCons (ta : TE) (tr : TA) : TA := fun σ H Q => ta σ H fun x H1 => tr σ H1 fun xs H2 => Q (x :: xs) H2
section
variable {X : Cx} {e : Expr} {es : List Expr} {te : TE} {t : TA} {pos : Pos}
theorem pa_nil : PA X [] tNil := fun _ _ _ _ H Q I h => Calls.spliced_nil ⟨[], H, I, .nil, h⟩
theorem pa_cons (ha : PE X e te) (hr : PA X es t) (hs : starEach (e :: es) X.env = (false, eval e X.env) :: starEach es X.env := by rfl) : PA X (e :: es) (tCons te t) := by
  intro pos pins s σ H Q I h
  rw [hs]
  show wpAny _ _ (spliced ((false, eval e X.env) :: backTo pos (starEach es X.env))) _ _ s
  refine Calls.spliced_cons (thn (ha pins s σ H _ I h) fun u s1 ⟨x, H1, I1, r1, q1⟩ => ?_)
  exact thn (hr pos pins s1 σ H1 _ I1 q1) fun us s2 ⟨xs, H2, I2, r2, q2⟩ => ⟨x :: xs, H2, I2, .cons r1 r2, q2⟩

/-- a tuple, a list of written items -/
def tTup (t : TA) : TE := fun σ H Q => t σ H fun xs H1 => xs.length ≤ sizeLine ∧ ∀ p, H1 p = none → Q (.ref p) (upd H1 p (.tup xs))
def tLst (t : TA) : TE := fun σ H Q => t σ H fun xs H1 => xs.length ≤ sizeLine ∧ ∀ p, H1 p = none → Q (.ref p) (upd H1 p (.lst xs))
theorem pe_tup {x1} (h : PA X es t) : PE X (.Tuple es x1 pos) (tTup t) := by
  intro pins s σ H Q I hq
  refine wpAny_Tuple_spliced (thn (h pos pins s σ H _ I hq) fun us s1 ⟨xs, H1, I1, r, z, q⟩ => ⟨by rw [← r.length]; exact z, ?_⟩)
  have hf : H1 s1.heap.objs.size = none := I1.hok.fresh (Nat.le_refl _)
  refine ⟨.ref s1.heap.objs.size, upd H1 s1.heap.objs.size (.tup xs), I1.laid (t' := s1.toks) (fun b u e => Heap.get?_push_of_some _ e) (Nat.le_refl _) ?_, rfl, q _ hf⟩
  exact ⟨z, us, r, ⟨_, Heap.get?_push_size _ rfl, rfl, _, rfl⟩⟩
theorem pe_lst (h : PA X es t) : PE X (.List es pos) (tLst t) := by
  intro pins s σ H Q I hq
  refine wpAny_List_spliced (thn (h pos pins s σ H _ I hq) fun us s1 ⟨xs, H1, I1, r, z, q⟩ => ⟨by rw [← r.length]; exact z, ?_⟩)
  have hf : H1 s1.heap.objs.size = none := I1.hok.fresh (Nat.le_refl _)
  refine ⟨.ref s1.heap.objs.size, upd H1 s1.heap.objs.size (.lst xs), I1.laid (t' := s1.toks) (fun b u e => Heap.get?_push_of_some _ e) (Nat.le_refl _) ?_, rfl, q _ hf⟩
  exact ⟨z, us, 0, r, Heap.get?_push_size _ rfl⟩
end

/-! ### what a def promises -/
/-- a def's promise: the bound arguments in the parameters' order, the heap, the wanted end, the wanted exception -/
abbrev Sp := List V → Hp → VK → XK → Prop
/-- how an exception lies behind a call (file 08 gives it): the callers' frames, abstract heap and state ahead of the call, the wish, the exception, the state -/
abbrev CXT := List Env → Hp → Shared → XK → Value → Shared → Prop

/-- the state at a call -/
structure Env0 (P : Program) (w : World) (K : PySem.W.Frag) (mg : Str → Option Value) (base : Heap) (A : Around) (outer : List Env) (s : Shared) (H : Hp) : Prop where
  frames : A.frames = some outer
  mod : Mod K mg base
  bs : ∀ b o, base.get? b = some o → s.heap.get? b = some o ∧ H b = none
  bsz : base.objs.size ≤ s.heap.objs.size
  funs : s.heap.FunFrames base outer
  frf : ∀ b ∈ frs outer, H b = none
  hok : HOk P w H s.heap
  bare : AllBare s.gens
/-- a call's end -/
def CE (outer : List Env) (P : Program) (w : World) (H : Hp) (s : Shared) (Q : VK) (u : Value) (s' : Shared) : Prop :=
  ∃ v H', s'.os = s.os ∧ AllBare s'.gens ∧ Un (frs outer) [] H H' s.heap s'.heap ∧ HOk P w H' s'.heap ∧ RelV v u ∧ Q v H'
def CR (CX : CXT) (outer : List Env) (P : Program) (w : World) (H : Hp) (s : Shared) (Q : VK) (E : XK) (r : Result) (s' : Shared) : Prop :=
  match r with
  | .ok (.ret u) => CE outer P w H s Q u s'
  | .ok _ => False
  | .error e => CX outer H s E e s'
structure FnOk (P : Program) (w : World) (K : PySem.W.Frag) (mg : Str → Option Value) (base : Heap) (CX : CXT) (k : Nat) (f : Addr) (fd : FuncData) (ps : List Str) (sp : Sp) : Prop where
  len : ∀ vs H Q E, sp vs H Q E → vs.length = ps.length
  run : ∀ (A : Around) (outer : List Env) (s : Shared) (H : Hp) (args : Args) (us : List Value) (vs : List V) (Q : VK) (E : XK), Room k A → Env0 P w K mg base A outer s H → BindsTo s fd args (ps.zip us) → Vals vs us → sp vs H Q E →
    codeAny (model P w) A (.call (.ref f) args) (CR CX outer P w H s Q E) s
theorem FnOk.mono {P : Program} {w : World} {K : PySem.W.Frag} {mg : Str → Option Value} {base : Heap} {CX : CXT} {j k : Nat} {f : Addr} {fd : FuncData} {ps : List Str} {sp : Sp} (F : FnOk P w K mg base CX j f fd ps sp) (h : j ≤ k) :
    FnOk P w K mg base CX k f fd ps sp := ⟨F.len, fun A outer s H args us vs Q E hr => F.run A outer s H args us vs Q E (hr.mono h)⟩
/-- a weaker promise -/
theorem FnOk.imp {P : Program} {w : World} {K : PySem.W.Frag} {mg : Str → Option Value} {base : Heap} {CX : CXT} {k : Nat} {f : Addr} {fd : FuncData} {ps : List Str} {sp sp' : Sp} (F : FnOk P w K mg base CX k f fd ps sp)
    (h : ∀ vs H Q E, sp' vs H Q E → sp vs H Q E) : FnOk P w K mg base CX k f fd ps sp' :=
  ⟨fun vs H Q E q => F.len vs H Q E (h _ _ _ _ q), fun A outer s H args us vs Q E hr he hb hv hs => F.run A outer s H args us vs Q E hr he hb hv (h _ _ _ _ hs)⟩

theorem Env0.in1 {P : Program} {w : World} {K : PySem.W.Frag} {mg : Str → Option Value} {base : Heap} {A : Around} {outer : List Env} {s : Shared} {H : Hp} (e : Env0 P w K mg base A outer s H) :
    Env0 P w K mg base A.in1 outer s H := ⟨e.frames, e.mod, e.bs, e.bsz, e.funs, e.frf, e.hok, e.bare⟩

section
variable {X : Cx} {pins : List (Addr × Obj)} {σ : St} {H : Hp} {s s' : Shared}
/-- from a body: what a callee wants -/
theorem Inv.env0 (I : Inv X pins σ H s) : Env0 X.prog X.w X.K X.mg X.base X.A X.stack s H :=
  ⟨I.ok.frames, I.ok.mod, I.bs, Nat.le_trans I.ok.bsz I.sz, I.stack, I.stkFree, I.hok, I.bare⟩
/-- behind a call -/
theorem Inv.after {Q : VK} {u : Value} (I : Inv X pins σ H s) (h : CE X.stack X.prog X.w H s Q u s') : EP X pins σ Q u s' := by
  obtain ⟨v, H', os, bare, un, hok, r, q⟩ := h
  obtain ⟨hh, g, d, t, os'⟩ := s'
  obtain rfl : os' = s.os := os
  exact ⟨v, H', I.call (h' := hh) (g' := g) (d' := d) (t' := t) (ch := []) un hok bare (fun b z => absurd z (by simp)), r, q⟩
end

/-! ### calls -/
/-- f(..): the written arguments, then the defaults dvs; E: what is wanted of an exception -/
def tCall (sp : Sp) (dvs : List V) (E : XK) (t : TA) : TE := fun σ H Q => t σ H fun vs H1 => sp (vs ++ dvs) H1 Q E
/-- how the parameters are bound: us the positional arguments, kw the keywords' values by name, ds the defaults that fill up -/
def Binds (K : PySem.W.Frag) (fd : FuncData) (ps : List Str) (ds : List Value) : Prop :=
  ∀ (s : Shared) (us : List Value), K.In s.heap → (us ++ ds).length = ps.length → BindsTo s fd ⟨us, []⟩ (ps.zip (us ++ ds))
/-- every parameter is given -/
theorem Binds.all {K : PySem.W.Frag} {fd : FuncData} {ps : List Str} (h : ∀ us : List Value, us.length = ps.length → bindArgs fd ⟨us, []⟩ = pure (ps.zip us)) : Binds K fd ps [] := fun s us _ hl => by
  rw [List.append_nil] at hl ⊢
  exact .of_eq (h us hl)

/-- an exception of a callee reaches what this body wants of exceptions -/
def Passes (CX : CXT) (X : Cx) (E : XK) : Prop := ∀ (pins : List (Addr × Obj)) (σ : St) (H : Hp) (s : Shared) (e : Value) (s' : Shared), Inv X pins σ H s → CX X.stack H s E e s' → X.xe e s'

section
variable {X : Cx} {CX : CXT} {k : Nat} {f C : Addr} {fd : FuncData} {ps : List Str} {sp : Sp} {dvs : List V} {ds : List Value} {E : XK} {x m : Str} {p pos apos : Pos} {e o : Expr} {es : List Expr} {ta : TE} {t : TA}

/-- the callee runs -/
theorem run_fn {pins : List (Addr × Obj)} {σ : St} {H : Hp} {s : Shared} {Q : VK} {us : List Value} {vs : List V} (F : FnOk X.prog X.w X.K X.mg X.base CX k f fd ps sp) (hr : Room k X.A) (hb : Binds X.K fd ps ds) (hd : Vals dvs ds) (hx : Passes CX X E)
    (I : Inv X pins σ H s) (r : Vals vs us) (h : sp (vs ++ dvs) H Q E) : wpAny (model X.prog X.w) X.A (call (.ref f) us) (EP X pins σ Q) X.xe s := by
  have r2 : Vals (vs ++ dvs) (us ++ ds) := r.append hd
  have hl : (us ++ ds).length = ps.length := by rw [← r2.length]; exact F.len _ _ _ _ h
  refine wpAny_call (codeAny_mono (F.run X.A X.stack s H ⟨us, []⟩ (us ++ ds) (vs ++ dvs) Q E hr I.env0 (hb s us I.kIn hl) r2 h) fun r s' hq => ?_)
  cases r with
  | error e => exact hx pins σ H s e s' I hq
  | ok fl =>
    cases fl with
    | ret u => exact I.after hq
    | next => exact False.elim hq
    | brk => exact False.elim hq
    | cont => exact False.elim hq

theorem pe_call (F : FnOk X.prog X.w X.K X.mg X.base CX k f fd ps sp) (hr : Room k X.A) (hg : Gl X x) (hm : X.mg x = some (.ref f)) (hk : PySem.W.keepIn X.K (.ref f) = true) (hb : Binds X.K fd ps ds) (hd : Vals dvs ds) (hx : Passes CX X E)
    (ha : PA X (e :: es) t) (hdb : (x == ("__debug__" : Str)) = false := by decide) (he : starEach (e :: es) X.env = (false, eval e X.env) :: starEach es X.env := by rfl) (hpl : (backTo pos (starEach es X.env)).any (·.1) = false := by rfl) :
    PE X (.Call (.Name x p) (e :: es) [] pos) (tCall sp dvs E t) := by
  intro pins s σ H Q I h
  refine wpAny_Call_Name_kw (ld_glob I hg hm ?_ hdb)
  refine PySem.W.callWith_K (h₀ := X.base) I.ok.mod.kin hk (thn (ha pos pins s σ H _ I h) fun us s1 ⟨vs, H1, I1, r, q⟩ => ⟨I1.kIn, ?_⟩) he hpl
  exact run_fn F hr hb hd hx I1 r q
/-- what a class must have to be made -/
structure Mk (K : PySem.W.Frag) (C f : Addr) : Prop where
  makes : PySem.W.makesIn K C = true
  init : PySem.W.findIn K (.ref C) "__init__" = some (some (.ref f))
  fn : PySem.W.isFn K (.ref f) = true
  kp : PySem.W.keepIn K (.ref C) = true

end

/-! ### keywords -/
/-- the values of the keywords, from the left -/
def PK (X : Cx) (kws : List Keyword) (t : TA) : Prop :=
  ∀ (pos : Pos) (pins : List (Addr × Obj)) (s : Shared) (σ : St) (H : Hp) (Q : List V → Hp → Prop), Inv X pins σ H s → t σ H Q → wpAny (model X.prog X.w) X.A (evalAll ((backToKw pos (keywordEach kws X.env)).map (·.2))) (AP X pins σ Q) X.xe s
section
variable {X : Cx} {CX : CXT} {k : Nat} {f C : Addr} {fd : FuncData} {ps ks : List Str} {sp : Sp} {E : XK} {x m : Str} {p pos apos kpos : Pos} {e o : Expr} {es : List Expr} {kws : List Keyword} {te ta : TE} {t tk : TA} {nm : Option Str}
/-- how a call with keywords binds: g puts the positional values us and the keywords' values ws (names ks) in the parameters' order, defaults among them -/
structure KBinds (K : PySem.W.Frag) (fd : FuncData) (ps ks : List Str) (g : List Value → List Value → List Value) (gV : List V → List V → List V) : Prop where
  to : ∀ (s : Shared) (us ws : List Value), K.In s.heap → (g us ws).length = ps.length → BindsTo s fd ⟨us, ks.zip ws⟩ (ps.zip (g us ws))
  rel : ∀ {vs : List V} {us : List Value} {zs : List V} {ws : List Value}, Vals vs us → Vals zs ws → Vals (gV vs zs) (g us ws)
variable {g : List Value → List Value → List Value} {gV : List V → List V → List V}
end

/-! ### a def's body keeps its promise -/
/-- names: the parameters first -/
structure FnScope (N P : List Str) (sc : Scope) : Prop where
  kind : sc.kind = .function
  co : sc.isCoroutine = false
  gen : sc.isGenerator = false
  nd : N.Nodup
  pre : N.take P.length = P
  par : ∀ x ∈ P, sc.names.lookup x = some .local ∨ sc.names.lookup x = some .cell
  nofree : ∀ y ∈ sc.names, y.2 ≠ .free

theorem bindL_out {kindOf : Str → Option NameKind} {x : Str} : ∀ {binds : List (Str × Value)} {m : Str → Option Value}, (∀ v, (x, v) ∉ binds) → bindL kindOf binds m x = m x
  | [], _, _ => rfl
  | (n, v) :: r, m, h => by
    unfold bindL
    rw [bindL_out fun w hw => h w (List.mem_cons_of_mem _ hw)]
    split
    · have : x ≠ n := by rintro rfl; exact h v List.mem_cons_self
      simp [this]
    · rfl
theorem bindC_out {kindOf : Str → Option NameKind} {x : Str} : ∀ {binds : List (Str × Value)} {m : Str → Option Value}, (∀ v, (x, v) ∉ binds) → bindC kindOf binds m x = m x
  | [], _, _ => rfl
  | (n, v) :: r, m, h => by
    unfold bindC
    rw [bindC_out fun w hw => h w (List.mem_cons_of_mem _ hw)]
    split
    · rfl
    · have : x ≠ n := by rintro rfl; exact h v List.mem_cons_self
      simp [this]
theorem bindL_get {kindOf : Str → Option NameKind} {x : Str} {v : Value} : ∀ {P : List Str} {vs : List Value} {i : Nat} {m : Str → Option Value}, P.Nodup → P[i]? = some x → vs[i]? = some v → kindOf x = some .local →
    bindL kindOf (P.zip vs) m x = some v
  | [], _, _, _, _, h, _, _ => by simp at h
  | _ :: _, [], _, _, _, _, h, _ => by simp at h
  | p :: P, w :: vs, 0, m, nd, h1, h2, hk => by
    simp at h1 h2; subst h1; subst h2
    show bindL kindOf ((p, w) :: P.zip vs) m p = _
    unfold bindL
    rw [bindL_out fun v hv => (List.nodup_cons.mp nd).1 (List.of_mem_zip hv).1, if_pos hk]
    simp
  | p :: P, w :: vs, i + 1, m, nd, h1, h2, hk => by
    show bindL kindOf ((p, w) :: P.zip vs) m x = _
    unfold bindL
    exact bindL_get (i := i) (List.nodup_cons.mp nd).2 (by simpa using h1) (by simpa using h2) hk
theorem bindC_get {kindOf : Str → Option NameKind} {x : Str} {v : Value} : ∀ {P : List Str} {vs : List Value} {i : Nat} {m : Str → Option Value}, P.Nodup → P[i]? = some x → vs[i]? = some v → kindOf x ≠ some .local →
    bindC kindOf (P.zip vs) m x = some v
  | [], _, _, _, _, h, _, _ => by simp at h
  | _ :: _, [], _, _, _, _, h, _ => by simp at h
  | p :: P, w :: vs, 0, m, nd, h1, h2, hk => by
    simp at h1 h2; subst h1; subst h2
    show bindC kindOf ((p, w) :: P.zip vs) m p = _
    unfold bindC
    rw [bindC_out fun v hv => (List.nodup_cons.mp nd).1 (List.of_mem_zip hv).1, if_neg hk]
    simp
  | p :: P, w :: vs, i + 1, m, nd, h1, h2, hk => by
    show bindC kindOf ((p, w) :: P.zip vs) m x = _
    unfold bindC
    exact bindC_get (i := i) (List.nodup_cons.mp nd).2 (by simpa using h1) (by simpa using h2) hk

/-- the names' values at the entry -/
def start (N : List Str) (vs : List V) : St := vs.map some ++ List.replicate (N.length - vs.length) none

/-- the context of a def's body, at its entry; an exception leaves the frame, then lies as CX says -/
def cxOf (CX : CXT) (P : Program) (w : World) (K : PySem.W.Frag) (mg : Str → Option Value) (base : Heap) (N : List Str) (qual : Str) (scope : Scope) (f : Addr) (cd : Value) (A : Around) (outer : List Env) (s : Shared) (H : Hp) (E : XK) : Cx where
  prog := P
  w := w
  K := K
  mg := mg
  base := base
  A := A.deeper (envOfC qual scope s.heap.objs.size f cd)
  N := N
  s_0 := s
  H_0 := H
  env := envOfC qual scope s.heap.objs.size f cd
  outer := outer
  stack := envOfC qual scope s.heap.objs.size f cd :: outer
  ex := []
  calm := true
  fn := fun _ => true
  pn := []
  xe := fun e s' => wpAny (model P w) (A.deeper (envOfC qual scope s.heap.objs.size f cd)) (leaving (envOfC qual scope s.heap.objs.size f cd) e) (fun _ s'' => CX outer H s E e s'') (fun e' s'' => CX outer H s E e' s'') s'

theorem cell_has {sc : Scope} {n : Nat} {x : Str} (h : sc.names.lookup x = some .cell) : ∃ c, (cellsFrom n sc.names []).lookup x = some c := by
  have q := PySem.W.cellsFrom_some sc.names n [] (.inl h)
  exact Option.isSome_iff_exists.mp q

theorem inv_start {CX : CXT} {P : Program} {w : World} {K : PySem.W.Frag} {mg : Str → Option Value} {base : Heap} {N ps : List Str} {qual : Str} {scope : Scope} {f : Addr} {cd : Value} {A : Around} {outer : List Env} {s s1 : Shared} {H : Hp} {E : XK} {us : List Value} {vs : List V}
    (S : FnScope N ps scope) (hd : A.handled = none) (e0 : Env0 P w K mg base A outer s H) (hl : vs.length = ps.length) (r : Vals vs us)
    (x : InCallC s s.heap.objs.size (bindL (envOfC qual scope s.heap.objs.size f cd).kindOf (ps.zip us) fun _ => none) (cellsFrom (s.heap.objs.size + 1) scope.names []) (bindC (envOfC qual scope s.heap.objs.size f cd).kindOf (ps.zip us) fun _ => none) s1) :
    Inv (cxOf CX P w K mg base N qual scope f cd A outer s H E) [] (start N vs) H s1 := by
  have hpl : ps.length ≤ N.length := by have := congrArg List.length S.pre; rw [List.length_take] at this; omega
  obtain ⟨h1, tk, rfl, hk⟩ := x.done
  have noA : ∀ b : Addr, b ∉ (cxOf CX P w K mg base N qual scope f cd A outer s H E).ex := fun b z => absurd (show b ∈ ([] : List Addr) from z) (by simp)
  refine ⟨⟨e0.mod, S.kind, rfl, rfl, Nat.le_refl _, fun y z c h1 h2 => ?_, fun y hy => ?_, fun y c _ h => ?_, fun _ => hd, Around.frames_deeper e0.frames, .inr ⟨rfl, rfl⟩, fun b z => absurd z (noA b), e0.bs, e0.bsz, fun b _ _ => noA b, fun b z => absurd z (noA b), e0.funs, e0.frf⟩,
    rfl, e0.bare, Un.kept hk, ⟨_, x.toInCall.ns, fun i y v h1 h2 h3 => ?_⟩, fun y c h => ⟨_, x.cell y c h⟩, e0.hok.fresh (Nat.le_refl _), fun y c h => ?_, fun p hp => absurd (show p ∈ ([] : List (Addr × Obj)) from hp) (by simp), e0.hok.kept hk, ?_⟩
  · exact name_of_addr x.apart (PySem.mem_of_lookup h1) (PySem.mem_of_lookup h2)
  · have hy : scope.names.lookup y = some .cell ∨ scope.names.lookup y = some .free := hy
    rcases hy with hy | hy
    · exact cell_has hy
    · exact absurd rfl (S.nofree _ (PySem.mem_of_lookup hy))
  · exact Nat.le_of_lt (x.above y c (PySem.mem_of_lookup h))
  · have hi : i < vs.length := by
      unfold start at h2
      by_cases hi : i < vs.length
      · exact hi
      · rw [List.getElem?_append_right (by simpa using hi)] at h2
        rw [List.getElem?_replicate] at h2
        split at h2 <;> cases h2
    have ha : vs[i]? = some v := by
      unfold start at h2
      rw [List.getElem?_append_left (by simpa using hi), List.getElem?_map] at h2
      cases e : vs[i]? with
      | none => rw [e] at h2; cases h2
      | some a => rw [e] at h2; cases h2; rfl
    obtain ⟨u, hu, rv⟩ := r.get ha
    have hp : ps[i]? = some y := by
      rw [← S.pre, List.getElem?_take_of_lt (by omega)]; exact h1
    have ndP : ps.Nodup := by rw [← S.pre]; exact S.nd.sublist (List.take_sublist _ _)
    refine ⟨u, rv, ?_⟩
    rcases S.par y (List.mem_of_getElem? hp) with k | k
    · exact .inl ⟨k, bindL_get ndP hp hu k⟩
    · obtain ⟨c, e⟩ := cell_has (n := s.heap.objs.size + 1) k
      refine .inr ⟨.inl k, c, e, ?_⟩
      have q := x.cell y c e
      rw [bindC_get ndP hp hu (by show scope.names.lookup y ≠ _; rw [k]; decide)] at q
      exact q
  · exact e0.hok.fresh (Nat.le_of_lt (x.above y c (PySem.mem_of_lookup h)))
  · unfold start
    show _ = N.length
    rw [List.length_append, List.length_map, List.length_replicate]
    omega

/-- THE RULE: a def (or a method) of the text, by its body. The body's reading t is chosen for each entry; it is run at the parameters' values -/
theorem fn_of {CX : CXT} {P : Program} {w : World} {K : PySem.W.Frag} {mg : Str → Option Value} {base : Heap} {k : Nat} {f : Addr} {name qual : Str} {params : Arguments} {body : List Stmt} {scope : Scope} {dV kV doc pm cdv ct oc : Value} {an od : Option Addr}
    {osl : Array (Option Value)} {N ps : List Str} {sp : Sp} (lk : K.lookup f = some ⟨oc, od, .func (PySem.W.fnOf name qual params body scope dV kV doc pm an cdv ct), osl⟩) (hcd : PySem.W.codeIn K cdv qual = true) (S : FnScope N ps scope)
    (len : ∀ vs H Q E, sp vs H Q E → vs.length = ps.length)
    (hbody : ∀ (A : Around) (outer : List Env) (s : Shared) (H : Hp) (vs : List V) (Q : VK) (E : XK), Room k (A.deeper (envOfC qual scope s.heap.objs.size f cdv)) → sp vs H Q E →
      ∃ t, PSs (cxOf CX P w K mg base N qual scope f cdv A outer s H E) body t ∧ t { nx := fun _ H' => Q .non H', rt := Q } (start N vs) H) :
    FnOk P w K mg base CX (k + 1) f (PySem.W.fnOf name qual params body scope dV kV doc pm an cdv ct) ps sp := by
  refine ⟨len, fun A outer s H args us vs Q E hr e0 hb r hsp => ?_⟩
  have hl := len _ _ _ _ hsp
  have KX : K.In s.heap := e0.mod.kin.keeps fun b o e => (e0.bs b o e).1
  have lim : s.heap.NoLimit := e0.mod.nolimit.keeps fun b o e => (e0.bs b o e).1
  have hkind : ∀ y ∈ ps.zip us, scope.names.lookup y.1 = some .local ∨ (scope.names.lookup y.1 = some .cell ∧ ((cellsFrom (s.heap.objs.size + 1) scope.names []).lookup y.1).isSome = true) := fun ⟨n, v⟩ hy => by
    rcases S.par n (List.of_mem_zip hy).1 with q | q
    · exact .inl q
    · exact .inr ⟨q, PySem.W.cellsFrom_some _ _ _ (.inl q)⟩
  refine codeAny_call_function hr.depth (KX _ _ lk) rfl S.co S.gen rfl (PySem.W.codeRec_of KX hcd) (hb _ _ _ _ ?_)
  refine wpAny_newFunctionEnv_cells S.kind hkind fun env he s1 x => ?_
  subst he
  refine ⟨lim.keeps x.toInCall.keep, codeAny_func ?_⟩
  obtain ⟨t, ht, hq⟩ := hbody A outer s H vs Q E (hr.deeper _) hsp
  have I : Inv (cxOf CX P w K mg base N qual scope f cdv A outer s H E) [] (start N vs) H s1 := inv_start S hr.hd e0 hl r x
  refine wpAny_mono (ht [] s1 (start N vs) H _ I hq) (fun fl s' hs => ?_) fun e s' hs => hs
  have fin : ∀ {σ' : St} {H' : Hp} {v : V} {u : Value}, Inv (cxOf CX P w K mg base N qual scope f cdv A outer s H E) [] σ' H' s' → RelV v u → Q v H' → CE outer P w H s Q u s' :=
    fun {σ' H' v u} J rv q => ⟨v, H', J.os, J.bare, J.base, J.hok, rv, q⟩
  cases fl with
  | ret u =>
    obtain ⟨v, σ', H', J, rv, q⟩ := hs
    exact fin J rv q
  | next =>
    obtain ⟨σ', H', J, q⟩ := hs
    exact fin (v := V.non) (u := Value.none) J rfl q
  | brk =>
    obtain ⟨_, _, _, q⟩ := hs
    exact False.elim q
  | cont =>
    obtain ⟨_, _, _, q⟩ := hs
    exact False.elim q
end L2

namespace L2
open PySem PySem.Spec PyProof.Rows
section
variable {X : Cx} {x : Str} {p pos : Pos} {e : Expr} {es : List Expr} {t : TA} {id T : String} {r : List V → Hp → VK → Prop}

def tCB (r : List V → Hp → VK → Prop) (t : TA) : TE := fun σ H Q => t σ H fun vs H1 => r vs H1 Q
/-- f(e, ..), f a built-in function -/
theorem pe_callB (hc : CallR X (.builtin id) r) (hg : Gl X x) (hm : X.mg x = none) (hv : bootBuiltins x = some (.builtin id)) (ha : PA X (e :: es) t) (hn : x ≠ "__name__" := by decide) (hdb : (x == ("__debug__" : Str)) = false := by decide)
    (he : starEach (e :: es) X.env = (false, eval e X.env) :: starEach es X.env := by rfl) (hpl : (backTo pos (starEach es X.env)).any (·.1) = false := by rfl) : PE X (.Call (.Name x p) (e :: es) [] pos) (tCB r t) := by
  intro pins s σ H Q I h
  refine wpAny_Call_Name_kw (ld_blt I hg hm hv ?_ hn hdb)
  exact PyProof.Rows.callWith_builtin1 (thn (ha pos pins s σ H _ I h) fun us s1 ⟨vs, H1, I1, r1, q1⟩ => hc pins s1 σ H1 vs us Q I1 r1 q1) he hpl
/-- T(e, ..), T a built-in type -/
theorem pe_callTy (hc : CallR X (.type T) r) (hg : Gl X x) (hm : X.mg x = none) (hv : bootBuiltins x = some (.type T)) (ha : PA X (e :: es) t) (hn : x ≠ "__name__" := by decide) (hdb : (x == ("__debug__" : Str)) = false := by decide)
    (he : starEach (e :: es) X.env = (false, eval e X.env) :: starEach es X.env := by rfl) (hpl : (backTo pos (starEach es X.env)).any (·.1) = false := by rfl) : PE X (.Call (.Name x p) (e :: es) [] pos) (tCB r t) := by
  intro pins s σ H Q I h
  refine wpAny_Call_Name_kw (ld_blt I hg hm hv ?_ hn hdb)
  exact PyProof.Rows.callWith_type1 (thn (ha pos pins s σ H _ I h) fun us s1 ⟨vs, H1, I1, r1, q1⟩ => hc pins s1 σ H1 vs us Q I1 r1 q1) he hpl
end
end L2

namespace HT
open PySem PyProof.Rows

section
open PySem.SeqAt
open PySem.AutoSeq1 (wpAny_loadPart')
open PySem.MeetsSeq PySem.MeetsSeq2 PySem.MeetsSeq3

end

section
variable {prog : Program} {w : World} {A : Around} {E : Value → Shared → Prop} {s : Shared}

/-- t + u, t not empty -/
theorem cat_tup {t b : Addr} {vs ws : List Value} {Q : Value → Shared → Prop} (ht : IsTup s.heap t vs.toArray) (hb : IsTup s.heap b ws.toArray) (hv : vs ≠ [])
    (h1 : ws = [] → Q (.ref t) s) (h2 : ws ≠ [] → Q (.ref s.heap.objs.size) { s with heap := s.heap.push { cls := .type "tuple", data := .seq (vs ++ ws).toArray } })
    (hsz : vs.length + ws.length ≤ sizeLine) : wpAny (model prog w) A (binaryOp .Add (.ref t) (.ref b)) Q E s := by
  obtain ⟨⟨cls, dd, data, sl⟩, ho, hc, n, hd⟩ := id ht
  obtain ⟨⟨cls2, dd2, data2, sl2⟩, ho2, hc2, n2, hd2⟩ := id hb
  simp only at hc hd hc2 hd2
  subst hc hd hc2 hd2
  have e : vs.toArray ++ ws.toArray = (vs ++ ws).toArray := by simp
  by_cases hw : ws = []
  · exact concat_meets ⟨_, ho, rfl⟩ ⟨_, ho2, rfl⟩ noFill_tuple_add seq_tuple_add PySem.F.slot_tuple_add PySem.F.entry_tuple_add (PySem.F.args_tuple_add_2 _ _)
      (tuple_addW1 t b vs.toArray ws.toArray n n2 dd dd2 sl sl2 (by simpa using hv) (by simp [hw])) ⟨ho, ho2, h1 hw⟩
  · refine concat_meets ⟨_, ho, rfl⟩ ⟨_, ho2, rfl⟩ noFill_tuple_add seq_tuple_add PySem.F.slot_tuple_add PySem.F.entry_tuple_add (PySem.F.args_tuple_add_2 _ _)
      (tuple_addW2 t b vs.toArray ws.toArray n n2 dd dd2 sl sl2 (by simpa using hv) (by simpa using hw) (by rw [List.size_toArray, List.size_toArray]; exact hsz)) ⟨ho, ho2, ?_⟩
    rw [e]
    exact h2 hw

/-! ### t[a:b], not the whole -/
/-- a slice's bound as a place among n (d where it is left out) -/
def sIx (n d : Nat) : Option Int → Nat
  | none => d
  | some v => if v < 0 then (v + (n : Int)).toNat else min v.toNat n
theorem sIx_none (n d : Nat) : sIx n d none = d := rfl
theorem sIx_nat (n d k : Nat) : sIx n d (some (k : Int)) = min k n := by
  show (if (k : Int) < 0 then ((k : Int) + (n : Int)).toNat else min (k : Int).toNat n) = min k n
  rw [if_neg (by omega), Int.toNat_natCast]
end
end HT

namespace L2
open PySem PySem.Spec PyProof.Rows

/-! ### the parts of a slice -/
abbrev TO := St → Hp → (Option Int → Hp → Prop) → Prop
/-- a slice's part (left out, or an int) -/
def PO (X : Cx) (e : Option Expr) (t : TO) : Prop :=
  ∀ (pins : List (Addr × Obj)) (s : Shared) (σ : St) (H : Hp) (Q : Option Int → Hp → Prop), Inv X pins σ H s → t σ H Q →
    wpAny (model X.prog X.w) X.A (evalPart e X.env) (fun u s' => ∃ o H', Inv X pins σ H' s' ∧ IsPart u o ∧ Q o H') X.xe s
section
variable {X : Cx} {e : Expr} {te : TE} {lo hi : Option Expr} {tl th : TO} {pos p2 : Pos}

/-- what a slice of a value is, by values: the slice object stands at sl -/
def SlR (X : Cx) (r : V → Option Int → Option Int → Hp → VK → Prop) : Prop :=
  ∀ (pins : List (Addr × Obj)) (s : Shared) (σ : St) (H : Hp) (x : V) (v vl vu : Value) (lo hi : Option Int) (sl : Addr) (Q : VK), Inv X pins σ H s → RelV x v → s.heap.IsSliceOf sl vl vu .none → IsPart vl lo → IsPart vu hi → r x lo hi H Q →
    ∃ T id, typeLookup (.type T) "__getitem__" = pure (some (.builtin id)) ∧ s.TypeIs v T ∧ wpAny (model X.prog X.w) X.A (getItem v (.ref sl)) (EP X pins σ Q) X.xe s
theorem SlR.or {r r' : V → Option Int → Option Int → Hp → VK → Prop} (h : SlR X r) (h' : SlR X r') : SlR X (fun x lo hi H Q => r x lo hi H Q ∨ r' x lo hi H Q) := by
  intro pins s σ H x v vl vu lo hi sl Q I rx hs pl pu q
  rcases q with q | q
  · exact h pins s σ H x v vl vu lo hi sl Q I rx hs pl pu q
  · exact h' pins s σ H x v vl vu lo hi sl Q I rx hs pl pu q
/-! ### t < u, t + u -/
/-- t + u, t not empty: u empty gives t itself -/
def rCatT (K : PySem.W.Frag) : R2 := fun x y H Q => ∃ a b xs ys, x = .ref a ∧ y = .ref b ∧ SqT K H a xs ∧ SqT K H b ys ∧ xs ≠ [] ∧ xs.length + ys.length ≤ sizeLine ∧
  (ys = [] → Q (.ref a) H) ∧ (ys ≠ [] → ∀ p, H p = none → Q (.ref p) (upd H p (.tup (xs ++ ys))))
theorem Vals.nil_iff {xs : List V} {us : List Value} (r : Vals xs us) : us = [] ↔ xs = [] := by
  cases r with
  | nil => simp
  | cons _ _ => simp
theorem op_catT : OpR X (binaryOp .Add) (rCatT X.K) := by
  intro pins s σ H x y v u Q I rx ry h
  obtain ⟨a, b, xs, ys, rfl, rfl, ha, hb, hx, hz, q1, q2⟩ := h
  cases rx
  cases ry
  obtain ⟨its, r1, p1, _⟩ := I.tuple ha
  obtain ⟨its2, r2, p2, _⟩ := I.tuple hb
  refine HT.cat_tup p1 p2 (fun z => hx (r1.nil_iff.mp z)) (fun z => ⟨.ref a, H, I, rfl, q1 (r2.nil_iff.mp z)⟩) (fun z => ?_) (by rw [← r1.length, ← r2.length]; exact hz)
  refine ⟨.ref s.heap.objs.size, _, I.laid (t' := s.toks) (o := .tup (xs ++ ys)) (fun b ob q => Heap.get?_push_of_some _ q) (Nat.le_refl _) ?_, rfl, q2 (fun w => z (r2.nil_iff.mpr w)) _ (I.hok.fresh (Nat.le_refl _))⟩
  exact ⟨by rw [List.length_append]; exact hz, _, r1.append r2, IsTup.new _ _⟩
end
end L2

namespace L2
open PySem PySem.Spec PyProof.Rows

/-! ### places -/
/-- the place that an index of any sign means -/
def ixN (n : Nat) (i : Int) : Option Nat := if 0 ≤ i then (if i < n then some i.toNat else none) else if -(n : Int) ≤ i then some (i + n).toNat else none
def atI {α : Type} (xs : List α) (i : Int) : Option α := (ixN xs.length i).bind fun j => xs[j]?
theorem ixN_seq {n : Nat} {i : Int} {j : Nat} (h : ixN n i = some j) : seqIndex? i n = some j ∧ j < n ∧ -(n : Int) ≤ i ∧ i < n := by
  unfold ixN at h
  by_cases h0 : 0 ≤ i
  · rw [if_pos h0] at h
    by_cases h1 : i < n
    · rw [if_pos h1] at h
      have e : i.toNat = j := Option.some.inj h
      exact ⟨by rw [seqIndex_of h0 h1, e], by omega, by omega, h1⟩
    · rw [if_neg h1] at h; cases h
  · rw [if_neg h0] at h
    by_cases h1 : -(n : Int) ≤ i
    · rw [if_pos h1] at h
      have e : (i + n).toNat = j := Option.some.inj h
      exact ⟨by rw [seqIndex_neg (by omega) h1, e], by omega, h1, by omega⟩
    · rw [if_neg h1] at h; cases h
theorem atI_get {α : Type} {xs : List α} {i : Int} {v : α} (h : atI xs i = some v) : ∃ j, seqIndex? i xs.length = some j ∧ xs[j]? = some v ∧ j < xs.length ∧ -(xs.length : Int) ≤ i ∧ i < xs.length := by
  unfold atI at h
  cases e : ixN xs.length i with
  | none => rw [e] at h; cases h
  | some j =>
    rw [e] at h
    obtain ⟨h1, h2, h3, h4⟩ := ixN_seq e
    exact ⟨j, h1, h, h2, h3, h4⟩
theorem atI_nat {α : Type} {xs : List α} {j : Nat} {v : α} (h : xs[j]? = some v) : atI xs (j : Int) = some v := by
  have hj : j < xs.length := (List.getElem?_eq_some_iff.mp h).1
  have e : ixN xs.length (j : Int) = some j := by
    unfold ixN
    rw [if_pos (by omega), if_pos (by omega)]; simp
  unfold atI; rw [e]; exact h
/-! ### what may be subscripted -/
/-- what stands as an index of a plain subscript -/
def PlainIx (b : Expr) : Prop := ∀ o i, subscripted b false o i = operate [o, i] (getItem o i)
/-- a subscript by values -/
def IxR (X : Cx) (r : R2) : Prop :=
  ∀ (value slice : Expr) (pins : List (Addr × Obj)) (s : Shared) (σ : St) (H : Hp) (x y : V) (v u : Value) (Q : VK), Inv X pins σ H s → RelV x v → RelV y u → r x y H Q →
    subscripted slice false v u = operate [v, u] (getItem v u) → wpAny (model X.prog X.w) X.A (subscriptTail value slice v u) (EP X pins σ Q) X.xe s
/-- a call of a builtin's method by values: the receiver, the arguments -/
def MtR (X : Cx) (id : String) (r : V → List V → Hp → VK → Prop) : Prop :=
  ∀ (pins : List (Addr × Obj)) (s : Shared) (σ : St) (H : Hp) (x : V) (xs : List V) (v : Value) (us : List Value) (Q : VK), Inv X pins σ H s → RelV x v → Vals xs us → r x xs H Q →
    wpAny (model X.prog X.w) X.A (call (.builtin id) (v :: us)) (EP X pins σ Q) X.xe s
section
variable {X : Cx} {a b : Expr} {ta tb : TE} {pos : Pos}
theorem IxR.or {r r' : R2} (h : IxR X r) (h' : IxR X r') : IxR X (fun x y H Q => r x y H Q ∨ r' x y H Q) := by
  intro value slice pins s σ H x y v u Q I rx ry q hs
  rcases q with q | q
  · exact h value slice pins s σ H x y v u Q I rx ry q hs
  · exact h' value slice pins s σ H x y v u Q I rx ry q hs
theorem MtR.or {id : String} {r r' : V → List V → Hp → VK → Prop} (h : MtR X id r) (h' : MtR X id r') : MtR X id (fun x xs H Q => r x xs H Q ∨ r' x xs H Q) := by
  intro pins s σ H x xs v us Q I rx rs q
  rcases q with q | q
  · exact h pins s σ H x xs v us Q I rx rs q
  · exact h' pins s σ H x xs v us Q I rx rs q
/-- a[b] -/
theorem pe_ix {r : R2} (hr : IxR X r) (ha : PE X a ta) (hb : PE X b tb) (hs : PlainIx b) : PE X (.Subscript a b pos) (tOp r ta tb) := by
  intro pins s σ H Q I h
  exact Subscript_ (binT ha hb I h fun v u s2 x y H2 I2 rx ry q => hr a b pins s2 σ H2 x y v u Q I2 rx ry q (hs _ _))

def rIxL (K : PySem.W.Frag) : R2 := fun x y H Q => ∃ p xs i v, x = .ref p ∧ y = .int i ∧ SqL K H p xs ∧ atI xs i = some v ∧ Q v H
def rIxT (K : PySem.W.Frag) : R2 := fun x y H Q => ∃ p xs i v, x = .ref p ∧ y = .int i ∧ SqT K H p xs ∧ atI xs i = some v ∧ Q v H
def rIxS : R2 := fun x y H Q => ∃ z i c, x = .str z ∧ y = .int i ∧ z.length ≤ sizeLine ∧ atI z.cps.toList i = some c ∧ Q (.str ⟨#[c]⟩) H
theorem ix_list : IxR X (rIxL X.K) := by
  intro value slice pins s σ H x y v u Q I rx ry h hs
  obtain ⟨p, xs, i, z, rfl, rfl, hq, he, q⟩ := h
  cases rx
  obtain ⟨t, rfl⟩ := ry
  obtain ⟨its, r, pl, hz⟩ := I.list hq
  obtain ⟨j, h1, h2, h3, h4, h5⟩ := atI_get he
  obtain ⟨w, ew, rw'⟩ := r.get h2
  have hl := r.length
  have hn := line63
  have fin : EP X pins σ Q w s := ⟨z, H, I, rw', q⟩
  by_cases h0 : 0 ≤ i
  · have hj : i.toNat = j := by
      rw [seqIndex_of h0 h5] at h1
      exact Option.some.inj h1
    exact item_listR pl.isList h0 (by omega) (by rw [hj]; simpa using ew) fin hs
  · have hj : (i + (its.toArray.size : Int)).toNat = j := by
      rw [seqIndex_neg (by omega) h4] at h1
      rw [List.size_toArray, ← hl]
      exact Option.some.inj h1
    exact subscriptTail_builtinR (x := w) pl.isList.typeIs slot_list_getitem.lookup
      (wpAny_getItem_list_neg (Q := fun r s' => r = w ∧ EP X pins σ Q r s') pl.isList (by omega) (by rw [List.size_toArray] <;> omega) (by omega) (by rw [hj]; simpa using ew) ⟨rfl, fin⟩) hs
theorem ix_tup : IxR X (rIxT X.K) := by
  intro value slice pins s σ H x y v u Q I rx ry h hs
  obtain ⟨p, xs, i, z, rfl, rfl, hq, he, q⟩ := h
  cases rx
  obtain ⟨t, rfl⟩ := ry
  obtain ⟨its, r, pl, hz⟩ := I.tuple hq
  obtain ⟨j, h1, h2, h3, h4, h5⟩ := atI_get he
  obtain ⟨w, ew, rw'⟩ := r.get h2
  have hl := r.length
  have hn := line63
  have fin : EP X pins σ Q w s := ⟨z, H, I, rw', q⟩
  exact subscriptTail_builtinR (x := w) pl.typeIs slot_tuple_getitem.lookup
    (getItem_tuple (j := j) (Q := fun r s' => r = w ∧ EP X pins σ Q r s') pl (by omega) (by omega) (by rw [List.size_toArray, ← hl]; exact h1) (by simpa using ew) ⟨rfl, fin⟩) hs
theorem ix_str : IxR X rIxS := by
  intro value slice pins s σ H x y v u Q I rx ry h hs
  obtain ⟨z, i, c, rfl, rfl, hz, he, q⟩ := h
  obtain ⟨t, rfl⟩ := rx
  obtain ⟨t', rfl⟩ := ry
  obtain ⟨j, h1, h2, h3, h4, h5⟩ := atI_get he
  have hl : z.cps.toList.length = z.length := by simp [Str.length]
  rw [hl] at h1 h4 h5
  have hn := line63
  exact tail_any (typeIs_str s z t) slot_str_getitem.lookup (getItem_str (c := c) (by
    have e1 : decide (i < -(2 ^ 63 : Int)) = false := decide_eq_false (by omega)
    have e2 : decide (i ≥ 2 ^ 63) = false := decide_eq_false (by omega)
    rw [e1, e2, Bool.or_false]) (by rw [h1]; simpa using h2) ⟨.str ⟨#[c]⟩, H, I.tok _, ⟨_, rfl⟩, q⟩) hs
/-- list, tuple or str -/
def rIx (K : PySem.W.Frag) : R2 := fun x y H Q => rIxL K x y H Q ∨ rIxT K x y H Q ∨ rIxS x y H Q
theorem ix_seq : IxR X (rIx X.K) := ix_list.or (ix_tup.or ix_str)

/-! ### xs[i] = v, any sign -/
/-- the list's object behind a store -/
theorem mapSeq_set (its : List Value) (n j : Nat) (u : Value) : Obj.mapSeq (·.setIfInBounds j u) { cls := .type "list", data := .seq its.toArray n } = { cls := .type "list", data := .seq (its.set j u).toArray n } := by
  simp [Obj.mapSeq]
theorem Inv.lst {pins : List (Addr × Obj)} {σ : St} {H : Hp} {s : Shared} {p : Addr} {xs : List V} (I : Inv X pins σ H s) (h : H p = some (.lst xs)) :
    ∃ (its : List Value) (n : Nat), Vals xs its ∧ s.heap.get? p = some { cls := .type "list", data := .seq its.toArray n } ∧ xs.length ≤ sizeLine := by
  obtain ⟨z, its, n, r, e⟩ := I.hok p _ h
  exact ⟨its, n, r, e, z⟩
/-- the list at p is written by an update of its object -/
theorem Inv.lstUpd {pins : List (Addr × Obj)} {σ : St} {H : Hp} {s : Shared} {p : Addr} {xs ys : List V} {its its' : List Value} {n n' : Nat} {f : Obj → Obj} (I : Inv X pins σ H s) (h : H p = some (.lst xs))
    (ho : s.heap.get? p = some { cls := .type "list", data := .seq its.toArray n }) (hf : f { cls := .type "list", data := .seq its.toArray n } = { cls := .type "list", data := .seq its'.toArray n' }) (r : Vals ys its') (hz : ys.length ≤ sizeLine) (t : Nat) :
    Inv X pins σ (upd H p (.lst ys)) { s with heap := s.heap.update p f, toks := t } := by
  have e : (s.heap.update p f).get? p = some { cls := .type "list", data := .seq its'.toArray n' } := by
    rw [Heap.get?_update_self f ho (by rw [hf] <;> rfl), hf]
  refine I.write (x := p) (e := p) (by rw [h]; trivial) (.inl rfl) (fun b u hb q => (Heap.get?_update_other _ _ (Ne.symm hb)).trans q) ⟨_, e⟩ ?_
  exact ⟨hz, its', n', r, e⟩
def rSetL : V → V → V → Hp → (Hp → Prop) → Prop := fun o i v H Q => ∃ p xs k j, o = .ref p ∧ i = .int k ∧ H p = some (.lst xs) ∧ ixN xs.length k = some j ∧ Q (upd H p (.lst (xs.set j v)))
theorem set_list : PSet X rSetL := by
  intro pins s σ H o i v ov iv u Q I ro ri rv h
  obtain ⟨p, xs, k, j, rfl, rfl, hp, hj, q⟩ := h
  cases ro
  obtain ⟨t, rfl⟩ := ri
  obtain ⟨its, n, r, ho, hz⟩ := I.lst hp
  obtain ⟨h1, h2, h3, h4⟩ := ixN_seq hj
  have hl := r.length
  have hn := line63
  have I' : Inv X pins σ (upd H p (.lst (xs.set j v))) { s with heap := s.heap.update p (Obj.mapSeq (·.setIfInBounds j u)) } :=
    I.lstUpd hp ho (mapSeq_set its n j u) (r.set rv j) (by rw [List.length_set]; exact hz) s.toks
  by_cases h0 : 0 ≤ k
  · have hk : k.toNat = j := by
      rw [seqIndex_of h0 h4] at h1
      exact Option.some.inj h1
    exact PySem.W.ki_setAt ho h0 (by omega) (by rw [List.size_toArray, ← hl]; exact h4) (by rw [hk]; exact ⟨_, I', q⟩)
  · have hk : (k + (its.toArray.size : Int)).toNat = j := by
      rw [seqIndex_neg (by omega) h3] at h1
      rw [List.size_toArray, ← hl]
      exact Option.some.inj h1
    exact PySem.W.ki_setBack ho (by omega) (by rw [List.size_toArray, ← hl]; exact h3) (by omega) (by rw [hk]; exact ⟨_, I', q⟩)

/-! ### slices -/
/-! ### in, not in: flat items -/
def flatV : V → Bool
  | .non => true
  | .bl _ => true
  | .int _ => true
  | .str _ => true
  | _ => false
/-- == of flat values -/
def eqV : V → V → Bool
  | .non, .non => true
  | .bl a, .bl b => a == b
  | .bl a, .int b => (if a then 1 else 0) == b
  | .int a, .bl b => a == (if b then 1 else 0)
  | .int a, .int b => a == b
  | .str a, .str b => a == b
  | _, _ => false
theorem eqAt_V {A : Around} {s : Shared} {y x : V} {u v : Value} (ry : RelV y u) (rx : RelV x v) (fy : flatV y = true) (fx : flatV x = true) : SeqAt.EqAt A s u v (eqV y x) := by
  cases y with
  | non =>
    cases ry
    cases x with
    | non => cases rx; exact SeqAt.EqAt.same _
    | bl b => cases rx; exact SeqAt.EqAt.none_bool b
    | int b => obtain ⟨t, rfl⟩ := rx; exact SeqAt.EqAt.none_int b t
    | str b => obtain ⟨t, rfl⟩ := rx; exact SeqAt.EqAt.none_str b t
    | _ => exact absurd (show false = true from fx) Bool.false_ne_true
  | bl a =>
    cases ry
    cases x with
    | non => cases rx; exact SeqAt.EqAt.bool_none a
    | bl b => cases rx; exact SeqAt.EqAt.bool_bool a b
    | int b => obtain ⟨t, rfl⟩ := rx; exact SeqAt.EqAt.bool_int a b t
    | str b => obtain ⟨t, rfl⟩ := rx; exact SeqAt.EqAt.bool_str a b t
    | _ => exact absurd (show false = true from fx) Bool.false_ne_true
  | int a =>
    obtain ⟨t', rfl⟩ := ry
    cases x with
    | non => cases rx; exact SeqAt.EqAt.int_none a t'
    | bl b => cases rx; exact SeqAt.EqAt.int_bool a t' b
    | int b => obtain ⟨t, rfl⟩ := rx; exact SeqAt.EqAt.int_int a t' b t
    | str b => obtain ⟨t, rfl⟩ := rx; exact SeqAt.EqAt.int_str a t' b t
    | _ => exact absurd (show false = true from fx) Bool.false_ne_true
  | str a =>
    obtain ⟨t', rfl⟩ := ry
    cases x with
    | non => cases rx; exact SeqAt.EqAt.str_none a t'
    | bl b => cases rx; exact SeqAt.EqAt.str_bool a t' b
    | int b => obtain ⟨t, rfl⟩ := rx; exact SeqAt.EqAt.str_int a t' b t
    | str b => obtain ⟨t, rfl⟩ := rx; exact SeqAt.EqAt.str_str a t' b t
    | _ => exact absurd (show false = true from fx) Bool.false_ne_true
  | _ => exact absurd (show false = true from fy) Bool.false_ne_true
/-- the items' answers, read off the values (a value's own answer does not lean on its token) -/
def eqU (x : V) (u : Value) : Bool := match u with
  | .none => eqV .non x
  | .bool b => eqV (.bl b) x
  | .int i _ => eqV (.int i) x
  | .str z _ => eqV (.str z) x
  | _ => false
theorem eqU_of {x y : V} {u : Value} (r : RelV y u) (f : flatV y = true) : eqU x u = eqV y x := by
  cases y with
  | non => cases r; rfl
  | bl b => cases r; rfl
  | int i => obtain ⟨t, rfl⟩ := r; rfl
  | str z => obtain ⟨t, rfl⟩ := r; rfl
  | _ => exact absurd (show false = true from f) Bool.false_ne_true
theorem any_eqU {x : V} : ∀ {xs : List V} {us : List Value}, Vals xs us → xs.all flatV = true → us.any (eqU x) = xs.any fun y => eqV y x
  | _, _, .nil, _ => rfl
  | y :: xs, u :: us, .cons r t, f => by
    rw [List.all_cons, Bool.and_eq_true] at f
    rw [List.any_cons, List.any_cons, eqU_of r f.1, any_eqU t f.2]
theorem mem_eqAt {A : Around} {s : Shared} {x : V} {v : Value} (rx : RelV x v) (fx : flatV x = true) : ∀ {xs : List V} {us : List Value}, Vals xs us → xs.all flatV = true → ∀ u ∈ us, SeqAt.EqAt A s u v (eqU x u)
  | _, _, .nil, _ => fun u hu => by cases hu
  | y :: xs, u :: us, .cons r t, f => fun u' hu => by
    rw [List.all_cons, Bool.and_eq_true] at f
    rcases List.mem_cons.mp hu with rfl | hu
    · rw [eqU_of r f.1]; exact eqAt_V r rx f.1 fx
    · exact mem_eqAt rx fx t f.2 u' hu
def inV (x : V) (xs : List V) : Bool := xs.any fun y => eqV y x
/-- x in a list or tuple of flat items -/
def rIn (K : PySem.W.Frag) (neg : Bool) : R2 := fun x y H Q => ∃ p xs, y = .ref p ∧ (SqL K H p xs ∨ SqT K H p xs) ∧ flatV x = true ∧ xs.all flatV = true ∧ Q (.bl (if neg then !inV x xs else inV x xs)) H
theorem op_in_seq : OpR X (compareOp .In) (rIn X.K false) := by
  intro pins s σ H x y v u Q I rx ry h
  obtain ⟨p, xs, rfl, hq, fx, fs, q⟩ := h
  cases ry
  rcases hq with hq | hq
  · obtain ⟨its, r, pl, hz⟩ := I.list hq
    refine SeqAt.in_listAt (eqU x) pl.isList (fun w hw => mem_eqAt rx fx r fs w (by simpa using hw)) ⟨.bl _, H, I, rfl, ?_⟩
    rw [show its.toArray.any (eqU x) = its.any (eqU x) by simp, any_eqU r fs]
    exact q
  · obtain ⟨its, r, pl, hz⟩ := I.tuple hq
    refine SeqAt.in_tupleAt (eqU x) pl (fun w hw => mem_eqAt rx fx r fs w (by simpa using hw)) ⟨.bl _, H, I, rfl, ?_⟩
    rw [show its.toArray.any (eqU x) = its.any (eqU x) by simp, any_eqU r fs]
    exact q
/-! ### len, list(x), tuple(x) of any list or tuple that is read -/
theorem CallR.or {f : Value} {r r' : List V → Hp → VK → Prop} (h : CallR X f r) (h' : CallR X f r') : CallR X f (fun xs H Q => r xs H Q ∨ r' xs H Q) := by
  intro pins s σ H xs us Q I rs q
  rcases q with q | q
  · exact h pins s σ H xs us Q I rs q
  · exact h' pins s σ H xs us Q I rs q
/-! ### the call of a builtin's method: o.m(..) -/
/-- the value is of that builtin type -/
def tyV (K : PySem.W.Frag) (T : String) (x : V) (H : Hp) : Prop := match x with
  | .str _ => T = "str"
  | .int _ => T = "int"
  | .ref p => (T = "list" ∧ ∃ xs, SqL K H p xs) ∨ (T = "tuple" ∧ ∃ o, K.lookup p = some o ∧ o.cls = .type "tuple" ∧ o.dict = none) ∨
      (T = "dict" ∧ ((∃ kvs, H p = some (.dK kvs)) ∨ ∃ kvs, H p = some (.dT kvs))) ∨ (T = "set" ∧ ∃ S n, H p = some (.set S n))
  | _ => False
theorem tyV_is {pins : List (Addr × Obj)} {σ : St} {H : Hp} {s : Shared} {T : String} {x : V} {v : Value} (I : Inv X pins σ H s) (r : RelV x v) (ty : tyV X.K T x H) :
    s.TypeIs v T ∧ ∀ a, v = .ref a → ∃ ob, s.heap.get? a = some ob ∧ ob.dict = none := by
  cases x with
  | str z =>
    obtain ⟨t, rfl⟩ := r
    cases (show T = "str" from ty)
    exact ⟨typeIs_str s z t, fun _ e => nomatch e⟩
  | int i =>
    obtain ⟨t, rfl⟩ := r
    cases (show T = "int" from ty)
    exact ⟨typeIs_int s i t, fun _ e => nomatch e⟩
  | ref p =>
    cases r
    rcases ty with ⟨rfl, xs, hq⟩ | ⟨rfl, o, hk, hc, hd⟩ | ⟨rfl, hk⟩ | ⟨rfl, S, n, hk⟩
    · obtain ⟨its, _, pl, _⟩ := I.list hq
      refine ⟨pl.isList.typeIs, fun a e => ?_⟩
      cases e
      obtain ⟨o, n, e, c, hd, _⟩ := pl
      exact ⟨o, e, hd⟩
    · refine ⟨⟨o, I.kIn p o hk, hc⟩, fun a e => ?_⟩
      cases e
      exact ⟨o, I.kIn _ o hk, hd⟩
    · have z : ∃ o, s.heap.get? p = some o ∧ o.ExactDict := by
        rcases hk with ⟨kvs, hk⟩ | ⟨kvs, hk⟩
        · obtain ⟨_, _, _, _, o, _, _, e, ex, _⟩ := I.hok p _ hk
          exact ⟨o, e, ex⟩
        · obtain ⟨_, _, _, _, o, _, _, e, ex, _⟩ := I.hok p _ hk
          exact ⟨o, e, ex⟩
      obtain ⟨o, e, ex⟩ := z
      refine ⟨⟨o, e, ex.1⟩, fun a e2 => ?_⟩
      cases e2
      exact ⟨o, e, ex.2.1⟩
    · obtain ⟨o, _, _, _, e, ex, _⟩ := I.hok p _ hk
      refine ⟨⟨o, e, ex.1⟩, fun a e2 => ?_⟩
      cases e2
      exact ⟨o, e, ex.2.1⟩
  | _ => exact False.elim ty
def tBM0 (K : PySem.W.Frag) (T : String) (r : V → List V → Hp → VK → Prop) (to : TE) : TE := fun σ H Q => to σ H fun x H1 => tyV K T x H1 ∧ r x [] H1 Q
def tBM (K : PySem.W.Frag) (T : String) (r : V → List V → Hp → VK → Prop) (to : TE) (t : TA) : TE := fun σ H Q => to σ H fun x H1 => tyV K T x H1 ∧ t σ H1 fun xs H2 => r x xs H2 Q
variable {o e : Expr} {es : List Expr} {to : TE} {t : TA} {name : Str} {apos cpos : Pos} {T id : String} {r : V → List V → Hp → VK → Prop}
theorem pe_bm0 (pa : PlainAttrs T) (slot : Slot T name id) (hty : typeOf (.builtin id) = pure (.type "method_descriptor")) (hm : MtR X id r) (ho : PE X o to)
    (hbase : attributeBase o name X.env (eval o X.env) = eval o X.env := by rfl) (hline : (apos.endLine == cpos.line) = true := by rfl) : PE X (.Call (.Attribute o name apos) [] [] cpos) (tBM0 X.K T r to) := by
  intro pins s σ H Q I h
  refine wpAny_Call_method0_late hbase hline (thn (ho pins s σ H _ I h) fun v s1 ⟨x, H1, I1, r1, ty, q1⟩ => ?_)
  obtain ⟨h1, h2⟩ := tyV_is I1 r1 ty
  exact ⟨T, id, pa, slot, hty, h1, h2, Calls.callWith_builtin rfl (PySem.evalArgs_none (hm pins s1 σ H1 x [] v [] Q I1 r1 .nil q1))⟩
theorem pe_bm (pa : PlainAttrs T) (slot : Slot T name id) (hty : typeOf (.builtin id) = pure (.type "method_descriptor")) (hm : MtR X id r) (ho : PE X o to) (ha : PA X (e :: es) t)
    (hbase : attributeBase o name X.env (eval o X.env) = eval o X.env := by rfl)
    (hfew : ((backTo cpos (starEach (e :: es) X.env)).all (fun x => !x.1) && (backToKw cpos (keywordEach [] X.env)).all (fun x => x.1.isSome)
      && decide ((e :: es).length + ([] : List Keyword).length + (if ([] : List Keyword).isEmpty then 0 else 1) < 30)) = true := by rfl)
    (hline : (apos.endLine == cpos.line) = true := by rfl) (hs : starEach (e :: es) X.env = (false, eval e X.env) :: starEach es X.env := by rfl) (hplain : (backTo cpos (starEach es X.env)).any (·.1) = false := by rfl) :
    PE X (.Call (.Attribute o name apos) (e :: es) [] cpos) (tBM X.K T r to t) := by
  intro pins s σ H Q I h
  refine wpAny_Call_method_late hbase hfew hline rfl (thn (ho pins s σ H _ I h) fun v s1 ⟨x, H1, I1, r1, ty, q1⟩ => ?_)
  obtain ⟨h1, h2⟩ := tyV_is I1 r1 ty
  refine ⟨T, id, pa, slot, hty, h1, h2, ?_⟩
  have hA := ha cpos pins s1 σ H1 _ I1 q1
  rw [hs] at hA ⊢
  refine Calls.callWith_builtin (by show (false || (backTo cpos (starEach es X.env)).any (·.1)) = false; rw [hplain] <;> rfl) (Calls.evalArgs_plain ?_)
  exact thn hA fun us s2 ⟨vs, H2, I2, r2, q2⟩ => hm pins s2 σ H2 x vs v us Q I2 r1 r2 q2
/- xs.append(e), list.index on a module's tuple .. are MtR facts of 06m -/
end
end L2

namespace L2
open PySem PySem.Spec PyProof.Rows

def MtM (X : Cx) (id : String) (r : V → List V → Hp → VK → Prop) : Prop :=
  ∀ (pins : List (Addr × Obj)) (s : Shared) (σ : St) (H : Hp) (x : V) (xs : List V) (v : Value) (us : List Value) (Q : VK), Inv X pins σ H s → RelV x v → Vals xs us → r x xs H Q →
    wpAny (model X.prog X.w) X.A (call (.builtin id) (v :: us)) (EP X pins σ Q) X.xe s

/-! ### lists of values -/
theorem Vals.one : ∀ {x : V} {us : List Value}, Vals [x] us → ∃ u, us = [u] ∧ RelV x u
  | _, _, .cons r .nil => ⟨_, rfl, r⟩
theorem Vals.two : ∀ {x y : V} {us : List Value}, Vals [x, y] us → ∃ u v, us = [u, v] ∧ RelV x u ∧ RelV y v
  | _, _, _, .cons r (.cons q .nil) => ⟨_, _, rfl, r, q⟩
theorem Vals.zero : ∀ {us : List Value}, Vals [] us → us = []
  | _, .nil => rfl
theorem Vals.dropLast {xs : List V} {us : List Value} (h : Vals xs us) : Vals xs.dropLast us.dropLast := by
  induction h with
  | nil => exact .nil
  | cons r t ih =>
    cases t with
    | nil => exact .nil
    | cons q t' => exact .cons r ih
theorem Vals.eraseIdx : ∀ {xs : List V} {us : List Value} (i : Nat), Vals xs us → Vals (xs.eraseIdx i) (us.eraseIdx i)
  | _, _, _, .nil => .nil
  | _, _, 0, .cons _ t => t
  | _, _, i + 1, .cons r t => .cons r (Vals.eraseIdx i t)
theorem Vals.reverse {xs : List V} {us : List Value} (h : Vals xs us) : Vals xs.reverse us.reverse := by
  induction h with
  | nil => exact .nil
  | cons r t ih => rw [List.reverse_cons, List.reverse_cons]; exact Vals.append ih (.cons r .nil)
theorem Vals.rep {xs : List V} {us : List Value} (h : Vals xs us) : ∀ k : Nat, Vals (List.replicate k xs).flatten (List.replicate k us).flatten
  | 0 => .nil
  | k + 1 => by
    rw [List.replicate_succ, List.replicate_succ, List.flatten_cons, List.flatten_cons]
    exact Vals.append h (Vals.rep h k)
theorem erase_last {α : Type} (l : List α) : l.eraseIdx (l.length - 1) = l.dropLast := by
  induction l with
  | nil => rfl
  | cons a r ih =>
    cases r with
    | nil => rfl
    | cons b r =>
      have e : (a :: b :: r).length - 1 = ((b :: r).length - 1) + 1 := by
        have h1 : (a :: b :: r).length = r.length + 2 := rfl
        have h2 : (b :: r).length = r.length + 1 := rfl
        omega
      rw [e, List.eraseIdx_cons_succ, ih]
      all_goals rfl
theorem foldl_rep (its : List Value) : ∀ (k : Nat) (acc : List Value),
    List.foldl (fun x1 x2 => x1 ++ x2) acc.toArray (List.replicate k its.toArray) = (acc ++ (List.replicate k its).flatten).toArray
  | 0, acc => by simp
  | k + 1, acc => by
    have e : acc.toArray ++ its.toArray = (acc ++ its).toArray := by simp
    have e2 : (acc ++ its) ++ (List.replicate k its).flatten = acc ++ (List.replicate (k + 1) its).flatten := by
      rw [List.replicate_succ, List.flatten_cons, List.append_assoc]
    rw [← e2, ← foldl_rep its k (acc ++ its), ← e, List.replicate_succ, List.foldl_cons]

section
variable {X : Cx} {pins : List (Addr × Obj)} {σ : St} {H : Hp} {s : Shared} {l b : Addr} {xs ys zs : List V}

/-! ### the two steps: a tracked list is rewritten, a new list is laid -/
theorem Inv.lset {its its' : List Value} {n : Nat} {f : Array Value → Array Value} {t' : Nat} (I : Inv X pins σ H s) (hH : H l = some (.lst xs))
    (e : s.heap.get? l = some { cls := .type "list", data := .seq its.toArray n }) (hf : f its.toArray = its'.toArray) (hv : Vals ys its') (hz : ys.length ≤ sizeLine) :
    Inv X pins σ (upd H l (.lst ys)) { s with heap := s.heap.update l (Obj.mapSeq f), toks := t' } := by
  have q := PySem.IsL.update e f
  rw [hf] at q
  refine I.write (x := l) (e := l) (by rw [hH]; exact trivial) (.inl rfl) (fun b' u hb hu => (Heap.get?_update_other s.heap (Obj.mapSeq f) (Ne.symm hb)).trans hu) ⟨_, q⟩ ?_
  exact ⟨hz, its', _, hv, q⟩
theorem Inv.lnew {its : List Value} {t' : Nat} (I : Inv X pins σ H s) (hv : Vals ys its) (hz : ys.length ≤ sizeLine) :
    Inv X pins σ (upd H s.heap.objs.size (.lst ys)) { s with heap := s.heap.push { cls := .type "list", data := .seq its.toArray }, toks := t' } :=
  I.laid (fun _ _ q => Heap.get?_push_of_some _ q) (Nat.le_refl _) ⟨hz, its, 0, hv, Heap.get?_push_size _ rfl⟩
theorem Inv.fresh (I : Inv X pins σ H s) : H s.heap.objs.size = none := I.hok.fresh (Nat.le_refl _)
theorem Inv.lstM (I : Inv X pins σ H s) (hH : H l = some (.lst xs)) : xs.length ≤ sizeLine ∧ ∃ (its : List Value) (n : Nat), Vals xs its ∧ xs.length = its.length ∧ s.heap.get? l = some { cls := .type "list", data := .seq its.toArray n } := by
  obtain ⟨z, its, n, r, e⟩ := I.hok l _ hH
  exact ⟨z, its, n, r, r.length, e⟩

theorem notLongL {n : Nat} (h : n ≤ sizeLine) : Builtin.List.listTooLong n = false := by
  unfold Builtin.List.listTooLong
  exact decide_eq_false (by omega)
end

section
variable {X : Cx}

/-! ### methods -/
def rAppend : V → List V → Hp → VK → Prop := fun x vs H Q => ∃ l xs y, x = .ref l ∧ vs = [y] ∧ H l = some (.lst xs) ∧ xs.length < sizeLine ∧ Q .non (upd H l (.lst (xs ++ [y])))
theorem mt_append : MtM X "list.append" rAppend := by
  intro pins s σ H x vs v us Q I rx rv h
  obtain ⟨l, xs, y, rfl, rfl, hH, hz, q⟩ := h
  cases rx
  obtain ⟨u, rfl, ru⟩ := rv.one
  obtain ⟨z, its, n, r, hl, e⟩ := I.lstM hH
  refine call_meets F.slot_list_append ⟨_, e, rfl⟩ F.entry_list_append (F.args_list_append_2 _ _) (PySem.list_append l its.toArray n u (by rw [List.size_toArray]; omega)) ⟨e, ?_⟩
  refine ⟨.non, _, I.lset (its' := its ++ [u]) hH e (by simp) (r.append (.cons ru .nil)) ?_, rfl, q⟩
  rw [List.length_append, List.length_singleton]
  omega

def rPop : V → List V → Hp → VK → Prop := fun x vs H Q => ∃ l xs y, x = .ref l ∧ vs = [] ∧ H l = some (.lst xs) ∧ xs[xs.length - 1]? = some y ∧ Q y (upd H l (.lst xs.dropLast))
theorem mt_pop : MtM X "list.pop" rPop := by
  intro pins s σ H x vs v us Q I rx rv h
  obtain ⟨l, xs, y, rfl, rfl, hH, hy, q⟩ := h
  cases rx
  have hus := rv.zero
  subst hus
  obtain ⟨z, its, n, r, hl, e⟩ := I.lstM hH
  obtain ⟨u, hu, ru⟩ := r.get hy
  have hy' : its.toArray[its.toArray.size - 1]? = some u := by
    show its.toArray[its.length - 1]? = some u
    rw [← Array.getElem?_toList, ← hl]
    exact hu
  refine call_meets F.slot_list_pop ⟨_, e, rfl⟩ F.entry_list_pop (F.args_list_pop_1 _) (MeetsSeq.list_pop_last l its.toArray n u hy' (by rw [List.size_toArray]; omega)) ⟨e, ?_⟩
  refine ⟨y, _, I.lset (its' := its.dropLast) hH e ?_ r.dropLast ?_, ru, q⟩
  · show its.toArray.eraseIdxIfInBounds (its.toArray.size - 1) = its.dropLast.toArray
    rw [List.size_toArray, List.eraseIdxIfInBounds_toArray, erase_last]
  · rw [List.length_dropLast]
    omega

def rReverse : V → List V → Hp → VK → Prop := fun x vs H Q => ∃ l xs, x = .ref l ∧ vs = [] ∧ H l = some (.lst xs) ∧ Q .non (upd H l (.lst xs.reverse))
theorem mt_reverse : MtM X "list.reverse" rReverse := by
  intro pins s σ H x vs v us Q I rx rv h
  obtain ⟨l, xs, rfl, rfl, hH, q⟩ := h
  cases rx
  have hus := rv.zero
  subst hus
  obtain ⟨z, its, n, r, hl, e⟩ := I.lstM hH
  refine call_meets F.slot_list_reverse ⟨_, e, rfl⟩ F.entry_list_reverse (F.args_list_reverse_1 _) (AutoSeq1.list_reverse_list_0 l its.toArray n (by rw [List.size_toArray]; omega)) ⟨e, ?_⟩
  refine ⟨.non, _, I.lset (its' := its.reverse) hH e (by simp) r.reverse ?_, rfl, q⟩
  rw [List.length_reverse]
  omega

/-! ### list + list, list += list, list * int -/
def rCat : R2 := fun x y H Q => ∃ l b xs zs, x = .ref l ∧ y = .ref b ∧ H l = some (.lst xs) ∧ H b = some (.lst zs) ∧ xs.length + zs.length ≤ sizeLine ∧ ∀ p, H p = none → Q (.ref p) (upd H p (.lst (xs ++ zs)))
theorem op_cat : OpR X (binaryOp .Add) rCat := by
  intro pins s σ H x y v u Q I rx ry h
  obtain ⟨l, b, xs, zs, rfl, rfl, hH, hB, hz, q⟩ := h
  cases rx
  cases ry
  obtain ⟨z, its, n, r, hl, e⟩ := I.lstM hH
  obtain ⟨z2, its2, n2, r2, hl2, e2⟩ := I.lstM hB
  refine PySem.P.add_list e e2 ?_ (by rw [List.size_toArray, List.size_toArray]; omega)
  have ea : its.toArray ++ its2.toArray = (its ++ its2).toArray := by simp
  rw [ea]
  exact ⟨.ref _, _, I.lnew (t' := s.toks) (r.append r2) (by rw [List.length_append]; omega), rfl, q _ I.fresh⟩
/-- a list times an int (a negative one is nothing) -/
def rRep : R2 := fun x y H Q => ∃ l k xs, x = .ref l ∧ y = .int k ∧ H l = some (.lst xs) ∧ -(2 ^ 63) ≤ k ∧ k < 2 ^ 63 ∧ xs.length * k.toNat ≤ sizeLine ∧
  ∀ p, H p = none → Q (.ref p) (upd H p (.lst (List.replicate k.toNat xs).flatten))
theorem len_rep {α : Type} (xs : List α) (k : Nat) : (List.replicate k xs).flatten.length = k * xs.length := by
  induction k with
  | zero => simp
  | succ k ih => rw [List.replicate_succ, List.flatten_cons, List.length_append, ih, Nat.succ_mul, Nat.add_comm]
theorem op_rep : OpR X (binaryOp .Mult) rRep := by
  intro pins s σ H x y v u Q I rx ry h
  obtain ⟨l, k, xs, rfl, rfl, hH, h1, h2, hz, q⟩ := h
  cases rx
  obtain ⟨t, rfl⟩ := ry
  obtain ⟨z, its, n, r, hl, e⟩ := I.lstM hH
  have hlen : its.toArray.size * k.toNat ≤ sizeLine := by rw [List.size_toArray, ← hl]; exact hz
  have hcap : ¬ its.toArray.size * k.toNat > (2 ^ 63 - 1) / 8 := by
    have : (sizeLine : Nat) ≤ (2 ^ 63 - 1) / 8 := by decide
    omega
  have hfit : ¬ (!Builtin.List.listFitsIndex k) = true := by
    rw [fitsIndex_both h1 h2]
    exact Bool.false_ne_true
  have hlong : ¬ Builtin.List.listTooLong (its.toArray.size * k.toNat) = true := by
    rw [notLongL hlen]
    exact Bool.false_ne_true
  have hnew : List.foldl (fun x1 x2 => x1 ++ x2) #[] (List.replicate (if its.toArray.isEmpty = true then 0 else k.toNat) its.toArray) = (List.replicate k.toNat its).flatten.toArray := by
    have f0 : ∀ m : Nat, List.foldl (fun x1 x2 => x1 ++ x2) #[] (List.replicate m its.toArray) = (List.replicate m its).flatten.toArray := fun m => by
      have := foldl_rep its m []
      rw [List.nil_append] at this
      exact this
    rw [f0]
    cases its with
    | nil => simp
    | cons a r' => rw [if_neg (by simp)]
  refine wpAny_binaryOp_repeat_ref (T := "list") (U := "int") (by decide) ⟨_, e, rfl⟩ (fun s' => typeIs_int s' k t) noFill_list_mul F.fills_int_mul F.slot_int_rmul repeat_list F.slot_int_index.lookup
    (call_meets F.slot_int_rmul (typeIs_int s k t) F.entry_int_rmul (F.args_int_rmul_2 _ _) (int___rmul___int_list k t l its.toArray n)
      ⟨e, rfl, ⟨_, e, rfl⟩, call_meets F.slot_list_mul ⟨_, e, rfl⟩ F.entry_list_mul (F.args_list_mul_2 _ _) (AutoListH.list___mul___list_int_3 l its.toArray n k t hfit hcap hlong) ⟨e, ?_⟩⟩)
  rw [hnew]
  exact ⟨.ref _, _, I.lnew (t' := s.toks) (r.rep k.toNat) (by rw [len_rep, Nat.mul_comm]; exact hz), rfl, q _ I.fresh⟩

/-! ### del xs[i] -/
end

/-! ### xs[a:b] = ys -/
section
variable {prog : Program} {w : World} {A : Around} {E : Value → Shared → Prop} {s : Shared}
end

section
variable {X : Cx}
end
end L2

namespace L2
open PySem PySem.Spec PyProof.Rows

theorem Vals.strs : ∀ {xs : List Str} {us : List Value}, Vals (xs.map V.str) us → StrsAre us xs
  | [], us, h => by
    rw [List.map_nil] at h
    cases h
    exact StrsAre.nil
  | x :: xs, us, h => by
    rw [List.map_cons] at h
    cases h with
    | cons r t =>
      obtain ⟨k, rfl⟩ := r
      exact StrsAre.cons x k (Vals.strs t)
/-! ### the library's walks over a list of ints, kept objects alone -/
section
variable {prog : Program} {w : World} {A : Around} {E : Value → Shared → Prop} {s : Shared} {l : Addr} {its : List Value} {ns : List Int} {Q : Value → Shared → Prop}
end

/-! ### the calls, by values (CallR of 03t; MtR of 06l) -/
section
variable {X : Cx}
/-! sorted, sort (fewer than 64 items: the library's own bound) -/
end

/-! ### list.index, flat items -/
section
variable {X : Cx}
end

/-! ### type(x) of an own instance; is, is not of a module's class -/
section
variable {X : Cx}
end

/-! ### any(xs), all(xs) of a list of bools -/
section
variable {X : Cx}
end

/-! ### == and != of data at any depth: none, bools, ints, texts, lists, tuples -/
mutual
inductive Dp (K : PySem.W.Frag) (H : Hp) : V → PyData → Prop
  | non : Dp K H .non .none
  | bl (b : Bool) : Dp K H (.bl b) (.bool b)
  | int (i : Int) : Dp K H (.int i) (.int i)
  | str (x : Str) : Dp K H (.str x) (.str x)
  | lst {a : Addr} {xs : List V} {ds : List PyData} : SqL K H a xs → DpAll K H xs ds → Dp K H (.ref a) (.list ds)
  | tup {a : Addr} {xs : List V} {ds : List PyData} : SqT K H a xs → DpAll K H xs ds → Dp K H (.ref a) (.tuple ds)
inductive DpAll (K : PySem.W.Frag) (H : Hp) : List V → List PyData → Prop
  | nil : DpAll K H [] []
  | cons {v : V} {vs : List V} {d : PyData} {ds : List PyData} : Dp K H v d → DpAll K H vs ds → DpAll K H (v :: vs) (d :: ds)
end
section
variable {X : Cx} {pins : List (Addr × Obj)} {σ : St} {H : Hp} {s : Shared}
mutual
theorem Dp.reads (I : Inv X pins σ H s) : ∀ (d : PyData) (v : V) (u : Value), Dp X.K H v d → RelV v u → ∃ as, Reads s.heap u d as
  | .none, _, _, h, r => by
    cases h
    cases r
    exact ⟨_, Reads.none⟩
  | .bool b, _, _, h, r => by
    cases h
    cases r
    exact ⟨_, Reads.bool b⟩
  | .int i, _, _, h, r => by
    cases h
    obtain ⟨t, rfl⟩ := r
    exact ⟨_, Reads.int i t⟩
  | .str x, _, _, h, r => by
    cases h
    obtain ⟨t, rfl⟩ := r
    exact ⟨_, Reads.str x t⟩
  | .list ds, _, _, h, r => by
    cases h with
    | lst hs ha =>
      cases r
      obtain ⟨its, rv, ⟨o, n, ho, hc, _, hd⟩, _⟩ := I.list hs
      obtain ⟨as, hr⟩ := Dp.readsAll I ds _ its ha rv
      exact ⟨_, Reads.list ho hc hd hr⟩
  | .tuple ds, _, _, h, r => by
    cases h with
    | tup hs ha =>
      cases r
      obtain ⟨its, rv, ⟨o, ho, hc, n, hd⟩, _⟩ := I.tuple hs
      obtain ⟨as, hr⟩ := Dp.readsAll I ds _ its ha rv
      exact ⟨_, Reads.tuple ho hc hd hr⟩
  | .dict _, _, _, h, _ => by cases h
theorem Dp.readsAll (I : Inv X pins σ H s) : ∀ (ds : List PyData) (vs : List V) (us : List Value), DpAll X.K H vs ds → Vals vs us → ∃ as, ReadsAll s.heap us ds as
  | [], _, _, h, r => by
    cases h
    cases r
    exact ⟨_, ReadsAll.nil⟩
  | d :: ds, _, _, h, r => by
    cases h with
    | cons h1 h2 =>
      cases r with
      | cons r1 r2 =>
        obtain ⟨as, q1⟩ := Dp.reads I d _ _ h1 r1
        obtain ⟨bs, q2⟩ := Dp.readsAll I ds _ _ h2 r2
        exact ⟨_, ReadsAll.cons q1 q2⟩
end
end
section
variable {X : Cx}
def rNeD (K : PySem.W.Frag) : R2 := fun x y H Q => ∃ d e, Dp K H x d ∧ Dp K H y e ∧ SeqAt.shaped d = true ∧ SeqAt.shaped e = true ∧ Q (.bl (!PyData.eqv d e)) H
theorem op_neD (hu : X.A.units + 64 < cLine) : OpR X (compareOp .NotEq) (rNeD X.K) := by
  intro pins s σ H x y v u Q I rx ry h
  obtain ⟨d, e, hd, he, sd, se, q⟩ := h
  obtain ⟨as, r1⟩ := Dp.reads I d x v hd rx
  obtain ⟨bs, r2⟩ := Dp.reads I e y u he ry
  exact SeqAt.compareNe_shaped r1 r2 sd se hu ⟨.bl _, H, I, rfl, q⟩
end
end L2

namespace L2
open PySem PySem.Spec PyProof.Rows
abbrev CellAt (h : Heap) (c : Addr) (v : Option Value) : Prop := h.IsCell c v
def relS (scope sc : Scope) : Scope :=
  { scope with names := scope.names.map fun (n, k) => if (k == .free && sc.kind == .function && sc.names.lookup n == some .cell) then (n, .cell) else (n, k) }

def cloFrom (cells : List (Str × Addr)) : List (Str × NameKind) → List (Str × Addr) → List (Str × Addr)
  | [], acc => acc
  | (n, k) :: r, acc => if k == .free then cloFrom cells r ((n, (cells.lookup n).getD 0) :: acc) else cloFrom cells r acc

theorem closure_loop (env : Env) (f : Str × NameKind → List (Str × Addr) → Sem (ForInStep (List (Str × Addr))))
    (hf : ∀ n k c, f (n, k) c = if k == .free then (do let a ← cellOf env n; pure (.yield ((n, a) :: c))) else pure (.yield c)) :
    ∀ (names : List (Str × NameKind)) (acc : List (Str × Addr)), (∀ y ∈ names, y.2 = .free → ∃ c, env.cells.lookup y.1 = some c) → forIn names acc f = pure (cloFrom env.cells names acc)
  | [], acc, _ => by rw [List.forIn_nil]; rfl
  | (n, k) :: r, acc, h => by
    rw [List.forIn_cons, hf]
    have ih := fun acc => closure_loop env f hf r acc fun y hy => h y (List.mem_cons_of_mem _ hy)
    unfold cloFrom
    by_cases hk : (k == NameKind.free) = true
    · rw [if_pos hk, if_pos hk]
      obtain ⟨c, hc⟩ := h (n, k) List.mem_cons_self (by simpa using hk)
      have e : cellOf env n = pure c := by unfold cellOf; rw [hc]
      rw [e]
      have e2 : (env.cells.lookup n).getD 0 = c := by rw [hc]; rfl
      rw [e2]
      exact ih _
    · rw [if_neg hk, if_neg hk]
      exact ih _
theorem closure_ok {scope : Scope} {env : Env} (h : ∀ y ∈ scope.names, y.2 = .free → ∃ c, env.cells.lookup y.1 = some c) : closureFor scope env = pure (cloFrom env.cells scope.names []) := by
  simp only [closureFor]
  rw [closure_loop env _ (fun n k c => rfl) scope.names [] h]
  rfl

theorem mem_lookup {α : Type} : ∀ {l : List (Str × α)} {n : Str} {c : α}, (n, c) ∈ l → ∃ c', l.lookup n = some c'
  | (k, v) :: r, n, c, h => by
    rw [List.lookup_cons]
    cases hb : n == k with
    | true => exact ⟨_, rfl⟩
    | false =>
      rcases List.mem_cons.mp h with e | h
      · cases e; simp at hb
      · exact mem_lookup h

theorem cloFrom_mem {cells : List (Str × Addr)} : ∀ {names : List (Str × NameKind)} {acc : List (Str × Addr)} {n : Str} {c : Addr}, (n, c) ∈ cloFrom cells names acc → (n, c) ∈ acc ∨ ((n, .free) ∈ names ∧ c = (cells.lookup n).getD 0)
  | [], _, _, _, h => .inl h
  | (m, k) :: r, acc, n, c, h => by
    unfold cloFrom at h
    split at h
    · rename_i hk
      have hk : k = .free := by simpa using hk
      rcases cloFrom_mem h with h | ⟨h1, h2⟩
      · rcases List.mem_cons.mp h with e | h
        · cases e; exact .inr ⟨hk ▸ List.mem_cons_self, rfl⟩
        · exact .inl h
      · exact .inr ⟨List.mem_cons_of_mem _ h1, h2⟩
    · rcases cloFrom_mem h with h | ⟨h1, h2⟩
      · exact .inl h
      · exact .inr ⟨List.mem_cons_of_mem _ h1, h2⟩
theorem cloFrom_acc {cells : List (Str × Addr)} : ∀ {names : List (Str × NameKind)} {acc : List (Str × Addr)} {p : Str × Addr}, p ∈ acc → p ∈ cloFrom cells names acc
  | [], _, _, h => h
  | (m, k) :: r, acc, p, h => by
    unfold cloFrom
    split
    · exact cloFrom_acc (List.mem_cons_of_mem _ h)
    · exact cloFrom_acc h
theorem cloFrom_has {cells : List (Str × Addr)} : ∀ {names : List (Str × NameKind)} {acc : List (Str × Addr)} {n : Str}, (n, .free) ∈ names → (n, (cells.lookup n).getD 0) ∈ cloFrom cells names acc
  | (m, k) :: r, acc, n, h => by
    unfold cloFrom
    rcases List.mem_cons.mp h with e | h
    · cases e
      exact cloFrom_acc List.mem_cons_self
    · split
      · exact cloFrom_has h
      · exact cloFrom_has h

theorem cells_mem : ∀ {names : List (Str × NameKind)} {h : Heap} {acc : List (Str × Addr)} {x : Str} {c : Addr}, (x, c) ∈ cellsFrom h.objs.size names acc →
    (x, c) ∈ acc ∨ ((x, .cell) ∈ names ∧ h.objs.size ≤ c ∧ CellAt (pushCells h names) c none)
  | [], _, _, _, _, h => .inl h
  | (n, k) :: r, h, acc, x, c, hm => by
    unfold cellsFrom at hm
    unfold pushCells
    split at hm
    · rename_i hk
      rw [if_pos hk]
      have hk : k = .cell := by simpa using hk
      rw [← Heap.size_push h { cls := .type "cell", data := .cell none }] at hm
      rcases cells_mem hm with hm | ⟨h1, h2, h3⟩
      · rcases List.mem_cons.mp hm with e | hm
        · cases e
          exact .inr ⟨hk ▸ List.mem_cons_self, Nat.le_refl _, _, pushCells_keeps r _ _ _ (Heap.get?_push_size _ rfl), rfl⟩
        · exact .inl hm
      · rw [Heap.size_push] at h2
        exact .inr ⟨List.mem_cons_of_mem _ h1, Nat.le_of_succ_le h2, h3⟩
    · rename_i hk
      rw [if_neg hk]
      rcases cells_mem hm with hm | ⟨h1, h2, h3⟩
      · exact .inl hm
      · exact .inr ⟨List.mem_cons_of_mem _ h1, h2, h3⟩
theorem cells_acc : ∀ {names : List (Str × NameKind)} {n : Nat} {acc : List (Str × Addr)} {p : Str × Addr}, p ∈ acc → p ∈ cellsFrom n names acc
  | [], _, _, _, h => h
  | (m, k) :: r, n, acc, p, h => by
    unfold cellsFrom
    split
    · exact cells_acc (List.mem_cons_of_mem _ h)
    · exact cells_acc h
theorem cells_has : ∀ {names : List (Str × NameKind)} {n : Nat} {acc : List (Str × Addr)} {x : Str}, (x, .cell) ∈ names → ∃ c, (x, c) ∈ cellsFrom n names acc
  | (m, k) :: r, n, acc, x, h => by
    unfold cellsFrom
    rcases List.mem_cons.mp h with e | h
    · cases e
      exact ⟨n, cells_acc List.mem_cons_self⟩
    · split
      · exact cells_has h
      · exact cells_has h
theorem cells_inj : ∀ {names : List (Str × NameKind)} {h : Heap} {acc : List (Str × Addr)} {x y : Str} {c : Addr}, (∀ p ∈ acc, p.2 < h.objs.size) → (∀ x y c, (x, c) ∈ acc → (y, c) ∈ acc → x = y) →
    (x, c) ∈ cellsFrom h.objs.size names acc → (y, c) ∈ cellsFrom h.objs.size names acc → x = y
  | [], _, _, _, _, _, _, hi, h1, h2 => hi _ _ _ h1 h2
  | (n, k) :: r, h, acc, x, y, c, hl, hi, h1, h2 => by
    unfold cellsFrom at h1 h2
    split at h1
    · rename_i hk
      rw [if_pos hk] at h2
      rw [← Heap.size_push h { cls := .type "cell", data := .cell none }] at h1 h2
      refine cells_inj (h := h.push _) (fun p hp => ?_) (fun x y c a b => ?_) h1 h2
      · rw [Heap.size_push]
        rcases List.mem_cons.mp hp with rfl | hp
        · exact Nat.lt_succ_self _
        · exact Nat.lt_succ_of_lt (hl p hp)
      · rcases List.mem_cons.mp a with e | a <;> rcases List.mem_cons.mp b with e' | b
        · cases e; cases e'; rfl
        · cases e; exact absurd (hl _ b) (Nat.lt_irrefl _)
        · cases e'; exact absurd (hl _ a) (Nat.lt_irrefl _)
        · exact hi _ _ _ a b
    · rename_i hk
      rw [if_neg hk] at h2
      exact cells_inj hl hi h1 h2

theorem newEnv_comp {M : Model} {A : Around} {E : Value → Shared → Prop} {s : Shared} {scope : Scope} {globals : Addr} {closure : List (Str × Addr)} {qual : Str} {func : Option Addr} {code : Value} {around : Env} {builtins : Addr} {Q : Env → Shared → Prop}
    (h : Q (newEnv scope s.heap.objs.size globals (cellsFrom (s.heap.objs.size + 1) scope.names closure) qual func code (some around) builtins)
      { s with heap := pushCells (s.heap.push { cls := .type "dict", data := .dict #[] }) scope.names }) :
    wpAny M A (newFunctionEnv scope globals closure [] qual func code (some around) builtins) Q E s := by
  simp only [newFunctionEnv, Option.isSome_some, if_true]
  refine wpAny_bind (wpAny_alloc ?_)
  refine wpAny_bind (wpAny_layCells _ (fun n k c => rfl) scope.names closure _ _ ?_)
  rw [show ({ s with heap := s.heap.push { cls := .type "dict", data := .dict #[] } } : Shared).heap.objs.size = s.heap.objs.size + 1 from Heap.size_push ..]
  rw [List.forIn_nil]
  exact wpAny_bind (wpAny_pure (wpAny_pure h))

/-- every name of the written scope, in the scope that runs -/
theorem lookup_relS {sc : Scope} : ∀ {names : List (Str × NameKind)} {x : Str} {k : NameKind},
    (names.map fun (n, k) => if (k == NameKind.free && sc.kind == .function && sc.names.lookup n == some .cell) then (n, NameKind.cell) else (n, k)).lookup x = some k →
    ∃ k', names.lookup x = some k' ∧ (k = k' ∨ (k' = .free ∧ k = .cell))
  | [], _, _, h => by simp at h
  | (n, k₀) :: r, x, k, h => by
    have ih := @lookup_relS sc r x k
    have h' : List.lookup x ((if (k₀ == NameKind.free && sc.kind == .function && sc.names.lookup n == some .cell) = true then (n, NameKind.cell) else (n, k₀)) :: (r.map _)) = some k := h
    cases hx : x == n with
    | true =>
      simp only [List.lookup_cons, hx]
      by_cases hc : (k₀ == NameKind.free && sc.kind == .function && sc.names.lookup n == some .cell) = true
      · rw [if_pos hc] at h'
        simp only [List.lookup_cons, hx] at h'
        cases h'
        simp only [Bool.and_eq_true, beq_iff_eq] at hc
        exact ⟨k₀, rfl, .inr ⟨hc.1.1, rfl⟩⟩
      · rw [if_neg hc] at h'
        simp only [List.lookup_cons, hx] at h'
        cases h'
        exact ⟨_, rfl, .inl rfl⟩
    | false =>
      simp only [List.lookup_cons, hx]
      by_cases hc : (k₀ == NameKind.free && sc.kind == .function && sc.names.lookup n == some .cell) = true
      · rw [if_pos hc] at h'
        simp only [List.lookup_cons, hx] at h'
        exact ih h'
      · rw [if_neg hc] at h'
        simp only [List.lookup_cons, hx] at h'
        exact ih h'
/-- the names of a comprehension's block: its own (with their places in N), or captured -/
structure BlkOk (N : List Str) (sc scope : Scope) (own : List (Str × Nat)) : Prop where
  kind : scope.kind = .function
  uniq : ∀ y ∈ scope.names, scope.names.lookup y.1 = some y.2
  ix : ∀ p ∈ own, N[p.2]? = some p.1
  free : ∀ y ∈ scope.names, y.2 = .free → sc.names.lookup y.1 = some .cell ∨ sc.names.lookup y.1 = some .free
  own : ∀ y ∈ scope.names, y.2 = .local ∨ y.2 = .cell → y.1 ∈ own.map (·.1) ∨ y.1 ∉ N
/-- the slots of the block's own names forgotten -/
def wipe (σ : St) : List Nat → St
  | [] => σ
  | v :: vs => (wipe σ vs).set v none
theorem wipe_length (σ : St) : ∀ vs : List Nat, (wipe σ vs).length = σ.length
  | [] => rfl
  | v :: vs => by unfold wipe; rw [List.length_set, wipe_length σ vs]
theorem wipe_some {σ : St} {i : Nat} {x : V} : ∀ {vs : List Nat}, (wipe σ vs)[i]? = some (some x) → σ[i]? = some (some x) ∧ i ∉ vs
  | [], h => ⟨h, by simp⟩
  | v :: vs, h => by
    unfold wipe at h
    by_cases hi : v = i
    · subst hi
      by_cases hv : v < (wipe σ vs).length
      · rw [List.getElem?_set_self hv] at h; cases h
      · rw [List.getElem?_eq_none (by simpa using hv)] at h; cases h
    · rw [List.getElem?_set_ne hi] at h
      obtain ⟨h1, h2⟩ := wipe_some h
      exact ⟨h1, by simp only [List.mem_cons, not_or]; exact ⟨fun e => hi e.symm, h2⟩⟩

/-- the context of a block that starts at s, its iterator's objects at fp -/
abbrev Cx.blk (X : Cx) (s : Shared) (H : Hp) (scope : Scope) (cenv : Env) (fp : List Addr) : Cx := { X with s_0 := s, H_0 := H, env := cenv, outer := X.stack, ex := fp, fn := fun x => scope.names.lookup x == some .cell, pn := [], xe := fun _ _ => False }
section
variable {X : Cx} {pins : List (Addr × Obj)} {σ : St} {H : Hp} {s : Shared}
theorem block_start {scope : Scope} {own : List (Str × Nat)} {fp : List Addr} (I : Inv X pins σ H s) (ok : BlkOk X.N X.env.scope scope own) (hN : X.N.Nodup) (hfp : ∀ b ∈ fp, FpOk X pins H b ∧ b < s.heap.objs.size) :
    Inv (X.blk s H scope (compEnvC scope (cellsFrom (s.heap.objs.size + 1) scope.names (cloFrom X.env.cells scope.names [])) s.heap.objs.size X.env) fp) [] (wipe σ (own.map (·.2))) H { s with heap := pushCells (s.heap.push { cls := .type "dict", data := .dict #[] }) scope.names } := by
  have hfree : ∀ y ∈ scope.names, y.2 = .free → ∃ c, X.env.cells.lookup y.1 = some c := fun y hy e => by
    rcases ok.free y hy e with k | k
    · exact I.ok.has _ (.inl k)
    · exact I.ok.has _ (.inr k)
  generalize hcenv : compEnvC scope (cellsFrom (s.heap.objs.size + 1) scope.names (cloFrom X.env.cells scope.names [])) s.heap.objs.size X.env = cenv
  have kp : ∀ b o, s.heap.get? b = some o → (pushCells (s.heap.push { cls := .type "dict", data := .dict #[] }) scope.names).get? b = some o := fun b o e => pushCells_keeps _ _ _ _ (Heap.get?_push_of_some _ e)
  have hL : cenv.locals = s.heap.objs.size := by rw [← hcenv]; rfl
  have hcl : cenv.cells = cellsFrom (s.heap.objs.size + 1) scope.names (cloFrom X.env.cells scope.names []) := by rw [← hcenv]; rfl
  have hsc : cenv.scope = relS scope X.env.scope := by rw [← hcenv]; rfl
  rw [← Heap.size_push s.heap { cls := .type "dict", data := .dict #[] }] at hcl
  have cm : ∀ {y c}, (y, c) ∈ cloFrom X.env.cells scope.names [] → X.env.cells.lookup y = some c ∧ c < s.heap.objs.size := fun {y c} hm => by
    rcases cloFrom_mem hm with hm | ⟨h1, rfl⟩
    · cases hm
    · obtain ⟨c, hc⟩ := hfree _ h1 rfl
      rw [hc]
      obtain ⟨w, z⟩ := I.cell _ _ hc
      exact ⟨rfl, z.lt⟩
  have mem : ∀ {y c}, cenv.cells.lookup y = some c → (X.env.cells.lookup y = some c ∧ c < s.heap.objs.size) ∨ (s.heap.objs.size + 1 ≤ c ∧ CellAt (pushCells (s.heap.push { cls := .type "dict", data := .dict #[] }) scope.names) c none) := fun {y c} e => by
    rw [hcl] at e
    rcases cells_mem (PySem.mem_of_lookup e) with hm | ⟨_, h2, h3⟩
    · exact .inl (cm hm)
    · rw [Heap.size_push] at h2; exact .inr ⟨h2, h3⟩
  have look : ∀ {y}, scope.names.lookup y = some .free → ∃ c, cenv.cells.lookup y = some c ∧ X.env.cells.lookup y = some c := fun {y} hl => by
    have hy : (y, NameKind.free) ∈ scope.names := PySem.mem_of_lookup hl
    obtain ⟨c', e'⟩ := mem_lookup (cells_acc (names := scope.names) (n := (s.heap.push { cls := .type "dict", data := .dict #[] }).objs.size) (cloFrom_has (cells := X.env.cells) (acc := []) hy))
    rw [← hcl] at e'
    refine ⟨c', e', ?_⟩
    rw [hcl] at e'
    rcases cells_mem (PySem.mem_of_lookup e') with hm | ⟨h1, _, _⟩
    · exact (cm hm).1
    · have := ok.uniq _ h1
      rw [hl] at this; cases this
  have okB : (X.blk s H scope cenv fp).Ok := by
    refine ⟨I.ok.mod, by show cenv.scope.kind = _; rw [hsc]; exact ok.kind, by show cenv.globals = _; rw [← hcenv]; exact I.ok.glob, by show cenv.builtins = _; rw [← hcenv]; exact I.ok.blt, by show s.heap.objs.size ≤ cenv.locals; rw [hL]; exact Nat.le_refl _,
      fun y z c e1 e2 => ?_, fun y hy => ?_, fun y c z e => ?_, I.ok.hd, I.ok.frames, .inl rfl, fun b hb => ⟨?_, fun y c e z => ?_⟩, I.bs, Nat.le_trans I.ok.bsz I.sz, fun b o e hb => ?_, fun b hb z => ?_, I.stack, I.stkFree⟩
    · have e1 : cenv.cells.lookup y = some c := e1
      have e2 : cenv.cells.lookup z = some c := e2
      rw [hcl] at e1 e2
      refine cells_inj (fun p hp => ?_) (fun y z c a b => I.ok.inj y z c (cm a).1 (cm b).1) (PySem.mem_of_lookup e1) (PySem.mem_of_lookup e2)
      rw [Heap.size_push]
      exact Nat.lt_succ_of_lt (cm (y := p.1) (c := p.2) hp).2
    · show ∃ c, cenv.cells.lookup y = some c
      have key : ∀ k, cenv.kindOf y = some k → (k = .cell ∨ k = .free) → ∃ c, cenv.cells.lookup y = some c := fun k hk hk' => by
        unfold Env.kindOf at hk
        rw [hsc] at hk
        obtain ⟨k', e, r⟩ := lookup_relS hk
        have : k' = .cell ∨ k' = .free := by
          rcases r with rfl | ⟨rfl, _⟩
          · exact hk'
          · exact .inr rfl
        rcases this with rfl | rfl
        · obtain ⟨c, hm⟩ := cells_has (n := (s.heap.push { cls := .type "dict", data := .dict #[] }).objs.size) (acc := cloFrom X.env.cells scope.names []) (PySem.mem_of_lookup e)
          obtain ⟨c', e'⟩ := mem_lookup hm
          exact ⟨c', by rw [hcl]; exact e'⟩
        · obtain ⟨c, h1, _⟩ := look e
          exact ⟨c, h1⟩
      rcases hy with hy | hy
      · exact key _ hy (.inl rfl)
      · exact key _ hy (.inr rfl)
    · have z : (scope.names.lookup y == some NameKind.cell) = true := z
      have z : scope.names.lookup y = some .cell := by simpa using z
      have e : cenv.cells.lookup y = some c := e
      rw [hcl] at e
      rcases cells_mem (PySem.mem_of_lookup e) with hm | ⟨_, h2, _⟩
      · rcases cloFrom_mem hm with hm | ⟨h1, _⟩
        · cases hm
        · have q := ok.uniq _ h1
          rw [z] at q; cases q
      · rw [Heap.size_push] at h2
        exact Nat.le_of_succ_le h2
    · show b ≠ cenv.locals
      rw [hL]; exact Nat.ne_of_lt (hfp b hb).2
    · have e : cenv.cells.lookup y = some c := e
      rcases mem e with ⟨h1, _⟩ | ⟨h1, _⟩
      · exact (hfp b hb).1.2.2.2.2.1 y c h1 z
      · have h2 : s.heap.objs.size + 1 ≤ b := by rw [← z]; exact h1
        exact absurd (Nat.lt_of_lt_of_le (hfp b hb).2 (Nat.le_of_succ_le h2)) (Nat.lt_irrefl _)
    · rcases (hfp b hb).1.2.2.2.1 with z | z
      · exact I.ok.noex b o e z
      · exact absurd (Nat.lt_of_lt_of_le (Heap.lt_size e) (Nat.le_trans I.ok.bsz z)) (Nat.lt_irrefl _)
    · rcases List.mem_cons.mp (I.stkSub b z) with z | z
      · exact (hfp b hb).1.2.1 z
      · exact (hfp b hb).1.2.2.1 z
  refine ⟨okB, rfl, I.bare, Un.kept kp, ⟨fun _ => none, ?_, fun i y av e1 e2 e3 => ?_⟩, fun y c e => ?_, ?_, fun y c e => ?_, fun p hp => ?_, I.hok.kept kp, by rw [wipe_length]; exact I.len⟩
  · show Heap.Ns _ cenv.locals _
    rw [hL]
    exact Heap.Ns.keeps (Heap.Ns.new ..) fun b o e => pushCells_keeps _ _ _ _ e
  · obtain ⟨e2, hne⟩ := wipe_some e2
    have hfr : scope.names.lookup y = some .free ∧ (cenv.kindOf y = some .cell ∨ cenv.kindOf y = some .free) := by
      have key : ∀ k, cenv.scope.names.lookup y = some k → k = .local ∨ k = .cell ∨ k = .free → scope.names.lookup y = some .free ∧ (cenv.kindOf y = some .cell ∨ cenv.kindOf y = some .free) := fun k hk hk' => by
        have hk0 := hk
        rw [hsc] at hk
        obtain ⟨k', e, r⟩ := lookup_relS hk
        have no : ¬ (k' = .local ∨ k' = .cell) := fun hh => by
          rcases ok.own _ (PySem.mem_of_lookup e) hh with e' | e'
          · obtain ⟨p, hp, hpy⟩ := List.mem_map.mp e'
            have e3 := ok.ix p hp
            have : p.1 = y := hpy
            rw [this] at e3
            exact hne (List.mem_map.mpr ⟨p, hp, nodup_ix hN e3 e1⟩)
          · exact e' (List.mem_of_getElem? e1)
        rcases r with rfl | ⟨rfl, rfl⟩
        · rcases hk' with rfl | rfl | rfl
          · exact absurd (.inl rfl) no
          · exact absurd (.inr rfl) no
          · exact ⟨e, .inr hk0⟩
        · exact ⟨e, .inl hk0⟩
      have e3 : Vis cenv.scope y := e3
      rcases e3 with e3 | e3 | e3
      · exact key _ e3 (.inl rfl)
      · exact key _ e3 (.inr (.inl rfl))
      · exact key _ e3 (.inr (.inr rfl))
    obtain ⟨m, hn, hl⟩ := I.loc
    have hvis : Vis X.env.scope y := (ok.free _ (PySem.mem_of_lookup hfr.1) rfl).elim (fun k => .inr (.inl k)) (fun k => .inr (.inr k))
    obtain ⟨w, r, q⟩ := hl i y av e1 e2 hvis
    refine ⟨w, r, .inr ⟨hfr.2, ?_⟩⟩
    obtain ⟨c, h1, h2⟩ := look hfr.1
    rcases q with ⟨k, _⟩ | ⟨_, c', e', z⟩
    · have k : X.env.scope.names.lookup y = some .local := k
      rcases ok.free _ (PySem.mem_of_lookup hfr.1) rfl with k' | k' <;> rw [show X.env.scope.names.lookup y = _ from k'] at k <;> cases k
    · rw [h2] at e'; cases e'
      exact ⟨c, h1, z.keeps kp⟩
  · have e : cenv.cells.lookup y = some c := e
    rcases mem e with ⟨h1, _⟩ | ⟨_, z⟩
    · obtain ⟨w, z⟩ := I.cell y c h1
      exact ⟨w, z.keeps kp⟩
    · exact ⟨_, z⟩
  · show H cenv.locals = none
    rw [hL]; exact I.hok.fresh (Nat.le_refl _)
  · have e : cenv.cells.lookup y = some c := e
    rcases mem e with ⟨h1, _⟩ | ⟨h1, _⟩
    · exact I.freeC y c h1
    · exact I.hok.fresh (Nat.le_of_succ_le h1)
  · exact absurd (show p ∈ ([] : List (Addr × Obj)) ++ [] from hp) (by simp)

/-- an item appended to a tracked list -/
theorem app_ok {E : Value → Shared → Prop} {D : Addr} {xs : List V} {y : V} {v : Value} {Q : Value → Shared → Prop} (I : Inv X pins σ H s) (hD : H D = some (.lst xs)) (hz : xs.length < sizeLine) (r : RelV y v)
    (h : ∀ s', Inv X pins σ (upd H D (.lst (xs ++ [y]))) s' → Q .none s') : wpAny (model X.prog X.w) X.A (call (.builtin "list.append") [.ref D, v]) Q E s := by
  obtain ⟨hz', its, n, ri, e⟩ := I.hok D _ hD
  have hl := ri.length
  refine append_at (hsz := by rw [List.size_toArray]; omega) e fun h' sb ho' => ?_
  refine h { s with heap := h' } (I.write (t' := s.toks) (by rw [hD]; trivial) (.inl rfl) (fun b u hb q => (sb.2 b hb).trans q) ⟨_, ho'⟩ ⟨by rw [List.length_append]; exact hz, its ++ [v], n + 1, ri.append (.cons r .nil), ?_⟩)
  rw [ho']
  simp

/-- a clause's tests -/
def PTs (X : Cx) (ifs : List Expr) (t : TT) : Prop :=
  ∀ (pins : List (Addr × Obj)) (s : Shared) (σ : St) (H : Hp) (Q : Bool → Hp → Prop), Inv X pins σ H s → t σ H Q →
    wpAny (model X.prog X.w) X.A (forIn ifs true fun c r => if r = true then do let ok ← isTrue c X.env (eval c X.env); pure (ForInStep.yield ok) else pure (ForInStep.yield r)) (TP X pins σ Q) X.xe s
def tYes : TT := fun _ H Q => Q true H
theorem pts_nil : PTs X [] tYes := fun _ _ _ H _ I h => wpAny_tests_nil ⟨H, I, h⟩
theorem pts_one {c : Expr} {t : TT} (h : PT X c t) : PTs X [c] t := fun pins s σ H Q I hw => wpAny_tests_one (h pins s σ H Q I hw)
end

theorem thnF {α : Type} {t : Sem α} {Q Q' : α → Shared → Prop} {M : Model} {A : Around} {E : Value → Shared → Prop} {s : Shared} (h : wpAny M A t Q (fun _ _ => False) s) (hQ : ∀ a s, Q a s → Q' a s) : wpAny M A t Q' E s := wpAny_mono h hQ fun _ _ z => False.elim z

/-- the loop of a list comprehension's block, the target of any form (codeAny_compLoop_tests asks a target that no tuple goes to; statement and proof follow it, PyProof/CompMap.lean:41-61, with the step letOwnedTupleGo kept) -/
theorem compLoop_any {prog : Program} {w : World} {A : Around} {R : Result → Shared → Prop} {s : Shared} {elt target iter : Expr} {ifs : List Expr} {scope : Scope} {pos : Pos} {it acc : Value} {env : Env} (I : Nat → Shared → Prop)
    (turn : ∀ n s, I n s → wpAny (model prog w) A (pyNext it) (fun r s₁ => match r with
      | none => R (.ok .next) s₁
      | some v => wpAny (model prog w) A (letOwnedTupleGo target it v) (fun _ s₁' => wpAny (model prog w) A (assign target env v) (fun _ s₂ =>
          wpAny (model prog w) A (forIn ifs true fun c r => if r = true then do let ok ← isTrue c env (eval c env); pure (ForInStep.yield ok) else pure (ForInStep.yield r)) (fun ok s₃ =>
            if ok = true then wpAny (model prog w) A (eval elt env) (fun x s₄ =>
              wpAny (model prog w) A (call (.builtin "list.append") [acc, x]) (fun _ s₅ => ∃ m, m < n ∧ I m s₅) (notedBy (model prog w) A env fun e s' => R (.error e) s') s₄) (notedBy (model prog w) A env fun e s' => R (.error e) s') s₃
            else ∃ m, m < n ∧ I m s₃) (notedBy (model prog w) A env fun e s' => R (.error e) s') s₂) (notedBy (model prog w) A env fun e s' => R (.error e) s') s₁') (notedBy (model prog w) A env fun e s' => R (.error e) s') s₁) (notedBy (model prog w) A env fun e s' => R (.error e) s') s)
    (n : Nat) (h : I n s) :
    codeAny (model prog w) A (.compLoop (.ListComp elt [⟨target, iter, ifs, 0⟩] scope pos) 0 it acc env) R s := by
  refine codeAny_loop rfl I (fun n s hI => ?_) n h
  show wpAny _ A ((compTurn (.ListComp elt [⟨target, iter, ifs, 0⟩] scope pos) 0 it acc env).onRaise (fun x => do noteFrame x env; theTreesLotGoes x)) _ _ s
  refine wpAny_noted ?_
  rw [compTurn_list]
  refine wpAny_bind (wpAny_standAt (wpAny_bind (wpAny_mono (turn n s hI) (fun r s₁ h₁ => ?_) fun _ _ h' => h')))
  cases r with
  | none => exact wpAny_pure h₁
  | some v =>
    refine wpAny_bind (wpAny_mono h₁ (fun _ s₁' h₁' => ?_) fun _ _ h' => h')
    refine wpAny_bind (wpAny_mono h₁' (fun _ s₂ h₂ => wpAny_bind (wpAny_mono h₂ (fun ok s₃ h₃ => ?_) fun _ _ h' => h')) fun _ _ h' => h')
    cases ok with
    | false => exact wpAny_pure ⟨rfl, h₃⟩
    | true =>
      exact wpAny_bind (wpAny_bind (wpAny_mono h₃ (fun x s₄ h₄ => wpAny_bind (wpAny_mono h₄ (fun _ s₅ h₅ => wpAny_pure (wpAny_pure ⟨rfl, h₅⟩)) fun _ _ h' => h')) fun _ _ h' => h'))

section
variable {X : Cx}
/-- [elt for target in iter if ..]: D the new list; W by the turn and a measure, Nx what a turn is to reach -/
def tLc (wi : TI) (g : TG) (tt : TT) (te : TE) (vs : List Nat) : TE := fun σ H Q => wi σ H fun J H1 => ∀ D, H1 D = none → ∃ W : Nat → Nat → Hp → Prop, (∃ m, W 0 m (upd H1 D (.lst []))) ∧ ∀ i m H, W i m H →
  (J.stop i H ∧ Q (.ref D) H) ∨ (J.go i H ∧ ∃ Nx : Hp → Prop, (∀ H', Nx H' → ∃ m', m' < m ∧ W (i + 1) m' H') ∧ ∀ x H', J.yld i H x H' → g x (wipe σ vs) H' fun σ2 H2 => wipe σ2 vs = wipe σ vs ∧ tt σ2 H2 fun b H3 =>
    if b = true then te σ2 H3 fun y H4 => ∃ acc, H4 D = some (.lst acc) ∧ acc.length < sizeLine ∧ Nx (upd H4 D (.lst (acc ++ [y]))) else Nx H3)
theorem lc_core {pins : List (Addr × Obj)} {s : Shared} {σ : St} {H : Hp} {Q : VK} {elt tg iter : Expr} {ifs : List Expr} {scope : Scope} {own : List (Str × Nat)} {pos pos' : Pos} {wi : TI} {g : TG} {tt : TT} {te : TE} {use : Option (Value → Sem Unit)} {Qf : Value → Shared → Prop}
    (hc : X.calm = true) (hN : X.N.Nodup) (I : Inv X pins σ H s) (hi : PI X tg iter wi) (ok : BlkOk X.N X.env.scope scope own)
    (hg : ∀ (s : Shared) (H : Hp) (C : Addr) (cl : List (Str × Addr)) (fp : List Addr), PG (X.blk s H scope (compEnvC scope cl C X.env) fp) tg g) (ht : ∀ (s : Shared) (H : Hp) (C : Addr) (cl : List (Str × Addr)) (fp : List Addr), PTs (X.blk s H scope (compEnvC scope cl C X.env) fp) ifs tt)
    (he : ∀ (s : Shared) (H : Hp) (C : Addr) (cl : List (Str × Addr)) (fp : List Addr), PE (X.blk s H scope (compEnvC scope cl C X.env) fp) elt te) (hs : ∀ x, foldedSetIterable iter X.env x = pure x)
    (h : tLc wi g tt te (own.map (·.2)) σ H Q)
    (hRR : ∀ D C s' m H', Inv X pins σ H' s' → Q (.ref D) H' → s'.heap.Ns C m → FpOk X pins H' C → compPost (model X.prog X.w) X.A X.xe use Qf (.ref D) C (.ok .next) s') :
    wpAny (model X.prog X.w) X.A (comprehension (.ListComp elt [⟨tg, iter, ifs, 0⟩] scope pos) scope X.env pos' (newList []) false (eval iter X.env) use) Qf X.xe s := by
  have hfree : ∀ y ∈ scope.names, y.2 = .free → ∃ c, X.env.cells.lookup y.1 = some c := fun y hy e => by
    rcases ok.free y hy e with k | k
    · exact I.ok.has _ (.inl k)
    · exact I.ok.has _ (.inr k)
  refine wpAny_comprehension_free (use := use) rfl hs (closure_ok hfree) ok.kind (fun y hy e => by rw [ok.uniq y hy, e])
    (thn (hi pins s σ H _ I h) fun xv s1 hx => thn hx fun itv s2 h2 => ?_)
  obtain ⟨it, fp, tn, J, H2, e, I2, T, st2, f2, q⟩ := h2
  subst e
  refine wpAny_newObj_type (newEnv_comp ?_) (by show 0 ≤ sizeLine; decide)
  generalize hD : s2.heap.objs.size = D
  have hDn : H2 D = none := I2.hok.fresh (Nat.le_of_eq hD)
  obtain ⟨W, ⟨m0, w0⟩, turn⟩ := q D hDn
  -- the new list
  generalize hs3 : ({ s2 with heap := s2.heap.push { cls := .type "list", data := .seq ([] : List Value).toArray } } : Shared) = s3
  have I3 : Inv X pins σ (upd H2 D (.lst [])) s3 := by
    rw [← hs3]
    refine I2.laid (t' := s2.toks) (fun b o e => Heap.get?_push_of_some _ e) (Nat.le_of_eq hD) ⟨Nat.zero_le _, [], 0, .nil, ?_⟩
    rw [← hD]
    exact Heap.get?_push_size _ rfl
  have h3 : s3.heap = s2.heap.push { cls := .type "list", data := .seq ([] : List Value).toArray } := by rw [← hs3]
  have sz : ∀ b ∈ fp, b < s2.heap.objs.size := fun b hb => by
    obtain ⟨o, e, _⟩ := T.obj _ _ st2 b hb
    exact Heap.lt_size e
  have f3 : ∀ b ∈ fp, FpOk X pins (upd H2 D (.lst [])) b ∧ b < s3.heap.objs.size := fun b hb => by
    have hlt := sz b hb
    refine ⟨⟨?_, (f2 b hb).2⟩, by rw [h3, Heap.size_push]; exact Nat.lt_succ_of_lt hlt⟩
    rw [upd_ne (by rw [← hD]; exact Nat.ne_of_lt hlt)]
    exact (f2 b hb).1
  have st3 : tn 0 s3.heap := T.keep _ _ _ st2 fun b _ o e => by rw [h3]; exact Heap.get?_push_of_some _ e
  have I4 := block_start I3 ok hN f3
  have pg := hg s3 (upd H2 D (.lst [])) s3.heap.objs.size (cellsFrom (s3.heap.objs.size + 1) scope.names (cloFrom X.env.cells scope.names [])) fp
  have pt := ht s3 (upd H2 D (.lst [])) s3.heap.objs.size (cellsFrom (s3.heap.objs.size + 1) scope.names (cloFrom X.env.cells scope.names [])) fp
  have pe := he s3 (upd H2 D (.lst [])) s3.heap.objs.size (cellsFrom (s3.heap.objs.size + 1) scope.names (cloFrom X.env.cells scope.names [])) fp
  show codeAny _ _ (.compStart (.ListComp elt [⟨tg, iter, ifs, 0⟩] scope pos) 0 (.ref it) (.ref D) (compEnvC scope (cellsFrom (s3.heap.objs.size + 1) scope.names (cloFrom X.env.cells scope.names [])) s3.heap.objs.size X.env)) (compPost (model X.prog X.w) X.A X.xe use Qf (.ref D) s3.heap.objs.size) { s3 with heap := pushCells (s3.heap.push { cls := .type "dict", data := .dict #[] }) scope.names }
  have nfp : ∀ b ∈ fp, (upd H2 D (.lst [])) b = none := fun b hb => (f3 b hb).1.1
  generalize hce : compEnvC scope (cellsFrom (s3.heap.objs.size + 1) scope.names (cloFrom X.env.cells scope.names [])) s3.heap.objs.size X.env = ce at I4 pg pt pe ⊢
  have cL : ce.locals = s3.heap.objs.size := by subst hce; rfl
  generalize hH3 : upd H2 D (.lst []) = H3 at I3 I4 pg pt pe w0 nfp f3
  generalize hs4 : ({ s3 with heap := pushCells (s3.heap.push { cls := .type "dict", data := .dict #[] }) scope.names } : Shared) = s4 at I4 ⊢
  have st4 : tn 0 s4.heap := T.keep _ _ _ st3 fun b _ o e => by rw [← hs4]; exact pushCells_keeps _ _ _ _ (Heap.get?_push_of_some _ e)
  have stat : ∀ {σ' : St} {H' : Hp} {s' : Shared}, Inv (X.blk s3 H3 scope ce fp) [] σ' H' s' → (∀ b ∈ fp, H' b = none) → ∀ b ∈ fp, FpOk (X.blk s3 H3 scope ce fp) [] H' b := fun {σ' H' s'} I' hn b hb =>
    ⟨hn b hb, (I'.ok.exf b hb).1, I'.ok.exfs b hb, .inl hb, fun x c e => (I'.ok.exf b hb).2 x c e, fun p hp => absurd (show p ∈ ([] : List (Addr × Obj)) ++ [] from hp) (by simp)⟩
  have loop : codeAny (model X.prog X.w) X.A (.compLoop (.ListComp elt [⟨tg, iter, ifs, 0⟩] scope pos) 0 (.ref it) (.ref D) ce) (compPost (model X.prog X.w) X.A X.xe use Qf (.ref D) s3.heap.objs.size) s4 := by
    refine compLoop_any (fun n s' => ∃ i H', Inv (X.blk s3 H3 scope ce fp) [] (wipe σ (own.map (·.2))) H' s' ∧ tn i s'.heap ∧ (∀ b ∈ fp, H' b = none) ∧ W i n H') ?_ m0 ⟨0, H3, I4, st4, nfp, w0⟩
    rintro n s5 ⟨i, H5, I5, st5, n5, w5⟩
    rcases turn i n H5 w5 with ⟨stop, qq⟩ | ⟨go, Nx, hNx, step⟩
    · have td := T.done (X.blk s3 H3 scope ce fp) rfl rfl rfl hc i [] s5 _ H5 (fun _ _ => False) I5 (stat I5 n5) st5 stop
      refine thnF td fun r s6 ⟨hr, I6⟩ => ?_
      subst hr
      -- back in the def's context
      have I7 : Inv X pins σ H5 s6 := I3.call' (ch := fp) I6.os I6.base I6.hok I6.bare fun b hb => ⟨(f3 b hb).1.2.2.2.1, (f3 b hb).1.2.1, (f3 b hb).1.2.2.2.2.1, (f3 b hb).1.2.2.2.2.2⟩
      have nC : H5 s3.heap.objs.size = none := by
        have z : H5 ce.locals = none := I6.free
        rw [cL] at z
        exact z
      obtain ⟨m, hn, _⟩ := I6.loc
      have hn : s6.heap.Ns ce.locals m := hn
      rw [cL] at hn
      exact hRR D s3.heap.objs.size s6 m H5 I7 qq hn (I3.fpOk (Nat.le_refl _) nC)
    · have ti := T.item (X.blk s3 H3 scope ce fp) rfl rfl rfl hc i [] s5 _ H5 (fun _ _ => False) I5 (stat I5 n5) st5 go
      refine thnF ti fun r s6 ⟨u, hr, h6⟩ => ?_
      subst hr
      refine thnF h6 fun _ s7 ⟨x, H7, I7, r7, y7, st7, n7⟩ => ?_
      have I7' := I7.pinned (stat I7 n7) (T.obj _ _ st7)
      refine thnF (pg _ s7 _ H7 x u _ I7' r7 (step x H7 y7)) fun _ s8 ⟨σ8, H8, I8, hw8, q8⟩ => ?_
      refine thnF (pt _ s8 σ8 H8 _ I8 q8) fun b s9 ⟨H9, I9, q9⟩ => ?_
      -- the turn's end
      have fin : ∀ {s' : Shared} {H' : Hp}, Inv (X.blk s3 H3 scope ce fp) ([] ++ pinsAt fp s7.heap) σ8 H' s' → Nx H' → ∃ m, m < n ∧ ∃ i H', Inv (X.blk s3 H3 scope ce fp) [] (wipe σ (own.map (·.2))) H' s' ∧ tn i s'.heap ∧ (∀ b ∈ fp, H' b = none) ∧ W i m H' := fun {s' H'} I' nx => by
        obtain ⟨m', hm, w'⟩ := hNx H' nx
        have pin' : ∀ b ∈ fp, ∀ o, s7.heap.get? b = some o → s'.heap.get? b = some o ∧ H' b = none := fun b hb o e =>
          let z := I'.pin (b, o) (List.mem_append_right _ (List.mem_append_right _ (mem_pinsAt hb e)))
          ⟨z.1, z.2.1⟩
        have hl : (wipe σ (own.map (·.2))).length = σ8.length := by rw [← hw8, wipe_length]
        refine ⟨m', hm, i + 1, H', (I'.unpinned (pins := [])).weak hl (fun j v e => ?_), T.keep _ _ _ st7 fun b hb o e => (pin' b hb o e).1, fun b hb => ?_, w'⟩
        · rw [← hw8] at e
          exact (wipe_some e).1
        · obtain ⟨o, e, _⟩ := T.obj _ _ st7 b hb
          exact (pin' b hb o e).2
      cases b with
      | false =>
        simp only [Bool.false_eq_true, if_false] at q9 ⊢
        exact fin I9 q9
      | true =>
        simp only [if_true] at q9 ⊢
        refine thnF (pe _ s9 σ8 H9 _ I9 q9) fun z s10 ⟨yv, H10, I10, r10, acc, hD10, hz10, nx⟩ => ?_
        exact app_ok (X := X.blk s3 H3 scope ce fp) I10 hD10 hz10 r10 fun s11 I11 => fin I11 nx
  exact codeAny_compStart_list loop (T.self X.A 0 _ _ _ st4 loop)
/-- as a value -/
theorem pe_lc {elt tg iter : Expr} {ifs : List Expr} {scope : Scope} {own : List (Str × Nat)} {pos : Pos} {wi : TI} {g : TG} {tt : TT} {te : TE} (hc : X.calm = true) (hN : X.N.Nodup) (hi : PI X tg iter wi) (ok : BlkOk X.N X.env.scope scope own)
    (hg : ∀ (s : Shared) (H : Hp) (C : Addr) (cl : List (Str × Addr)) (fp : List Addr), PG (X.blk s H scope (compEnvC scope cl C X.env) fp) tg g) (ht : ∀ (s : Shared) (H : Hp) (C : Addr) (cl : List (Str × Addr)) (fp : List Addr), PTs (X.blk s H scope (compEnvC scope cl C X.env) fp) ifs tt)
    (he : ∀ (s : Shared) (H : Hp) (C : Addr) (cl : List (Str × Addr)) (fp : List Addr), PE (X.blk s H scope (compEnvC scope cl C X.env) fp) elt te) (hs : ∀ x, foldedSetIterable iter X.env x = pure x := by intro _; rfl) :
    PE X (.ListComp elt [⟨tg, iter, ifs, 0⟩] scope pos) (tLc wi g tt te (own.map (·.2))) := by
  intro pins s σ H Q I h
  rw [eval_ListComp]
  refine lc_core hc hN I hi ok hg ht he hs h fun D C s' m H' I' q hn f => ⟨m, hn, fun h'' sb => ?_⟩
  obtain ⟨f0, f1, f2, f3, f4, f5⟩ := f
  exact ⟨.ref D, H', I'.turned (t' := s'.toks) (fun b o hb e => (sb.2 b hb).trans e) f0 f1 f3 f4 f5, rfl, q⟩
theorem sw_true {elt : Expr} {gs : List Comprehension} {scope : Scope} {pos py : Pos} {y : Str} {l : Nat} {env : Env} (hk : env.scope.kind = .function) (hy : env.scope.names.lookup y = some .local) (hl : (py.line == pos.line) = true)
    (ha : (scope.names.any fun (n, k) => n == y && (k == .local || k == .cell)) = false) : swapsWith (.ListComp elt gs scope pos) (some (.Name y py)) l env = pure true := by
  have ky : env.kindOf y = some .local := hy
  have hb : env.blockKind = .function := by unfold Env.blockKind; rw [hk]; rfl
  unfold swapsWith
  simp only [hb, ky, ha, Expr.pos, hl]
  rfl
end

/-! ### the forms one uses -/
def blkC (N : List Str) (sc scope : Scope) (own : List (Str × Nat)) : Bool :=
  (match scope.kind with | .function => true | _ => false) && (scope.names.all fun y => decide (scope.names.lookup y.1 = some y.2)) && (own.all fun p => decide (N[p.2]? = some p.1)) &&
    (scope.names.all fun y => match y.2 with
      | .free => (match sc.names.lookup y.1 with | some .cell => true | some .free => true | _ => false)
      | .local => decide (y.1 ∈ own.map (·.1)) || decide (y.1 ∉ N)
      | .cell => decide (y.1 ∈ own.map (·.1)) || decide (y.1 ∉ N)
      | _ => true)
theorem blkOk_by {N : List Str} {sc scope : Scope} {own : List (Str × Nat)} (h : blkC N sc scope own = true) : BlkOk N sc scope own := by
  unfold blkC at h
  simp only [Bool.and_eq_true, List.all_eq_true, decide_eq_true_eq] at h
  obtain ⟨⟨⟨h1, h2⟩, h3⟩, h4⟩ := h
  refine ⟨?_, h2, h3, fun y hy e => ?_, fun y hy e => ?_⟩
  · split at h1
    · assumption
    · cases h1
  · have q := h4 y hy
    simp only [e] at q
    split at q <;> first | exact .inl (by assumption) | exact .inr (by assumption) | cases q
  · have q := h4 y hy
    rcases e with e | e <;> (simp only [e, Bool.or_eq_true, decide_eq_true_eq] at q; exact q)
end L2

namespace L2
open PySem PySem.Spec PyProof.Rows

theorem compTurn2_out (elt t0 i0 t1 i1 : Expr) (ifs0 ifs1 : List Expr) (scope : Scope) (pos : Pos) (it acc : Value) (env : Env) :
    compTurn (.ListComp elt [⟨t0, i0, ifs0, 0⟩, ⟨t1, i1, ifs1, 0⟩] scope pos) 0 it acc env = (do
      standAt i0.pos
      match ← pyNext it with
      | none => pure (.done .next)
      | some v =>
        letOwnedTupleGo t0 it v
        assign t0 env v
        let mut ok := true
        for c in ifs0 do
          if ok then ok ← isTrue c env (eval c env)
        if ok then
          let x ← eval i1 env
          standAt i1.pos
          let x ← foldedSetIterable i1 env x
          let _ ← runOwn (.compStart (.ListComp elt [⟨t0, i0, ifs0, 0⟩, ⟨t1, i1, ifs1, 0⟩] scope pos) 1 (← holding [x] (pyIter x)) acc env) env
        again (.compLoop (.ListComp elt [⟨t0, i0, ifs0, 0⟩, ⟨t1, i1, ifs1, 0⟩] scope pos) 0 it acc env)) := by rfl
theorem compTurn2_in (elt t0 i0 t1 i1 : Expr) (ifs0 ifs1 : List Expr) (scope : Scope) (pos : Pos) (it acc : Value) (env : Env) :
    compTurn (.ListComp elt [⟨t0, i0, ifs0, 0⟩, ⟨t1, i1, ifs1, 0⟩] scope pos) 1 it acc env = (do
      standAt i1.pos
      match ← pyNext it with
      | none => pure (.done .next)
      | some v =>
        letOwnedTupleGo t1 it v
        assign t1 env v
        let mut ok := true
        for c in ifs1 do
          if ok then ok ← isTrue c env (eval c env)
        if ok then
          (do let _ ← call (.builtin "list.append") [acc, ← eval elt env])
        again (.compLoop (.ListComp elt [⟨t0, i0, ifs0, 0⟩, ⟨t1, i1, ifs1, 0⟩] scope pos) 1 it acc env)) := by rfl

section
variable {prog : Program} {w : World} {A : Around} {R : Result → Shared → Prop} {s : Shared} {elt t0 i0 t1 i1 : Expr} {ifs0 ifs1 : List Expr} {scope : Scope} {pos : Pos} {it acc : Value} {env : Env}
/-- the loop of the first clause -/
theorem compLoop2_out (hs : ∀ x, foldedSetIterable i1 env x = pure x) (I : Nat → Shared → Prop)
    (turn : ∀ n s, I n s → wpAny (model prog w) A (pyNext it) (fun r s₁ => match r with
      | none => R (.ok .next) s₁
      | some v => wpAny (model prog w) A (letOwnedTupleGo t0 it v) (fun _ s₁' => wpAny (model prog w) A (assign t0 env v) (fun _ s₂ =>
          wpAny (model prog w) A (forIn ifs0 true fun c r => if r = true then do let ok ← isTrue c env (eval c env); pure (ForInStep.yield ok) else pure (ForInStep.yield r)) (fun ok s₃ =>
            if ok = true then wpAny (model prog w) A (eval i1 env) (fun x s₄ => wpAny (model prog w) A (pyIter x) (fun it1 s₅ =>
              codeAny (model prog w) A (.compStart (.ListComp elt [⟨t0, i0, ifs0, 0⟩, ⟨t1, i1, ifs1, 0⟩] scope pos) 1 it1 acc env) (fun r s' => match r with
                | .ok _ => ∃ m, m < n ∧ I m s'
                | .error _ => False) s₅) (notedBy (model prog w) A env fun e s' => R (.error e) s') s₄) (notedBy (model prog w) A env fun e s' => R (.error e) s') s₃
            else ∃ m, m < n ∧ I m s₃) (notedBy (model prog w) A env fun e s' => R (.error e) s') s₂) (notedBy (model prog w) A env fun e s' => R (.error e) s') s₁') (notedBy (model prog w) A env fun e s' => R (.error e) s') s₁) (notedBy (model prog w) A env fun e s' => R (.error e) s') s)
    (n : Nat) (h : I n s) :
    codeAny (model prog w) A (.compLoop (.ListComp elt [⟨t0, i0, ifs0, 0⟩, ⟨t1, i1, ifs1, 0⟩] scope pos) 0 it acc env) R s := by
  refine codeAny_loop rfl I (fun n s hI => ?_) n h
  show wpAny _ A ((compTurn (.ListComp elt [⟨t0, i0, ifs0, 0⟩, ⟨t1, i1, ifs1, 0⟩] scope pos) 0 it acc env).onRaise (fun x => do noteFrame x env; theTreesLotGoes x)) _ _ s
  refine wpAny_noted ?_
  rw [compTurn2_out]
  refine wpAny_bind (wpAny_standAt (wpAny_bind (wpAny_mono (turn n s hI) (fun r s₁ h₁ => ?_) fun _ _ h' => h')))
  cases r with
  | none => exact wpAny_pure h₁
  | some v =>
    refine wpAny_bind (wpAny_mono h₁ (fun _ s₁' h₁' => ?_) fun _ _ h' => h')
    refine wpAny_bind (wpAny_mono h₁' (fun _ s₂ h₂ => wpAny_bind (wpAny_mono h₂ (fun ok s₃ h₃ => ?_) fun _ _ h' => h')) fun _ _ h' => h')
    cases ok with
    | false => exact wpAny_pure ⟨rfl, h₃⟩
    | true =>
      refine wpAny_bind (wpAny_mono h₃ (fun x s₄ h₄ => ?_) fun _ _ h' => h')
      refine wpAny_bind (wpAny_standAt (wpAny_bind (wpAny_of_eq (hs x) (wpAny_bind (wpAny_holding (wpAny_mono h₄ (fun it1 s₅ h₅ => ?_) fun _ _ h' => h'))))))
      refine wpAny_bind (wpAny_runOwn ?_)
      rw [Around.mark_none]
      refine codeAny_mono h₅ fun r s' hr => ?_
      cases r with
      | ok f =>
        first
          | exact wpAny_pure ⟨rfl, hr⟩
          | exact wpAny_bind (wpAny_pure (wpAny_pure ⟨rfl, hr⟩))
      | error e => exact hr.elim
/-- the loop of the second -/
theorem compLoop2_in (I : Nat → Shared → Prop)
    (turn : ∀ n s, I n s → wpAny (model prog w) A (pyNext it) (fun r s₁ => match r with
      | none => R (.ok .next) s₁
      | some v => wpAny (model prog w) A (letOwnedTupleGo t1 it v) (fun _ s₁' => wpAny (model prog w) A (assign t1 env v) (fun _ s₂ =>
          wpAny (model prog w) A (forIn ifs1 true fun c r => if r = true then do let ok ← isTrue c env (eval c env); pure (ForInStep.yield ok) else pure (ForInStep.yield r)) (fun ok s₃ =>
            if ok = true then wpAny (model prog w) A (eval elt env) (fun x s₄ =>
              wpAny (model prog w) A (call (.builtin "list.append") [acc, x]) (fun _ s₅ => ∃ m, m < n ∧ I m s₅) (notedBy (model prog w) A env fun e s' => R (.error e) s') s₄) (notedBy (model prog w) A env fun e s' => R (.error e) s') s₃
            else ∃ m, m < n ∧ I m s₃) (notedBy (model prog w) A env fun e s' => R (.error e) s') s₂) (notedBy (model prog w) A env fun e s' => R (.error e) s') s₁') (notedBy (model prog w) A env fun e s' => R (.error e) s') s₁) (notedBy (model prog w) A env fun e s' => R (.error e) s') s)
    (n : Nat) (h : I n s) :
    codeAny (model prog w) A (.compLoop (.ListComp elt [⟨t0, i0, ifs0, 0⟩, ⟨t1, i1, ifs1, 0⟩] scope pos) 1 it acc env) R s := by
  refine codeAny_loop rfl I (fun n s hI => ?_) n h
  show wpAny _ A ((compTurn (.ListComp elt [⟨t0, i0, ifs0, 0⟩, ⟨t1, i1, ifs1, 0⟩] scope pos) 1 it acc env).onRaise (fun x => do noteFrame x env; theTreesLotGoes x)) _ _ s
  refine wpAny_noted ?_
  rw [compTurn2_in]
  refine wpAny_bind (wpAny_standAt (wpAny_bind (wpAny_mono (turn n s hI) (fun r s₁ h₁ => ?_) fun _ _ h' => h')))
  cases r with
  | none => exact wpAny_pure h₁
  | some v =>
    refine wpAny_bind (wpAny_mono h₁ (fun _ s₁' h₁' => ?_) fun _ _ h' => h')
    refine wpAny_bind (wpAny_mono h₁' (fun _ s₂ h₂ => wpAny_bind (wpAny_mono h₂ (fun ok s₃ h₃ => ?_) fun _ _ h' => h')) fun _ _ h' => h')
    cases ok with
    | false => exact wpAny_pure ⟨rfl, h₃⟩
    | true =>
      exact wpAny_bind (wpAny_bind (wpAny_mono h₃ (fun x s₄ h₄ => wpAny_bind (wpAny_mono h₄ (fun _ s₅ h₅ => wpAny_pure (wpAny_pure ⟨rfl, h₅⟩)) fun _ _ h' => h')) fun _ _ h' => h'))
/-- the second clause's start -/
theorem compStart1_ok (h0 : codeAny (model prog w) A (.compLoop (.ListComp elt [⟨t0, i0, ifs0, 0⟩, ⟨t1, i1, ifs1, 0⟩] scope pos) 1 it acc env) R s)
    (h : wpAny (model prog w) A (pyIter it) (fun it' s' => codeAny (model prog w) A (.compLoop (.ListComp elt [⟨t0, i0, ifs0, 0⟩, ⟨t1, i1, ifs1, 0⟩] scope pos) 1 it' acc env) R s')
      (notedBy (model prog w) A env fun x s' => R (.error x) s') s) :
    codeAny (model prog w) A (.compStart (.ListComp elt [⟨t0, i0, ifs0, 0⟩, ⟨t1, i1, ifs1, 0⟩] scope pos) 1 it acc env) R s := by
  refine codeAny_of_tree ?_
  show wpAny _ _ ((compStart (.ListComp elt [⟨t0, i0, ifs0, 0⟩, ⟨t1, i1, ifs1, 0⟩] scope pos) 1 it acc env).onRaise (fun x => do noteFrame x env; standAt theWindowsPlace)) _ _ s
  refine wpAny_notedAt ?_
  unfold compStart
  show wpAny _ _ (ask >>= _) _ _ s
  refine wpAny_bind (wpAny_askSetting (wpAny_ite ?_))
  split
  · first
      | exact wpAny_bind (wpAny_pure (wpAny_pure (And.intro rfl h0)))
      | exact wpAny_pure (And.intro rfl h0)
  · first
      | exact wpAny_bind (wpAny_rule (wpAny_bind (wpAny_standAt (wpAny_bind (wpAny_mono h (fun it' s' h' => wpAny_pure (And.intro rfl h')) fun _ _ x => x)))))
      | (refine wpAny_bind (wpAny_rule ?_); show wpAny _ _ (standAt i1.pos >>= _) _ _ s; exact wpAny_bind (wpAny_standAt (wpAny_bind (wpAny_mono h (fun it' s' h' => wpAny_pure (And.intro rfl h')) fun _ _ x => x))))
end

theorem wipe_out {σ : St} {i : Nat} : ∀ {vs : List Nat}, i ∉ vs → (wipe σ vs)[i]? = σ[i]?
  | [], _ => rfl
  | v :: vs, h => by
    have h1 : v ≠ i := fun e => h (by rw [e]; exact List.mem_cons_self)
    have h2 : i ∉ vs := fun m => h (List.mem_cons_of_mem _ m)
    unfold wipe
    rw [List.getElem?_set_ne h1]
    exact wipe_out h2
section
variable {X : Cx}
/-- [elt for tg in iter if .. for tg1 in iter1 if ..]: behind the first clause's store and tests the second source's own loop, from which Nx is reached. vs: the block's names; vs1: those of the second target -/
def tLc2 (wi : TI) (g : TG) (tt : TT) (wi1 : TI) (g1 : TG) (tt1 : TT) (te : TE) (vs vs1 : List Nat) : TE := fun σ H Q => wi σ H fun J H1 => ∀ D, H1 D = none → ∃ W : Nat → Nat → Hp → Prop, (∃ m, W 0 m (upd H1 D (.lst []))) ∧ ∀ i m H, W i m H →
  (J.stop i H ∧ Q (.ref D) H) ∨ (J.go i H ∧ ∃ Nx : Hp → Prop, (∀ H', Nx H' → ∃ m', m' < m ∧ W (i + 1) m' H') ∧ ∀ x H', J.yld i H x H' → g x (wipe σ vs) H' fun σ2 H2 => wipe σ2 vs = wipe σ vs ∧ tt σ2 H2 fun b H3 =>
    if b = true then wi1 σ2 H3 fun J1 H4 => ∃ W1 : Nat → Nat → Hp → Prop, (∃ m, W1 0 m H4) ∧ ∀ j k H, W1 j k H →
      (J1.stop j H ∧ Nx H) ∨ (J1.go j H ∧ ∃ Nx1 : Hp → Prop, (∀ H', Nx1 H' → ∃ k', k' < k ∧ W1 (j + 1) k' H') ∧ ∀ x H', J1.yld j H x H' → g1 x (wipe σ2 vs1) H' fun σ3 H5 => wipe σ3 vs1 = wipe σ2 vs1 ∧ tt1 σ3 H5 fun b H6 =>
        if b = true then te σ3 H6 fun y H7 => ∃ acc, H7 D = some (.lst acc) ∧ acc.length < sizeLine ∧ Nx1 (upd H7 D (.lst (acc ++ [y]))) else Nx1 H6)
    else Nx H3)
theorem lc2_core {pins : List (Addr × Obj)} {s : Shared} {σ : St} {H : Hp} {Q : VK} {elt tg iter tg1 iter1 : Expr} {ifs ifs1 : List Expr} {scope : Scope} {own : List (Str × Nat)} {vs1 : List Nat} {pos pos' : Pos} {wi wi1 : TI} {g g1 : TG} {tt tt1 : TT} {te : TE} {use : Option (Value → Sem Unit)} {Qf : Value → Shared → Prop}
    (hc : X.calm = true) (hN : X.N.Nodup) (I : Inv X pins σ H s) (hi : PI X tg iter wi) (ok : BlkOk X.N X.env.scope scope own) (hv : ∀ i ∈ vs1, i ∈ own.map (·.2))
    (hg : ∀ (s : Shared) (H : Hp) (C : Addr) (cl : List (Str × Addr)) (fp : List Addr), PG (X.blk s H scope (compEnvC scope cl C X.env) fp) tg g) (ht : ∀ (s : Shared) (H : Hp) (C : Addr) (cl : List (Str × Addr)) (fp : List Addr), PTs (X.blk s H scope (compEnvC scope cl C X.env) fp) ifs tt)
    (he : ∀ (s : Shared) (H : Hp) (C : Addr) (cl : List (Str × Addr)) (fp : List Addr), PE (X.blk s H scope (compEnvC scope cl C X.env) fp) elt te) (hs : ∀ x, foldedSetIterable iter X.env x = pure x)
    (hi1 : ∀ (s : Shared) (H : Hp) (C : Addr) (cl : List (Str × Addr)) (fp : List Addr), PI (X.blk s H scope (compEnvC scope cl C X.env) fp) tg1 iter1 wi1)
    (hg1 : ∀ (s : Shared) (H : Hp) (C : Addr) (cl : List (Str × Addr)) (fp : List Addr), PG (X.blk s H scope (compEnvC scope cl C X.env) fp) tg1 g1)
    (ht1 : ∀ (s : Shared) (H : Hp) (C : Addr) (cl : List (Str × Addr)) (fp : List Addr), PTs (X.blk s H scope (compEnvC scope cl C X.env) fp) ifs1 tt1)
    (hs1 : ∀ env x, foldedSetIterable iter1 env x = pure x)
    (h : tLc2 wi g tt wi1 g1 tt1 te (own.map (·.2)) vs1 σ H Q)
    (hRR : ∀ D C s' m H', Inv X pins σ H' s' → Q (.ref D) H' → s'.heap.Ns C m → FpOk X pins H' C → compPost (model X.prog X.w) X.A X.xe use Qf (.ref D) C (.ok .next) s') :
    wpAny (model X.prog X.w) X.A (comprehension (.ListComp elt [⟨tg, iter, ifs, 0⟩, ⟨tg1, iter1, ifs1, 0⟩] scope pos) scope X.env pos' (newList []) false (eval iter X.env) use) Qf X.xe s := by
  have hfree : ∀ y ∈ scope.names, y.2 = .free → ∃ c, X.env.cells.lookup y.1 = some c := fun y hy e => by
    rcases ok.free y hy e with k | k
    · exact I.ok.has _ (.inl k)
    · exact I.ok.has _ (.inr k)
  refine wpAny_comprehension_free (use := use) rfl hs (closure_ok hfree) ok.kind (fun y hy e => by rw [ok.uniq y hy, e])
    (thn (hi pins s σ H _ I h) fun xv s1 hx => thn hx fun itv s2 h2 => ?_)
  obtain ⟨it, fp, tn, J, H2, e, I2, T, st2, f2, q⟩ := h2
  subst e
  refine wpAny_newObj_type (newEnv_comp ?_) (by show 0 ≤ sizeLine; decide)
  generalize hD : s2.heap.objs.size = D
  have hDn : H2 D = none := I2.hok.fresh (Nat.le_of_eq hD)
  obtain ⟨W, ⟨m0, w0⟩, turn⟩ := q D hDn
  -- the new list
  generalize hs3 : ({ s2 with heap := s2.heap.push { cls := .type "list", data := .seq ([] : List Value).toArray } } : Shared) = s3
  have I3 : Inv X pins σ (upd H2 D (.lst [])) s3 := by
    rw [← hs3]
    refine I2.laid (t' := s2.toks) (fun b o e => Heap.get?_push_of_some _ e) (Nat.le_of_eq hD) ⟨Nat.zero_le _, [], 0, .nil, ?_⟩
    rw [← hD]
    exact Heap.get?_push_size _ rfl
  have h3 : s3.heap = s2.heap.push { cls := .type "list", data := .seq ([] : List Value).toArray } := by rw [← hs3]
  have sz : ∀ b ∈ fp, b < s2.heap.objs.size := fun b hb => by
    obtain ⟨o, e, _⟩ := T.obj _ _ st2 b hb
    exact Heap.lt_size e
  have f3 : ∀ b ∈ fp, FpOk X pins (upd H2 D (.lst [])) b ∧ b < s3.heap.objs.size := fun b hb => by
    have hlt := sz b hb
    refine ⟨⟨?_, (f2 b hb).2⟩, by rw [h3, Heap.size_push]; exact Nat.lt_succ_of_lt hlt⟩
    rw [upd_ne (by rw [← hD]; exact Nat.ne_of_lt hlt)]
    exact (f2 b hb).1
  have st3 : tn 0 s3.heap := T.keep _ _ _ st2 fun b _ o e => by rw [h3]; exact Heap.get?_push_of_some _ e
  have I4 := block_start I3 ok hN f3
  have pg := hg s3 (upd H2 D (.lst [])) s3.heap.objs.size (cellsFrom (s3.heap.objs.size + 1) scope.names (cloFrom X.env.cells scope.names [])) fp
  have pt := ht s3 (upd H2 D (.lst [])) s3.heap.objs.size (cellsFrom (s3.heap.objs.size + 1) scope.names (cloFrom X.env.cells scope.names [])) fp
  have pe := he s3 (upd H2 D (.lst [])) s3.heap.objs.size (cellsFrom (s3.heap.objs.size + 1) scope.names (cloFrom X.env.cells scope.names [])) fp
  have pi1 := hi1 s3 (upd H2 D (.lst [])) s3.heap.objs.size (cellsFrom (s3.heap.objs.size + 1) scope.names (cloFrom X.env.cells scope.names [])) fp
  have pg1 := hg1 s3 (upd H2 D (.lst [])) s3.heap.objs.size (cellsFrom (s3.heap.objs.size + 1) scope.names (cloFrom X.env.cells scope.names [])) fp
  have pt1 := ht1 s3 (upd H2 D (.lst [])) s3.heap.objs.size (cellsFrom (s3.heap.objs.size + 1) scope.names (cloFrom X.env.cells scope.names [])) fp
  show codeAny _ _ (.compStart (.ListComp elt [⟨tg, iter, ifs, 0⟩, ⟨tg1, iter1, ifs1, 0⟩] scope pos) 0 (.ref it) (.ref D) (compEnvC scope (cellsFrom (s3.heap.objs.size + 1) scope.names (cloFrom X.env.cells scope.names [])) s3.heap.objs.size X.env)) (compPost (model X.prog X.w) X.A X.xe use Qf (.ref D) s3.heap.objs.size) { s3 with heap := pushCells (s3.heap.push { cls := .type "dict", data := .dict #[] }) scope.names }
  have nfp : ∀ b ∈ fp, (upd H2 D (.lst [])) b = none := fun b hb => (f3 b hb).1.1
  generalize hce : compEnvC scope (cellsFrom (s3.heap.objs.size + 1) scope.names (cloFrom X.env.cells scope.names [])) s3.heap.objs.size X.env = ce at I4 pg pt pe pi1 pg1 pt1 ⊢
  have cL : ce.locals = s3.heap.objs.size := by subst hce; rfl
  generalize hH3 : upd H2 D (.lst []) = H3 at I3 I4 pg pt pe pi1 pg1 pt1 w0 nfp f3
  generalize hs4 : ({ s3 with heap := pushCells (s3.heap.push { cls := .type "dict", data := .dict #[] }) scope.names } : Shared) = s4 at I4 ⊢
  have st4 : tn 0 s4.heap := T.keep _ _ _ st3 fun b _ o e => by rw [← hs4]; exact pushCells_keeps _ _ _ _ (Heap.get?_push_of_some _ e)
  have stat : ∀ {σ' : St} {H' : Hp} {s' : Shared}, Inv (X.blk s3 H3 scope ce fp) [] σ' H' s' → (∀ b ∈ fp, H' b = none) → ∀ b ∈ fp, FpOk (X.blk s3 H3 scope ce fp) [] H' b := fun {σ' H' s'} I' hn b hb =>
    ⟨hn b hb, (I'.ok.exf b hb).1, I'.ok.exfs b hb, .inl hb, fun x c e => (I'.ok.exf b hb).2 x c e, fun p hp => absurd (show p ∈ ([] : List (Addr × Obj)) ++ [] from hp) (by simp)⟩
  have loop : codeAny (model X.prog X.w) X.A (.compLoop (.ListComp elt [⟨tg, iter, ifs, 0⟩, ⟨tg1, iter1, ifs1, 0⟩] scope pos) 0 (.ref it) (.ref D) ce) (compPost (model X.prog X.w) X.A X.xe use Qf (.ref D) s3.heap.objs.size) s4 := by
    refine compLoop2_out (hs1 ce) (fun n s' => ∃ i H', Inv (X.blk s3 H3 scope ce fp) [] (wipe σ (own.map (·.2))) H' s' ∧ tn i s'.heap ∧ (∀ b ∈ fp, H' b = none) ∧ W i n H') ?_ m0 ⟨0, H3, I4, st4, nfp, w0⟩
    rintro n s5 ⟨i, H5, I5, st5, n5, w5⟩
    rcases turn i n H5 w5 with ⟨stop, qq⟩ | ⟨go, Nx, hNx, step⟩
    · have td := T.done (X.blk s3 H3 scope ce fp) rfl rfl rfl hc i [] s5 _ H5 (fun _ _ => False) I5 (stat I5 n5) st5 stop
      refine thnF td fun r s6 ⟨hr, I6⟩ => ?_
      subst hr
      -- back in the def's context
      have I7 : Inv X pins σ H5 s6 := I3.call' (ch := fp) I6.os I6.base I6.hok I6.bare fun b hb => ⟨(f3 b hb).1.2.2.2.1, (f3 b hb).1.2.1, (f3 b hb).1.2.2.2.2.1, (f3 b hb).1.2.2.2.2.2⟩
      have nC : H5 s3.heap.objs.size = none := by
        have z : H5 ce.locals = none := I6.free
        rw [cL] at z
        exact z
      obtain ⟨m, hn, _⟩ := I6.loc
      have hn : s6.heap.Ns ce.locals m := hn
      rw [cL] at hn
      exact hRR D s3.heap.objs.size s6 m H5 I7 qq hn (I3.fpOk (Nat.le_refl _) nC)
    · have ti := T.item (X.blk s3 H3 scope ce fp) rfl rfl rfl hc i [] s5 _ H5 (fun _ _ => False) I5 (stat I5 n5) st5 go
      refine thnF ti fun r s6 ⟨u, hr, h6⟩ => ?_
      subst hr
      refine thnF h6 fun _ s7 ⟨x, H7, I7, r7, y7, st7, n7⟩ => ?_
      have I7' := I7.pinned (stat I7 n7) (T.obj _ _ st7)
      refine thnF (pg _ s7 _ H7 x u _ I7' r7 (step x H7 y7)) fun _ s8 ⟨σ8, H8, I8, hw8, q8⟩ => ?_
      refine thnF (pt _ s8 σ8 H8 _ I8 q8) fun b s9 ⟨H9, I9, q9⟩ => ?_
      -- the turn's end, from any slots that know what the block knew at its start
      have fin : ∀ {σ9 : St} {s' : Shared} {H' : Hp}, Inv (X.blk s3 H3 scope ce fp) ([] ++ pinsAt fp s7.heap) σ9 H' s' → (wipe σ (own.map (·.2))).length = σ9.length → (∀ (j : Nat) v, (wipe σ (own.map (·.2)))[j]? = some (some v) → σ9[j]? = some (some v)) → Nx H' →
          ∃ m, m < n ∧ ∃ i H', Inv (X.blk s3 H3 scope ce fp) [] (wipe σ (own.map (·.2))) H' s' ∧ tn i s'.heap ∧ (∀ b ∈ fp, H' b = none) ∧ W i m H' := fun {σ9 s' H'} I' hl hk nx => by
        obtain ⟨m', hm, w'⟩ := hNx H' nx
        have pin' : ∀ b ∈ fp, ∀ o, s7.heap.get? b = some o → s'.heap.get? b = some o ∧ H' b = none := fun b hb o e =>
          let z := I'.pin (b, o) (List.mem_append_right _ (List.mem_append_right _ (mem_pinsAt hb e)))
          ⟨z.1, z.2.1⟩
        refine ⟨m', hm, i + 1, H', (I'.unpinned (pins := [])).weak hl hk, T.keep _ _ _ st7 fun b hb o e => (pin' b hb o e).1, fun b hb => ?_, w'⟩
        obtain ⟨o, e, _⟩ := T.obj _ _ st7 b hb
        exact (pin' b hb o e).2
      have hl8 : (wipe σ (own.map (·.2))).length = σ8.length := by rw [← hw8, wipe_length]
      have hk8 : ∀ (j : Nat) v, (wipe σ (own.map (·.2)))[j]? = some (some v) → σ8[j]? = some (some v) := fun j v e => by
        rw [← hw8] at e
        exact (wipe_some e).1
      have hk9 : ∀ (j : Nat) v, (wipe σ (own.map (·.2)))[j]? = some (some v) → (wipe σ8 vs1)[j]? = some (some v) := fun j v e => by
        rw [← hw8] at e
        obtain ⟨e1, e2⟩ := wipe_some e
        rw [wipe_out fun z => e2 (hv j z)]
        exact e1
      cases b with
      | false =>
        simp only [Bool.false_eq_true, if_false] at q9 ⊢
        exact fin I9 hl8 hk8 q9
      | true =>
        simp only [if_true] at q9 ⊢
        refine thnF (pi1 _ s9 σ8 H9 _ I9 q9) fun xv s10 hx => thnF hx fun itv s11 h11 => ?_
        obtain ⟨it1, fp1, tn1, J1, H11, e1, I11, T1, st11, f11, W1, ⟨m1, w1⟩, turn1⟩ := h11
        subst e1
        -- the inner loop
        have stat1 : ∀ {H' : Hp}, (∀ b ∈ fp1, H' b = none) → ∀ b ∈ fp1, FpOk (X.blk s3 H3 scope ce fp) ([] ++ pinsAt fp s7.heap) H' b := fun hn b hb => ⟨hn b hb, (f11 b hb).2⟩
        have loop1 : codeAny (model X.prog X.w) X.A (.compLoop (.ListComp elt [⟨tg, iter, ifs, 0⟩, ⟨tg1, iter1, ifs1, 0⟩] scope pos) 1 (.ref it1) (.ref D) ce)
            (fun r s' => match r with
              | .ok _ => ∃ m, m < n ∧ ∃ i H', Inv (X.blk s3 H3 scope ce fp) [] (wipe σ (own.map (·.2))) H' s' ∧ tn i s'.heap ∧ (∀ b ∈ fp, H' b = none) ∧ W i m H'
              | .error _ => False) s11 := by
          refine compLoop2_in (fun k s' => ∃ j H', Inv (X.blk s3 H3 scope ce fp) ([] ++ pinsAt fp s7.heap) (wipe σ8 vs1) H' s' ∧ tn1 j s'.heap ∧ (∀ b ∈ fp1, H' b = none) ∧ W1 j k H') ?_ m1 ⟨0, H11, I11.weak (wipe_length _ _) (fun j v e => (wipe_some e).1), st11, fun b hb => (f11 b hb).1, w1⟩
          rintro k s12 ⟨j, H12, I12, st12, n12, w12⟩
          rcases turn1 j k H12 w12 with ⟨stop1, nx1⟩ | ⟨go1, Nx1, hNx1, step1⟩
          · refine thnF (T1.done (X.blk s3 H3 scope ce fp) rfl rfl rfl hc j _ s12 (wipe σ8 vs1) H12 (fun _ _ => False) I12 (stat1 n12) st12 stop1) fun r s13 ⟨hr, I13⟩ => ?_
            subst hr
            exact fin I13 (hl8.trans (wipe_length σ8 vs1).symm) hk9 nx1
          · refine thnF (T1.item (X.blk s3 H3 scope ce fp) rfl rfl rfl hc j _ s12 (wipe σ8 vs1) H12 (fun _ _ => False) I12 (stat1 n12) st12 go1) fun r s13 ⟨u1, hr, h13⟩ => ?_
            subst hr
            refine thnF h13 fun _ s14 ⟨x1, H14, I14, r14, y14, st14, n14⟩ => ?_
            have I14' := I14.pinned (stat1 n14) (T1.obj _ _ st14)
            refine thnF (pg1 _ s14 (wipe σ8 vs1) H14 x1 u1 _ I14' r14 (step1 x1 H14 y14)) fun _ s15 ⟨σ15, H15, I15, hw15, q15⟩ => ?_
            refine thnF (pt1 _ s15 σ15 H15 _ I15 q15) fun b1 s16 ⟨H16, I16, q16⟩ => ?_
            have fin1 : ∀ {s' : Shared} {H' : Hp}, Inv (X.blk s3 H3 scope ce fp) (([] ++ pinsAt fp s7.heap) ++ pinsAt fp1 s14.heap) σ15 H' s' → Nx1 H' → ∃ m, m < k ∧ ∃ j H', Inv (X.blk s3 H3 scope ce fp) ([] ++ pinsAt fp s7.heap) (wipe σ8 vs1) H' s' ∧ tn1 j s'.heap ∧ (∀ b ∈ fp1, H' b = none) ∧ W1 j m H' := fun {s' H'} I' nx => by
              obtain ⟨m', hm, w'⟩ := hNx1 H' nx
              have pin' : ∀ b ∈ fp1, ∀ o, s14.heap.get? b = some o → s'.heap.get? b = some o ∧ H' b = none := fun b hb o e =>
                let z := I'.pin (b, o) (List.mem_append_right _ (List.mem_append_right _ (mem_pinsAt hb e)))
                ⟨z.1, z.2.1⟩
              refine ⟨m', hm, j + 1, H', I'.unpinned.weak (by rw [← hw15, wipe_length]) (fun j v e => by rw [← hw15] at e; exact (wipe_some e).1), T1.keep _ _ _ st14 fun b hb o e => (pin' b hb o e).1, fun b hb => ?_, w'⟩
              obtain ⟨o, e, _⟩ := T1.obj _ _ st14 b hb
              exact (pin' b hb o e).2
            cases b1 with
            | false =>
              simp only [Bool.false_eq_true, if_false] at q16 ⊢
              exact fin1 I16 q16
            | true =>
              simp only [if_true] at q16 ⊢
              refine thnF (pe _ s16 σ15 H16 _ I16 q16) fun z s17 ⟨yv, H17, I17, r17, acc, hD17, hz17, nx⟩ => ?_
              exact app_ok (X := X.blk s3 H3 scope ce fp) I17 hD17 hz17 r17 fun s18 I18 => fin1 I18 nx
        exact compStart1_ok loop1 (T1.self X.A 0 _ _ _ st11 loop1)
  exact codeAny_compStart_list loop (T.self X.A 0 _ _ _ st4 loop)
theorem ps_setLc2 {i : Nat} {y : Str} {py : Pos} {elt tg iter tg1 iter1 : Expr} {ifs ifs1 : List Expr} {scope : Scope} {own : List (Str × Nat)} {vs1 : List Nat} {pos spos : Pos} {wi wi1 : TI} {g g1 : TG} {tt tt1 : TT} {te : TE} (hc : X.calm = true) (hN : X.N.Nodup) (hy : X.N[i]? = some y) (hyl : X.env.scope.names.lookup y = some .local)
    (hsw : swapsWith (.ListComp elt [⟨tg, iter, ifs, 0⟩, ⟨tg1, iter1, ifs1, 0⟩] scope pos) (some (.Name y py)) spos.line X.env = pure true) (hi : PI X tg iter wi) (ok : BlkOk X.N X.env.scope scope own) (hv : ∀ i ∈ vs1, i ∈ own.map (·.2))
    (hg : ∀ (s : Shared) (H : Hp) (C : Addr) (cl : List (Str × Addr)) (fp : List Addr), PG (X.blk s H scope (compEnvC scope cl C X.env) fp) tg g) (ht : ∀ (s : Shared) (H : Hp) (C : Addr) (cl : List (Str × Addr)) (fp : List Addr), PTs (X.blk s H scope (compEnvC scope cl C X.env) fp) ifs tt)
    (hi1 : ∀ (s : Shared) (H : Hp) (C : Addr) (cl : List (Str × Addr)) (fp : List Addr), PI (X.blk s H scope (compEnvC scope cl C X.env) fp) tg1 iter1 wi1)
    (hg1 : ∀ (s : Shared) (H : Hp) (C : Addr) (cl : List (Str × Addr)) (fp : List Addr), PG (X.blk s H scope (compEnvC scope cl C X.env) fp) tg1 g1) (ht1 : ∀ (s : Shared) (H : Hp) (C : Addr) (cl : List (Str × Addr)) (fp : List Addr), PTs (X.blk s H scope (compEnvC scope cl C X.env) fp) ifs1 tt1)
    (he : ∀ (s : Shared) (H : Hp) (C : Addr) (cl : List (Str × Addr)) (fp : List Addr), PE (X.blk s H scope (compEnvC scope cl C X.env) fp) elt te) (hs : ∀ x, foldedSetIterable iter X.env x = pure x := by intro _; rfl) (hs1 : ∀ env x, foldedSetIterable iter1 env x = pure x := by intro _ _; rfl) :
    PS X (.Assign [.Name y py] (.ListComp elt [⟨tg, iter, ifs, 0⟩, ⟨tg1, iter1, ifs1, 0⟩] scope pos) spos) (tAsg (tLc2 wi g tt wi1 g1 tt1 te (own.map (·.2)) vs1) (gName i)) := by
  intro pins s σ H D I h
  rw [exec_Assign_Name_used _ _ _ _ hsw]
  refine wpAny_bind (wpAny_standAt (wpAny_bind ?_))
  show wpAny _ X.A (do let _ ← comprehension (.ListComp elt [⟨tg, iter, ifs, 0⟩, ⟨tg1, iter1, ifs1, 0⟩] scope pos) scope X.env (firstIterPos [⟨tg, iter, ifs, 0⟩, ⟨tg1, iter1, ifs1, 0⟩] pos) (newList []) false (eval iter X.env) (some (assign (.Name y py) X.env))) _ _ s
  have h : tLc2 wi g tt wi1 g1 tt1 te (own.map (·.2)) vs1 σ H (fun x H1 => gName i x σ H1 D.nx) := h
  refine wpAny_bind (thn (lc2_core (Qf := fun _ s' => SP X pins D .next s') hc hN I hi ok hv hg ht he hs hi1 hg1 ht1 hs1 h fun L C s' m H' I' q hn f => ?_) fun _ s' hq => wpAny_pure (wpAny_pure hq))
  show wpAny _ _ (assign (.Name y py) X.env (.ref L)) _ _ _
  refine wpAny_assign_Name (store_ok2 (v := V.ref L) I' hN hy (.inl hyl) rfl (fun s2 I2 ⟨a, sb, ha⟩ => ?_) (.inr hyl))
  obtain ⟨f0, f1, f2, f3, f4, f5⟩ := f
  have haC : C ≠ a := by
    rcases ha with z | z
    · rw [z]; exact f1
    · exact fun e => f4 y a z e.symm
  refine ⟨m, hn.sameBut sb haC, fun h3 sb3 => ?_⟩
  exact ⟨_, H', I2.turned (t' := s2.toks) (fun b o hb e => (sb3.2 b hb).trans e) f0 f1 f3 f4 f5, q⟩
end
end L2

namespace L2
open PySem PySem.Spec PyProof.Rows

/-! ### lists of pairs as tables -/
section
variable {κ : Type} [DecidableEq κ]
def valV (kvs : List (κ × V)) (k : κ) : Option V := (kvs.find? fun kv => decide (kv.1 = k)).map (·.2)
/-- in its place, or at the end -/
def putK (kvs : List (κ × V)) (k : κ) (v : V) : List (κ × V) :=
  if (kvs.any fun kv => decide (kv.1 = k)) = true then kvs.map (fun kv => if kv.1 = k then (kv.1, v) else kv) else kvs ++ [(k, v)]
def dropK (kvs : List (κ × V)) (k : κ) : List (κ × V) := kvs.filter fun kv => decide (kv.1 ≠ k)

theorem valV_pos {p : κ × V} {r : List (κ × V)} {k : κ} (e : p.1 = k) : valV (p :: r) k = some p.2 := by simp [valV, List.find?_cons, e]
theorem valV_neg {p : κ × V} {r : List (κ × V)} {k : κ} (e : ¬ p.1 = k) : valV (p :: r) k = valV r k := by simp [valV, List.find?_cons, e]
theorem RelO.getD {o : Option V} {u : Option Value} {d : V} {d' : Value} (r : RelO o u) (rd : RelV d d') : RelV (o.getD d) (u.getD d') := by
  cases o with
  | none => cases u with
    | none => exact rd
    | some _ => exact (show False from r).elim
  | some _ => cases u with
    | none => exact (show False from r).elim
    | some _ => exact r

/-- raw tables of the same keys -/
theorem KV.val {kvs : List (κ × V)} {vs : List (κ × Value)} (r : KV kvs vs) (k : κ) : RelO (valV kvs k) (valueAt vs k) := by
  unfold KV at r
  induction r with
  | nil => exact True.intro
  | @cons p q ps qs h t ih =>
    obtain ⟨h1, h2⟩ := h
    by_cases e : p.1 = k
    · have e' : q.1 = k := h1.symm.trans e
      have b : valueAt (q :: qs) k = some q.2 := by simp [valueAt, List.find?_cons, e']
      rw [valV_pos e, b]; exact h2
    · have e' : ¬ q.1 = k := fun z => e (h1.trans z)
      have b : valueAt (q :: qs) k = valueAt qs k := by simp [valueAt, List.find?_cons, e']
      rw [valV_neg e, b]; exact ih
theorem KV.any {kvs : List (κ × V)} {vs : List (κ × Value)} (r : KV kvs vs) (k : κ) : (kvs.any fun kv => decide (kv.1 = k)) = vs.any fun kv => decide (kv.1 = k) := by
  unfold KV at r
  induction r with
  | nil => rfl
  | cons h t ih => rw [List.any_cons, List.any_cons, ih, h.1]
theorem KV.drop {kvs : List (κ × V)} {vs : List (κ × Value)} (r : KV kvs vs) (k : κ) : KV (dropK kvs k) (without vs k) := by
  unfold KV at r ⊢
  unfold dropK without
  induction r with
  | nil => exact .nil
  | @cons p q ps qs h t ih =>
    obtain ⟨h1, h2⟩ := h
    rw [List.filter_cons, List.filter_cons]
    by_cases e : p.1 = k
    · have a : ¬ decide (p.1 ≠ k) = true := by simp [e]
      have b : ¬ decide (q.1 ≠ k) = true := by simp [h1.symm.trans e]
      rw [if_neg a, if_neg b]; exact ih
    · have e' : ¬ q.1 = k := fun z => e (h1.trans z)
      have a : decide (p.1 ≠ k) = true := by simp [e]
      have b : decide (q.1 ≠ k) = true := by simp [e']
      rw [if_pos a, if_pos b]; exact .cons ⟨h1, h2⟩ ih
theorem KV.keys {kvs : List (κ × V)} {vs : List (κ × Value)} (r : KV kvs vs) : kvs.map (·.1) = vs.map (·.1) := by
  unfold KV at r
  induction r with
  | nil => rfl
  | cons h t ih => rw [List.map_cons, List.map_cons, ih, h.1]
theorem KV.length {kvs : List (κ × V)} {vs : List (κ × Value)} (r : KV kvs vs) : kvs.length = vs.length := Paired.length r
end


/-! ### a tracked dict, its keys ints and texts or tuples of these -/
theorem kV_is {P : Program} {w : World} {k : Key} {u : Value} (r : RelV (kV k) u) : (mixKind P w).is k u = true := by
  cases k with
  | inl i => obtain ⟨t, e⟩ := (show ∃ t, u = Value.int i t from r); subst e; exact mixKind_int P w i t
  | inr x => obtain ⟨t, e⟩ := (show ∃ t, u = Value.str x t from r); subst e; exact mixKind_str P w x t
theorem items_are {P : Program} {w : World} : ∀ {ks : List Key} {us : List Value}, Vals (ks.map kV) us → ItemsAre (mixKind P w) ks us
  | [], _, r => by rw [List.map_nil] at r; cases r; exact .nil
  | k :: ks, _, r => by
    rw [List.map_cons] at r
    cases r with
    | cons h t => exact .cons (kV_is h) (items_are t)

/-- raw entries of a dict with tuple keys -/
abbrev KT (H : Hp) : List (List Key × V) → List (List Key × Addr × Value) → Prop := Paired fun p q => p.1 = q.1 ∧ H q.2.1 = some (.tup (p.1.map kV)) ∧ RelV p.2 q.2.2
theorem KT.val {H : Hp} {kvs : List (List Key × V)} {xs : List (List Key × Addr × Value)} (r : KT H kvs xs) (k : List Key) : RelO (valV kvs k) ((atKey xs k).map (·.2)) := by
  induction r with
  | nil => exact True.intro
  | @cons p q ps qs h t ih =>
    obtain ⟨h1, _, h2⟩ := h
    by_cases e : p.1 = k
    · have e' : q.1 = k := h1.symm.trans e
      have b : atKey (q :: qs) k = some q.2 := by simp [atKey, List.find?_cons, e']
      rw [valV_pos e, b]; exact h2
    · have e' : ¬ q.1 = k := fun z => e (h1.trans z)
      have b : atKey (q :: qs) k = atKey qs k := by simp [atKey, List.find?_cons, e']
      rw [valV_neg e, b]; exact ih
theorem KT.keeps {H H' : Hp} {kvs : List (List Key × V)} {xs : List (List Key × Addr × Value)} (r : KT H kvs xs) (ht : ∀ b ys, H b = some (.tup ys) → H' b = some (.tup ys)) : KT H' kvs xs :=
  Paired.mapP r fun _ _ z => ⟨z.1, ht _ _ z.2.1, z.2.2⟩

section
variable {P : Program} {w : World} {H : Hp} {h : Heap} {a : Addr}
theorem rd_of {u : HO} (ok : HOk P w H h) (e : Rd H a u) : ObjOk P w H h a u := e.ok ok
theorem dk_rd {kvs : List (Key × V)} (ok : HOk P w H h) (e : Rd H a (.dK kvs)) : kvs.length ≤ sizeLine ∧ (a == sysModules) = false ∧ ∃ vs, KV kvs vs ∧ h.DictOf (mixKind P w) a vs :=
  show ObjOk P w H h a (.dK kvs) from rd_of ok e
/-- a tracked tuple of ints and texts is a key -/
theorem key_of {ks : List Key} (ok : HOk P w H h) (e : H a = some (.tup (ks.map kV))) : (tupleKind (mixKind P w)).is h ks a := by
  obtain ⟨_, its, r, o, h1, h2, n, h3⟩ := (show ObjOk P w H h a (.tup (ks.map kV)) from ok a _ e)
  exact ⟨o, its.toArray, n, h1, h2, h3, by simpa using items_are r⟩
theorem dt_rd {kvs : List (List Key × V)} (ok : HOk P w H h) (e : Rd H a (.dT kvs)) : kvs.length ≤ sizeLine ∧ (a == sysModules) = false ∧
    ∃ xs, KT H kvs xs ∧ h.DictOfH (tupleKind (mixKind P w)) a xs := by
  obtain ⟨z, y, xs, r, o, es, ep, h1, h2, h3, h4, h5⟩ := (show ObjOk P w H h a (.dT kvs) from rd_of ok e)
  refine ⟨z, y, xs, r, o, es, ep, h1, h2, h3, h4, fun x hx => ?_, h5⟩
  have all : ∀ {l : List (List Key × V)} {m : List (List Key × Addr × Value)}, KT H l m → ∀ x ∈ m, (tupleKind (mixKind P w)).is h x.1 x.2.1 := by
    intro l m q
    induction q with
    | nil => intro x hx; exact nomatch hx
    | @cons p q ps qs hq t ih =>
      intro x hx
      rcases List.mem_cons.mp hx with e | hx
      · subst e
        exact key_of ok (by rw [← hq.1]; exact hq.2.1)
      · exact ih x hx
  exact all r x hx
end

/-- what the dict at a holds at the key y -/
def DGet (H : Hp) (a : Addr) (y : V) (r : Option V) : Prop :=
  (∃ kvs k, Rd H a (.dK kvs) ∧ y = kV k ∧ r = valV kvs k) ∨ ∃ kvs k b, Rd H a (.dT kvs) ∧ y = .ref b ∧ H b = some (.tup (k.map kV)) ∧ r = valV kvs k
/-- the heap behind a[y] = v -/
def DPut (H : Hp) (a : Addr) (y v : V) (H' : Hp) : Prop :=
  (∃ kvs k, H a = some (.dK kvs) ∧ y = kV k ∧ kvs.length < sizeLine ∧ H' = upd H a (.dK (putK kvs k v))) ∨
  ∃ kvs k b, H a = some (.dT kvs) ∧ y = .ref b ∧ H b = some (.tup (k.map kV)) ∧ kvs.length < sizeLine ∧ H' = upd H a (.dT (putK kvs k v))
theorem DGet.k {H : Hp} {a : Addr} {kvs : List (Key × V)} {k : Key} (e : H a = some (.dK kvs)) : DGet H a (kV k) (valV kvs k) := .inl ⟨kvs, k, .inl e, rfl, rfl⟩
theorem DGet.t {H : Hp} {a b : Addr} {kvs : List (List Key × V)} {k : List Key} (e : H a = some (.dT kvs)) (eb : H b = some (.tup (k.map kV))) : DGet H a (.ref b) (valV kvs k) := .inr ⟨kvs, k, b, .inl e, rfl, eb, rfl⟩
theorem DPut.k {H : Hp} {a : Addr} {kvs : List (Key × V)} {k : Key} {v : V} (e : H a = some (.dK kvs)) (hl : kvs.length < sizeLine) : DPut H a (kV k) v (upd H a (.dK (putK kvs k v))) := .inl ⟨kvs, k, e, rfl, hl, rfl⟩
theorem DPut.t {H : Hp} {a b : Addr} {kvs : List (List Key × V)} {k : List Key} {v : V} (e : H a = some (.dT kvs)) (eb : H b = some (.tup (k.map kV))) (hl : kvs.length < sizeLine) :
    DPut H a (.ref b) v (upd H a (.dT (putK kvs k v))) := .inr ⟨kvs, k, b, e, rfl, eb, hl, rfl⟩


section
variable {X : Cx} {pins : List (Addr × Obj)} {σ : St} {H : Hp} {s : Shared} {a : Addr} {y v : V} {u r : Value} {o : Option V} {A : Around} {E : Value → Shared → Prop}

theorem Inv.big (I : Inv X pins σ H s) : sysModules < s.heap.objs.size := by
  have h : mainGlobals < s.heap.objs.size := (I.mod.glob.keeps I.bk).lt
  exact Nat.lt_trans (by decide) h

end

section
variable {X : Cx} {pins : List (Addr × Obj)} {σ : St} {H : Hp} {s : Shared} {a : Addr} {kvs : List (Key × V)} {k : Key} {u : Value} {A : Around} {E : Value → Shared → Prop}
end


/-! ### readings and rules -/
section
variable {X : Cx} {o i e value : Expr} {pos pos' tpos : Pos} {td ty tv : TE}
end


/-! ### displays -/
theorem dk_empty {P : Program} {w : World} {H : Hp} (h : Heap) (hb : sysModules < h.objs.size) : ObjOk P w H (h.push { cls := .type "dict", data := .dict #[] }) h.objs.size (.dK []) :=
  ⟨Nat.zero_le _, beq_eq_false_iff_ne.mpr (Ne.symm (Nat.ne_of_lt hb)), [], .nil, Heap.DictOf.new h⟩
/-- {}, to be a dict of the kind that is wanted -/
def tDNewK : TE := fun _ H Q => ∀ p, H p = none → Q (.ref p) (upd H p (.dK []))
section
variable {X : Cx} {pos : Pos}
theorem pe_dnewK : PE X (.Dict [] [] pos) tDNewK := fun pins s σ H Q I h =>
  wpAny_Dict_empty ⟨.ref s.heap.objs.size, _, I.laid (a := s.heap.objs.size) (o := .dK []) (t' := s.toks) (fun _ _ q => Heap.get?_push_of_some _ q) (Nat.le_refl _) (dk_empty s.heap I.big), rfl, h _ (I.hok.fresh (Nat.le_refl _))⟩
end

/-- the pairs of a display, from the left -/
def tPairs : List (TE × TE) → St → Hp → (List (V × V) → Hp → Prop) → Prop
  | [], _, H, Q => Q [] H
  | (tk, tv) :: r, σ, H, Q => tk σ H fun x H1 => tv σ H1 fun y H2 => tPairs r σ H2 fun ps H3 => Q ((x, y) :: ps) H3
abbrev VV : List (V × V) → List (Value × Value) → Prop := Paired fun p q => RelV p.1 q.1 ∧ RelV p.2 q.2
def PPs (X : Cx) (pos : Pos) (keys : List (Option Expr)) (values : List Expr) (trs : List (TE × TE)) : Prop :=
  ∀ (pins : List (Addr × Obj)) (s : Shared) (σ : St) (H : Hp) (Q : List (V × V) → Hp → Prop), Inv X pins σ H s → tPairs trs σ H Q →
    wpAny (model X.prog X.w) X.A (evalPairs (pairTrees keys values X.env pos)) (fun vs s' => ∃ ps H', Inv X pins σ H' s' ∧ VV ps vs ∧ Q ps H') X.xe s
/-! ### methods -/
/-- a method call o.m(e) of a built-in, with one argument: what must be seen of the text -/
structure M1 (X : Cx) (o : Expr) (m : Str) (apos : Pos) (e : Expr) (cpos : Pos) : Prop where
  base : attributeBase o m X.env (eval o X.env) = eval o X.env
  few : ((backTo cpos (starEach [e] X.env)).all (fun x => !x.1) && (backToKw cpos (keywordEach [] X.env)).all (fun x => x.1.isSome)
    && decide (([e] : List Expr).length + ([] : List Keyword).length + (if ([] : List Keyword).isEmpty then 0 else 1) < 30)) = true
  line : (apos.endLine == cpos.line) = true
  trees : backTo cpos (starEach [e] X.env) = [(false, eval e X.env)]
structure M2 (X : Cx) (o : Expr) (m : Str) (apos : Pos) (e f : Expr) (cpos : Pos) : Prop where
  base : attributeBase o m X.env (eval o X.env) = eval o X.env
  few : ((backTo cpos (starEach [e, f] X.env)).all (fun x => !x.1) && (backToKw cpos (keywordEach [] X.env)).all (fun x => x.1.isSome)
    && decide (([e, f] : List Expr).length + ([] : List Keyword).length + (if ([] : List Keyword).isEmpty then 0 else 1) < 30)) = true
  line : (apos.endLine == cpos.line) = true
  trees : backTo cpos (starEach [e, f] X.env) = [(false, eval e X.env), (false, eval f X.env)]

section
variable {X : Cx} {pins : List (Addr × Obj)} {σ : St} {H : Hp} {s : Shared} {a : Addr} {y d : V} {u r : Value} {o : Option V} {A : Around} {E : Value → Shared → Prop}
end

section
variable {X : Cx} {o e f : Expr} {apos cpos : Pos} {td ty tx : TE}
end

/-! ### dict(d): a copy -/
section
variable {X : Cx} {pins : List (Addr × Obj)} {σ : St} {H : Hp} {s : Shared} {a : Addr} {kvs : List (Key × V)} {A : Around} {E : Value → Shared → Prop}
end


section
variable {X : Cx} {pins : List (Addr × Obj)} {σ : St} {H : Hp} {s : Shared} {a : Addr} {y : V} {u : Value} {A : Around} {E : Value → Shared → Prop}
end
end L2

namespace L2
open PySem PySem.Spec PyProof.Rows

section
variable {prog : Program} {w : World} {A : Around} {E : Value → Shared → Prop}
end

section
variable {X : Cx}
end
end L2

namespace L2
open PySem PySem.Spec PyProof.Rows

section
variable {X : Cx} {pins : List (Addr × Obj)} {σ : St} {H : Hp} {s : Shared} {h' : Heap}
/-! ### locking a thing while a statement runs -/
end
section
variable {X : Cx}
/-! ### one iterator just laid -/
theorem pi_one {tg : Expr} {pins : List (Addr × Obj)} {σ : St} {H : Hp} {s : Shared} {R : It → Hp → Prop} {J : It} {tn : Nat → Heap → Prop} {tk : Nat} (I : Inv X pins σ H s) (o : Obj)
    (T : Turn X.prog X.w X.K tg J [s.heap.objs.size] s.heap.objs.size tn) (st : tn 0 (s.heap.push o)) (q : R J H) : PIE X pins σ tg R (.ref s.heap.objs.size) { s with heap := s.heap.push o, toks := tk } := by
  refine ⟨s.heap.objs.size, [s.heap.objs.size], tn, J, H, rfl, I.kept fun b ob e => Heap.get?_push_of_some _ e, T, st, fun b hb => ?_, q⟩
  have e : b = s.heap.objs.size := by simpa using hb
  subst e
  exact I.fpOk (Nat.le_refl _) (I.hok.fresh (Nat.le_refl _))
end

/-! ### range with a step -/
/-- range(i, j, c): small bounds, n items -/
def RgC (i j c : Int) (n : Nat) : Prop := c ≠ 0 ∧ c.natAbs < 1073741824 ∧ Builtin.Range.small i j c = true ∧ Builtin.Range.rangeSize i j c = n
theorem RgC.neg {i j : Int} (ha : -(2 ^ 62) ≤ i) (ha' : i < 2 ^ 62) (hb : -(2 ^ 62) ≤ j) (hb' : j < 2 ^ 62) : RgC i j (-1) (i - j).toNat :=
  ⟨by decide, by decide, PySem.W.small_down ha ha' hb hb', PySem.W.rangeSize_downNat i j⟩
section
variable {X : Cx} {tg : Expr}
end
/-! ### reversed(list) -/
section
variable {X : Cx} {tg : Expr}
end

/-! ### a str -/
def Its (x : Str) : It := ⟨fun i _ => i < x.cps.size, fun i H v H' => H' = H ∧ ∃ c, x.cps[i]? = some c ∧ v = .str ⟨#[c]⟩, fun i _ => x.cps.size ≤ i⟩
theorem turn_str {P : Program} {w : World} {K : PySem.W.Frag} {tg : Expr} (it : Addr) (x : Str) (t : Tok) (ty : String) (hty : ty = "str_ascii_iterator" ∨ ty = "str_iterator") :
    Turn P w K tg (Its x) [it] it (fun i h => h.IsStrIter it ty x t i) where
  mem := by simp
  obj := fun i h st b hb => by
    have e : b = it := by simpa using hb
    subst e
    obtain ⟨o, e, c, d⟩ := st
    exact ⟨o, e, fun v z => by rw [d] at z; cases z⟩
  keep := fun i h h' st k => let ⟨o, ho, r⟩ := st; ⟨o, k it (by simp) o ho, r⟩
  item := by
    intro X hP hw hK hc i pins s σ H E I hf st hg
    subst hP hw hK
    obtain ⟨f0, f1, f2, f3, f4, f5⟩ := hf it (by simp)
    have W : Walks X.prog X.w X.A it [it] [it] x.cps.size (SignAt x) (fun i h => h.IsStrIter it ty x t i) := by
      rcases hty with e | e
      · rw [e]; exact Walks.strAscii (I.ok.hd hc) it x t
      · rw [e]; exact Walks.strWide (I.ok.hd hc) it x t
    have hno : ["enumerate", "zip", "dict_itemiterator", "dict_reverseitemiterator", "odict_iterator", "itertools.zip_longest", "itertools.pairwise"].contains ty = false := by
      rcases hty with e | e
      · rw [e]; decide
      · rw [e]; decide
    refine W.item i s _ _ hg st fun v h' tk hv st' kk => ?_
    obtain ⟨c, u, hcx, rfl⟩ := hv
    have I1 : Inv X pins σ H { s with heap := h', toks := tk } := I.turned (fun b o hb e => kk b o (by simpa using hb) e) f0 f1 f3 f4 f5
    obtain ⟨oi, e, cc, dd⟩ := id st'
    exact ⟨_, rfl, go_of (s := { s with heap := h', toks := tk }) e cc dd hno ⟨.str ⟨#[c]⟩, H, I1, ⟨u, rfl⟩, ⟨rfl, c, hcx, rfl⟩, st', fun b hb => (hf b hb).1⟩⟩
  done := by
    intro X hP hw hK hc i pins s σ H E I hf st hg
    subst hP hw hK
    obtain ⟨f0, f1, f2, f3, f4, f5⟩ := hf it (by simp)
    have hx : x.cps[i]? = none := Array.getElem?_eq_none hg
    rcases hty with e | e
    · rw [e] at st
      exact wpAny_pyNext_ascii_end (I.ok.hd hc) st hx fun h' eb => ⟨rfl, I.turned (t' := s.toks) (fun b o hb e => eb b o hb e) f0 f1 f3 f4 f5⟩
    · rw [e] at st
      exact wpAny_pyNext_wide_end (I.ok.hd hc) st hx fun h' eb => ⟨rfl, I.turned (t' := s.toks) (fun b o hb e => eb b o hb e) f0 f1 f3 f4 f5⟩
  self := fun A i s Q E st h => by
    rcases hty with e | e
    · rw [e] at st; exact wpAny_pyIter_striter_ascii st h
    · rw [e] at st; exact wpAny_pyIter_striter_wide st h
def iStr (te : TE) : TI := fun σ H R => te σ H fun v H1 => ∃ x, v = .str x ∧ R (Its x) H1
theorem pi_str {X : Cx} {tg e : Expr} {te : TE} (he : PE X e te) : PI X tg e (iStr te) := by
  intro pins s σ H R I h
  refine thn (he pins s σ H _ I h) fun v s1 ⟨y, H1, I1, r1, x, ex, q⟩ => ?_
  subst ex
  obtain ⟨t, rfl⟩ := r1
  cases ha : x.cps.all (· < 128)
  · exact wpAny_pyIter_wide ha (pi_one (tk := s1.toks) I1 _ (turn_str _ x t "str_iterator" (.inr rfl)) ⟨_, Heap.get?_push_size _ rfl, rfl, rfl⟩ q)
  · exact wpAny_pyIter_ascii ha (pi_one (tk := s1.toks) I1 _ (turn_str _ x t "str_ascii_iterator" (.inl rfl)) ⟨_, Heap.get?_push_size _ rfl, rfl, rfl⟩ q)

/-! ### a dict's keys: any dict's entries -/
section
variable {prog : Program} {w : World} {A : Around} {E : Value → Shared → Prop} {s : Shared}
end

/-! ### a locked dict -/
section
variable {X : Cx} {pins : List (Addr × Obj)} {σ : St} {H : Hp} {s : Shared} {d : Addr} {o : Obj}
end

section
variable {P : Program} {w : World} {K : PySem.W.Frag} {tg : Expr} {d : Addr} {o : Obj} {es : Array DictEntry} {ep : Nat}
end

/-! ### for k in d, d.keys(), d.values(), d.items() -/
section
variable {X : Cx} {tg e : Expr} {td : TE} {apos cpos : Pos}
end

/-! ### enumerate(list) -/
/-! ### zip(list, list) -/
end L2

section 
namespace Bits
open PySem PyProof.Rows

end Bits
end 

section 
namespace TL
open PySem PySem.Builtin PySem.Builtin.Str PySem.StrLaws

abbrev tl (x : Str) : List Nat := x.cps.toList
/-! ### the list functions -/
/-- S stands at the head of l -/
def pre (S l : List Nat) : Bool := l.take S.length == S
/-- what stands before the first S, and behind it -/
def par (S : List Nat) : List Nat → List Nat → Option (List Nat × List Nat)
  | _, [] => none
  | acc, c :: r => if pre S (c :: r) = true then some (acc, (c :: r).drop S.length) else par S (acc ++ [c]) r

/-! ### the model's split and partition are these -/
/-! ### computing spl and par -/
/-! ### digits -/
/-! ### words: x.split() -/
end TL
end 

namespace L2
open PySem PySem.Spec PyProof.Rows

section
variable {X : Cx} {pins : List (Addr × Obj)} {σ : St} {H : Hp} {s : Shared} {Q : VK}
end

section
variable {X : Cx}

/-! ### of a text alone -/
/-! ### of a text and a text -/
end

section
variable {X : Cx} {o e : Expr} {to te : TE}
end
end L2

namespace L2
open PySem PySem.Spec PyProof.Rows

section
variable {X : Cx}
end

/-! ### slices of a text -/
/-- z[lo:hi] -/
def cutS (z : Str) (lo hi : Option Int) : Str :=
  ⟨((z.cps.toList.drop (HT.sIx z.length 0 lo)).take (HT.sIx z.length z.length hi - HT.sIx z.length 0 lo)).toArray⟩
end L2

namespace Att
open PySem PySem.W PySem.Calls PyProof.Rows

/-! ### the script -/
theorem ints_of_wellAll {P : Params} {h : Heap} : ∀ (ns : List Int) (vs : List Value), WellAll P h vs (ns.map WData.int) → IntsAre vs ns := by
  intro ns
  induction ns with
  | nil =>
    intro vs w
    rw [List.map_nil] at w
    cases w
    exact .nil
  | cons n ns ih =>
    intro vs w
    rw [List.map_cons] at w
    cases w with
    | cons a b =>
      cases a
      exact .cons _ _ (ih _ b)

theorem script_of {l : OpenLaw} {n : Nat} (hn : l.most = some n) {P : Params} {h : Heap} {args : List WData} {vals : List Value}
    (hpre : l.row.toRowW.claim.pre args = true) (hwl : WellAll P h vals args) :
    ∃ a vs ns, vals = [Value.ref a] ∧ args = [WData.list (ns.map WData.int)] ∧ h.get? a = some { cls := .type "list", data := .seq vs.toArray } ∧ IntsAre vs ns ∧ ns.length ≤ n := by
  have hsh : WShape.hasAll [] args [.list .int] = true := (pre_splitW hpre).1
  have hc : l.pre.holds [] { args := args } = true := (pre_splitW hpre).2
  obtain ⟨d, r, rfl, h1, h2⟩ := hasAllW_cons hsh
  obtain rfl := hasAllW_nil h2
  obtain ⟨xs, rfl, h3⟩ := hasW_list h1
  obtain ⟨ns, rfl⟩ := items_int h3
  have hlen : ns.length ≤ n := by
    unfold OpenLaw.pre at hc
    have h4 : (WTm.not (.lt (.lit (.int (n : Int))) (.len (.arg 0)))).holds [] { args := [.list (ns.map .int)] } = true := by
      have h4 := (holds_andW hc).1
      rw [hn] at h4
      exact h4
    have h5 := condW_of h4 (w_not (w_lt w_lit (w_len_list (w_arg rfl))))
    rw [List.length_map] at h5
    refine Nat.le_of_not_lt fun q => ?_
    have q' : (n : Int) < ((ns.length : Nat) : Int) := by omega
    first
      | (rw [decide_eq_true q'] at h5; exact absurd h5 (by decide))
      | (simp at h5; omega)
  cases hwl with
  | cons w1 w2 =>
    cases w2
    cases w1 with
    | list ho hall => exact ⟨_, _, ns, rfl, rfl, ho, ints_of_wellAll ns _ hall, hlen⟩

theorem post_true (l : OpenLaw) (args : List WData) : l.row.toRowW.claim.post args (.bool true) args = true :=
  postW_of (r := l.row.toRowW) (X := (true == true))
    (show WShape.has [] (.bool true) .bool = true by first | rfl | decide | simp [WShape.has, WShape.arms, WShape.armsAll])
    (show (WTm.eq .res (.lit (.bool true))).value [] { args := args, res := some (.bool true), after := args } = some (.bool (true == true)) from w_eq_bool (w_res rfl) w_lit) rfl

/-! ### the attachment: holds_open's last premise (the goal 'hc' behind k_head) from a wpAny of the law's body -/
/-- the same from a codeAny of the CALL (for a layer whose function contracts speak of calls) -/
theorem attach_call {l : OpenLaw} {n : Nat} {q : Program} {loose : List Str} {XP : (Str → Option Value) → Heap → Prop} {YP : World → Heap → Prop} {d : DefRec}
    (hn : l.most = some n) (hdf : d.params.defaults = [])
    (call : ∀ (w : World) (s₀ s₁ : Shared) (mg mb : Str → Option Value) (fa : Addr) (o : Obj) (pm cd doc : Value) (a : Addr) (vs : List Value) (ns : List Int),
      Ground q loose [] XP w s₀ mg mb s₁.heap → YP w s₁.heap →
      s₁.heap.get? fa = some o → o.data = .func (docDef d.name d.params d.body d.scope pm cd doc) → s₁.heap.CodeRec cd d.name → mg d.name = some (.ref fa) →
      s₁.heap.get? a = some { cls := .type "list", data := .seq vs.toArray } → IntsAre vs ns → ns.length ≤ n → s₁.gens = #[] →
      codeAny (model l.prog w) callerA (.call (.ref fa) ⟨[.ref a], []⟩) (fun r s' => r = .ok (.ret (.bool true)) ∧ OldK s₁.heap s'.heap ∧ s'.os = s₁.os ∧ AllBare s'.gens) s₁) :
    WalkO q loose XP YP l.row.toRowW d [] (fun f vs => PySem.call f vs) := by
  intro w s₀ s₁ mg mb G Y fa o pm cd doc dV kV ho hd hcd hD hmg hg args vals as hpre hlay hrd hwl hlo
  obtain rfl : dV = .none := Dflts.none hD hdf
  obtain rfl : kV = .none := Dflts.noKw hD
  obtain ⟨a, vs, ns, rfl, rfl, hobj, hints, hlen⟩ := script_of hn hpre hwl
  refine enter_call (codeAny_mono (call w s₀ s₁ mg mb fa o pm cd doc a vs ns G Y ho (fd_plain hd) hcd hmg hobj hints hlen hg) fun r s' hq => ?_)
  obtain ⟨rfl, h2, h3, h4⟩ := hq
  exact ⟨.inl ⟨.bool true, .bool true, [], rfl, fun _ => rfl, .bool true, post_true l _, fun _ => ⟨List.Pairwise.nil, fun _ hm => (nomatch hm)⟩⟩, h2, h3, h4⟩

/-! ### rules over ANY heap (no ledger) from facts about the written part K: the library's own take a ledger (News) for what they write -/
section
variable {prog : Program} {w : World} {A : Around} {E : Value → Shared → Prop} {s : Shared} {K : Frag}

/-! the whole heap as the ledger: makes every rule that writes through a ledger a rule over any heap -/
end
end Att

namespace L2
open PySem PySem.Spec PyProof.Rows

theorem vals_ints : ∀ {vs : List Value} {ns : List Int}, IntsAre vs ns → Vals (ns.map V.int) vs
  | _, _, .nil => .nil
  | _, _, .cons n t h => .cons ⟨t, rfl⟩ (vals_ints h)

/-- nothing is tracked but the script, known to the object (or it is an object of the module) -/
def Only (H : Hp) : Prop := ∀ b, H b = none ∨ ∃ o xs, H b = some (.frz o (.lst xs))

/-- THE HEAD: the law's promise, at the heap behind the top. F, the promise of the law's def, may use that base is part of the heap (so K.In base, base.Ns mainGlobals mg stand in Mod) -/
theorem law_call {P : Program} {w : World} {K : PySem.W.Frag} {mg mb : Str → Option Value} {CX : CXT} {k : Nat} {fa a : Addr} {fd : FuncData} {x : Str} {sp : Sp} {s₁ : Shared} {vs : List Value} {ns : List Int}
    (KX : K.In s₁.heap) (hns : s₁.heap.Ns mainGlobals mg) (hb : s₁.heap.Ns builtinsNs mb) (hbb : ∀ x : Str, x ≠ "__name__" → mb x = bootBuiltins x) (hlim : s₁.heap.NoLimit) (hg : s₁.gens = #[])
    (ha : s₁.heap.get? a = some { cls := .type "list", data := .seq vs.toArray }) (hi : IntsAre vs ns) (hl : ns.length ≤ sizeLine) (hr : Room k callerA)
    (F : ∀ base : Heap, K.In base → base.Ns mainGlobals mg → FnOk P w K mg base CX k fa fd [x] sp) (hbind : ∀ (s : Shared) (u : Value), BindsTo s fd ⟨[u], []⟩ [(x, u)])
    (hsp : ∀ H : Hp, Only H → SqL K H a (ns.map V.int) → sp [.ref a] H (fun v _ => v = .bl true) fun _ _ _ => False)
    (hCX : ∀ H e s', CX [] H s₁ (fun _ _ _ => False) e s' → False) :
    codeAny (model P w) callerA (.call (.ref fa) ⟨[.ref a], []⟩) (fun r s' => r = .ok (.ret (.bool true)) ∧ OldK s₁.heap s'.heap ∧ s'.os = s₁.os ∧ AllBare s'.gens) s₁ := by
  have rv := vals_ints hi
  have lenV := hi.length
  -- from an abstract heap in which nothing but the script may be tracked
  have core : ∀ H : Hp, Only H → SqL K H a (ns.map V.int) → HOk P w H s₁.heap → (∀ b, H b ≠ none → b = a) → (H a ≠ none → K.lookup a = none) →
      codeAny (model P w) callerA (.call (.ref fa) ⟨[.ref a], []⟩) (fun r s' => r = .ok (.ret (.bool true)) ∧ OldK s₁.heap s'.heap ∧ s'.os = s₁.os ∧ AllBare s'.gens) s₁ := by
    intro H hO hS hok hA hK
    have base_of : ∀ {b : Addr} {o : Obj}, s₁.heap.get? b = some o → H b = none → (hidT s₁.heap H).get? b = some o := fun e n => hidT_get e n
    have noA : ∀ {b : Addr} {o : Obj} {es : Array DictEntry} {ep : Nat}, s₁.heap.get? b = some o → o.data = .dict es ep → H b = none := fun {b o es ep} e d => by
      cases q : H b with
      | none => rfl
      | some u =>
        have e' : b = a := hA b (by rw [q]; simp)
        subst e'
        rw [ha] at e; cases e
        have d' : Data.seq vs.toArray _ = Data.dict es ep := d
        cases d'
    have nsK : ∀ {b : Addr} {m : Str → Option Value}, s₁.heap.Ns b m → (hidT s₁.heap H).Ns b m := fun {b m} ⟨o, es, ep, e, d, r⟩ => ⟨o, es, ep, base_of e (noA e d), d, r⟩
    have hKb : K.In (hidT s₁.heap H) := fun b o e => base_of (KX b o e) (by
      cases q : H b with
      | none => rfl
      | some u =>
        have e' : b = a := hA b (by rw [q]; simp)
        subst e'
        rw [hK (by rw [q]; simp)] at e; cases e)
    have hM : Mod K mg (hidT s₁.heap H) := ⟨hKb, nsK hns, ⟨mb, nsK hb, hbb⟩, let ⟨mc, h1, h2⟩ := hlim; ⟨mc, nsK h1, h2⟩⟩
    have e0 : Env0 P w K mg (hidT s₁.heap H) callerA [] s₁ H := ⟨rfl, hM, fun b o e => of_hidT e, Nat.le_of_eq (hidT_size _ _), trivial, fun b hb => absurd (show b ∈ ([] : List Addr) from hb) (by simp), hok, .of_eq hg⟩
    refine codeAny_mono ((F _ hKb (nsK hns)).run callerA [] s₁ H ⟨[.ref a], []⟩ [.ref a] [.ref a] _ _ hr e0 (hbind s₁ (.ref a)) (.cons rfl .nil) (hsp H hO hS)) fun r s' h => ?_
    cases r with
    | error e => exact (hCX H e s' h).elim
    | ok fl =>
      cases fl with
      | next => exact False.elim h
      | brk => exact False.elim h
      | cont => exact False.elim h
      | ret u =>
        obtain ⟨v, H', os, bare, un, hok', r', q⟩ := h
        have q' : v = .bl true := q
        subst q'
        obtain rfl : u = Value.bool true := r'
        refine ⟨rfl, OldK.of_keep fun b o e => ?_, os, bare⟩
        cases q : H b with
        | none => exact un.keep b o e q (by intro z; exact absurd (show b ∈ ([] : List Addr) from z) (by simp)) (by simp)
        | some u =>
          rcases hO b with z | ⟨ob, xs, z⟩
          · rw [q] at z; cases z
          · have z2 := un.frzs b ob _ z
            obtain ⟨e1, _⟩ := hok b _ z
            obtain ⟨e2, _⟩ := hok' b _ z2
            rw [e] at e1; cases e1
            exact e2
  cases hk : K.lookup a with
  | some o =>
    -- the script is one of the module's own objects
    have e := KX a o hk
    rw [ha] at e
    cases e
    refine core (fun _ => none) (fun _ => .inl rfl) (.inr ⟨_, vs.toArray, _, hk, rfl, rfl, rfl, by rw [List.size_toArray, lenV]; exact hl, by simpa using rv⟩) (fun b u z => by have z' : (none : Option HO) = some u := z; cases z') (fun b z => absurd rfl z) fun z => absurd rfl z
  | none =>
    refine core (fun b => if b = a then some (.frz { cls := .type "list", data := .seq vs.toArray } (.lst (ns.map V.int))) else none) (fun b => ?_) (.inl (.inr ⟨{ cls := .type "list", data := .seq vs.toArray }, if_pos rfl⟩)) (fun b u z => ?_) (fun b z => ?_) fun _ => hk
    · by_cases hb : b = a
      · exact .inr ⟨_, _, if_pos hb⟩
      · exact .inl (if_neg hb)
    · by_cases hb : b = a
      · have z' := (if_pos hb).symm.trans z
        cases z'
        subst hb
        exact ⟨ha, by rw [List.length_map]; exact hl, vs, _, rv, ha⟩
      · have z' := (if_neg hb).symm.trans z
        cases z'
    · by_cases hb : b = a
      · exact hb
      · exact absurd (if_neg hb) z
end L2

namespace L2
open PySem PySem.Spec PyProof.Rows

abbrev KOf {K : PySem.W.Frag} {h : Heap} (_ : K.In h) : PySem.W.Frag := K

/-- the goal that k_head leaves (case hc), from the law's promise. F gives the function object fd (K's own) once, then the promise over every base -/
theorem walk_of {l : PySem.W.OpenLaw} {n k : Nat} {q : Program} {loose : List Str} {XP : (Str → Option Value) → Heap → Prop} {YP : World → Heap → Prop} {d : DefRec} {K : Params → PySem.W.Frag} {CX : World → CXT} {sp : World → Sp} {x : Str}
    (hn : l.most = some n) (hn2 : n ≤ sizeLine) (hdf : d.params.defaults = []) (hr : Room k callerA)
    (hY : ∀ (w : World) (h : Heap), YP w h → (K w.params).In h)
    (F : ∀ (w : World) (mg : Str → Option Value) (fa : Addr) (h : Heap), (K w.params).In h → h.Ns mainGlobals mg → mg d.name = some (.ref fa) →
      ∃ fd : FuncData, (∀ (s : Shared) (u : Value), BindsTo s fd ⟨[u], []⟩ [(x, u)]) ∧
        ∀ base : Heap, (K w.params).In base → base.Ns mainGlobals mg → FnOk l.prog w (K w.params) mg base (CX w) k fa fd [x] (sp w))
    (hsp : ∀ (w : World) (H : Hp) (a : Addr) (ns : List Int), ns.length ≤ n → Only H → SqL (K w.params) H a (ns.map V.int) → sp w [.ref a] H (fun v _ => v = .bl true) fun _ _ _ => False)
    (hCX : ∀ (w : World) (H : Hp) (s : Shared) (e : Value) (s' : Shared), CX w [] H s (fun _ _ _ => False) e s' → False) :
    PySem.W.WalkO q loose XP YP l.row.toRowW d [] (fun f vs => PySem.call f vs) := by
  refine Att.attach_call hn hdf fun w s₀ s₁ mg mb fa o pm cd doc a vs ns G Y ho hd hcd hmg hobj hints hlen hg => ?_
  have KX := hY w _ Y
  obtain ⟨fd, hb, hF⟩ := F w mg fa _ KX G.T.g hmg
  exact law_call KX G.T.g G.T.b G.T.builtins G.T.nolimit hg hobj hints (Nat.le_trans hlen hn2) hr hF hb (fun H hO hS => hsp w H a ns hlen hO hS) fun H e s' => hCX w H s₁ e s'
end L2

/- THE LAST THEOREM (shape; LID, My.* are yours):
   My.Adr: a structure of the addresses that your layer names (classes, functions); My.Txt K t: a structure (Prop) of the equations over K;
   My.txt_mk : {K} {implicit addresses ..} (e1 : nsIn K mainGlobals "law" = some (some (.ref f))) (e2 : K.lookup f = some ⟨oc, od, .func (fnOf "law" "law" params body scope dV kV doc pm an cdv ct), sl⟩) (e3 : codeIn K cdv "law" = true) .. : ∃ t, My.Txt K t

set_option maxRecDepth 100000 in
set_option maxHeartbeats 0 in
theorem PySem.Challenge.cw_LID_holds : PySem.Challenge.rw_LID.Holds := by
  w_on; o_law; k_head; (case hw => w_witness2)
  k_fill
  refine L2.walk_of (l := PySem.Challenge.rw_LID) (n := 63) (k := 40) (x := "script") (CX := fun w => ..) (sp := fun _ => My.sp_law) rfl (by decide) rfl ⟨rfl, by decide, by decide⟩ (fun w h Y => PySem.W.kIn_of Y) ?F ?S ?C
  case F =>
    intro w mg fa h KX G hmg
    have T : ∃ t, My.Txt (L2.KOf KX) t := by
      dsimp only [L2.KOf]                          -- K must stand as «<heap const> w.params» for k_is
      refine' My.txt_mk ?e1 ?e2 ?e3 ..
      (case e1 => PySem.W.k_is)                    -- in the order: a name -> its address -> its object -> its parts
      (case e2 => PySem.W.k_is)
      ..
    obtain ⟨t, T⟩ := T
    have e0 := hmg.symm.trans (PySem.W.mg_of KX G T.law)
    cases e0                                       -- fa is the law's own address
    exact ⟨_, fun s u => .of_eq rfl, fun base kb nb => My.law_fn T kb nb⟩     -- if «.of_eq rfl» comes too early: refine' ⟨_, ?b, fun base kb nb => My.law_fn T kb nb⟩; exact fun s u => .of_eq rfl
  case S => exact fun w H a ns hl hO hS => ..
  case C => exact ..
(the tactic k_is has no namespace: write k_is) -/

/-! SHORT WORDS over the layer: a def of the text, its body, what a loop and a test want. -/
namespace L2
open PySem PySem.Spec PyProof.Rows

/-! ### the text by places -/
def defArgs (s : Stmt) : Arguments := match s with
  | .FunctionDef _ a _ _ _ _ _ _ _ _ => a
  | _ => { posonlyargs := [], args := [], vararg := none, kwonlyargs := [], kw_defaults := [], kwarg := none, defaults := [] }
def defBody (s : Stmt) : List Stmt := match s with
  | .FunctionDef _ _ b _ _ _ _ _ _ _ => b
  | _ => []
def defScope (s : Stmt) : Scope := match s with
  | .FunctionDef _ _ _ _ _ _ sc _ _ _ => sc
  | _ => { kind := .function, names := [], isGenerator := false, isCoroutine := false }

/-! ### no exception leaves a def -/
abbrev CX0 : CXT := fun _ _ _ _ _ _ => False
abbrev E0 : XK := fun _ _ _ => False
/-! ### a def (or method) of the text as it stands behind the top -/
structure Fun (K : PySem.W.Frag) (x qual : Str) (st : Stmt) (f : Addr) (fd : FuncData) : Prop where
  ex : ∃ (oc : Value) (od : Option Addr) (kV doc pm : Value) (an : Option Addr) (cdv ct : Value) (osl : Array (Option Value)),
    fd = PySem.W.fnOf x qual (defArgs st) (defBody st) (defScope st) .none kV doc pm an cdv ct ∧ K.lookup f = some ⟨oc, od, .func fd, osl⟩ ∧ PySem.W.codeIn K cdv qual = true
  kp : PySem.W.keepIn K (.ref f) = true
section
variable {P : Program} {w : World} {K : PySem.W.Frag} {mg : Str → Option Value} {base : Heap}
/-- THE RULE for a def: its body as a term of rules, and the reading of that term -/
theorem Fun.ok {x qual : Str} {st : Stmt} {f : Addr} {fd : FuncData} {N ps : List Str} {k : Nat} {sp : Sp} (F : Fun K x qual st f fd) (S : FnScope N ps (defScope st)) (len : ∀ vs H Q E, sp vs H Q E → vs.length = ps.length)
    (hbody : ∀ (cdv : Value) (A : Around) (outer : List Env) (s : Shared) (H : Hp) (vs : List V) (Q : VK) (E : XK), Room k (A.deeper (envOfC qual (defScope st) s.heap.objs.size f cdv)) → sp vs H Q E →
      ∃ t, PSs (cxOf CX0 P w K mg base N qual (defScope st) f cdv A outer s H E).nox (defBody st) t ∧ t { nx := fun _ H' => Q .non H', rt := Q } (start N vs) H) : FnOk P w K mg base CX0 (k + 1) f fd ps sp := by
  obtain ⟨oc, od, kV, doc, pm, an, cdv, ct, osl, rfl, lk, hcd⟩ := F.ex
  refine fn_of lk hcd S len fun A outer s H vs Q E hr hsp => ?_
  obtain ⟨t, h, q⟩ := hbody cdv A outer s H vs Q E hr hsp
  exact ⟨t, h.nox, q⟩
/-- how its arguments bind (no defaults): h is «fun _ _ _ _ _ _ us hl => match us, hl with | [_, _], _ => rfl», one _ a parameter -/
theorem Fun.binds {x qual : Str} {st : Stmt} {f : Addr} {fd : FuncData} {ps : List Str} (F : Fun K x qual st f fd)
    (h : ∀ (kV doc pm : Value) (an : Option Addr) (cdv ct : Value) (us : List Value), us.length = ps.length → bindArgs (PySem.W.fnOf x qual (defArgs st) (defBody st) (defScope st) .none kV doc pm an cdv ct) ⟨us, []⟩ = pure (ps.zip us)) : Binds K fd ps [] := by
  obtain ⟨oc, od, kV, doc, pm, an, cdv, ct, osl, rfl, lk, hcd⟩ := F.ex
  exact .all (h kV doc pm an cdv ct)
theorem fun_mk {x qual : Str} {st : Stmt} {f : Addr} {oc : Value} {od an : Option Addr} {osl : Array (Option Value)} {kV doc pm cdv ct : Value} (l : K.lookup f = some ⟨oc, od, .func (PySem.W.fnOf x qual (defArgs st) (defBody st) (defScope st) .none kV doc pm an cdv ct), osl⟩)
    (c : PySem.W.codeIn K cdv qual = true) (k : PySem.W.keepIn K (.ref f) = true) : Fun K x qual st f (PySem.W.fnOf x qual (defArgs st) (defBody st) (defScope st) .none kV doc pm an cdv ct) := ⟨⟨oc, od, kV, doc, pm, an, cdv, ct, osl, rfl, l, c⟩, k⟩
end
/-! ### expressions in short: the name that stands in the i-th slot -/
section
variable {X : Cx}
theorem pv (i : Nat) {x : Str} {pos : Pos} (hN : X.N[i]? = some x := by rfl) (hv : Vis X.env.scope x := by first | exact Or.inl rfl | exact Or.inr (Or.inl rfl) | exact Or.inr (Or.inr rfl)) (hd : (x == ("__debug__" : Str)) = false := by decide)
    (hcd : (x == ("__classdict__" : Str)) = false := by decide) : PE X (.Name x pos) (tVar i) := pe_var hN hv hd hcd
end

/-! ### tests -/
theorem iteF {A B : Prop} (h : B) : if false = true then A else B := by
  rw [if_neg Bool.false_ne_true]
  exact h
theorem iteT {A B : Prop} (h : A) : if true = true then A else B := by
  rw [if_pos rfl]
  exact h
/-! ### heaps -/
/-- all that was tracked is as it was -/
def Same (H H' : Hp) : Prop := ∀ b o, H b = some o → H' b = some o
theorem Same.refl (H : Hp) : Same H H := fun _ _ h => h
theorem Same.trans {H H1 H2 : Hp} (a : Same H H1) (b : Same H1 H2) : Same H H2 := fun c o h => b c o (a c o h)
theorem Same.free {H H' : Hp} (e : Same H H') {l : Addr} (h : H' l = Option.none) : H l = Option.none := by
  cases q : H l with
  | none => rfl
  | some o =>
    rw [e l o q] at h
    cases h
theorem Same.seq {K : PySem.W.Frag} {H H' : Hp} {a : Addr} {xs : List V} (e : Same H H') (h : SqL K H a xs) : SqL K H' a xs := by
  rcases h with (h | ⟨o, h⟩) | h
  · exact .inl (.inl (e _ _ h))
  · exact .inl (.inr ⟨o, e _ _ h⟩)
  · exact .inr h

/-! ### a dict's pairs: keys that differ -/
section
variable {κ : Type} [DecidableEq κ]
end
/-! ### lists -/
/-- a new instance and its __init__ leave all that was tracked as it was -/
theorem Same.made {H H1 : Hp} {x dx C : Addr} (nx : H x = Option.none) (nd : H dx = Option.none) (k : ∀ b o, (upd (upd H dx (.own x)) x (.ins C dx [])) b = some o → b ≠ x → H1 b = some o) : Same H H1 := fun b o e =>
  k b o (by rw [upd_ne (ne_of_none e nx), upd_ne (ne_of_none e nd)]; exact e) (ne_of_none e nx)
end L2

set_option Elab.async false
set_option linter.all false
set_option maxRecDepth 100000
set_option maxHeartbeats 4000000
namespace L2
open PySem PySem.Spec PyProof.Rows

/-! ### defs of the text by their names alone -/
/-- its parameters are bound in their order -/
def BindA (fd : FuncData) (ps : List Str) : Prop := ∀ us : List Value, us.length = ps.length → bindArgs fd ⟨us, []⟩ = pure (ps.zip us)
/-- the def x of the text stands in the module -/
def Has (K : PySem.W.Frag) (mg : Str → Option Value) (x : Str) (st : Stmt) (ps : List Str) : Prop :=
  ∃ (f : Addr) (fd : FuncData), Fun K x x st f fd ∧ mg x = some (.ref f) ∧ BindA fd ps
/-- the def x may be called: its promise is sp -/
def Cal (P : Program) (w : World) (K : PySem.W.Frag) (mg : Str → Option Value) (base : Heap) (k : Nat) (x : Str) (ps : List Str) (sp : Sp) : Prop :=
  ∃ (f : Addr) (fd : FuncData), mg x = some (.ref f) ∧ PySem.W.keepIn K (.ref f) = true ∧ BindA fd ps ∧ (∃ oc od osl, K.lookup f = some ⟨oc, od, .func fd, osl⟩) ∧ FnOk P w K mg base CX0 k f fd ps sp
section
variable {P : Program} {w : World} {K : PySem.W.Frag} {mg : Str → Option Value} {base : Heap}
theorem has_mk {x : Str} {st : Stmt} {ps : List Str} {h : Heap} {f : Addr} {oc : Value} {od an : Option Addr} {osl : Array (Option Value)} {kV doc pm cdv ct : Value} (X : K.In h) (G : h.Ns mainGlobals mg)
    (a : PySem.W.nsIn K mainGlobals x = some (some (.ref f)))
    (l : K.lookup f = some ⟨oc, od, .func (PySem.W.fnOf x x (defArgs st) (defBody st) (defScope st) .none kV doc pm an cdv ct), osl⟩) (c : PySem.W.codeIn K cdv x = true) (k : PySem.W.keepIn K (.ref f) = true)
    (hb : ∀ (kV doc pm : Value) (an : Option Addr) (cdv ct : Value) (us : List Value), us.length = ps.length → bindArgs (PySem.W.fnOf x x (defArgs st) (defBody st) (defScope st) .none kV doc pm an cdv ct) ⟨us, []⟩ = pure (ps.zip us)) : Has K mg x st ps :=
  have F := fun_mk (st := st) l c k
  ⟨f, _, F, PySem.W.mg_of X G a, hb kV doc pm an cdv ct⟩
end
section
variable {X : Cx} {k : Nat} {ps : List Str} {sp : Sp} {x : Str} {p pos : Pos} {e : Expr} {es : List Expr} {t : TA}
end

/-! ### is, of bools; isinstance; list(text) -/
section
variable {X : Cx}
theorem cr_isinst : CallR X (.builtin "isinstance") (fun xs H Q => ∃ x n t b, xs = [x, .ty n] ∧ TyOf X.K H x t ∧ PySem.W.kitOne X.K t (.type n) = some b ∧ Q (.bl b) H) := by
  intro pins s σ H xs us Q I r h
  obtain ⟨x, n, t, b, rfl, ty, e, q⟩ := h
  obtain ⟨u, u', rfl, r1, r2⟩ := vals2 r
  cases r2
  exact isinst_ok I r1 ty e fun tk => ⟨.bl b, H, I.tok tk, rfl, q⟩
end

/-! ### tables of the module with text keys -/
def Tab (K : PySem.W.Frag) (a : Addr) (D : List (Str × V)) : Prop :=
  (a == sysModules) = false ∧ ∃ o es ep, K.lookup a = some o ∧ o.ExactDict ∧ o.data = .dict es ep ∧ KTD.Rows RelV es.toList D
section
variable {prog : Program} {w : World} {A : Around} {E : Value → Shared → Prop} {s : Shared} {K : PySem.W.Frag} {a : Addr} {D : List (Str × V)} {k : Str} {tk : Tok}
theorem Tab.get {Q : Option Value → Shared → Prop} (T : Tab K a D) (kin : K.In s.heap)
    (h1 : ∀ d v, KTD.datumAt k D = some d → RelV d v → Q (some v) { s with toks := s.toks + 1 })
    (h2 : KTD.datumAt k D = none → Q none { s with toks := s.toks + 1 }) :
    wpAny (model prog w) A (dictGet a (.str k tk)) Q E s := by
  obtain ⟨_, o, es, ep, lk, _, dt, rows⟩ := T
  have gt := kin a o lk
  have hex : (es.all fun e => isExactStrKey e.key) = true := by
    obtain ⟨l⟩ := es
    simpa using rows.exact
  have look : findBy (fun k v => v.isStr k) es k = (es.toList.find? fun e => e.key.isStr k).map (·.val) := by
    obtain ⟨l⟩ := es
    simp [findBy]
  have fin : Q (findBy (fun k v => v.isStr k) es k) { s with toks := s.toks + 1 } := by
    rw [look]
    cases z : KTD.datumAt k D with
    | none =>
      rw [rows.find_none z]
      exact h2 z
    | some d =>
      obtain ⟨v, hv, rv⟩ := rows.find_some z
      rw [hv]
      exact h1 d v z rv
  rw [findBy_of_findIdx?] at fin
  unfold dictGet
  try with_reducible refine wpAny_holding ?_
  refine wpAny_bind (wpAny_pyHash_str ?_)
  refine wpAny_bind (KTD.kt_dictFind_strs (s := { s with toks := s.toks + 1 }) gt dt hex ?_)
  cases z : es.findIdx? fun e => e.key.isStr k with
  | none =>
    rw [z] at fin
    exact wpAny_pure fin
  | some i =>
    rw [z] at fin
    refine wpAny_bind (wpAny_dictEntries (s := { s with toks := s.toks + 1 }) gt dt ?_)
    exact wpAny_pure fin
theorem Tab.type (T : Tab K a D) (kin : K.In s.heap) : s.TypeIs (.ref a) "dict" := by
  obtain ⟨_, o, es, ep, lk, ex, _⟩ := T
  exact ⟨o, kin a o lk, ex.1⟩
theorem Tab.item {Q : Value → Shared → Prop} (T : Tab K a D) (kin : K.In s.heap) {d : V} (hd : KTD.datumAt k D = some d)
    (h : ∀ v, RelV d v → Q v { s with toks := s.toks + 1 }) : wpAny (model prog w) A (getItem (.ref a) (.str k tk)) Q E s := by
  have ty := T.type kin
  unfold getItem
  try with_reducible refine wpAny_holding ?_
  refine wpAny_bind (wpAny_sequenceKey ty (by decide) ?_)
  refine wpAny_bind ?_
  refine wpAny_callSpecial?_slot (name := Str.ofString "__getitem__") ty slot_dict_getitem ?_
  refine wpAny_call_entry slot_dict_getitem ty entry_dict_getitem ?_ (args_dict_getitem _ _)
  show wpAny _ _ (dictGet a (.str k tk) >>= _) _ _ s
  refine wpAny_bind (T.get kin (fun d' v e r => ?_) fun e => ?_)
  · rw [hd] at e
    cases e
    exact wpAny_pure ⟨v, rfl, wpAny_pure (h v r)⟩
  · rw [hd] at e
    cases e
end
section
variable {X : Cx} {o e f : Expr} {pos apos cpos : Pos} {td ty tx : TE} {a : Addr} {D : List (Str × V)}
end

/-! ### heaps -/
/-- all but the thing at p is as it was -/
def Keep (p : Addr) (H H' : Hp) : Prop := ∀ b o, H b = some o → b ≠ p → H' b = some o
theorem Keep.refl (p : Addr) (H : Hp) : Keep p H H := fun _ _ h _ => h
theorem Keep.trans {p : Addr} {H H1 H2 : Hp} (a : Keep p H H1) (b : Keep p H1 H2) : Keep p H H2 := fun c o h n => b c o (a c o h n) n
theorem Same.keep {p : Addr} {H H' : Hp} (a : Same H H') : Keep p H H' := fun c o h _ => a c o h
theorem Keep.new {p q : Addr} {H H' : Hp} {o : HO} (a : Keep p H H') (n : H' q = none) : Keep p H (upd H' q o) := fun c u h m => by
  have e := a c u h m
  rw [upd_ne (ne_of_none e n)]
  exact e
theorem Keep.at {p : Addr} {H H' : Hp} {o : HO} (a : Keep p H H') : Keep p H (upd H' p o) := fun c u h m => by
  rw [upd_ne m]
  exact a c u h m
theorem Same.new {q : Addr} {H H' : Hp} {o : HO} (a : Same H H') (n : H' q = none) : Same H (upd H' q o) := fun c u h => by
  have e := a c u h
  rw [upd_ne (ne_of_none e n)]
  exact e
/-- what is new behind all but p is not p, if p stands -/
theorem Keep.free {p q : Addr} {H H' : Hp} (a : Keep p H H') (hp : ∃ o, H' p = some o) (n : H' q = none) : H q = none ∧ q ≠ p := by
  have ne : q ≠ p := by
    rintro rfl
    obtain ⟨o, e⟩ := hp
    rw [e] at n
    cases n
  refine ⟨?_, ne⟩
  cases z : H q with
  | none => rfl
  | some u =>
    rw [a q u z ne] at n
    cases n
end L2

set_option Elab.async false
set_option linter.all false
namespace M11
inductive Srt | bri | opn | one | blk | hvy | non
  deriving DecidableEq
end M11

set_option Elab.async false
set_option linter.all false
set_option maxRecDepth 100000
set_option maxHeartbeats 4000000
namespace L2
open PySem PySem.Spec PyProof.Rows TL
/-- no built-in is hidden by a name of the module -/
structure Blt (mg : Str → Option Value) : Prop where
  len : mg "len" = none
  max : mg "max" = none
  min : mg "min" = none
  abs : mg "abs" = none
  divmod : mg "divmod" = none
  range : mg "range" = none
  all : mg "all" = none
  any : mg "any" = none
  isinstance : mg "isinstance" = none
  zip : mg "zip" = none
  list : mg "list" = none
  int : mg "int" = none
  str : mg "str" = none
  bool : mg "bool" = none
  tuple : mg "tuple" = none
  dict : mg "dict" = none
  sorted : mg "sorted" = none
  enumerate : mg "enumerate" = none
/-! ### whole numbers, by isinstance -/
def WhV (K : PySem.W.Frag) (H : Hp) (y : V) (b : Bool) : Prop := ∃ t bi bb, TyOf K H y t ∧ PySem.W.kitOne K t (.type "int") = some bi ∧ PySem.W.kitOne K t (.type "bool") = some bb ∧ b = (bi && !bb)
theorem WhV.int {K : PySem.W.Frag} {H : Hp} (i : Int) : WhV K H (.int i) true := ⟨_, true, false, .int i, by rfl, by rfl, rfl⟩
theorem WhV.bl {K : PySem.W.Frag} {H : Hp} (b : Bool) : WhV K H (.bl b) false := ⟨_, true, true, .bl b, by rfl, by rfl, rfl⟩
theorem WhV.str {K : PySem.W.Frag} {H : Hp} (z : Str) : WhV K H (.str z) false := ⟨_, false, false, .str z, by rfl, by rfl, rfl⟩
theorem WhV.non {K : PySem.W.Frag} {H : Hp} : WhV K H .non false := ⟨_, false, false, .non, by rfl, by rfl, rfl⟩
theorem WhV.tup {K : PySem.W.Frag} {H : Hp} {a : Addr} {xs : List V} (e : H a = some (.tup xs)) : WhV K H (.ref a) false := ⟨_, false, false, .tup e, by rfl, by rfl, rfl⟩
theorem WhV.lst {K : PySem.W.Frag} {H : Hp} {a : Addr} {xs : List V} (e : H a = some (.lst xs)) : WhV K H (.ref a) false := ⟨_, false, false, .lst e, by rfl, by rfl, rfl⟩
theorem WhV.dK {K : PySem.W.Frag} {H : Hp} {a : Addr} {xs : List (Key × V)} (e : H a = some (.dK xs)) : WhV K H (.ref a) false := ⟨_, false, false, .dK e, by rfl, by rfl, rfl⟩
/-- no text -/
def NoStr (K : PySem.W.Frag) (H : Hp) (y : V) : Prop := ∃ t, TyOf K H y t ∧ PySem.W.kitOne K t (.type "str") = some false
theorem NoStr.int {K : PySem.W.Frag} {H : Hp} (i : Int) : NoStr K H (.int i) := ⟨_, .int i, by rfl⟩
theorem NoStr.bl {K : PySem.W.Frag} {H : Hp} (b : Bool) : NoStr K H (.bl b) := ⟨_, .bl b, by rfl⟩
theorem NoStr.non {K : PySem.W.Frag} {H : Hp} : NoStr K H .non := ⟨_, .non, by rfl⟩
theorem NoStr.tup {K : PySem.W.Frag} {H : Hp} {a : Addr} {xs : List V} (e : H a = some (.tup xs)) : NoStr K H (.ref a) := ⟨_, .tup e, by rfl⟩
theorem NoStr.lst {K : PySem.W.Frag} {H : Hp} {a : Addr} {xs : List V} (e : H a = some (.lst xs)) : NoStr K H (.ref a) := ⟨_, .lst e, by rfl⟩
theorem NoStr.dK {K : PySem.W.Frag} {H : Hp} {a : Addr} {xs : List (Key × V)} (e : H a = some (.dK xs)) : NoStr K H (.ref a) := ⟨_, .dK e, by rfl⟩
/-- no tuple -/
def NoTup (K : PySem.W.Frag) (H : Hp) (y : V) : Prop := ∃ t, TyOf K H y t ∧ PySem.W.kitOne K t (.type "tuple") = some false
theorem NoTup.int {K : PySem.W.Frag} {H : Hp} (i : Int) : NoTup K H (.int i) := ⟨_, .int i, by rfl⟩
theorem NoTup.bl {K : PySem.W.Frag} {H : Hp} (b : Bool) : NoTup K H (.bl b) := ⟨_, .bl b, by rfl⟩
theorem NoTup.str {K : PySem.W.Frag} {H : Hp} (z : Str) : NoTup K H (.str z) := ⟨_, .str z, by rfl⟩
theorem NoTup.non {K : PySem.W.Frag} {H : Hp} : NoTup K H .non := ⟨_, .non, by rfl⟩
theorem NoTup.lst {K : PySem.W.Frag} {H : Hp} {a : Addr} {xs : List V} (e : H a = some (.lst xs)) : NoTup K H (.ref a) := ⟨_, .lst e, by rfl⟩
theorem NoTup.dK {K : PySem.W.Frag} {H : Hp} {a : Addr} {xs : List (Key × V)} (e : H a = some (.dK xs)) : NoTup K H (.ref a) := ⟨_, .dK e, by rfl⟩
end L2

set_option Elab.async false
set_option linter.all false
set_option maxRecDepth 100000
set_option maxHeartbeats 4000000
namespace L2
open PySem PySem.Spec PyProof.Rows TL

section
variable {prog : Program} {w : World} {A : Around} {R : Result → Shared → Prop} {I : Addr} {fp wr : List Addr} {n : Nat} {P : Nat → Value → Prop} {St : Nat → Heap → Prop} {kws : List (Str × Value)}
end
section
variable {prog : Program} {w : World} {A : Around} {E : Value → Shared → Prop} {s : Shared} {l : Addr} {xs : Array (Int × Tok)} {Q : Value → Shared → Prop} {d : Value}
end
section
variable {X : Cx} {e f : Expr} {p pos kpos : Pos} {te : TA} {tf : TA}
end

section
variable {prog : Program} {w : World} {A : Around} {R : Result → Shared → Prop} {I : Addr} {fp wr : List Addr} {n : Nat} {P : Nat → Value → Prop} {St : Nat → Heap → Prop} {kws : List (Str × Value)}
end
section
variable {prog : Program} {w : World} {A : Around} {E : Value → Shared → Prop} {s : Shared} {l : Addr} {xs : Array (Int × Tok)} {Q : Value → Shared → Prop} {d : Value}
end
section
variable {X : Cx} {e f : Expr} {p pos kpos : Pos} {te : TA} {tf : TA}
end
end L2

set_option Elab.async false
set_option linter.all false
set_option maxRecDepth 100000
set_option maxHeartbeats 4000000
namespace L2
open PySem PySem.Spec PyProof.Rows TL
theorem Cal.mono {P : Program} {w : World} {K : PySem.W.Frag} {mg : Str → Option Value} {base : Heap} {j k : Nat} {x : Str} {ps : List Str} {sp : Sp} (c : Cal P w K mg base j x ps sp) (h : j ≤ k) : Cal P w K mg base k x ps sp := by
  obtain ⟨f, fd, a, b, c, d, F⟩ := c
  exact ⟨f, fd, a, b, c, d, F.mono h⟩
theorem Cal.imp {P : Program} {w : World} {K : PySem.W.Frag} {mg : Str → Option Value} {base : Heap} {k : Nat} {x : Str} {ps : List Str} {sp sp' : Sp} (c : Cal P w K mg base k x ps sp) (h : ∀ vs H Q E, sp' vs H Q E → sp vs H Q E) : Cal P w K mg base k x ps sp' := by
  obtain ⟨f, fd, a, b, c, d, F⟩ := c
  exact ⟨f, fd, a, b, c, d, F.imp h⟩
/-! ### a module's table by get with one argument -/
section
variable {prog : Program} {w : World} {A : Around} {E : Value → Shared → Prop} {s : Shared} {K : PySem.W.Frag} {a : Addr} {D : List (Str × V)} {k : Str} {tk : Tok}
end
section
variable {X : Cx} {o e f : Expr} {pos apos cpos : Pos} {td ty tx : TE} {a : Addr} {D : List (Str × V)}
end
/-! ### a comprehension over enumerate -/
/-! ### kinds of things -/
end L2

set_option Elab.async false
set_option linter.all false
set_option maxRecDepth 100000
set_option maxHeartbeats 4000000
namespace L2
open PySem PySem.Spec PyProof.Rows
theorem ObjOk.there {P : Program} {w : World} {H : Hp} {h : Heap} {a : Addr} {o : HO} (x : ObjOk P w H h a o) : ∃ ob, h.get? a = some ob := by
  cases o with
  | lst xs => obtain ⟨_, _, _, _, e⟩ := x; exact ⟨_, e⟩
  | tup xs => obtain ⟨_, _, _, ob, e, _⟩ := x; exact ⟨_, e⟩
  | dK kvs => obtain ⟨_, _, _, _, o, _, _, e, _⟩ := x; exact ⟨_, e⟩
  | dT kvs => obtain ⟨_, _, _, _, o, _, _, e, _⟩ := x; exact ⟨_, e⟩
  | set S n => obtain ⟨o, _, _, _, e, _⟩ := x; exact ⟨_, e⟩
  | ins C dx fs => obtain ⟨_, _, _, e, _⟩ := x; exact ⟨_, e⟩
  | own y => exact x
  | xd fs => obtain ⟨_, ⟨_, _, _, e, _⟩, _⟩ := x; exact ⟨_, e⟩
  | rng lo hi => obtain ⟨_, _, _, e⟩ := x; exact ⟨_, e⟩
  | frz ob u => obtain ⟨e, _⟩ := x; exact ⟨_, e⟩
  | tbl ps => exact ⟨_, (show h.get? a = some _ from x)⟩
  | met f y => exact ⟨_, (show h.get? a = some _ from x)⟩
  | ext φ => obtain ⟨_, e, _⟩ := x; exact e
/-- an exception that flies out of a call: the abstract heap behind it; B: all that stays -/
def CX1 (P : Program) (w : World) : CXT := fun outer H s E e s' => ∃ (x : Addr) (cls a0 : Value) (H' : Hp) (B : Heap), e = .ref x ∧ s'.os = s.os ∧ AllBare s'.gens ∧ Un (frs outer) [] H H' s.heap s'.heap ∧ HOk P w H' s'.heap ∧
  (∀ b o ob, H' b = some o → s'.heap.get? b = some ob → B.get? b = some ob) ∧ (∀ b o o', s.heap.get? b = some o → b ∉ frs outer → s'.heap.get? b = some o' → B.get? b = some o') ∧
  H' x = none ∧ s.heap.get? x = none ∧ Heap.FlyingW B outer x cls a0 s'.heap ∧ E cls none H'
theorem hok_stay {P : Program} {w : World} {H : Hp} {h h' : Heap} (x : HOk P w H h) (k : ∀ b o ob, H b = some o → h.get? b = some ob → h'.get? b = some ob) : HOk P w H h' := fun a o e =>
  (x a o e).stay (fun b u hb q => by
    rcases hb with rfl | hb
    · exact k _ _ _ e q
    · exact k _ _ _ hb q) (fun _ q => q) fun _ _ q => q
theorem pass1 {P : Program} {w : World} {K : PySem.W.Frag} {mg : Str → Option Value} {base : Heap} {N : List Str} {qual : Str} {scope : Scope} {f : Addr} {cd : Value} {A : Around} {outer : List Env} {s0 : Shared} {H0 : Hp} {E : XK} :
    Passes (CX1 P w) (cxOf (CX1 P w) P w K mg base N qual scope f cd A outer s0 H0 E) E := by
  intro pins σ H s e s' I h
  obtain ⟨x, cls, a0, H', B, rfl, os, bare, un, hok, tb, kb, hx, hsx, fl, q⟩ := h
  have neL : ∀ b o, s0.heap.get? b = some o → b ≠ s0.heap.objs.size := fun b o e => Nat.ne_of_lt (Heap.lt_size e)
  have nfr : ∀ b o, s0.heap.get? b = some o → b ∉ frs outer → b ∉ frs (envOfC qual scope s0.heap.objs.size f cd :: outer) := fun b o e n z => by
    rcases List.mem_cons.mp (I.stkSub b z) with h | h
    · exact neL b o e h
    · exact n h
  show wpAny (model P w) _ (leaving (envOfC qual scope s0.heap.objs.size f cd) (.ref x)) _ _ s'
  refine wpAny_leaves_onW (base := B) (outer := outer) (L := s0.heap.objs.size) I.ok.frames rfl fl fun h' fl' up => ?_
  have st : ∀ b o, s0.heap.get? b = some o → ∃ o1, s.heap.get? b = some o1 := fun b o e => I.base.there b o e (by intro z; cases z)
  have inB : ∀ b o, s0.heap.get? b = some o → b ∉ frs outer → ∃ o2, s'.heap.get? b = some o2 ∧ B.get? b = some o2 ∧ h'.get? b = some o2 := fun b o e n => by
    obtain ⟨o1, e1⟩ := st b o e
    obtain ⟨o2, e2⟩ := un.there b o1 e1 (by simp)
    have e3 := kb b o1 o2 e1 (nfr b o e n) e2
    exact ⟨o2, e2, e3, fl'.1 b o2 e3⟩
  have frm : ∀ b o, s'.heap.get? b = some o → b ∈ frs outer → ∃ sl, h'.get? b = some { o with slots := sl } := fun b o e n => by
    obtain ⟨_, o', e', nf⟩ := fl.2.2.1.mem (b := b) (by
      show b ∈ List.filterMap _ (envOfC qual scope s0.heap.objs.size f cd :: outer)
      rw [List.filterMap_cons]
      exact List.mem_cons_of_mem _ n)
    rw [e] at e'
    cases e'
    exact up b o e nf
  refine ⟨x, cls, a0, H', B, rfl, os.trans I.os, bare, ⟨fun b o e n hb hx => ?_, fun b o e n hb hx => ?_, fun b o e n hx => ?_, fun b o e hx => ?_, fun b xs e => un.tups b xs (I.base.tups b xs e), fun b o xs e => un.frzs b o xs (I.base.frzs b o xs e), fun b ps e => ?_⟩,
    hok_stay hok fun b o ob e1 e2 => fl'.1 b ob (tb b o ob e1 e2), fun b o ob e1 e2 => ?_, fun b o o' e1 n e2 => ?_, hx, ?_, fl', q⟩
  · have e1 := I.base.keep b o e n hb hx
    have n1 := I.base.free b o e n hx
    have e2 := un.keep b o e1 n1 (nfr b o e hb) (by simp)
    exact fl'.1 b o (kb b o o e1 (nfr b o e hb) e2)
  · obtain ⟨sl, e1⟩ := I.base.slot b o e n hb hx
    obtain ⟨sl2, e2⟩ := un.any e1 (I.base.free b o e n hx) (by simp)
    obtain ⟨sl3, e3⟩ := frm b _ e2 hb
    exact ⟨sl3, e3⟩
  · obtain ⟨o1, e1⟩ := st b o e
    exact un.free b o1 e1 (I.base.free b o e n hx) (by simp)
  · by_cases hb : b ∈ frs outer
    · obtain ⟨o1, e1⟩ := st b o e
      obtain ⟨o2, e2⟩ := un.there b o1 e1 (by simp)
      obtain ⟨sl, e3⟩ := frm b o2 e2 hb
      exact ⟨_, e3⟩
    · obtain ⟨o2, _, _, e3⟩ := inB b o e hb
      exact ⟨o2, e3⟩
  · obtain ⟨m1, e1⟩ := I.base.tbls b ps e
    obtain ⟨m2, e2⟩ := un.tbls b _ e1
    exact ⟨m1 ++ m2, by rw [e2, Array.append_assoc]⟩
  · obtain ⟨ob1, e3⟩ := (hok b o e1).there
    have e4 := tb b o ob1 e1 e3
    have e5 := fl'.1 b ob1 e4
    have e2 : h'.get? b = some ob := e2
    rw [e2] at e5
    cases e5
    exact e4
  · obtain ⟨o2, _, e3, e4⟩ := inB b o e1 n
    have e2 : h'.get? b = some o' := e2
    rw [e2] at e4
    cases e4
    exact e3
  · cases z : s0.heap.get? x with
    | none => rfl
    | some o =>
      obtain ⟨o1, e1⟩ := st x o z
      rw [hsx] at e1
      cases e1
/-! ### own exception classes -/
abbrev bmV : List Value := [.type "ValueError", .type "Exception", .type "BaseException", .type "object"]
/-- the class at C is an exception of one's own, under ValueError, without __init__ -/
def ExcC (K : PySem.W.Frag) (C : Addr) : Prop := ∃ (nm q : Str) (N : Addr) (bs bm : List Value) (hdct : Bool) (sn : List Str) (sub : List Value) (ab : Bool) (col : Option Bool) (dd : Option Addr) (k0 k1 k2 k3 k5 : Option Value) (mN : Str → Option Value),
  bm.contains (.type "BaseException") = true ∧ mN "__init__" = none ∧ ∀ h : Heap, K.In h → h.get? C = some (excClassObj nm q C N bs bm hdct sn sub ab col dd k0 k1 k2 k3 k5 "ValueError.__new__") ∧ h.Ns N mN ∧ OwnTail h bmV bm
/-- raise C(e) -/
def tRaise (C : Addr) (E : XK) (t : TA) : TS := fun _ σ H => t σ H fun vs H1 => vs.length ≤ 1000 ∧ E (.ref C) none H1
theorem ps_raise {P : Program} {w : World} {K : PySem.W.Frag} {mg : Str → Option Value} {base : Heap} {N : List Str} {qual : Str} {scope : Scope} {f : Addr} {cd : Value} {A : Around} {outer : List Env} {s0 : Shared} {H0 : Hp} {E : XK}
    {C : Addr} {x : Str} {np cpos pos : Pos} {e : Expr} {t : TA} (hC : ExcC K C) (hm : mg x = some (.ref C)) (hg : Gl (cxOf (CX1 P w) P w K mg base N qual scope f cd A outer s0 H0 E) x)
    (ha : PA (cxOf (CX1 P w) P w K mg base N qual scope f cd A outer s0 H0 E) [e] t) (hd : (x == ("__debug__" : Str)) = false := by decide)
    (he : starEach [e] (envOfC qual scope s0.heap.objs.size f cd) = [(false, eval e (envOfC qual scope s0.heap.objs.size f cd))] := by rfl) :
    PS (cxOf (CX1 P w) P w K mg base N qual scope f cd A outer s0 H0 E) (.Raise (some (.Call (.Name x np) [e] [] cpos)) none pos) (tRaise C E t) := by
  intro pins s σ H D I h
  obtain ⟨nm, q, NN, bs, bm, hdct, sn, sub, ab, col, dd, k0, k1, k2, k3, k5, mN, hb, hni, cls⟩ := hC
  refine wpAny_Raise_call_subT (C := C) (nm := nm) (q := q) (N := NN) (bs := bs) (bm := bm) (hdct := hdct) (sn := sn) (sub := sub) (ab := ab) (col := col) (dd := dd) (k0 := k0) (k1 := k1) (k2 := k2) (k3 := k3) (k5 := k5) PySem.F.excBase_ValueError
    hb (I.ok.hd rfl) (by show (backTo cpos (starEach [e] (envOfC qual scope s0.heap.objs.size f cd))).any (·.1) = false; rw [he]; rfl) hni ?_
  refine ld_glob I hg hm ⟨rfl, ?_⟩ hd
  show wpAny _ _ (evalArgs (.ref C) true (backTo cpos (starEach [e] (envOfC qual scope s0.heap.objs.size f cd))) []) _ _ s
  have hsp := ha cpos pins s σ H _ I h
  have he' : backTo cpos (starEach [e] (envOfC qual scope s0.heap.objs.size f cd)) = (false, eval e (envOfC qual scope s0.heap.objs.size f cd)) :: [] := by
    rw [he]
    rfl
  rw [he']
  have hsp' : wpAny (model P w) (A.deeper (envOfC qual scope s0.heap.objs.size f cd)) (spliced (backTo cpos (starEach [e] (envOfC qual scope s0.heap.objs.size f cd)))) _ _ s := hsp
  rw [he'] at hsp'
  refine Calls.evalArgs_plain (thn hsp' fun us s2 ⟨vs, H2, I2, r, hl, q2⟩ => ?_)
  obtain ⟨c1, c2, c3⟩ := cls s2.heap I2.kIn
  refine ⟨rfl, ?_, c1, c2, c3, fun h' ex made => ?_⟩
  · have := r.length
    exact Nat.le_trans (show us.length ≤ 1000 by omega) (by decide)
  have frIn : ∀ env ∈ (envOfC qual scope s0.heap.objs.size f cd :: outer), ∀ b, env.frame = some b → b ∈ frs (envOfC qual scope s0.heap.objs.size f cd :: outer) := fun env hi b hb => List.mem_filterMap.mpr ⟨env, hi, hb⟩
  show wpAny (model P w) _ (leaving (envOfC qual scope s0.heap.objs.size f cd) (.ref ex)) _ _ _
  have toB : ∀ b o, s2.heap.get? b = some o → b ∉ frs (envOfC qual scope s0.heap.objs.size f cd :: outer) → (PySem.W.hideAll s2.heap (frs (envOfC qual scope s0.heap.objs.size f cd :: outer))).get? b = some o := fun b o eb n => PySem.W.hideAll_get _ eb n
  refine wpAny_leaves_madeW (base := PySem.W.hideAll s2.heap (frs (envOfC qual scope s0.heap.objs.size f cd :: outer))) (h := s2.heap) (outer := outer) (L := s0.heap.objs.size) I2.ok.frames rfl (fun b o z => PySem.W.of_hideAll _ z)
    (PySem.W.funFrames_hide I2.stack frIn) made fun h2 tt fl tup hnew up => ?_
  have neL : ∀ b o, s0.heap.get? b = some o → b ≠ s0.heap.objs.size := fun b o e => Nat.ne_of_lt (Heap.lt_size e)
  have nfr : ∀ b o, s0.heap.get? b = some o → b ∉ frs outer → b ∉ frs (envOfC qual scope s0.heap.objs.size f cd :: outer) := fun b o e n z => by
    rcases List.mem_cons.mp (I2.stkSub b z) with h | h
    · exact neL b o e h
    · exact n h
  have st : ∀ b o, s0.heap.get? b = some o → ∃ o1, s2.heap.get? b = some o1 := fun b o e => I2.base.there b o e (by intro z; cases z)
  have trk : ∀ b o ob, H2 b = some o → s2.heap.get? b = some ob → (PySem.W.hideAll s2.heap (frs (envOfC qual scope s0.heap.objs.size f cd :: outer))).get? b = some ob := fun b o ob e1 e2 => toB b ob e2 fun z => by
    have := I2.stkFree b z
    rw [e1] at this
    cases this
  have frm : ∀ b o, s2.heap.get? b = some o → b ∈ frs outer → ∃ sl, h2.get? b = some { o with slots := sl } := fun b o e n => by
    obtain ⟨_, o', e', nf⟩ := I2.stack.mem (b := b) (by
      show b ∈ List.filterMap _ (envOfC qual scope s0.heap.objs.size f cd :: outer)
      rw [List.filterMap_cons]
      exact List.mem_cons_of_mem _ n)
    rw [e] at e'
    cases e'
    exact up b o (made.keeps b o e) nf
  refine ⟨ex, .ref C, .ref tt, H2, _, rfl, I2.os, I2.bare, ⟨fun b o e n hb hx => ?_, fun b o e n hb hx => ?_, fun b o e n hx => I2.base.free b o e n hx, fun b o e hx => ?_, I2.base.tups, I2.base.frzs, I2.base.tbls⟩,
    hok_stay I2.hok fun b o ob e1 e2 => fl.1 b ob (trk b o ob e1 e2), fun b o ob e1 e2 => ?_, fun b o o' e1 n e2 => ?_, ?_, ?_, fl, q2⟩
  · exact fl.1 b o (toB b o (I2.base.keep b o e n hb hx) (nfr b o e hb))
  · obtain ⟨sl, e1⟩ := I2.base.slot b o e n hb hx
    obtain ⟨sl3, e3⟩ := frm b _ e1 hb
    exact ⟨sl3, e3⟩
  · obtain ⟨o1, e1⟩ := st b o e
    by_cases hb : b ∈ frs outer
    · obtain ⟨sl, e3⟩ := frm b o1 e1 hb
      exact ⟨_, e3⟩
    · exact ⟨o1, fl.1 b o1 (toB b o1 e1 (nfr b o e hb))⟩
  · obtain ⟨ob1, e3⟩ := (I2.hok b o e1).there
    have e4 := trk b o ob1 e1 e3
    have e5 := fl.1 b ob1 e4
    have e2 : h2.get? b = some ob := e2
    rw [e2] at e5
    cases e5
    exact e4
  · obtain ⟨o1, e3⟩ := st b o e1
    have e4 := toB b o1 e3 (nfr b o e1 n)
    have e5 := fl.1 b o1 e4
    have e2 : h2.get? b = some o' := e2
    rw [e2] at e5
    cases e5
    exact e4
  · cases z : H2 ex with
    | none => rfl
    | some o =>
      obtain ⟨ob, e1⟩ := (I2.hok ex o z).there
      rw [made.new] at e1
      cases e1
  · cases z : s0.heap.get? ex with
    | none => rfl
    | some o =>
      obtain ⟨o1, e1⟩ := st ex o z
      rw [made.new] at e1
      cases e1
/-! ### defs that may raise -/
def CalX (P : Program) (w : World) (K : PySem.W.Frag) (mg : Str → Option Value) (base : Heap) (k : Nat) (x : Str) (ps : List Str) (sp : Sp) : Prop :=
  ∃ (f : Addr) (fd : FuncData), mg x = some (.ref f) ∧ PySem.W.keepIn K (.ref f) = true ∧ BindA fd ps ∧ (∃ oc od osl, K.lookup f = some ⟨oc, od, .func fd, osl⟩) ∧ FnOk P w K mg base (CX1 P w) k f fd ps sp
section
variable {P : Program} {w : World} {K : PySem.W.Frag} {mg : Str → Option Value} {base : Heap}
theorem Has.calX {x : Str} {st : Stmt} {N ps : List Str} {k : Nat} {sp : Sp} (F : Has K mg x st ps) (S : FnScope N ps (defScope st)) (len : ∀ vs H Q E, sp vs H Q E → vs.length = ps.length)
    (hbody : ∀ (f : Addr) (cdv : Value) (A : Around) (outer : List Env) (s : Shared) (H : Hp) (vs : List V) (Q : VK) (E : XK), Room k (A.deeper (envOfC x (defScope st) s.heap.objs.size f cdv)) → sp vs H Q E →
      ∃ t, PSs (cxOf (CX1 P w) P w K mg base N x (defScope st) f cdv A outer s H E) (defBody st) t ∧ t { nx := fun _ H' => Q .non H', rt := Q } (start N vs) H) : CalX P w K mg base (k + 1) x ps sp := by
  obtain ⟨f, fd, F1, m, b⟩ := F
  refine ⟨f, fd, m, F1.kp, b, ?_⟩
  obtain ⟨oc, od, kV, doc, pm, an, cdv, ct, osl, rfl, lk, hcd⟩ := F1.ex
  refine ⟨⟨oc, od, osl, lk⟩, ?_⟩
  exact fn_of lk hcd S len fun A outer s H vs Q E hr hsp => hbody f cdv A outer s H vs Q E hr hsp
theorem CalX.mono {j k : Nat} {x : Str} {ps : List Str} {sp : Sp} (c : CalX P w K mg base j x ps sp) (h : j ≤ k) : CalX P w K mg base k x ps sp := by
  obtain ⟨f, fd, a, b, c, l, F⟩ := c
  exact ⟨f, fd, a, b, c, l, F.mono h⟩
theorem CalX.imp {k : Nat} {x : Str} {ps : List Str} {sp sp' : Sp} (c : CalX P w K mg base k x ps sp) (h : ∀ vs H Q E, sp' vs H Q E → sp vs H Q E) : CalX P w K mg base k x ps sp' := by
  obtain ⟨f, fd, a, b, c, l, F⟩ := c
  exact ⟨f, fd, a, b, c, l, F.imp h⟩
end
end L2

set_option Elab.async false
set_option linter.all false
set_option maxRecDepth 100000
set_option maxHeartbeats 4000000
namespace DL
open PySem L2
/-! ### data: what values tell, without addresses -/
inductive D where
  | non | bl (b : Bool) | int (i : Int) | str (x : Str) | ty (n : String)
  | lst (xs : List D) | tup (xs : List D) | dic (t : Bool) (kvs : List (D × D)) | obj (c : Str) (fs : List (Str × D)) | cls (c : Str)
  /-- the script; a tuple, a table of texts that the module has -/
  | scr (xs : List D) | ktup (xs : List D) | tab (kvs : List (Str × D))
inductive R (α : Type) where
  | ok (a : α) | err (c : Str) | stuck
def R.bind {α β : Type} : R α → (α → R β) → R β
  | .ok a, k => k a
  | .err c, _ => .err c
  | .stuck, _ => .stuck
@[simp] theorem R.bind_ok {α β : Type} (a : α) (k : α → R β) : (R.ok a).bind k = k a := rfl
@[simp] theorem R.bind_err {α β : Type} (c : Str) (k : α → R β) : (R.err c : R α).bind k = .err c := rfl
@[simp] theorem R.bind_stuck {α β : Type} (k : α → R β) : (R.stuck : R α).bind k = .stuck := rfl
abbrev Env := List (Option D)
abbrev AS := Addr → Prop
def kD : Key → D
  | .inl i => .int i
  | .inr x => .str x
def KLst (K : PySem.W.Frag) (a : Addr) (xs : List V) : Prop := ∃ (o : Obj) (its : Array Value) (n : Nat), K.lookup a = some o ∧ o.cls = .type "list" ∧ o.dict = none ∧ o.data = .seq its n ∧ its.size ≤ sizeLine ∧ Vals xs its.toList
def KTup (K : PySem.W.Frag) (a : Addr) (xs : List V) : Prop := ∃ (o : Obj) (its : Array Value) (n : Nat), K.lookup a = some o ∧ o.cls = .type "tuple" ∧ o.data = .seq its n ∧ its.size ≤ sizeLine ∧ Vals xs its.toList
theorem scr_sq {K : PySem.W.Frag} {F : AS} {H : Hp} {a : Addr} {xs : List V} (h : (F a ∧ ∃ o, H a = some (.frz o (.lst xs))) ∨ KLst K a xs) : SqL K H a xs := by
  rcases h with ⟨_, o, h⟩ | h
  · exact .inl (.inr ⟨o, h⟩)
  · exact .inr h
theorem KTup.sq {K : PySem.W.Frag} {H : Hp} {a : Addr} {xs : List V} (h : KTup K a xs) : SqT K H a xs := .inr h
/-- an exception's instance is told as an object with this one field -/
def excD : List (Str × D) → Bool
  | [(k, .non)] => k == "!"
  | _ => false
section
variable (K : PySem.W.Frag) (mg : Str → Option Value) (F : AS) (H : Hp)
mutual
/-- the value tells the data; its objects are among F -/
def Den : D → V → Prop
  | .non, v => v = .non
  | .bl b, v => v = .bl b
  | .int i, v => v = .int i
  | .str x, v => v = .str x
  | .ty n, v => v = .ty n
  | .lst ds, v => ∃ a vs, v = .ref a ∧ F a ∧ H a = some (.lst vs) ∧ DenL ds vs
  | .tup ds, v => ∃ a vs, v = .ref a ∧ F a ∧ H a = some (.tup vs) ∧ DenL ds vs
  | .scr ds, v => ∃ a vs, v = .ref a ∧ ((F a ∧ ∃ o, H a = some (.frz o (.lst vs))) ∨ KLst K a vs) ∧ DenL ds vs
  | .ktup ds, v => ∃ a vs, v = .ref a ∧ KTup K a vs ∧ DenL ds vs
  | .tab kvs, v => ∃ a es, v = .ref a ∧ Tab K a es ∧ DenF kvs es
  | .dic t kvs, v => ∃ a, v = .ref a ∧ F a ∧ ((t = false ∧ ∃ es, Rd H a (.dK es) ∧ DenK kvs es) ∨ (t = true ∧ ∃ es, Rd H a (.dT es) ∧ DenT kvs es))
  | .obj c fs, v => (excD fs = false ∧ ∃ a C dx es, v = .ref a ∧ F a ∧ F dx ∧ H a = some (.ins C dx es) ∧ mg c = some (.ref C) ∧ DenF fs es) ∨
    (excD fs = true ∧ ∃ a C, v = .ref a ∧ F a ∧ H a = some (.ext fun h => ∃ o, h.get? a = some o ∧ o.cls = .ref C) ∧ mg c = some (.ref C))
  | .cls c, v => ∃ a, v = .ref a ∧ mg c = some (.ref a)
def DenL : List D → List V → Prop
  | [], vs => vs = []
  | d :: ds, vs => ∃ v r, vs = v :: r ∧ Den d v ∧ DenL ds r
def DenK : List (D × D) → List (Key × V) → Prop
  | [], es => es = []
  | (k, d) :: ds, es => ∃ q v r, es = (q, v) :: r ∧ k = kD q ∧ Den d v ∧ DenK ds r
def DenT : List (D × D) → List (List Key × V) → Prop
  | [], es => es = []
  | (k, d) :: ds, es => ∃ q v r, es = (q, v) :: r ∧ k = .tup (q.map kD) ∧ Den d v ∧ DenT ds r
def DenF : List (Str × D) → List (Str × V) → Prop
  | [], es => es = []
  | (k, d) :: ds, es => ∃ v r, es = (k, v) :: r ∧ Den d v ∧ DenF ds r
end
end
theorem rd_keep {H H' : Hp} {a : Addr} {u : HO} (h : Rd H a u) (k : ∀ o, H a = some o → H' a = some o) : Rd H' a u := by
  rcases h with h | ⟨o, h⟩
  · exact .inl (k _ h)
  · exact .inr ⟨o, k _ h⟩
section
variable {K : PySem.W.Frag} {mg : Str → Option Value} {F F' : AS} {H H' : Hp}
mutual
theorem Den.mono (f : ∀ a, F a → F' a) (k : ∀ a o, F a → H a = some o → H' a = some o) : ∀ (d : D) (v : V), Den K mg F H d v → Den K mg F' H' d v
  | .non, _, h => h
  | .bl _, _, h => h
  | .int _, _, h => h
  | .str _, _, h => h
  | .ty _, _, h => h
  | .lst ds, _, h => by
    obtain ⟨a, vs, e, fa, l, r⟩ := h
    exact ⟨a, vs, e, f _ fa, k _ _ fa l, DenL.mono f k ds vs r⟩
  | .tup ds, _, h => by
    obtain ⟨a, vs, e, fa, l, r⟩ := h
    exact ⟨a, vs, e, f _ fa, k _ _ fa l, DenL.mono f k ds vs r⟩
  | .scr ds, _, h => by
    obtain ⟨a, vs, e, l, r⟩ := h
    refine ⟨a, vs, e, ?_, DenL.mono f k ds vs r⟩
    rcases l with ⟨fa, o, l⟩ | l
    · exact .inl ⟨f _ fa, o, k _ _ fa l⟩
    · exact .inr l
  | .ktup ds, _, h => by
    obtain ⟨a, vs, e, l, r⟩ := h
    exact ⟨a, vs, e, l, DenL.mono f k ds vs r⟩
  | .tab kvs, _, h => by
    obtain ⟨a, es, e, l, r⟩ := h
    exact ⟨a, es, e, l, DenF.mono f k kvs es r⟩
  | .dic t kvs, _, h => by
    obtain ⟨a, e, fa, h⟩ := h
    refine ⟨a, e, f _ fa, ?_⟩
    rcases h with ⟨ht, es, l, r⟩ | ⟨ht, es, l, r⟩
    · exact .inl ⟨ht, es, rd_keep l (fun o => k a o fa), DenK.mono f k kvs es r⟩
    · exact .inr ⟨ht, es, rd_keep l (fun o => k a o fa), DenT.mono f k kvs es r⟩
  | .obj c fs, _, h => by
    rcases h with ⟨e0, a, C, dx, es, e, fa, fd, ha, hc, r⟩ | ⟨e0, a, C, e, fa, ha, hc⟩
    · exact .inl ⟨e0, a, C, dx, es, e, f _ fa, f _ fd, k _ _ fa ha, hc, DenF.mono f k fs es r⟩
    · exact .inr ⟨e0, a, C, e, f _ fa, k _ _ fa ha, hc⟩
  | .cls c, _, h => h
theorem DenL.mono (f : ∀ a, F a → F' a) (k : ∀ a o, F a → H a = some o → H' a = some o) : ∀ (ds : List D) (vs : List V), DenL K mg F H ds vs → DenL K mg F' H' ds vs
  | [], _, h => h
  | d :: ds, _, h => by
    obtain ⟨v, r, e, h1, h2⟩ := h
    exact ⟨v, r, e, Den.mono f k d v h1, DenL.mono f k ds r h2⟩
theorem DenK.mono (f : ∀ a, F a → F' a) (k : ∀ a o, F a → H a = some o → H' a = some o) : ∀ (ds : List (D × D)) (es : List (Key × V)), DenK K mg F H ds es → DenK K mg F' H' ds es
  | [], _, h => h
  | (_, d) :: ds, _, h => by
    obtain ⟨q, v, r, e, e2, h1, h2⟩ := h
    exact ⟨q, v, r, e, e2, Den.mono f k d v h1, DenK.mono f k ds r h2⟩
theorem DenT.mono (f : ∀ a, F a → F' a) (k : ∀ a o, F a → H a = some o → H' a = some o) : ∀ (ds : List (D × D)) (es : List (List Key × V)), DenT K mg F H ds es → DenT K mg F' H' ds es
  | [], _, h => h
  | (_, d) :: ds, _, h => by
    obtain ⟨q, v, r, e, e2, h1, h2⟩ := h
    exact ⟨q, v, r, e, e2, Den.mono f k d v h1, DenT.mono f k ds r h2⟩
theorem DenF.mono (f : ∀ a, F a → F' a) (k : ∀ a o, F a → H a = some o → H' a = some o) : ∀ (ds : List (Str × D)) (es : List (Str × V)), DenF K mg F H ds es → DenF K mg F' H' ds es
  | [], _, h => h
  | (_, d) :: ds, _, h => by
    obtain ⟨v, r, e, h1, h2⟩ := h
    exact ⟨v, r, e, Den.mono f k d v h1, DenF.mono f k ds r h2⟩
end
end
/-! ### things that one name alone has -/
mutual
/-- nothing of it is a list or a dict that could be changed -/
def loose : D → Bool
  | .lst _ => false
  | .dic _ _ => false
  | .tup ds => looseL ds
  | _ => true
def looseL : List D → Bool
  | [] => true
  | d :: ds => loose d && looseL ds
end
section
variable (K : PySem.W.Frag) (mg : Str → Option Value) (F : AS) (H : Hp)
mutual
/-- a list or a dict at an address of its own, whose items are among F; or a tuple of such -/
def Own : AS → D → V → Prop
  | R, .lst ds, v => ∃ a vs, v = .ref a ∧ (∀ b, R b ↔ b = a) ∧ H a = some (.lst vs) ∧ DenL K mg F H ds vs
  | R, .dic t kvs, v => ∃ a, v = .ref a ∧ (∀ b, R b ↔ b = a) ∧ ((t = false ∧ ∃ es, H a = some (.dK es) ∧ DenK K mg F H kvs es) ∨ (t = true ∧ ∃ es, H a = some (.dT es) ∧ DenT K mg F H kvs es))
  | R, .tup ds, v => ∃ a vs, v = .ref a ∧ F a ∧ H a = some (.tup vs) ∧ OwnL R ds vs
  | R, .non, v => v = .non ∧ ∀ b, ¬ R b
  | _, _, _ => False
def OwnL : AS → List D → List V → Prop
  | R, [], vs => vs = [] ∧ ∀ b, ¬ R b
  | R, d :: ds, vs => ∃ v r R1 R2, vs = v :: r ∧ (∀ b, R b ↔ R1 b ∨ R2 b) ∧ (∀ b, R1 b → ¬ R2 b) ∧ (Own R1 d v ∨ (loose d = true ∧ (∀ b, ¬ R1 b) ∧ Den K mg F H d v)) ∧ OwnL R2 ds r
end
end
/-- how a step goes: what was frozen stays, what is not the code's own stays, new things are new -/
structure Step (F W : AS) (H : Hp) (F' W' : AS) (H' : Hp) : Prop where
  fr : ∀ a, F a → F' a
  st : ∀ a o, H a = some o → ¬ W a → H' a = some o
  nf : ∀ a, F' a → F a ∨ W a ∨ H a = none
  nw : ∀ a, W' a → W a ∨ H a = none
  th : ∀ a o, H a = some o → ∃ o', H' a = some o'
theorem Step.refl (F W : AS) (H : Hp) : Step F W H F W H := ⟨fun _ h => h, fun _ _ h _ => h, fun _ h => .inl h, fun _ h => .inl h, fun _ o h => ⟨o, h⟩⟩
theorem Step.none_of {F W : AS} {H : Hp} {F' W' : AS} {H' : Hp} (s : Step F W H F' W' H') {a : Addr} (h : H' a = none) : H a = none := by
  cases e : H a with
  | none => rfl
  | some o =>
    obtain ⟨o', q⟩ := s.th a o e
    rw [h] at q
    cases q
theorem Step.trans {F W F1 W1 F2 W2 : AS} {H H1 H2 : Hp} (x : Step F W H F1 W1 H1) (y : Step F1 W1 H1 F2 W2 H2) : Step F W H F2 W2 H2 := by
  refine ⟨fun a h => y.fr a (x.fr a h), fun a o h hw => y.st a o (x.st a o h hw) fun z => ?_, fun a h => ?_, fun a h => ?_, fun a o h => ?_⟩
  · rcases x.nw a z with z | z
    · exact hw z
    · rw [h] at z; cases z
  · rcases y.nf a h with z | z | z
    · exact x.nf a z
    · exact .inr (x.nw a z)
    · exact .inr (.inr (x.none_of z))
  · rcases y.nw a h with z | z
    · exact x.nw a z
    · exact .inr (x.none_of z)
  · obtain ⟨o1, h1⟩ := x.th a o h
    exact y.th a o1 h1
/-- the names' values tell the data; M: the slots of things that are the code's own -/
structure RelR (K : PySem.W.Frag) (mg : Str → Option Value) (M : List Nat) (F W : AS) (σ : St) (H : Hp) (ρ : Env) (R : Nat → AS) : Prop where
  sh : ∀ i d, i ∉ M → ρ[i]? = some (some d) → ∃ v, σ[i]? = some (some v) ∧ Den K mg F H d v
  ow : ∀ i d, i ∈ M → ρ[i]? = some (some d) → ∃ v, σ[i]? = some (some v) ∧ Own K mg F H (R i) d v
  rw : ∀ i a, R i a → W a
  dj : ∀ i j a, R i a → R j a → i = j
  fw : ∀ a, F a → ¬ W a
  fd : ∀ a, F a → ∃ o, H a = some o
  wd : ∀ a, W a → ∃ o, H a = some o
def Rel (K : PySem.W.Frag) (mg : Str → Option Value) (M : List Nat) (F W : AS) (σ : St) (H : Hp) (ρ : Env) : Prop := ∃ R, RelR K mg M F W σ H ρ R
section
variable {K : PySem.W.Frag} {mg : Str → Option Value} {M : List Nat} {F F' W W' : AS} {H H' : Hp} {σ : St} {ρ : Env}
mutual
theorem Own.mono' (f : ∀ a, F a → F' a) (k : ∀ a o, F a → H a = some o → H' a = some o) : ∀ (R : AS) (d : D) (v : V), Own K mg F H R d v → (∀ a o, R a → H a = some o → H' a = some o) → Own K mg F' H' R d v
  | R, .lst ds, _, h, kr => by
    obtain ⟨a, vs, e, r, h1, h2⟩ := h
    exact ⟨a, vs, e, r, kr _ _ ((r a).mpr rfl) h1, DenL.mono f k ds vs h2⟩
  | R, .dic t kvs, _, h, kr => by
    obtain ⟨a, e, r, h⟩ := h
    refine ⟨a, e, r, ?_⟩
    rcases h with ⟨ht, es, h1, h2⟩ | ⟨ht, es, h1, h2⟩
    · exact .inl ⟨ht, es, kr _ _ ((r a).mpr rfl) h1, DenK.mono f k kvs es h2⟩
    · exact .inr ⟨ht, es, kr _ _ ((r a).mpr rfl) h1, DenT.mono f k kvs es h2⟩
  | R, .tup ds, _, h, kr => by
    obtain ⟨a, vs, e, fa, ha, h⟩ := h
    exact ⟨a, vs, e, f _ fa, k _ _ fa ha, OwnL.mono' f k R ds vs h kr⟩
  | _, .non, _, h, _ => h
  | _, .bl _, _, h, _ => h.elim
  | _, .int _, _, h, _ => h.elim
  | _, .str _, _, h, _ => h.elim
  | _, .ty _, _, h, _ => h.elim
  | _, .obj _ _, _, h, _ => h.elim
  | _, .cls _, _, h, _ => h.elim
  | _, .scr _, _, h, _ => h.elim
  | _, .ktup _, _, h, _ => h.elim
  | _, .tab _, _, h, _ => h.elim
theorem OwnL.mono' (f : ∀ a, F a → F' a) (k : ∀ a o, F a → H a = some o → H' a = some o) : ∀ (R : AS) (ds : List D) (vs : List V), OwnL K mg F H R ds vs → (∀ a o, R a → H a = some o → H' a = some o) → OwnL K mg F' H' R ds vs
  | R, [], _, h, _ => h
  | R, d :: ds, _, h, kr => by
    obtain ⟨v, r, R1, R2, e, hR, dj, h1, h2⟩ := h
    refine ⟨v, r, R1, R2, e, hR, dj, ?_, OwnL.mono' f k R2 ds r h2 fun a o z => kr a o ((hR a).mpr (.inr z))⟩
    rcases h1 with h1 | ⟨h0, h1, h3⟩
    · exact .inl (Own.mono' f k R1 d v h1 fun a o z => kr a o ((hR a).mpr (.inl z)))
    · exact .inr ⟨h0, h1, Den.mono f k d v h3⟩
end
theorem Own.mono {R : AS} {d : D} {v : V} (h : Own K mg F H R d v) (f : ∀ a, F a → F' a) (k : ∀ a o, F a → H a = some o → H' a = some o) (kr : ∀ a o, R a → H a = some o → H' a = some o) : Own K mg F' H' R d v := Own.mono' f k R d v h kr
/-- nothing but new things -/
structure Ext (F : AS) (H : Hp) (F' : AS) (H' : Hp) : Prop where
  fr : ∀ a, F a → F' a
  st : ∀ a o, H a = some o → H' a = some o
  nf : ∀ a, F' a → F a ∨ H a = none
  fd : ∀ a, F' a → ∃ o, H' a = some o
theorem Ext.step (e : Ext F H F' H') : Step F W H F' W H' := ⟨e.fr, fun a o h _ => e.st a o h, fun a h => (e.nf a h).elim .inl fun z => .inr (.inr z), fun _ h => .inl h, fun a o h => ⟨o, e.st a o h⟩⟩
theorem Ext.refl (fd : ∀ a, F a → ∃ o, H a = some o) : Ext F H F H := ⟨fun _ h => h, fun _ _ h => h, fun _ h => .inl h, fd⟩
theorem Ext.trans {F2 : AS} {H2 : Hp} (x : Ext F H F' H') (y : Ext F' H' F2 H2) : Ext F H F2 H2 := by
  refine ⟨fun a h => y.fr a (x.fr a h), fun a o h => y.st a o (x.st a o h), fun a h => ?_, y.fd⟩
  rcases y.nf a h with z | z
  · exact x.nf a z
  · cases e : H a with
    | none => exact .inr rfl
    | some o => have := x.st a o e; rw [z] at this; cases this
/-- a new frozen thing -/
theorem Ext.new {a : Addr} {o : HO} (fd : ∀ a, F a → ∃ o, H a = some o) (n : H a = none) : Ext F H (fun b => F b ∨ b = a) (upd H a o) := by
  refine ⟨fun b h => .inl h, fun b u h => ?_, fun b h => ?_, fun b h => ?_⟩
  · rw [upd_ne (ne_of_none h n)]; exact h
  · rcases h with h | rfl
    · exact .inl h
    · exact .inr n
  · rcases h with h | rfl
    · obtain ⟨u, e⟩ := fd b h
      exact ⟨u, by rw [upd_ne (ne_of_none e n)]; exact e⟩
    · exact ⟨_, upd_same⟩
theorem Ext.den (e : Ext F H F' H') {d : D} {v : V} (h : Den K mg F H d v) : Den K mg F' H' d v := Den.mono e.fr (fun a o _ => e.st a o) d v h
theorem Ext.denL (e : Ext F H F' H') {d : List D} {v : List V} (h : DenL K mg F H d v) : DenL K mg F' H' d v := DenL.mono e.fr (fun a o _ => e.st a o) d v h
theorem RelR.ext {R : Nat → AS} (r : RelR K mg M F W σ H ρ R) (e : Ext F H F' H') : RelR K mg M F' W σ H' ρ R := by
  refine ⟨fun i d hi h => ?_, fun i d hi h => ?_, r.rw, r.dj, fun a h hw => ?_, e.fd, fun a h => ?_⟩
  · obtain ⟨v, h1, h2⟩ := r.sh i d hi h
    exact ⟨v, h1, e.den h2⟩
  · obtain ⟨v, h1, h2⟩ := r.ow i d hi h
    exact ⟨v, h1, h2.mono e.fr (fun a o _ => e.st a o) fun a o _ => e.st a o⟩
  · rcases e.nf a h with z | z
    · exact r.fw a z hw
    · obtain ⟨o, q⟩ := r.wd a hw
      rw [z] at q; cases q
  · obtain ⟨o, q⟩ := r.wd a h
    exact ⟨o, e.st a o q⟩
theorem Rel.ext (r : Rel K mg M F W σ H ρ) (e : Ext F H F' H') : Rel K mg M F' W σ H' ρ := let ⟨R, q⟩ := r; ⟨R, q.ext e⟩
theorem Rel.fd (r : Rel K mg M F W σ H ρ) : ∀ a, F a → ∃ o, H a = some o := let ⟨_, q⟩ := r; q.fd
theorem Rel.fw (r : Rel K mg M F W σ H ρ) : ∀ a, F a → ¬ W a := let ⟨_, q⟩ := r; q.fw
/-- what was told stays told -/
theorem Step.den (r : Rel K mg M F W σ H ρ) (s : Step F W H F' W' H') {d : D} {v : V} (h : Den K mg F H d v) : Den K mg F' H' d v := Den.mono s.fr (fun a o f e => s.st a o e (r.fw a f)) d v h
theorem Step.denL (r : Rel K mg M F W σ H ρ) (s : Step F W H F' W' H') {d : List D} {v : List V} (h : DenL K mg F H d v) : DenL K mg F' H' d v := DenL.mono s.fr (fun a o f e => s.st a o e (r.fw a f)) d v h
end
/-! ### readings -/
section
variable (K : PySem.W.Frag) (mg : Str → Option Value) (M : List Nat) (E : XK)
/-- what is wanted behind a reckoned end; DN: how a thing tells what was reckoned -/
def post {α β : Type} (DN : AS → Hp → α → β → Prop) (F W : AS) (σ : St) (H : Hp) (r : R (α × Env)) (Q : β → Hp → Prop) : Prop :=
  match r with
  | .ok p => ∀ v H' F' W', Rel K mg M F' W' σ H' p.2 → DN F' H' p.1 v → Step F W H F' W' H' → Q v H'
  | .err c => ∀ C H' F' W', mg c = some (.ref C) → Step F W H F' W' H' → E (.ref C) none H'
  | .stuck => False
def tG {α β : Type} (DN : AS → Hp → α → β → Prop) (f : Env → R (α × Env)) : St → Hp → (β → Hp → Prop) → Prop := fun σ H Q => ∃ F W ρ, Rel K mg M F W σ H ρ ∧ post K mg M E DN F W σ H (f ρ) Q
abbrev dnD : AS → Hp → D → V → Prop := fun F H d v => Den K mg F H d v
abbrev dnB : AS → Hp → Bool → Bool → Prop := fun _ _ b c => c = b
abbrev dnL : AS → Hp → List D → List V → Prop := fun F H d v => DenL K mg F H d v
end
section
variable {K : PySem.W.Frag} {mg : Str → Option Value} {M : List Nat} {E : XK} {α β γ δ : Type} {F W F1 W1 : AS} {σ : St} {H H1 : Hp} {ρ : Env}
theorem post_step {DN : AS → Hp → α → β → Prop} {r : R (α × Env)} {Q : β → Hp → Prop} (h : post K mg M E DN F W σ H r Q) (s : Step F W H F1 W1 H1) : post K mg M E DN F1 W1 σ H1 r Q := by
  cases r with
  | ok p => exact fun v H' F' W' r d s' => h v H' F' W' r d (s.trans s')
  | err c => exact fun C H' F' W' e s' => h C H' F' W' e (s.trans s')
  | stuck => exact h
/-- one part, then the rest -/
theorem tG_of {DN : AS → Hp → α → β → Prop} {DN' : AS → Hp → γ → δ → Prop} {fa : Env → R (α × Env)} {k : α × Env → R (γ × Env)} {Q : δ → Hp → Prop} {T : β → Hp → Prop} (rel : Rel K mg M F W σ H ρ) (h : post K mg M E DN' F W σ H ((fa ρ).bind k) Q)
    (hk : ∀ d ρ1 v H1 F1 W1, Rel K mg M F1 W1 σ H1 ρ1 → DN F1 H1 d v → Step F W H F1 W1 H1 → post K mg M E DN' F1 W1 σ H1 (k (d, ρ1)) Q → T v H1) : tG K mg M E DN fa σ H T := by
  refine ⟨F, W, ρ, rel, ?_⟩
  cases e : fa ρ with
  | ok p =>
    rw [e] at h
    exact fun v H' F' W' r d s => hk p.1 p.2 v H' F' W' r d s (post_step h s)
  | err c => rw [e] at h; exact h
  | stuck => rw [e] at h; exact h
/-- the end: a thing that tells what was reckoned, over new things alone -/
theorem post_ok {DN : AS → Hp → α → β → Prop} {d : α} {Q : β → Hp → Prop} {v : β} (h : post K mg M E DN F W σ H (.ok (d, ρ)) Q) (rel : Rel K mg M F W σ H ρ) (e : Ext F H F1 H1) (dn : DN F1 H1 d v) : Q v H1 :=
  h v H1 F1 W (rel.ext e) dn e.step
end
theorem PE.weak {X : Cx} {e : Expr} {t t' : TE} (h : PE X e t) (w : ∀ σ H Q, t' σ H Q → t σ H Q) : PE X e t' := fun pins s σ H Q I q => h pins s σ H Q I (w σ H Q q)
theorem PT.weak {X : Cx} {e : Expr} {t t' : TT} (h : PT X e t) (w : ∀ σ H Q, t' σ H Q → t σ H Q) : PT X e t' := fun pins s σ H Q I q => h pins s σ H Q I (w σ H Q q)
theorem PW.weak {X : Cx} {e : Expr} {t t' : TT} (h : PW X e t) (w : ∀ σ H Q, t' σ H Q → t σ H Q) : PW X e t' := fun wh pins s σ H Q I q => h wh pins s σ H Q I (w σ H Q q)
theorem PA.weak {X : Cx} {e : List Expr} {t t' : TA} (h : PA X e t) (w : ∀ σ H Q, t' σ H Q → t σ H Q) : PA X e t' := fun pos pins s σ H Q I q => h pos pins s σ H Q I (w σ H Q q)
theorem PS.weak {X : Cx} {e : Stmt} {t t' : TS} (h : PS X e t) (w : ∀ D σ H, t' D σ H → t D σ H) : PS X e t' := fun pins s σ H D I q => h pins s σ H D I (w D σ H q)
theorem PSs.weak {X : Cx} {e : List Stmt} {t t' : TS} (h : PSs X e t) (w : ∀ D σ H, t' D σ H → t D σ H) : PSs X e t' := fun pins s σ H D I q => h pins s σ H D I (w D σ H q)
theorem PE.or {X : Cx} {e : Expr} {t u : TE} (h : PE X e t) (h' : PE X e u) : PE X e (fun σ H Q => t σ H Q ∨ u σ H Q) := fun pins s σ H Q I q => q.elim (h pins s σ H Q I) (h' pins s σ H Q I)
/-! ### judgements -/
def DE (X : Cx) (E : XK) (M : List Nat) (e : Expr) (f : Env → R (D × Env)) : Prop := PE X e (tG X.K X.mg M E (dnD X.K X.mg) f)
def DT (X : Cx) (E : XK) (M : List Nat) (e : Expr) (f : Env → R (Bool × Env)) : Prop := PT X e (tG X.K X.mg M E dnB f)
def DW (X : Cx) (E : XK) (M : List Nat) (e : Expr) (f : Env → R (Bool × Env)) : Prop := PW X e (tG X.K X.mg M E dnB f)
def DA (X : Cx) (E : XK) (M : List Nat) (es : List Expr) (f : Env → R (List D × Env)) : Prop := PA X es (tG X.K X.mg M E (dnL X.K X.mg) f)
end DL

set_option Elab.async false
set_option linter.all false
set_option maxRecDepth 100000
set_option maxHeartbeats 4000000
namespace L2
open PySem PySem.Spec PyProof.Rows TL
/-! ### comprehensions that leave all but their own list as it is -/
def CI (D : Addr) (H : Hp) (vals : Nat → List V) (i : Nat) (H2 : Hp) : Prop := H D = none ∧ Same H H2 ∧ H2 D = some (.lst (vals i))
theorem CI.start {D : Addr} {H : Hp} {vals : Nat → List V} (nD : H D = none) (h0 : vals 0 = []) : CI D H vals 0 (upd H D (.lst [])) := ⟨nD, Same.new (Same.refl H) nD, by rw [h0]; exact upd_same⟩
theorem CI.same {D : Addr} {H H2 H3 : Hp} {vals : Nat → List V} {i : Nat} (h : CI D H vals i H2) (sm : Same H2 H3) : CI D H vals i H3 := by
  obtain ⟨n, sm1, hD⟩ := h
  exact ⟨n, fun b o e => sm _ _ (sm1 _ _ e), sm _ _ hD⟩
section
variable {α : Type} {f : α → Option V} {l : List α} {i : Nat} {x : α} {y : V}
end
/-! ### a for over zip -/
/-! ### readings by their names, for blocks -/
def rIsInst (K : PySem.W.Frag) : List V → Hp → VK → Prop := fun xs H Q => ∃ x n t b, xs = [x, .ty n] ∧ TyOf K H x t ∧ PySem.W.kitOne K t (.type n) = some b ∧ Q (.bl b) H
theorem cr_isinstK {X : Cx} : CallR X (.builtin "isinstance") (rIsInst X.K) := cr_isinst
/-! ### slices -/
/-! ### bits -/
end L2

set_option Elab.async false
set_option linter.all false
set_option maxRecDepth 100000
set_option maxHeartbeats 4000000
namespace DL
open PySem L2 TL
/-! ### lists that tell -/
section
variable {K : PySem.W.Frag} {mg : Str → Option Value} {F : AS} {H : Hp}
theorem denL_nil : DenL K mg F H [] [] := rfl
theorem denL_cons {d : D} {v : V} {ds : List D} {vs : List V} (h : Den K mg F H d v) (t : DenL K mg F H ds vs) : DenL K mg F H (d :: ds) (v :: vs) := ⟨v, vs, rfl, h, t⟩
theorem DenL.len : ∀ {ds : List D} {vs : List V}, DenL K mg F H ds vs → vs.length = ds.length
  | [], _, h => by cases h; rfl
  | _ :: ds, _, h => by obtain ⟨v, r, rfl, _, t⟩ := h; simp [DenL.len t]
theorem DenL.get : ∀ {ds : List D} {vs : List V} {i : Nat} {d : D}, DenL K mg F H ds vs → ds[i]? = some d → ∃ v, vs[i]? = some v ∧ Den K mg F H d v
  | [], _, _, _, _, e => by simp at e
  | _ :: ds, _, 0, _, h, e => by obtain ⟨v, r, rfl, h1, t⟩ := h; simp at e; subst e; exact ⟨v, rfl, h1⟩
  | _ :: ds, _, i + 1, d, h, e => by
    obtain ⟨v, r, rfl, h1, t⟩ := h
    obtain ⟨w, e2, h2⟩ := DenL.get (i := i) t (by simpa using e)
    exact ⟨w, by simpa using e2, h2⟩
theorem DenL.app : ∀ {ds es : List D} {vs ws : List V}, DenL K mg F H ds vs → DenL K mg F H es ws → DenL K mg F H (ds ++ es) (vs ++ ws)
  | [], _, _, _, h, t => by cases h; exact t
  | _ :: ds, _, _, _, h, t => by obtain ⟨v, r, rfl, h1, h2⟩ := h; exact ⟨v, _, rfl, h1, DenL.app h2 t⟩
theorem DenL.drop : ∀ {ds : List D} {vs : List V} (n : Nat), DenL K mg F H ds vs → DenL K mg F H (ds.drop n) (vs.drop n)
  | _, _, 0, h => h
  | [], _, n + 1, h => by cases h; exact denL_nil
  | _ :: ds, _, n + 1, h => by obtain ⟨v, r, rfl, h1, h2⟩ := h; exact DenL.drop n h2
theorem DenL.take : ∀ {ds : List D} {vs : List V} (n : Nat), DenL K mg F H ds vs → DenL K mg F H (ds.take n) (vs.take n)
  | _, _, 0, h => denL_nil
  | [], _, n + 1, h => by cases h; exact denL_nil
  | _ :: ds, _, n + 1, h => by obtain ⟨v, r, rfl, h1, h2⟩ := h; exact denL_cons h1 (DenL.take n h2)
theorem DenL.set {d : D} {v : V} (hd : Den K mg F H d v) : ∀ {ds : List D} {vs : List V} (n : Nat), DenL K mg F H ds vs → DenL K mg F H (ds.set n d) (vs.set n v)
  | [], _, _, h => by cases h; exact denL_nil
  | _ :: ds, _, 0, h => by obtain ⟨w, r, rfl, h1, h2⟩ := h; exact denL_cons hd h2
  | _ :: ds, _, n + 1, h => by obtain ⟨w, r, rfl, h1, h2⟩ := h; exact denL_cons h1 (DenL.set hd n h2)
theorem DenL.rev : ∀ {ds : List D} {vs : List V}, DenL K mg F H ds vs → DenL K mg F H ds.reverse vs.reverse
  | [], _, h => by cases h; exact denL_nil
  | _ :: ds, _, h => by
    obtain ⟨w, r, rfl, h1, h2⟩ := h
    rw [List.reverse_cons, List.reverse_cons]
    exact DenL.app (DenL.rev h2) (denL_cons h1 denL_nil)
theorem DenL.rep {ds : List D} {vs : List V} (h : DenL K mg F H ds vs) : ∀ n : Nat, DenL K mg F H (List.replicate n ds).flatten (List.replicate n vs).flatten
  | 0 => denL_nil
  | n + 1 => by
    rw [List.replicate_succ, List.replicate_succ, List.flatten_cons, List.flatten_cons]
    exact h.app (DenL.rep h n)
theorem DenL.dropLast {ds : List D} {vs : List V} (h : DenL K mg F H ds vs) : DenL K mg F H ds.dropLast vs.dropLast := by
  rw [List.dropLast_eq_take, List.dropLast_eq_take, h.len]
  exact h.take _
theorem DenL.strs : ∀ {ns : List Str} {vs : List V}, DenL K mg F H (ns.map D.str) vs → vs = ns.map V.str
  | [], _, h => h
  | n :: ns, _, h => by obtain ⟨v, r, rfl, h1, h2⟩ := h; rw [show v = .str n from h1, DenL.strs h2]; rfl
theorem den_tupN {ds : List D} {vs : List V} {p : Addr} (fd : ∀ a, F a → ∃ o, H a = some o) (n : H p = none) (h : DenL K mg F H ds vs) :
    Ext F H (fun b => F b ∨ b = p) (upd H p (.tup vs)) ∧ Den K mg (fun b => F b ∨ b = p) (upd H p (.tup vs)) (.tup ds) (.ref p) :=
  have e := Ext.new (o := .tup vs) fd n
  ⟨e, p, vs, rfl, .inr rfl, upd_same, e.denL h⟩
theorem den_lstN {ds : List D} {vs : List V} {p : Addr} (fd : ∀ a, F a → ∃ o, H a = some o) (n : H p = none) (h : DenL K mg F H ds vs) :
    Ext F H (fun b => F b ∨ b = p) (upd H p (.lst vs)) ∧ Den K mg (fun b => F b ∨ b = p) (upd H p (.lst vs)) (.lst ds) (.ref p) :=
  have e := Ext.new (o := .lst vs) fd n
  ⟨e, p, vs, rfl, .inr rfl, upd_same, e.denL h⟩
end
/-! ### reckoning -/
abbrev EF := Env → R (D × Env)
abbrev BF := Env → R (Bool × Env)
abbrev AF := Env → R (List D × Env)
def opt {α : Type} : Option α → Env → R (α × Env)
  | some z, ρ => .ok (z, ρ)
  | none, _ => .stuck
@[simp] theorem opt_some {α : Type} (z : α) (ρ : Env) : opt (some z) ρ = .ok (z, ρ) := rfl
@[simp] theorem opt_none {α : Type} (ρ : Env) : opt (none : Option α) ρ = .stuck := rfl
def eVar (i : Nat) : EF := fun ρ => match ρ[i]? with
  | some (some d) => .ok (d, ρ)
  | _ => .stuck
def eC (d : D) : EF := fun ρ => .ok (d, ρ)
def e1 (g : D → Option D) (a : EF) : EF := fun ρ => (a ρ).bind fun p => opt (g p.1) p.2
def e2 (g : D → D → Option D) (a b : EF) : EF := fun ρ => (a ρ).bind fun p => (b p.2).bind fun q => opt (g p.1 q.1) q.2
def eN (g : List D → Option D) (a : AF) : EF := fun ρ => (a ρ).bind fun p => opt (g p.1) p.2
def aNil : AF := fun ρ => .ok ([], ρ)
def aCons (a : EF) (b : AF) : AF := fun ρ => (a ρ).bind fun p => (b p.2).bind fun q => .ok (p.1 :: q.1, q.2)
def eIf (c : BF) (a b : EF) : EF := fun ρ => (c ρ).bind fun p => if p.1 = true then a p.2 else b p.2
def gBool : D → Option Bool
  | .bl b => some b
  | _ => none
def bVal (a : EF) : BF := fun ρ => (a ρ).bind fun p => opt (gBool p.1) p.2
def eAnd (a b : EF) : EF := fun ρ => (a ρ).bind fun p => (opt (gBool p.1) p.2).bind fun q => if q.1 = true then b q.2 else .ok (.bl false, q.2)
def eOr (a b : EF) : EF := fun ρ => (a ρ).bind fun p => (opt (gBool p.1) p.2).bind fun q => if q.1 = true then .ok (.bl true, q.2) else b q.2
def eNot (a : EF) : EF := fun ρ => (a ρ).bind fun p => (opt (gBool p.1) p.2).bind fun q => .ok (.bl (!q.1), q.2)
def bAnd (a b : BF) : BF := fun ρ => (a ρ).bind fun p => if p.1 = true then b p.2 else .ok (false, p.2)
def bOr (a b : BF) : BF := fun ρ => (a ρ).bind fun p => if p.1 = true then .ok (true, p.2) else b p.2
def bNot (a : BF) : BF := fun ρ => (a ρ).bind fun p => .ok (!p.1, p.2)
section
variable {K : PySem.W.Frag} {mg : Str → Option Value} {M : List Nat} {E : XK} {α β γ δ : Type} {F W : AS} {σ : St} {H : Hp} {ρ : Env}
theorem post_opt {DN : AS → Hp → α → β → Prop} {o : Option α} {Q : β → Hp → Prop} (h : post K mg M E DN F W σ H (opt o ρ) Q) : ∃ z, o = some z ∧ post K mg M E DN F W σ H (.ok (z, ρ)) Q := by
  cases o with
  | none => exact False.elim h
  | some z => exact ⟨z, rfl, h⟩
end
section
variable {X : Cx} {E : XK} {M : List Nat} {pos : Pos} {e a b c : Expr} {es : List Expr} {fe fa fb : EF} {fc ga gb : BF} {fs : AF}
theorem de_var {x : Str} {i : Nat} (h : PE X (.Name x pos) (tVar i)) (hM : i ∉ M) : DE X E M (.Name x pos) (eVar i) := by
  refine PE.weak h fun σ H Q ⟨F, W, ρ, ⟨R, rel⟩, h⟩ => ?_
  unfold eVar at h
  cases er : ρ[i]? with
  | none => simp [er] at h; exact False.elim h
  | some o =>
    cases o with
    | none => simp [er] at h; exact False.elim h
    | some d =>
      obtain ⟨v, ev, dn⟩ := rel.sh i d hM er
      simp only [er] at h
      exact ⟨v, ev, post_ok h ⟨R, rel⟩ (Ext.refl rel.fd) dn⟩
theorem de_c {v : V} {d : D} (h : PE X e (tC v)) (dn : ∀ F H, Den X.K X.mg F H d v) : DE X E M e (eC d) :=
  PE.weak h fun σ H Q ⟨F, W, ρ, rel, h⟩ => post_ok h rel (Ext.refl rel.fd) (dn F H)
theorem de_int {i j} : DE X E M (.Constant (.int i) j pos) (eC (.int i)) := de_c pe_int fun _ _ => rfl
theorem de_bl {i j} : DE X E M (.Constant (.bool i) j pos) (eC (.bl i)) := de_c pe_bl fun _ _ => rfl
theorem de_non {j} : DE X E M (.Constant .none j pos) (eC .non) := de_c pe_non fun _ _ => rfl
theorem de_str {i j} : DE X E M (.Constant (.str i) j pos) (eC (.str i)) := de_c pe_str fun _ _ => rfl
/-- what an operation on two values does to what they tell -/
def OpD (K : PySem.W.Frag) (mg : Str → Option Value) (r : R2) (g : D → D → Option D) : Prop := ∀ (F : AS) (H : Hp) (d e z : D) (v w : V) (Q : VK), (∀ a, F a → ∃ o, H a = some o) → Den K mg F H d v → Den K mg F H e w → g d e = some z →
  (∀ u F' H', Ext F H F' H' → Den K mg F' H' z u → Q u H') → r v w H Q
def CallD (K : PySem.W.Frag) (mg : Str → Option Value) (r : List V → Hp → VK → Prop) (g : List D → Option D) : Prop := ∀ (F : AS) (H : Hp) (ds : List D) (z : D) (vs : List V) (Q : VK), (∀ a, F a → ∃ o, H a = some o) → DenL K mg F H ds vs → g ds = some z →
  (∀ u F' H', Ext F H F' H' → Den K mg F' H' z u → Q u H') → r vs H Q
theorem tOp_of {K : PySem.W.Frag} {mg : Str → Option Value} {r : R2} {g : D → D → Option D} (hg : OpD K mg r g) {σ : St} {H : Hp} {Q : VK} (h : tG K mg M E (dnD K mg) (e2 g fa fb) σ H Q) :
    tOp r (tG K mg M E (dnD K mg) fa) (tG K mg M E (dnD K mg) fb) σ H Q := by
  obtain ⟨F, W, ρ, rel, h⟩ := h
  refine tG_of rel h fun d ρ1 v H1 F1 W1 rel1 dn1 st1 h1 => tG_of rel1 h1 fun d2 ρ2 w H2 F2 W2 rel2 dn2 st2 h2 => ?_
  obtain ⟨z, ez, h3⟩ := post_opt h2
  exact hg F2 H2 d d2 z v w Q rel2.fd (st2.den rel1 dn1) dn2 ez fun u F' H' ex du => post_ok h3 rel2 ex du
theorem de_op {op : Operator} {r : R2} {g : D → D → Option D} (hop : OpR X (binaryOp op) r) (hg : OpD X.K X.mg r g) (ha : DE X E M a fa) (hb : DE X E M b fb) : DE X E M (.BinOp a op b pos) (e2 g fa fb) :=
  PE.weak (pe_op hop ha hb) fun _ _ _ h => tOp_of hg h
/-- a comparison as a test -/
theorem dt_cmp {op : CmpOp} {r : R2} {g : D → D → Option D} (hg : OpD X.K X.mg r g) (hm : PT X (.Compare a [op] [b] pos) (tTest (tOp r (tG X.K X.mg M E (dnD X.K X.mg) fa) (tG X.K X.mg M E (dnD X.K X.mg) fb)))) :
    DT X E M (.Compare a [op] [b] pos) (bVal (e2 g fa fb)) := by
  refine PT.weak hm fun σ H Q ⟨F, W, ρ, rel, h⟩ => ?_
  refine tOp_of hg ⟨F, W, ρ, rel, ?_⟩
  unfold bVal at h
  cases e : e2 g fa fb ρ with
  | ok p =>
    rw [e] at h
    intro v H' F' W' r1 d1 s1
    obtain ⟨z, ez, h3⟩ := post_opt h
    cases hp : p.1 with
    | bl k =>
      rw [hp] at ez d1
      cases ez
      exact ⟨z, d1, h3 z H' F' W' r1 rfl s1⟩
    | _ => rw [hp] at ez; cases ez
  | err c => rw [e] at h; exact h
  | stuck => rw [e] at h; exact h
theorem dt_val (ha : DE X E M e fe) (hv : ∀ t, PE X e t → PT X e (tB t)) : DT X E M e (bVal fe) := by
  refine PT.weak (hv _ ha) fun σ H Q ⟨F, W, ρ, rel, h⟩ => ?_
  refine tG_of rel h fun d ρ1 v H1 F1 W1 rel1 dn1 st1 h1 => ?_
  obtain ⟨z, ez, h3⟩ := post_opt h1
  cases d with
  | bl k => cases ez; exact ⟨z, dn1, post_ok h3 rel1 (Ext.refl rel1.fd) rfl⟩
  | _ => cases ez
theorem da_nil : DA X E M [] aNil := PA.weak pa_nil fun σ H Q ⟨F, W, ρ, rel, h⟩ => post_ok h rel (Ext.refl rel.fd) denL_nil
theorem da_cons (ha : DE X E M e fe) (hr : DA X E M es fs) (hs : starEach (e :: es) X.env = (false, eval e X.env) :: starEach es X.env := by rfl) : DA X E M (e :: es) (aCons fe fs) := by
  refine PA.weak (pa_cons ha hr hs) fun σ H Q ⟨F, W, ρ, rel, h⟩ => ?_
  refine tG_of rel h fun d ρ1 v H1 F1 W1 rel1 dn1 st1 h1 => tG_of rel1 h1 fun ds ρ2 vs H2 F2 W2 rel2 dn2 st2 h2 => ?_
  exact post_ok h2 rel2 (Ext.refl rel2.fd) (denL_cons (st2.den rel1 dn1) dn2)
theorem tCB_of {K : PySem.W.Frag} {mg : Str → Option Value} {r : List V → Hp → VK → Prop} {g : List D → Option D} (hg : CallD K mg r g) {σ : St} {H : Hp} {Q : VK} (h : tG K mg M E (dnD K mg) (eN g fs) σ H Q) : tCB r (tG K mg M E (dnL K mg) fs) σ H Q := by
  obtain ⟨F, W, ρ, rel, h⟩ := h
  refine tG_of rel h fun ds ρ1 vs H1 F1 W1 rel1 dn1 st1 h1 => ?_
  obtain ⟨z, ez, h3⟩ := post_opt h1
  exact hg F1 H1 ds z vs Q rel1.fd dn1 ez fun u F' H' ex du => post_ok h3 rel1 ex du
theorem de_callB {x : Str} {p : Pos} {id : String} {r : List V → Hp → VK → Prop} {g : List D → Option D} (hc : CallR X (.builtin id) r) (hd : CallD X.K X.mg r g) (hg : Gl X x) (hm : X.mg x = none) (hv : bootBuiltins x = some (.builtin id)) (ha : DA X E M (e :: es) fs)
    (hn : x ≠ "__name__" := by decide) (hdb : (x == ("__debug__" : Str)) = false := by decide) (he : starEach (e :: es) X.env = (false, eval e X.env) :: starEach es X.env := by rfl) (hpl : (backTo pos (starEach es X.env)).any (·.1) = false := by rfl) :
    DE X E M (.Call (.Name x p) (e :: es) [] pos) (eN g fs) := PE.weak (pe_callB hc hg hm hv ha hn hdb he hpl) fun _ _ _ h => tCB_of hd h
theorem de_callTy {x : Str} {p : Pos} {T : String} {r : List V → Hp → VK → Prop} {g : List D → Option D} (hc : CallR X (.type T) r) (hd : CallD X.K X.mg r g) (hg : Gl X x) (hm : X.mg x = none) (hv : bootBuiltins x = some (.type T)) (ha : DA X E M (e :: es) fs)
    (hn : x ≠ "__name__" := by decide) (hdb : (x == ("__debug__" : Str)) = false := by decide) (he : starEach (e :: es) X.env = (false, eval e X.env) :: starEach es X.env := by rfl) (hpl : (backTo pos (starEach es X.env)).any (·.1) = false := by rfl) :
    DE X E M (.Call (.Name x p) (e :: es) [] pos) (eN g fs) := PE.weak (pe_callTy hc hg hm hv ha hn hdb he hpl) fun _ _ _ h => tCB_of hd h
/-! ### and, or, not, if -/
theorem de_one {op : BoolOp} (ha : DE X E M a fa) : DE X E M (.BoolOp op [a] pos) fa := pe_one ha
theorem de_and {rest : List Expr} (ha : DE X E M a fa) (hb : DE X E M (.BoolOp .And (b :: rest) pos) fb) : DE X E M (.BoolOp .And (a :: b :: rest) pos) (eAnd fa fb) := by
  refine PE.weak (pe_and ha hb) fun σ H Q ⟨F, W, ρ, rel, h⟩ => ?_
  refine tG_of rel h fun d ρ1 v H1 F1 W1 rel1 dn1 st1 h1 => ?_
  cases d with
  | bl k =>
    refine ⟨k, dn1, ?_⟩
    cases k with
    | true => exact iteT ⟨F1, W1, ρ1, rel1, h1⟩
    | false => exact iteF (post_ok h1 rel1 (Ext.refl rel1.fd) rfl)
  | _ => exact False.elim h1
theorem de_not (ha : DE X E M a fa) : DE X E M (.UnaryOp .Not a pos) (eNot fa) := by
  refine PE.weak (pe_not ha) fun σ H Q ⟨F, W, ρ, rel, h⟩ => ?_
  refine tG_of rel h fun d ρ1 v H1 F1 W1 rel1 dn1 st1 h1 => ?_
  cases d with
  | bl k => exact ⟨k, dn1, post_ok h1 rel1 (Ext.refl rel1.fd) rfl⟩
  | _ => exact False.elim h1
theorem dt_not (ha : DT X E M a ga) : DT X E M (.UnaryOp .Not a pos) (bNot ga) := by
  refine PT.weak (pt_not ha) fun σ H Q ⟨F, W, ρ, rel, h⟩ => ?_
  refine tG_of rel h fun d ρ1 v H1 F1 W1 rel1 dn1 st1 h1 => ?_
  cases dn1
  exact post_ok h1 rel1 (Ext.refl rel1.fd) rfl
theorem DW.dt (h : DW X E M e ga) : DT X E M e ga := PW.pt h
/-! ### displays -/
def szOk (n : Nat) : Bool := decide (n ≤ 16777216)
theorem szOk_le {n : Nat} (h : szOk n = true) : n ≤ sizeLine := by rw [sizeLine_eq]; exact of_decide_eq_true h
def gTupN : List D → Option D := fun ds => if szOk ds.length = true then some (.tup ds) else none
def gLstN : List D → Option D := fun ds => if szOk ds.length = true then some (.lst ds) else none
theorem de_tup {x1} (h : DA X E M es fs) : DE X E M (.Tuple es x1 pos) (eN gTupN fs) := by
  refine PE.weak (pe_tup h) fun σ H Q ⟨F, W, ρ, rel, h⟩ => ?_
  refine tG_of rel h fun ds ρ1 vs H1 F1 W1 rel1 dn1 st1 h1 => ?_
  obtain ⟨z, ez, h3⟩ := post_opt h1
  unfold gTupN at ez
  split at ez
  · rename_i hz
    cases ez
    refine ⟨by rw [dn1.len]; exact szOk_le hz, fun p np => ?_⟩
    obtain ⟨ex, dn⟩ := den_tupN rel1.fd np dn1
    exact post_ok h3 rel1 ex dn
  · cases ez
theorem de_lst (h : DA X E M es fs) : DE X E M (.List es pos) (eN gLstN fs) := by
  refine PE.weak (pe_lst h) fun σ H Q ⟨F, W, ρ, rel, h⟩ => ?_
  refine tG_of rel h fun ds ρ1 vs H1 F1 W1 rel1 dn1 st1 h1 => ?_
  obtain ⟨z, ez, h3⟩ := post_opt h1
  unfold gLstN at ez
  split at ez
  · rename_i hz
    cases ez
    refine ⟨by rw [dn1.len]; exact szOk_le hz, fun p np => ?_⟩
    obtain ⟨ex, dn⟩ := den_lstN rel1.fd np dn1
    exact post_ok h3 rel1 ex dn
  · cases ez
end
end DL

set_option Elab.async false
set_option linter.all false
set_option maxRecDepth 100000
set_option maxHeartbeats 4000000
namespace L2
open PySem PySem.Spec PyProof PyProof.Rows TL

/-! ### repr of lists and tuples of plain things -/
mutual
/-- what a value reads as, dicts left out -/
inductive RdV (K : PySem.W.Frag) (H : Hp) : V → PyData → Prop
  | non : RdV K H .non .none
  | bl (b) : RdV K H (.bl b) (.bool b)
  | int (i) : RdV K H (.int i) (.int i)
  | str (x) : RdV K H (.str x) (.str x)
  | lst {a xs ds} : SqL K H a xs → RdVs K H xs ds → RdV K H (.ref a) (.list ds)
  | tup {a xs ds} : SqT K H a xs → RdVs K H xs ds → RdV K H (.ref a) (.tuple ds)
inductive RdVs (K : PySem.W.Frag) (H : Hp) : List V → List PyData → Prop
  | nil : RdVs K H [] []
  | cons {x xs d ds} : RdV K H x d → RdVs K H xs ds → RdVs K H (x :: xs) (d :: ds)
end
section
variable {X : Cx} {pins : List (Addr × Obj)} {σ : St} {H : Hp} {s : Shared}
theorem Inv.reads (I : Inv X pins σ H s) {x : V} {d : PyData} (r : RdV X.K H x d) : ∀ v, RelV x v → ∃ as, Reads s.heap v d as := by
  refine RdV.rec (motive_1 := fun x d _ => ∀ v, RelV x v → ∃ as, Reads s.heap v d as) (motive_2 := fun xs ds _ => ∀ vs, Vals xs vs → ∃ as, ReadsAll s.heap vs ds as) ?_ ?_ ?_ ?_ ?_ ?_ ?_ ?_ r
  · intro v e; cases e; exact ⟨_, .none⟩
  · intro b v e; cases e; exact ⟨_, .bool b⟩
  · intro i v e; obtain ⟨t, rfl⟩ := e; exact ⟨_, .int i t⟩
  · intro z v e; obtain ⟨t, rfl⟩ := e; exact ⟨_, .str z t⟩
  · intro a xs ds h _ ih v e
    cases e
    obtain ⟨its, rv, ⟨o, n, e1, e2, e3, e4⟩, _⟩ := I.list h
    obtain ⟨as, ra⟩ := ih its rv
    exact ⟨_, .list e1 e2 e4 (by simpa using ra)⟩
  · intro a xs ds h _ ih v e
    cases e
    obtain ⟨its, rv, ⟨o, e1, e2, n, e4⟩, _⟩ := I.tuple h
    obtain ⟨as, ra⟩ := ih its rv
    exact ⟨_, .tuple e1 e2 e4 (by simpa using ra)⟩
  · intro vs e; cases e; exact ⟨_, .nil⟩
  · intro x xs d ds _ _ ih1 ih2 vs e
    cases e with
    | cons e1 e2 =>
      obtain ⟨as, r1⟩ := ih1 _ e1
      obtain ⟨bs, r2⟩ := ih2 _ e2
      exact ⟨_, .cons r1 r2⟩
/-- what stays is read the same -/
theorem RdV.keep {K : PySem.W.Frag} {H' : Hp} {x : V} {d : PyData} (r : RdV K H x d) (h1 : ∀ a xs, SqL K H a xs → SqL K H' a xs) (h2 : ∀ a xs, SqT K H a xs → SqT K H' a xs) : RdV K H' x d := by
  refine RdV.rec (motive_1 := fun x d _ => RdV K H' x d) (motive_2 := fun xs ds _ => RdVs K H' xs ds) ?_ ?_ ?_ ?_ ?_ ?_ ?_ ?_ r
  · exact .non
  · intro b; exact .bl b
  · intro i; exact .int i
  · intro z; exact .str z
  · intro a xs ds h _ ih; exact .lst (h1 _ _ h) ih
  · intro a xs ds h _ ih; exact .tup (h2 _ _ h) ih
  · exact .nil
  · intro x xs d ds _ _ ih1 ih2; exact .cons ih1 ih2
/-! ### divmod by any positive number that is not huge -/
theorem call_divmodB : CallR X (.builtin "divmod") (fun xs H Q => ∃ i j, xs = [.int i, .int j] ∧ (0 < j ∧ j.natAbs.log2 < 9000) ∧ ∀ p, H p = none → Q (.ref p) (upd H p (.tup [.int (i / j), .int (i % j)]))) := by
  intro pins s σ H xs us Q I r h
  obtain ⟨i, j, rfl, ⟨h1, h2⟩, q⟩ := h
  obtain ⟨u, w', rfl, ⟨t, rfl⟩, ⟨t', rfl⟩⟩ := vals2 r
  refine divmod_int (by omega) ?_ (.inl (PyProof.noPylong_of_log2 h2))
  rw [Int.fdiv_eq_ediv_of_nonneg i (by omega), Int.fmod_eq_emod_of_nonneg i (by omega)]
  have hn : H s.heap.objs.size = none := I.hok.fresh (Nat.le_refl _)
  refine ⟨.ref s.heap.objs.size, _, ?_, rfl, q _ hn⟩
  have two : ([V.int (i / j), V.int (i % j)] : List V).length ≤ sizeLine := by
    show 2 ≤ sizeLine
    decide
  refine I.laid (fun b o e => Heap.get?_push_of_some _ e) (Nat.le_refl _) ⟨two, [.int (i / j) s.toks, .int (i % j) (s.toks + 1)], .cons ⟨_, rfl⟩ (.cons ⟨_, rfl⟩ .nil), ?_⟩
  exact ⟨_, Heap.get?_push_size s.heap rfl, rfl, 0, rfl⟩
end
end L2

set_option Elab.async false
set_option linter.all false
set_option maxRecDepth 100000
set_option maxHeartbeats 4000000
namespace L2
open PySem PySem.Spec PyProof PyProof.Rows TL
/-! ### in, not in, of a list of nested things -/
section
variable {X : Cx} {pins : List (Addr × Obj)} {σ : St} {H : Hp} {s : Shared}
open Classical in
end
end L2

set_option Elab.async false
set_option linter.all false
set_option maxRecDepth 100000
set_option maxHeartbeats 4000000
namespace DL
open PySem L2 TL
theorem OpR_or {X : Cx} {f : Value → Value → Sem Value} {r r' : R2} (h : OpR X f r) (h' : OpR X f r') : OpR X f (fun x y H Q => r x y H Q ∨ r' x y H Q) := fun pins s σ H x y v u Q I rx ry q => q.elim (h pins s σ H x y v u Q I rx ry) (h' pins s σ H x y v u Q I rx ry)
theorem CallR_or {X : Cx} {f : Value} {r r' : List V → Hp → VK → Prop} (h : CallR X f r) (h' : CallR X f r') : CallR X f (fun xs H Q => r xs H Q ∨ r' xs H Q) := fun pins s σ H x v Q I rx q => q.elim (h pins s σ H x v Q I rx) (h' pins s σ H x v Q I rx)
/-! ### data as the library has it -/
mutual
def toPy : D → PyData
  | .non => .none
  | .bl b => .bool b
  | .int i => .int i
  | .str x => .str x
  | .lst ds => .list (toPyL ds)
  | .tup ds => .tuple (toPyL ds)
  | .ktup ds => .tuple (toPyL ds)
  | .dic _ kvs => .dict (toPyK kvs)
  | _ => .dict []
def toPyL : List D → List PyData
  | [] => []
  | d :: ds => toPy d :: toPyL ds
def toPyK : List (D × D) → List (PyData × PyData)
  | [] => []
  | (k, d) :: ds => (toPy k, toPy d) :: toPyK ds
end
mutual
def okP : D → Bool
  | .non => true
  | .bl _ => true
  | .int _ => true
  | .str _ => true
  | .lst ds => okPL ds
  | .tup ds => okPL ds
  | .ktup ds => okPL ds
  | _ => false
def okPL : List D → Bool
  | [] => true
  | d :: ds => okP d && okPL ds
end
section
variable {K : PySem.W.Frag} {mg : Str → Option Value} {F : AS} {H : Hp}
mutual
theorem den_dp : ∀ (d : D) (v : V), Den K mg F H d v → okP d = true → Dp K H v (toPy d)
  | .non, _, h, _ => by cases h; exact .non
  | .bl b, _, h, _ => by cases h; exact .bl b
  | .int i, _, h, _ => by cases h; exact .int i
  | .str x, _, h, _ => by cases h; exact .str x
  | .lst ds, _, h, o => by obtain ⟨a, vs, rfl, _, h1, h2⟩ := h; exact .lst (SqL.of h1) (den_dpL ds vs h2 o)
  | .tup ds, _, h, o => by obtain ⟨a, vs, rfl, _, h1, h2⟩ := h; exact .tup (SqT.of h1) (den_dpL ds vs h2 o)
  | .ktup ds, _, h, o => by obtain ⟨a, vs, rfl, h1, h2⟩ := h; exact .tup h1.sq (den_dpL ds vs h2 o)
  | .ty _, _, _, o => by cases o
  | .dic _ _, _, _, o => by cases o
  | .obj _ _, _, _, o => by cases o
  | .cls _, _, _, o => by cases o
  | .scr _, _, _, o => by cases o
  | .tab _, _, _, o => by cases o
theorem den_dpL : ∀ (ds : List D) (vs : List V), DenL K mg F H ds vs → okPL ds = true → DpAll K H vs (toPyL ds)
  | [], _, h, _ => by cases h; exact .nil
  | d :: ds, _, h, o => by
    obtain ⟨v, r, rfl, h1, h2⟩ := h
    have o' : okP d = true ∧ okPL ds = true := by simpa [okPL] using o
    exact .cons (den_dp d v h1 o'.1) (den_dpL ds r h2 o'.2)
end
end
/-- a flat thing as a value -/
def sc : D → Option V
  | .non => some .non
  | .bl b => some (.bl b)
  | .int i => some (.int i)
  | .str x => some (.str x)
  | _ => none
def scL : List D → Option (List V)
  | [] => some []
  | d :: ds => match sc d, scL ds with
    | some v, some vs => some (v :: vs)
    | _, _ => none
section
variable {K : PySem.W.Frag} {mg : Str → Option Value} {F : AS} {H : Hp}
theorem sc_den {d : D} {v w : V} (h : Den K mg F H d v) (e : sc d = some w) : v = w := by
  cases d <;> first | (cases e; exact h) | cases e
theorem scL_den : ∀ {ds : List D} {vs ws : List V}, DenL K mg F H ds vs → scL ds = some ws → vs = ws
  | [], _, _, h, e => by cases e; exact h
  | d :: ds, _, _, h, e => by
    obtain ⟨v, r, rfl, h1, h2⟩ := h
    unfold scL at e
    split at e
    · rename_i a b e1 e2
      cases e
      rw [sc_den h1 e1, scL_den h2 e2]
    · cases e
theorem sc_flat {d : D} {w : V} (e : sc d = some w) : flatV w = true := by cases d <;> first | (cases e; rfl) | cases e
theorem scL_flat : ∀ {ds : List D} {ws : List V}, scL ds = some ws → ws.all flatV = true
  | [], _, e => by cases e; rfl
  | d :: ds, _, e => by
    unfold scL at e
    split at e
    · rename_i a b e1 e2
      cases e
      rw [List.all_cons, sc_flat e1, scL_flat e2]
      rfl
    · cases e
end
/-! ### reckoning with numbers, texts, lists -/
def gAdd : D → D → Option D
  | .int i, .int j => some (.int (i + j))
  | .str x, .str y => if szOk (x.length + y.length) = true then some (.str (x ++ y)) else none
  | .lst xs, .lst ys => if szOk (xs.length + ys.length) = true then some (.lst (xs ++ ys)) else none
  | .tup xs, .tup ys => if (!xs.isEmpty && szOk (xs.length + ys.length)) = true then some (.tup (xs ++ ys)) else none
  | _, _ => none
def gSub : D → D → Option D
  | .int i, .int j => some (.int (i - j))
  | _, _ => none
def in64 (i : Int) : Bool := decide (-(2 ^ 64) < i ∧ i < 2 ^ 64)
def gMul : D → D → Option D
  | .int i, .int j => if (in64 i || in64 j) = true then some (.int (i * j)) else none
  | .lst xs, .int k => if (decide (-(2 ^ 63) ≤ k ∧ k < 2 ^ 63) && szOk (xs.length * k.toNat)) = true then some (.lst (List.replicate k.toNat xs).flatten) else none
  | _, _ => none
def gFdiv : D → D → Option D
  | .int i, .int j => if j ≠ 0 ∧ j.natAbs < 1073741824 then some (.int (i.fdiv j)) else none
  | _, _ => none
def gMod : D → D → Option D
  | .int i, .int j => if j ≠ 0 then some (.int (i.fmod j)) else none
  | _, _ => none
def gPow : D → D → Option D
  | .int i, .int j => if 0 ≤ j ∧ j ≤ 1000000 ∧ i.natAbs < 2 ^ 64 then some (.int (i ^ j.toNat)) else none
  | _, _ => none
def gNeg : D → Option D
  | .int i => some (.int (-i))
  | _ => none
def gLt : D → D → Option D
  | .int i, .int j => some (.bl (decide (i < j)))
  | _, _ => none
def gLe : D → D → Option D
  | .int i, .int j => some (.bl (decide (i ≤ j)))
  | _, _ => none
def gGt : D → D → Option D
  | .int i, .int j => some (.bl (decide (j < i)))
  | _, _ => none
def gGe : D → D → Option D
  | .int i, .int j => some (.bl (decide (j ≤ i)))
  | _, _ => none
def deepB (d e : D) : Option Bool := if (okP d && okP e && SeqAt.shaped (toPy d) && SeqAt.shaped (toPy e)) = true then some (PyData.eqv (toPy d) (toPy e)) else none
def eqB (d e : D) : Option Bool := match sc d, sc e with
  | some x, some y => if scal x y = true then some (decide (x = y)) else deepB d e
  | _, _ => deepB d e
def gEq (d e : D) : Option D := (eqB d e).map D.bl
def gNe (d e : D) : Option D := (eqB d e).map fun b => D.bl (!b)
def isNon : D → Bool
  | .non => true
  | _ => false
def gIs : D → D → Option D
  | d, .non => some (.bl (isNon d))
  | .bl a, .bl b => some (.bl (decide (a = b)))
  | _, _ => none
def gIsNot : D → D → Option D
  | d, .non => some (.bl (!isNon d))
  | _, _ => none
def rAddD (K : PySem.W.Frag) : R2 := fun x y H Q => rI0 (fun i j => .int (i + j)) x y H Q ∨ (∃ i j, x = .str i ∧ y = .str j ∧ i.length + j.length ≤ sizeLine ∧ Q (.str (i ++ j)) H) ∨ rCat x y H Q ∨ rCatT K x y H Q
section
variable {X : Cx} {K : PySem.W.Frag} {mg : Str → Option Value}
theorem op_addD : OpR X (binaryOp .Add) (rAddD X.K) := OpR_or op_add (OpR_or op_add_str (OpR_or op_cat op_catT))
theorem od_add : OpD K mg (rAddD K) gAdd := by
  intro F H d e z v w Q fd hd he hg q
  unfold gAdd at hg
  split at hg
  · cases hg; cases hd; cases he
    exact .inl ⟨_, _, rfl, rfl, q _ _ _ (Ext.refl fd) rfl⟩
  · split at hg
    · rename_i hz
      cases hg; cases hd; cases he
      exact .inr (.inl ⟨_, _, rfl, rfl, szOk_le hz, q _ _ _ (Ext.refl fd) rfl⟩)
    · cases hg
  · split at hg
    · rename_i hz
      cases hg
      obtain ⟨a, vs, rfl, fa, ha, ra⟩ := hd
      obtain ⟨b, ws, rfl, fb, hb, rb⟩ := he
      refine .inr (.inr (.inl ⟨a, b, vs, ws, rfl, rfl, ha, hb, by rw [ra.len, rb.len]; exact szOk_le hz, fun p np => ?_⟩))
      obtain ⟨ex, dn⟩ := den_lstN fd np (ra.app rb)
      exact q _ _ _ ex dn
    · cases hg
  · split at hg
    · rename_i xs ys hz
      cases hg
      rw [Bool.and_eq_true] at hz
      obtain ⟨a, vs, rfl, fa, ha, ra⟩ := hd
      obtain ⟨b, ws, rfl, fb, hb, rb⟩ := he
      have nv : vs ≠ [] := by
        intro e
        have := ra.len
        rw [e] at this
        cases xs with
        | nil => simp at hz
        | cons _ _ => simp at this
      refine .inr (.inr (.inr ⟨a, b, vs, ws, rfl, rfl, SqT.of ha, SqT.of hb, nv, by rw [ra.len, rb.len]; exact szOk_le hz.2, fun e => ?_, fun _ p np => ?_⟩))
      · subst e
        have : ys = [] := by
          have := rb.len
          cases ys with
          | nil => rfl
          | cons _ _ => simp at this
        subst this
        refine q _ _ _ (Ext.refl fd) ?_
        rw [List.append_nil]
        exact ⟨a, vs, rfl, fa, ha, ra⟩
      · obtain ⟨ex, dn⟩ := den_tupN fd np (ra.app rb)
        exact q _ _ _ ex dn
    · cases hg
  · cases hg
theorem od_sub : OpD K mg (rI0 fun i j => .int (i - j)) gSub := by
  intro F H d e z v w Q fd hd he hg q
  unfold gSub at hg
  split at hg
  · cases hg; cases hd; cases he
    exact ⟨_, _, rfl, rfl, q _ _ _ (Ext.refl fd) rfl⟩
  · cases hg
theorem op_mulD : OpR X (binaryOp .Mult) (fun x y H Q => rI CMul (fun i j => .int (i * j)) x y H Q ∨ rRep x y H Q) := OpR_or op_mul op_rep
theorem od_mul : OpD K mg (fun x y H Q => rI CMul (fun i j => .int (i * j)) x y H Q ∨ rRep x y H Q) gMul := by
  intro F H d e z v w Q fd hd he hg q
  unfold gMul at hg
  split at hg
  · split at hg
    · rename_i hz
      cases hg; cases hd; cases he
      refine .inl ⟨_, _, rfl, rfl, ?_, q _ _ _ (Ext.refl fd) rfl⟩
      rw [Bool.or_eq_true] at hz
      exact hz.imp of_decide_eq_true of_decide_eq_true
    · cases hg
  · split at hg
    · rename_i hz
      cases hg
      rw [Bool.and_eq_true] at hz
      obtain ⟨a, vs, rfl, fa, ha, ra⟩ := hd
      cases he
      have h1 := of_decide_eq_true hz.1
      refine .inr ⟨a, _, vs, rfl, rfl, ha, h1.1, h1.2, by rw [ra.len]; exact szOk_le hz.2, fun p np => ?_⟩
      obtain ⟨ex, dn⟩ := den_lstN fd np (ra.rep _)
      exact q _ _ _ ex dn
    · cases hg
  · cases hg
theorem od_fdiv : OpD K mg (rI CDivN fun i j => .int (i.fdiv j)) gFdiv := by
  intro F H d e z v w Q fd hd he hg q
  unfold gFdiv at hg
  split at hg
  · split at hg
    · rename_i hz; cases hg; cases hd; cases he
      exact ⟨_, _, rfl, rfl, hz, q _ _ _ (Ext.refl fd) rfl⟩
    · cases hg
  · cases hg
theorem od_mod : OpD K mg (rI (fun _ j => j ≠ 0) fun i j => .int (i.fmod j)) gMod := by
  intro F H d e z v w Q fd hd he hg q
  unfold gMod at hg
  split at hg
  · split at hg
    · rename_i hz; cases hg; cases hd; cases he
      exact ⟨_, _, rfl, rfl, hz, q _ _ _ (Ext.refl fd) rfl⟩
    · cases hg
  · cases hg
theorem od_pow : OpD K mg (rI CPow fun i j => .int (i ^ j.toNat)) gPow := by
  intro F H d e z v w Q fd hd he hg q
  unfold gPow at hg
  split at hg
  · split at hg
    · rename_i hz; cases hg; cases hd; cases he
      exact ⟨_, _, rfl, rfl, hz, q _ _ _ (Ext.refl fd) rfl⟩
    · cases hg
  · cases hg
theorem od_lt : OpD K mg (rI0 fun i j => .bl (decide (i < j))) gLt := by
  intro F H d e z v w Q fd hd he hg q
  unfold gLt at hg
  split at hg
  · cases hg; cases hd; cases he
    exact ⟨_, _, rfl, rfl, q _ _ _ (Ext.refl fd) rfl⟩
  · cases hg
theorem od_le : OpD K mg (rI0 fun i j => .bl (decide (i ≤ j))) gLe := by
  intro F H d e z v w Q fd hd he hg q
  unfold gLe at hg
  split at hg
  · cases hg; cases hd; cases he
    exact ⟨_, _, rfl, rfl, q _ _ _ (Ext.refl fd) rfl⟩
  · cases hg
theorem od_gt : OpD K mg (rI0 fun i j => .bl (decide (j < i))) gGt := by
  intro F H d e z v w Q fd hd he hg q
  unfold gGt at hg
  split at hg
  · cases hg; cases hd; cases he
    exact ⟨_, _, rfl, rfl, q _ _ _ (Ext.refl fd) rfl⟩
  · cases hg
/-! ### == and != -/
theorem op_ne2 (hu : X.A.units + 64 < cLine) : OpR X (compareOp .NotEq) (fun x y H Q => rNe x y H Q ∨ rNeD X.K x y H Q) := OpR_or op_ne (op_neD hu)
theorem eqB_den {F : AS} {H : Hp} {d e : D} {v w : V} {b : Bool} (hd : Den K mg F H d v) (he : Den K mg F H e w) (h : eqB d e = some b) :
    (scal v w = true ∧ decide (v = w) = b) ∨ ∃ p q, Dp K H v p ∧ Dp K H w q ∧ SeqAt.shaped p = true ∧ SeqAt.shaped q = true ∧ PyData.eqv p q = b := by
  have deep : deepB d e = some b → ∃ p q, Dp K H v p ∧ Dp K H w q ∧ SeqAt.shaped p = true ∧ SeqAt.shaped q = true ∧ PyData.eqv p q = b := by
    intro h
    unfold deepB at h
    split at h
    · rename_i hz
      simp only [Bool.and_eq_true] at hz
      cases h
      exact ⟨_, _, den_dp d v hd hz.1.1.1, den_dp e w he hz.1.1.2, hz.1.2, hz.2, rfl⟩
    · cases h
  unfold eqB at h
  split at h
  · rename_i x y e1 e2
    split at h
    · rename_i hz
      cases h
      rw [sc_den hd e1, sc_den he e2]
      exact .inl ⟨hz, rfl⟩
    · exact .inr (deep h)
  · exact .inr (deep h)
theorem od_ne : OpD K mg (fun x y H Q => rNe x y H Q ∨ rNeD K x y H Q) gNe := by
  intro F H d e z v w Q fd hd he hg q
  unfold gNe at hg
  obtain ⟨b, hb, rfl⟩ := Option.map_eq_some_iff.mp hg
  rcases eqB_den hd he hb with ⟨h1, rfl⟩ | ⟨p, r, h1, h2, h3, h4, rfl⟩
  · exact .inl ⟨h1, q _ _ _ (Ext.refl fd) rfl⟩
  · exact .inr ⟨p, r, h1, h2, h3, h4, q _ _ _ (Ext.refl fd) rfl⟩
/-! ### is -/
/-! ### indices -/
def gIx : D → D → Option D
  | .lst ds, .int i => atI ds i
  | .tup ds, .int i => atI ds i
  | .ktup ds, .int i => atI ds i
  | .scr ds, .int i => atI ds i
  | .str z, .int i => if szOk z.length = true then (atI z.cps.toList i).map fun c => .str ⟨#[c]⟩ else none
  | _, _ => none
theorem atI_den {F : AS} {H : Hp} {ds : List D} {vs : List V} {i : Int} {z : D} (r : DenL K mg F H ds vs) (h : atI ds i = some z) : ∃ v, atI vs i = some v ∧ Den K mg F H z v := by
  unfold atI at h ⊢
  rw [r.len]
  cases e : ixN ds.length i with
  | none => rw [e] at h; cases h
  | some j =>
    rw [e] at h
    obtain ⟨v, e1, d1⟩ := r.get (i := j) h
    exact ⟨v, e1, d1⟩
theorem od_ix : OpD K mg (rIx K) gIx := by
  intro F H d e z v w Q fd hd he hg q
  unfold gIx at hg
  split at hg
  · obtain ⟨a, vs, rfl, fa, ha, ra⟩ := hd
    cases he
    obtain ⟨u, e1, d1⟩ := atI_den ra hg
    exact .inl ⟨a, vs, _, u, rfl, rfl, SqL.of ha, e1, q _ _ _ (Ext.refl fd) d1⟩
  · obtain ⟨a, vs, rfl, fa, ha, ra⟩ := hd
    cases he
    obtain ⟨u, e1, d1⟩ := atI_den ra hg
    exact .inr (.inl ⟨a, vs, _, u, rfl, rfl, SqT.of ha, e1, q _ _ _ (Ext.refl fd) d1⟩)
  · obtain ⟨a, vs, rfl, ha, ra⟩ := hd
    cases he
    obtain ⟨u, e1, d1⟩ := atI_den ra hg
    exact .inr (.inl ⟨a, vs, _, u, rfl, rfl, ha.sq, e1, q _ _ _ (Ext.refl fd) d1⟩)
  · obtain ⟨a, vs, rfl, ha, ra⟩ := hd
    cases he
    obtain ⟨u, e1, d1⟩ := atI_den ra hg
    exact .inl ⟨a, vs, _, u, rfl, rfl, scr_sq ha, e1, q _ _ _ (Ext.refl fd) d1⟩
  · split at hg
    · rename_i hz
      obtain ⟨c, hc, rfl⟩ := Option.map_eq_some_iff.mp hg
      cases hd; cases he
      exact .inr (.inr ⟨_, _, c, rfl, rfl, szOk_le hz, hc, q _ _ _ (Ext.refl fd) rfl⟩)
    · cases hg
  · cases hg
/-! ### in -/
def gInB : D → D → Option Bool
  | x, .lst ds => match sc x, scL ds with
    | some v, some vs => some (inV v vs)
    | _, _ => none
  | x, .tup ds => match sc x, scL ds with
    | some v, some vs => some (inV v vs)
    | _, _ => none
  | x, .ktup ds => match sc x, scL ds with
    | some v, some vs => some (inV v vs)
    | _, _ => none
  | .str x, .str z => some (!(Builtin.Str.occurrences z x 0 z.length 1).isEmpty)
  | _, _ => none
def gIn (d e : D) : Option D := (gInB d e).map D.bl
def rInD (K : PySem.W.Frag) (neg : Bool) : R2 := fun x y H Q => rIn K neg x y H Q ∨ ∃ i j, x = .str i ∧ y = .str j ∧ Q (.bl (if neg then !(!(Builtin.Str.occurrences j i 0 j.length 1).isEmpty) else !(Builtin.Str.occurrences j i 0 j.length 1).isEmpty)) H
theorem op_inD : OpR X (compareOp .In) (rInD X.K false) := OpR_or op_in_seq op_in_str
theorem in_den {F : AS} {H : Hp} {d e : D} {v w : V} {b : Bool} {Q : VK} {neg : Bool} (hd : Den K mg F H d v) (he : Den K mg F H e w) (h : gInB d e = some b) (q : Q (.bl (if neg then !b else b)) H) : rInD K neg v w H Q := by
  unfold gInB at h
  split at h
  · split at h
    · rename_i e1 e2
      cases h
      obtain ⟨a, vs, rfl, fa, ha, ra⟩ := he
      cases sc_den hd e1; cases scL_den ra e2
      exact .inl ⟨a, _, rfl, .inl (SqL.of ha), sc_flat e1, scL_flat e2, q⟩
    · cases h
  · split at h
    · rename_i e1 e2
      cases h
      obtain ⟨a, vs, rfl, fa, ha, ra⟩ := he
      cases sc_den hd e1; cases scL_den ra e2
      exact .inl ⟨a, _, rfl, .inr (SqT.of ha), sc_flat e1, scL_flat e2, q⟩
    · cases h
  · split at h
    · rename_i e1 e2
      cases h
      obtain ⟨a, vs, rfl, ha, ra⟩ := he
      cases sc_den hd e1; cases scL_den ra e2
      exact .inl ⟨a, _, rfl, .inr ha.sq, sc_flat e1, scL_flat e2, q⟩
    · cases h
  · cases h; cases hd; cases he
    exact .inr ⟨_, _, rfl, rfl, q⟩
  · cases h
theorem od_in : OpD K mg (rInD K false) gIn := by
  intro F H d e z v w Q fd hd he hg q
  obtain ⟨b, hb, rfl⟩ := Option.map_eq_some_iff.mp (show (gInB d e).map D.bl = some z from hg)
  exact in_den hd he hb (q _ _ _ (Ext.refl fd) rfl)
end
end DL

set_option Elab.async false
set_option linter.all false
set_option maxRecDepth 100000
set_option maxHeartbeats 4000000
/-! ### zip over lists and tuples, two or three of them; a, b = a list -/
namespace ZP
open PySem PyProof.Rows L2
/-- the items of a tuple, one by one -/
theorem nxt_tup {prog : Program} {w : World} {A : Around} {E : Value → Shared → Prop} {s : Shared} {it t : Addr} {i : Nat} {xs : Array Value} {x : Value} {Q : Value → Shared → Prop} (ti : IsTupIter s.heap it t i) (ht : IsTup s.heap t xs) (hx : xs[i]? = some x)
    (k : ∀ g, IsTupIter g it t (i + 1) → Heap.SameBut it s.heap g → Q x { s with heap := g }) : wpAny (model prog w) A (Builtin.SmallTypes.nextOf (.ref it)) Q E s := by
  obtain ⟨o, ho, hc, hd⟩ := id ti
  obtain ⟨q, hq, _, n, hn⟩ := ht
  unfold Builtin.SmallTypes.nextOf
  refine wpAny_bind (wpAny_callSpecial?_slot (name := Str.ofString "__next__") ti.typeIs slot_tupleiter_next (wpAny_call_entry slot_tupleiter_next ti.typeIs entry_tupleiter_next ?_ (args_tupleiter_next _)))
  show wpAny _ _ (field (.ref it) 0 >>= _) _ _ s
  refine wpAny_bind (wpAny_field ho hd (x := .ref t) rfl ?_)
  show wpAny _ _ (if (Value.ref t == Value.none) = true then _ else _) _ _ s
  rw [if_neg (show ¬ ((Value.ref t == Value.none) = true) by exact Bool.false_ne_true)]
  show wpAny _ _ (field (.ref it) 1 >>= _) _ _ s
  refine wpAny_bind (wpAny_field ho hd (x := .int i 0) rfl ?_)
  show wpAny _ _ (seqItems? (.ref t) >>= _) _ _ s
  refine wpAny_bind (wpAny_seqItems hq hn ?_)
  simp only [Int.toNat_natCast, hx]
  refine wpAny_bind (wpAny_setField ho hd (by simp) (wpAny_pure ⟨x, rfl, wpAny_pure (k _ ⟨_, Heap.get?_update_self _ ho (Obj.isFreed_of_fields (Obj.data_mapFields hd _)), (Obj.cls_mapFields ..).trans hc, by rw [Obj.data_mapFields hd]; simp [rawInt]⟩ (Heap.SameBut.update ..))⟩))
theorem nxt_tup_end {prog : Program} {w : World} {A : Around} {E : Value → Shared → Prop} {s : Shared} {it t : Addr} {i : Nat} {xs : Array Value} {Q : Value → Shared → Prop} (hh : A.handled = none) (ti : IsTupIter s.heap it t i) (ht : IsTup s.heap t xs) (hx : xs[i]? = none)
    (k : ∀ g e, Heap.ExtBut it s.heap g → (∃ o, g.get? e = some o ∧ o.cls = .type "StopIteration") → E (.ref e) { s with heap := g }) : wpAny (model prog w) A (Builtin.SmallTypes.nextOf (.ref it)) Q E s := by
  obtain ⟨o, ho, hc, hd⟩ := id ti
  obtain ⟨q, hq, _, n, hn⟩ := ht
  unfold Builtin.SmallTypes.nextOf
  refine wpAny_bind (wpAny_callSpecial?_slot (name := Str.ofString "__next__") ti.typeIs slot_tupleiter_next (wpAny_call_entry slot_tupleiter_next ti.typeIs entry_tupleiter_next ?_ (args_tupleiter_next _)))
  show wpAny _ _ (field (.ref it) 0 >>= _) _ _ s
  refine wpAny_bind (wpAny_field ho hd (x := .ref t) rfl ?_)
  show wpAny _ _ (if (Value.ref t == Value.none) = true then _ else _) _ _ s
  rw [if_neg (show ¬ ((Value.ref t == Value.none) = true) by exact Bool.false_ne_true)]
  show wpAny _ _ (field (.ref it) 1 >>= _) _ _ s
  refine wpAny_bind (wpAny_field ho hd (x := .int i 0) rfl ?_)
  show wpAny _ _ (seqItems? (.ref t) >>= _) _ _ s
  refine wpAny_bind (wpAny_seqItems hq hn ?_)
  simp only [Int.toNat_natCast, hx]
  refine wpAny_bind (wpAny_rule (wpAny_bind (wpAny_setField ho hd (by simp) ?_)))
  show wpAny _ _ (newExc (.type "StopIteration") [] >>= _) _ _ _
  refine wpAny_bind ?_
  simp only [newExc, newTuple]
  refine wpAny_bind (wpAny_newObj_type ?_ (by size_fits))
  refine wpAny_bind (m := firstArgMember _ _) (wpAny_of_eq (a := Value.none) (by first | rfl | (simp only [firstArgMember]; rfl)) (wpAny_newObj_type ?_ (by size_fits)))
  simp only [raiseNew]
  refine wpAny_bind (wpAny_handled ?_)
  first | rw [show A.in1.handled = none from hh] | rw [hh]
  refine wpAny_bind (wpAny_pure (wpAny_throw (k _ _ (((Heap.SameBut.update ..).extBut.push _).push _) ⟨_, Heap.get?_push_size _ rfl, rfl⟩)))
/-- a list (true) or a tuple (false) that stands in a heap, and its iterator -/
def SqK (kd : Bool) (h : Heap) (a : Addr) (xs : Array Value) : Prop := match kd with
  | true => h.IsList a xs
  | false => IsTup h a xs
def ItK (kd : Bool) (h : Heap) (it a : Addr) (i : Nat) : Prop := match kd with
  | true => h.IsListIter it a i
  | false => IsTupIter h it a i
def itN : Bool → String
  | true => "list_iterator"
  | false => "tuple_iterator"
theorem ItK.of {kd : Bool} {h : Heap} {it a : Addr} {i : Nat} : ItK kd h it a i ↔ ∃ o, h.get? it = some o ∧ o.cls = .type (itN kd) ∧ o.data = .fields #[.ref a, .int i 0] := by cases kd <;> exact Iff.rfl
theorem SqK.at {kd : Bool} {h h' : Heap} {a : Addr} {xs : Array Value} (x : SqK kd h a xs) (k : ∀ o, h.get? a = some o → h'.get? a = some o) : SqK kd h' a xs := by
  cases kd with
  | true => exact Heap.IsList.at x k
  | false => obtain ⟨o, ho, r⟩ := x; exact ⟨o, k o ho, r⟩
theorem ItK.at {kd : Bool} {h h' : Heap} {it a : Addr} {i : Nat} (x : ItK kd h it a i) (k : ∀ o, h.get? it = some o → h'.get? it = some o) : ItK kd h' it a i := by
  obtain ⟨o, ho, r⟩ := ItK.of.mp x
  exact ItK.of.mpr ⟨o, k o ho, r⟩
theorem dr {prog : Program} {w : World} {A : Around} (kd : Bool) (hh : A.handled = none) (it a : Addr) (ne : a ≠ it) (xs : Array Value) : Draws prog w A it [it, a] xs.size (fun i v => xs[i]? = some v) (fun i h => ItK kd h it a i ∧ SqK kd h a xs) := by
  cases kd with
  | true => exact Draws.list hh it a ne xs
  | false =>
    refine ⟨fun _ _ st => let ⟨o, ho, _⟩ := st.1; ⟨o, ho⟩, fun _ _ _ st hk => ⟨ItK.at (kd := false) st.1 (fun o e => hk it (by simp) o e), SqK.at (kd := false) st.2 (fun o e => hk a (by simp) o e)⟩, fun i s Q E hi st hQ => ?_, fun s Q E st hE => nxt_tup_end hh st.1 st.2 (by simp) hE⟩
    refine nxt_tup st.1 st.2 (x := xs[i]) (by simp [hi]) fun g ti sb => hQ _ g s.toks (by simp [hi]) ⟨ti, ?_⟩ sb
    exact SqK.at (kd := false) st.2 fun o e => sb.extBut _ _ ne e
/-! ### two -/
/-- all apart that turns -/
structure Ap2 (z TI TO i1 i2 : Addr) (f1 f2 : List Addr) : Prop where
  a1 : TI ≠ z
  a2 : TO ≠ z
  a3 : i1 ≠ z
  a4 : i2 ≠ z
  a5 : TI ≠ TO
  a6 : TI ≠ i1
  a7 : TI ≠ i2
  a8 : TO ≠ i1
  a9 : TO ≠ i2
  a10 : i1 ≠ i2
  z1 : z ∉ f1
  z2 : z ∉ f2
  t1 : TO ∉ f1
  t2 : TO ∉ f2
  c1 : i2 ∉ f1
  c2 : i1 ∉ f2
section
variable {prog : Program} {w : World} {A : Around} {E : Value → Shared → Prop} {s : Shared} {z TI TO i1 i2 : Addr} {f1 f2 : List Addr} {n1 n2 k : Nat} {P1 P2 : Nat → Value → Prop} {S1 S2 : Nat → Heap → Prop} {a b : Value}
end
/-! ### the layer's own rule -/
/-- all addresses of a zip and what it walks -/
structure Off2 (z TI TO i1 i2 a b : Addr) : Prop where
  d : Ap2 z TI TO i1 i2 [i1, a] [i2, b]
  e1 : a ≠ i1
  e2 : b ≠ i2
/-! ### a, b = a list -/
section
variable {prog : Program} {w : World} {A : Around} {E : Value → Shared → Prop} {s : Shared}
theorem draw_lst {it t : Addr} {xs : Array Value} (ne : t ≠ it) : ∀ (n i : Nat) (s : Shared) (Q : List Value → Shared → Prop), s.heap.IsListIter it t i → s.heap.IsList t xs → i + n ≤ xs.size →
    (∀ g, g.IsListIter it t (i + n) → Heap.SameBut it s.heap g → Q ((xs.toList.drop i).take n) { s with heap := g }) → wpAny (model prog w) A (draw (.ref it) n) Q E s
  | 0, i, s, Q, hi, _, _, q => by
    show wpAny _ _ (pure []) Q E s
    exact wpAny_pure (by simpa using q s.heap hi (Heap.SameBut.refl ..))
  | n + 1, i, s, Q, hi, ht, le, q => by
    have lt : i < xs.size := by omega
    show wpAny _ _ (pyNext (.ref it) >>= _) Q E s
    refine wpAny_bind (wpAny_pyNext_list_item hi ht (x := xs[i]) (by simp [lt]) fun g1 h1 e1 => ?_)
    refine wpAny_bind (wpAny_holding (draw_lst ne n (i + 1) _ _ h1 (Heap.IsList.extBut ht e1.extBut ne) (by omega) fun g2 h2 e2 => wpAny_pure ?_))
    have hd : xs.toList.drop i = xs[i] :: xs.toList.drop (i + 1) := by simp [List.drop_eq_getElem_cons, lt]
    have := q g2 (by rw [show i + (n + 1) = i + 1 + n by omega]; exact h2) (e1.trans e2)
    rw [hd, List.take_succ_cons] at this
    exact this
theorem unpack_lst {t : Addr} {xs : Array Value} {Q : List Value → Shared → Prop} (hh : A.handled = none) (ht : s.heap.IsList t xs) (q : ∀ g, Heap.ExtBut s.heap.objs.size s.heap g → Q xs.toList { s with heap := g }) : wpAny (model prog w) A (unpackItems (.ref t) xs.size none) Q E s := by
  have ne : t ≠ s.heap.objs.size := by obtain ⟨o, ho, _⟩ := ht; exact Nat.ne_of_lt (Heap.lt_size ho)
  unfold unpackItems
  refine wpAny_bind ?_
  unfold notIterableAtAll
  refine wpAny_bind (wpAny_specialOf ht.typeIs slot_list_iter.lookup (wpAny_pure ?_))
  simp only [Bool.false_eq_true, if_false]
  refine wpAny_bind (wpAny_holding (wpAny_pyIter_list ht ?_))
  refine wpAny_bind (wpAny_holding (draw_lst ne xs.size 0 _ _ ⟨_, Heap.get?_push_size _ rfl, rfl, rfl⟩ (Heap.IsList.push ht _) (by omega) fun g1 h1 e1 => ?_))
  have hall : List.take xs.size (List.drop 0 xs.toList) = xs.toList := by
    rw [List.drop_zero]
    exact List.take_of_length_le (by simp)
  rw [hall, if_neg (by simp)]
  have t1 : g1.IsList t xs := Heap.IsList.extBut (Heap.IsList.push ht _) e1.extBut ne
  refine wpAny_bind (wpAny_holding (wpAny_pyNext_list_end hh h1 t1 (by simp) fun g2 e2 => ?_))
  simp only [Option.isSome_none, Bool.false_eq_true, if_false]
  exact wpAny_pure (q g2 fun b o hb e => e2 b o hb (e1.extBut b o hb (Heap.get?_push_of_some _ e)))
end
def gLst (K : PySem.W.Frag) (n : Nat) (t : TGs) : TG := fun v σ H Q => ∃ a xs, v = .ref a ∧ SqL K H a xs ∧ xs.length = n ∧ t xs σ H Q
theorem pg_lst {X : Cx} {pos : Pos} {es : List Expr} {k : Nat} {t : TGs} {n : Nat} (hc : X.calm = true) (h : PGs X es t) (hn : (assignEach es X.env).length = n := by rfl) (hst : (assignEach es X.env).findIdx? (·.1) = none := by rfl) : PG X (.Tuple es k pos) (gLst X.K n t) := by
  intro pins s σ H v u Q I r hw
  obtain ⟨a, xs, e1, hq, hl, hw⟩ := hw
  subst e1
  cases r
  obtain ⟨its, rv, ht, hz⟩ := I.list hq
  rw [assign_Tuple]
  refine wpAny_bind (wpAny_standAt ?_)
  unfold unpack
  rw [show (assignEach es X.env).length = its.toArray.size by simp [hn, ← hl, rv.length], hst]
  refine wpAny_bind (wpAny_holding (unpack_lst (I.ok.hd hc) ht.isList fun g hx => ?_))
  have I1 : L2.Inv X pins σ H { s with heap := g } := I.kept (t' := s.toks) fun b o e => hx b o (Nat.ne_of_lt (Heap.lt_size e)) e
  exact h pins _ σ H xs _ Q I1 (by simpa using rv) hw
end ZP

set_option Elab.async false
set_option linter.all false
set_option maxRecDepth 100000
set_option maxHeartbeats 4000000
namespace DL
open PySem L2 TL
/-! ### names that get other things -/
section
variable {K : PySem.W.Frag} {mg : Str → Option Value} {M : List Nat} {F W : AS} {σ : St} {H : Hp} {ρ : Env}
theorem get_set {α : Type} {l : List (Option α)} {i j : Nat} {x : Option α} {d : α} (h : (l.set i x)[j]? = some (some d)) : (i = j ∧ x = some d) ∨ (i ≠ j ∧ l[j]? = some (some d)) := by
  rw [List.getElem?_set] at h
  split at h
  · rename_i e
    split at h
    · cases h; exact .inl ⟨e, rfl⟩
    · cases h
  · rename_i e; exact .inr ⟨e, h⟩
/-- a name that is no one's own gets a thing -/
theorem RelR.set {R : Nat → AS} {i : Nat} {d : D} {v : V} (r : RelR K mg M F W σ H ρ R) (hi : i ∉ M) (hs : i < σ.length) (dn : Den K mg F H d v) : RelR K mg M F W (σ.set i (some v)) H (ρ.set i (some d)) R := by
  refine ⟨fun j e hj h => ?_, fun j e hj h => ?_, r.rw, r.dj, r.fw, r.fd, r.wd⟩
  · rcases get_set h with ⟨rfl, q⟩ | ⟨ne, q⟩
    · cases q
      exact ⟨v, by rw [List.getElem?_set_self hs], dn⟩
    · obtain ⟨w, h1, h2⟩ := r.sh j e hj q
      exact ⟨w, by rw [List.getElem?_set_ne ne]; exact h1, h2⟩
  · rcases get_set h with ⟨rfl, q⟩ | ⟨ne, q⟩
    · exact absurd hj hi
    · obtain ⟨w, h1, h2⟩ := r.ow j e hj q
      exact ⟨w, by rw [List.getElem?_set_ne ne]; exact h1, h2⟩
theorem Rel.set {i : Nat} {d : D} {v : V} (r : Rel K mg M F W σ H ρ) (hi : i ∉ M) (hs : i < σ.length) (dn : Den K mg F H d v) : Rel K mg M F W (σ.set i (some v)) H (ρ.set i (some d)) := let ⟨R, q⟩ := r; ⟨R, q.set hi hs dn⟩
/-- forgetting -/
theorem RelR.drop {R : Nat → AS} {ρ' : Env} (r : RelR K mg M F W σ H ρ R) (h : ∀ (i : Nat) (d : D), ρ'[i]? = some (some d) → ρ[i]? = some (some d)) : RelR K mg M F W σ H ρ' R :=
  ⟨fun i d hi e => r.sh i d hi (h i d e), fun i d hi e => r.ow i d hi (h i d e), r.rw, r.dj, r.fw, r.fd, r.wd⟩
theorem Rel.drop {ρ' : Env} (r : Rel K mg M F W σ H ρ) (h : ∀ (i : Nat) (d : D), ρ'[i]? = some (some d) → ρ[i]? = some (some d)) : Rel K mg M F W σ H ρ' := let ⟨R, q⟩ := r; ⟨R, q.drop h⟩
/-- one's own thing is changed where it stands -/
theorem RelR.chg {R : Nat → AS} {i : Nat} {a : Addr} {o : HO} {d : D} (r : RelR K mg M F W σ H ρ R) (hi : i ∈ M) (hs : σ[i]? = some (some (.ref a))) (hR : ∀ b, R i b ↔ b = a)
    (ow : Own K mg F (upd H a o) (R i) d (.ref a)) : RelR K mg M F W σ (upd H a o) (ρ.set i (some d)) R := by
  have wa : W a := r.rw i a ((hR a).mpr rfl)
  have ke : ∀ b u, b ≠ a → H b = some u → upd H a o b = some u := fun b u ne h => by rw [upd_ne ne]; exact h
  have kf : ∀ b u, F b → H b = some u → upd H a o b = some u := fun b u fb h => ke b u (fun e => r.fw b fb (e ▸ wa)) h
  refine ⟨fun j e hj h => ?_, fun j e hj h => ?_, r.rw, r.dj, r.fw, fun b fb => ?_, fun b wb => ?_⟩
  · rcases get_set h with ⟨rfl, q⟩ | ⟨ne, q⟩
    · exact absurd hi hj
    · obtain ⟨w, h1, h2⟩ := r.sh j e hj q
      exact ⟨w, h1, Den.mono (fun _ h => h) kf _ _ h2⟩
  · rcases get_set h with ⟨rfl, q⟩ | ⟨ne, q⟩
    · cases q; exact ⟨_, hs, ow⟩
    · obtain ⟨w, h1, h2⟩ := r.ow j e hj q
      exact ⟨w, h1, h2.mono (fun _ h => h) kf fun b u rb h => ke b u (fun e => ne (r.dj i j a ((hR a).mpr rfl) (e ▸ rb))) h⟩
  · obtain ⟨u, h⟩ := r.fd b fb
    exact ⟨u, kf b u fb h⟩
  · by_cases e : b = a
    · subst e; exact ⟨o, upd_same⟩
    · obtain ⟨u, h⟩ := r.wd b wb
      exact ⟨u, ke b u e h⟩
theorem Rel.step_upd {R : Nat → AS} {i : Nat} {a : Addr} {o : HO} (r : RelR K mg M F W σ H ρ R) (hR : ∀ b, R i b ↔ b = a) : Step F W H F W (upd H a o) := by
  have wa : W a := r.rw i a ((hR a).mpr rfl)
  exact ⟨fun _ h => h, fun b u h nw => by
    have ne : b ≠ a := fun e => nw (e ▸ wa)
    rw [upd_ne ne]; exact h, fun _ h => .inl h, fun _ h => .inl h, fun b u h => by
    by_cases e : b = a
    · subst e; exact ⟨_, upd_same⟩
    · exact ⟨u, by rw [upd_ne e]; exact h⟩⟩
/-- a new thing becomes a name's own -/
theorem RelR.own {R : Nat → AS} {i : Nat} {a : Addr} {o : HO} {d : D} (r : RelR K mg M F W σ H ρ R) (hi : i ∈ M) (hs : i < σ.length) (n : H a = none)
    (ow : Own K mg F (upd H a o) (fun b => b = a) d (.ref a)) : RelR K mg M F (fun b => W b ∨ b = a) (σ.set i (some (.ref a))) (upd H a o) (ρ.set i (some d)) (fun j => if j = i then fun b => b = a else R j) := by
  have ke : ∀ b u, H b = some u → upd H a o b = some u := fun b u h => by rw [upd_ne (ne_of_none h n)]; exact h
  have nR : ∀ j, R j a → False := fun j h => by
    obtain ⟨u, q⟩ := r.wd a (r.rw j a h)
    rw [n] at q; cases q
  refine ⟨fun j e hj h => ?_, fun j e hj h => ?_, fun j b h => ?_, fun j k b h h' => ?_, fun b fb wb => ?_, fun b fb => ?_, fun b wb => ?_⟩
  · rcases get_set h with ⟨rfl, q⟩ | ⟨ne, q⟩
    · exact absurd hi hj
    · obtain ⟨w, h1, h2⟩ := r.sh j e hj q
      exact ⟨w, by rw [List.getElem?_set_ne ne]; exact h1, Den.mono (fun _ h => h) (fun b u _ => ke b u) _ _ h2⟩
  · rcases get_set h with ⟨rfl, q⟩ | ⟨ne, q⟩
    · cases q
      refine ⟨_, by rw [List.getElem?_set_self hs], ?_⟩
      rw [if_pos rfl]
      exact ow
    · obtain ⟨w, h1, h2⟩ := r.ow j e hj q
      refine ⟨w, by rw [List.getElem?_set_ne ne]; exact h1, ?_⟩
      rw [if_neg (fun e => ne e.symm)]
      exact h2.mono (fun _ h => h) (fun b u _ => ke b u) fun b u _ => ke b u
  · split at h
    · exact .inr h
    · exact .inl (r.rw j b h)
  · split at h
    · rename_i e
      split at h'
      · rename_i e'; rw [e, e']
      · cases h; exact (nR _ h').elim
    · rename_i e
      split at h'
      · cases h'; exact (nR _ h).elim
      · exact r.dj j k b h h'
  · rcases wb with wb | rfl
    · exact r.fw b fb wb
    · obtain ⟨u, q⟩ := r.fd b fb
      rw [n] at q; cases q
  · obtain ⟨u, h⟩ := r.fd b fb
    exact ⟨u, ke b u h⟩
  · rcases wb with wb | rfl
    · obtain ⟨u, h⟩ := r.wd b wb
      exact ⟨u, ke b u h⟩
    · exact ⟨o, upd_same⟩
/-! one's own thing is let go: it is frozen from now on -/
mutual
theorem Own.frz' : ∀ (R : AS) (d : D) (v : V), Own K mg F H R d v → Den K mg (fun b => F b ∨ R b) H d v
  | R, .lst ds, _, h => by
    obtain ⟨a, vs, e, r, h1, h2⟩ := h
    exact ⟨a, vs, e, .inr ((r a).mpr rfl), h1, DenL.mono (fun _ h => .inl h) (fun _ _ _ h => h) ds vs h2⟩
  | R, .dic t kvs, _, h => by
    obtain ⟨a, e, r, h⟩ := h
    refine ⟨a, e, .inr ((r a).mpr rfl), ?_⟩
    rcases h with ⟨ht, es, h1, h2⟩ | ⟨ht, es, h1, h2⟩
    · exact .inl ⟨ht, es, .inl h1, DenK.mono (fun _ h => .inl h) (fun _ _ _ h => h) kvs es h2⟩
    · exact .inr ⟨ht, es, .inl h1, DenT.mono (fun _ h => .inl h) (fun _ _ _ h => h) kvs es h2⟩
  | R, .tup ds, _, h => by
    obtain ⟨a, vs, e, fa, ha, h⟩ := h
    exact ⟨a, vs, e, .inl fa, ha, OwnL.frz' R ds vs h⟩
  | _, .non, _, h => h.1
  | _, .bl _, _, h => h.elim
  | _, .int _, _, h => h.elim
  | _, .str _, _, h => h.elim
  | _, .ty _, _, h => h.elim
  | _, .obj _ _, _, h => h.elim
  | _, .cls _, _, h => h.elim
  | _, .scr _, _, h => h.elim
  | _, .ktup _, _, h => h.elim
  | _, .tab _, _, h => h.elim
theorem OwnL.frz' : ∀ (R : AS) (ds : List D) (vs : List V), OwnL K mg F H R ds vs → DenL K mg (fun b => F b ∨ R b) H ds vs
  | R, [], _, h => h.1
  | R, d :: ds, _, h => by
    obtain ⟨v, r, R1, R2, e, hR, dj, h1, h2⟩ := h
    refine ⟨v, r, e, ?_, DenL.mono (fun b z => z.elim .inl fun z => .inr ((hR b).mpr (.inr z))) (fun _ _ _ h => h) _ _ (OwnL.frz' R2 ds r h2)⟩
    rcases h1 with h1 | ⟨_, _, h3⟩
    · exact Den.mono (fun b z => z.elim .inl fun z => .inr ((hR b).mpr (.inl z))) (fun _ _ _ h => h) _ _ (Own.frz' R1 d v h1)
    · exact Den.mono (fun _ z => .inl z) (fun _ _ _ h => h) _ _ h3
end
theorem Own.frz {R : AS} {d : D} {v : V} (h : Own K mg F H R d v) : Den K mg (fun b => F b ∨ R b) H d v := Own.frz' R d v h
mutual
theorem Own.noTup' : ∀ (R : AS) (d : D) (v : V), Own K mg F H R d v → ∀ a vs, R a → H a ≠ some (.tup vs)
  | R, .lst ds, _, h, a, vs, ra => by
    obtain ⟨b, ws, _, hR, h1, _⟩ := h
    rw [(hR a).mp ra, h1]; intro z; cases z
  | R, .dic t kvs, _, h, a, vs, ra => by
    obtain ⟨b, _, hR, h⟩ := h
    rcases h with ⟨_, es, h1, _⟩ | ⟨_, es, h1, _⟩ <;> (rw [(hR a).mp ra, h1]; intro z; cases z)
  | R, .tup ds, _, h, a, vs, ra => by
    obtain ⟨b, ws, _, _, _, h⟩ := h
    exact OwnL.noTup' R ds ws h a vs ra
  | _, .non, _, h, a, _, ra => absurd ra (h.2 a)
  | _, .bl _, _, h, _, _, _ => h.elim
  | _, .int _, _, h, _, _, _ => h.elim
  | _, .str _, _, h, _, _, _ => h.elim
  | _, .ty _, _, h, _, _, _ => h.elim
  | _, .obj _ _, _, h, _, _, _ => h.elim
  | _, .cls _, _, h, _, _, _ => h.elim
  | _, .scr _, _, h, _, _, _ => h.elim
  | _, .ktup _, _, h, _, _, _ => h.elim
  | _, .tab _, _, h, _, _, _ => h.elim
theorem OwnL.noTup' : ∀ (R : AS) (ds : List D) (vs : List V), OwnL K mg F H R ds vs → ∀ a ws, R a → H a ≠ some (.tup ws)
  | R, [], _, h, a, ws, ra => absurd ra (h.2 a)
  | R, d :: ds, _, h, a, ws, ra => by
    obtain ⟨v, r, R1, R2, e, hR, dj, h1, h2⟩ := h
    rcases (hR a).mp ra with z | z
    · rcases h1 with h1 | ⟨_, h1, _⟩
      · exact Own.noTup' R1 d v h1 a ws z
      · exact absurd z (h1 a)
    · exact OwnL.noTup' R2 ds r h2 a ws z
end
mutual
theorem Own.there' : ∀ (R : AS) (d : D) (v : V), Own K mg F H R d v → ∀ a, R a → ∃ o, H a = some o
  | R, .lst ds, _, h, a, ra => by
    obtain ⟨b, ws, _, hR, h1, _⟩ := h
    rw [(hR a).mp ra]; exact ⟨_, h1⟩
  | R, .dic t kvs, _, h, a, ra => by
    obtain ⟨b, _, hR, h⟩ := h
    rw [(hR a).mp ra]
    rcases h with ⟨_, es, h1, _⟩ | ⟨_, es, h1, _⟩ <;> exact ⟨_, h1⟩
  | R, .tup ds, _, h, a, ra => by
    obtain ⟨b, ws, _, _, _, h⟩ := h
    exact OwnL.there' R ds ws h a ra
  | _, .non, _, h, a, ra => absurd ra (h.2 a)
  | _, .bl _, _, h, _, _ => h.elim
  | _, .int _, _, h, _, _ => h.elim
  | _, .str _, _, h, _, _ => h.elim
  | _, .ty _, _, h, _, _ => h.elim
  | _, .obj _ _, _, h, _, _ => h.elim
  | _, .cls _, _, h, _, _ => h.elim
  | _, .scr _, _, h, _, _ => h.elim
  | _, .ktup _, _, h, _, _ => h.elim
  | _, .tab _, _, h, _, _ => h.elim
theorem OwnL.there' : ∀ (R : AS) (ds : List D) (vs : List V), OwnL K mg F H R ds vs → ∀ a, R a → ∃ o, H a = some o
  | R, [], _, h, a, ra => absurd ra (h.2 a)
  | R, d :: ds, _, h, a, ra => by
    obtain ⟨v, r, R1, R2, e, hR, dj, h1, h2⟩ := h
    rcases (hR a).mp ra with z | z
    · rcases h1 with h1 | ⟨_, h1, _⟩
      · exact Own.there' R1 d v h1 a z
      · exact absurd z (h1 a)
    · exact OwnL.there' R2 ds r h2 a z
end
theorem RelR.frz {R : Nat → AS} {i : Nat} (r : RelR K mg M F W σ H ρ R) : RelR K mg M (fun b => F b ∨ R i b) (fun b => W b ∧ ¬ R i b) σ H (ρ.set i none) (fun j b => if j = i then False else R j b) := by
  have kf : ∀ b, F b → F b ∨ R i b := fun b h => .inl h
  refine ⟨fun j e hj h => ?_, fun j e hj h => ?_, fun j b h => ?_, fun j k b h h' => ?_, fun b fb wb => ?_, fun b fb => ?_, fun b wb => r.wd b wb.1⟩
  · rcases get_set h with ⟨rfl, q⟩ | ⟨ne, q⟩
    · cases q
    · obtain ⟨w, h1, h2⟩ := r.sh j e hj q
      exact ⟨w, h1, Den.mono kf (fun b u _ h => h) _ _ h2⟩
  · rcases get_set h with ⟨rfl, q⟩ | ⟨ne, q⟩
    · cases q
    · obtain ⟨w, h1, h2⟩ := r.ow j e hj q
      refine ⟨w, h1, ?_⟩
      have e1 : (fun b => if j = i then False else R j b) = R j := by
        funext b
        rw [if_neg (fun e => ne e.symm)]
      rw [e1]
      exact h2.mono kf (fun b u _ h => h) fun b u _ h => h
  · split at h
    · exact h.elim
    · rename_i ne; exact ⟨r.rw j b h, fun z => ne (r.dj j i b h z)⟩
  · split at h
    · exact h.elim
    · split at h'
      · exact h'.elim
      · exact r.dj j k b h h'
  · rcases fb with fb | fb
    · exact r.fw b fb wb.1
    · exact wb.2 fb
  · rcases fb with fb | fb
    · exact r.fd b fb
    · exact r.wd b (r.rw i b fb)
/-- one's own thing goes away -/
theorem RelR.cut {R : Nat → AS} {i : Nat} (r : RelR K mg M F W σ H ρ R) : RelR K mg M F (fun b => W b ∧ ¬ R i b) σ H (ρ.set i none) (fun j b => if j = i then False else R j b) := by
  refine ⟨fun j e hj h => ?_, fun j e hj h => ?_, fun j b h => ?_, fun j k b h h' => ?_, fun b fb wb => r.fw b fb wb.1, r.fd, fun b wb => r.wd b wb.1⟩
  · rcases get_set h with ⟨rfl, q⟩ | ⟨ne, q⟩
    · cases q
    · exact r.sh j e hj q
  · rcases get_set h with ⟨rfl, q⟩ | ⟨ne, q⟩
    · cases q
    · obtain ⟨w, h1, h2⟩ := r.ow j e hj q
      refine ⟨w, h1, ?_⟩
      have e1 : (fun b => if j = i then False else R j b) = R j := by
        funext b
        rw [if_neg (fun e => ne e.symm)]
      rw [e1]
      exact h2
  · split at h
    · exact h.elim
    · rename_i ne; exact ⟨r.rw j b h, fun z => ne (r.dj j i b h z)⟩
  · split at h
    · exact h.elim
    · split at h'
      · exact h'.elim
      · exact r.dj j k b h h'
end
/-! ### statements -/
inductive S where
  | next (ρ : Env) | brk (ρ : Env) | cont (ρ : Env) | ret (d : D) (ρ : Env) | err (c : Str) | stuck
abbrev SF := Env → S
section
variable (K : PySem.W.Frag) (mg : Str → Option Value) (M P : List Nat) (E : XK) (fr : Bool)
/-- how a thing is told back: as any other; or (fr) as one that is the asker's own, all new: N -/
def RetOk (F W : AS) (H : Hp) (N : AS) (d : D) (v : V) : Prop := match fr with
  | false => Den K mg F H d v
  | true => (Own K mg F H N d v ∨ (loose d = true ∧ (∀ b, ¬ N b) ∧ Den K mg F H d v)) ∧ (∀ b, N b → ¬ F b) ∧ ∀ b, N b → ¬ W b
/-- what is wanted behind a statement; P: the slots of what was handed in to be changed -/
def postS (F W : AS) (σ : St) (H : Hp) (r : S) (D : Ends) : Prop :=
  match r with
  | .next ρ' => ∀ σ' H' F' W', Rel K mg M F' W' σ' H' ρ' → Step F W H F' W' H' → (∀ k ∈ P, σ'[k]? = σ[k]?) → σ'.length = σ.length → D.nx σ' H'
  | .brk ρ' => ∀ σ' H' F' W', Rel K mg M F' W' σ' H' ρ' → Step F W H F' W' H' → (∀ k ∈ P, σ'[k]? = σ[k]?) → σ'.length = σ.length → D.bk σ' H'
  | .cont ρ' => ∀ σ' H' F' W', Rel K mg M F' W' σ' H' ρ' → Step F W H F' W' H' → (∀ k ∈ P, σ'[k]? = σ[k]?) → σ'.length = σ.length → D.ct σ' H'
  | .ret d ρ' => ∀ v σ' H' F' W' N, Rel K mg M F' W' σ' H' ρ' → RetOk K mg fr F' W' H' N d v → (∀ a, N a → W a ∨ H a = none) → Step F W H F' W' H' → (∀ k ∈ P, σ'[k]? = σ[k]?) → D.rt v H'
  | .err c => ∀ C H' F' W', mg c = some (.ref C) → Step F W H F' W' H' → E (.ref C) none H'
  | .stuck => False
def tS (f : SF) : TS := fun D σ H => ∃ F W ρ, Rel K mg M F W σ H ρ ∧ postS K mg M P E fr F W σ H (f ρ) D
end
section
variable {K : PySem.W.Frag} {mg : Str → Option Value} {M P : List Nat} {E : XK} {fr : Bool} {α β : Type} {F W F1 W1 : AS} {σ σ1 : St} {H H1 : Hp} {ρ : Env} {D : Ends}
theorem postS_step {r : S} (h : postS K mg M P E fr F W σ H r D) (s : Step F W H F1 W1 H1) (p : ∀ k ∈ P, σ1[k]? = σ[k]?) (l : σ1.length = σ.length) : postS K mg M P E fr F1 W1 σ1 H1 r D := by
  have pp : ∀ {σ' : St}, (∀ k ∈ P, σ'[k]? = σ1[k]?) → ∀ k ∈ P, σ'[k]? = σ[k]? := fun q k hk => (q k hk).trans (p k hk)
  cases r with
  | next ρ' => exact fun σ' H' F' W' r s' q l' => h σ' H' F' W' r (s.trans s') (pp q) (l'.trans l)
  | brk ρ' => exact fun σ' H' F' W' r s' q l' => h σ' H' F' W' r (s.trans s') (pp q) (l'.trans l)
  | cont ρ' => exact fun σ' H' F' W' r s' q l' => h σ' H' F' W' r (s.trans s') (pp q) (l'.trans l)
  | ret d ρ' => exact fun v σ' H' F' W' N r d n s' q => h v σ' H' F' W' N r d (fun a z => (n a z).elim (s.nw a) fun z => .inr (s.none_of z)) (s.trans s') (pp q)
  | err c => exact fun C H' F' W' e s' => h C H' F' W' e (s.trans s')
  | stuck => exact h
/-- how a reckoned thing goes on as a statement -/
def R.toS {α : Type} (r : R α) (k : α → S) : S := match r with
  | .ok a => k a
  | .err c => .err c
  | .stuck => .stuck
@[simp] theorem R.toS_ok {α : Type} (a : α) (k : α → S) : (R.ok a).toS k = k a := rfl
@[simp] theorem R.toS_err {α : Type} (c : Str) (k : α → S) : (R.err c : R α).toS k = .err c := rfl
@[simp] theorem R.toS_stuck {α : Type} (k : α → S) : (R.stuck : R α).toS k = .stuck := rfl
theorem tG_toS {DN : AS → Hp → α → β → Prop} {fa : Env → R (α × Env)} {k : α × Env → S} {T : β → Hp → Prop} (rel : Rel K mg M F W σ H ρ) (h : postS K mg M P E fr F W σ H ((fa ρ).toS k) D)
    (hk : ∀ d ρ1 v H1 F1 W1, Rel K mg M F1 W1 σ H1 ρ1 → DN F1 H1 d v → Step F W H F1 W1 H1 → postS K mg M P E fr F1 W1 σ H1 (k (d, ρ1)) D → T v H1) : tG K mg M E DN fa σ H T := by
  refine ⟨F, W, ρ, rel, ?_⟩
  cases e : fa ρ with
  | ok p =>
    rw [e] at h
    exact fun v H' F' W' r d s => hk p.1 p.2 v H' F' W' r d s (postS_step h s (fun _ _ => rfl) rfl)
  | err c => rw [e] at h; exact h
  | stuck => rw [e] at h; exact h
theorem postS_next (rel : Rel K mg M F W σ H ρ) (h : postS K mg M P E fr F W σ H (.next ρ) D) : D.nx σ H := h σ H F W rel (Step.refl _ _ _) (fun _ _ => rfl) rfl
end
def DS (X : Cx) (E : XK) (M P : List Nat) (fr : Bool) (st : Stmt) (f : SF) : Prop := PS X st (tS X.K X.mg M P E fr f)
def DSs (X : Cx) (E : XK) (M P : List Nat) (fr : Bool) (st : List Stmt) (f : SF) : Prop := PSs X st (tS X.K X.mg M P E fr f)
def S.seq (r : S) (k : Env → S) : S := match r with
  | .next ρ => k ρ
  | r => r
@[simp] theorem S.seq_next (ρ : Env) (k : Env → S) : (S.next ρ).seq k = k ρ := rfl
@[simp] theorem S.seq_ret (d : D) (ρ : Env) (k : Env → S) : (S.ret d ρ).seq k = .ret d ρ := rfl
@[simp] theorem S.seq_err (c : Str) (k : Env → S) : (S.err c).seq k = .err c := rfl
@[simp] theorem S.seq_stuck (k : Env → S) : S.stuck.seq k = .stuck := rfl
@[simp] theorem S.seq_brk (ρ : Env) (k : Env → S) : (S.brk ρ).seq k = .brk ρ := rfl
@[simp] theorem S.seq_cont (ρ : Env) (k : Env → S) : (S.cont ρ).seq k = .cont ρ := rfl
def sSeq (a b : SF) : SF := fun ρ => (a ρ).seq b
def sNil : SF := fun ρ => .next ρ
def sRet (a : EF) : SF := fun ρ => (a ρ).toS fun p => .ret p.1 p.2
def sRetN : SF := fun ρ => .ret .non ρ
def sDrop (a : EF) : SF := fun ρ => (a ρ).toS fun p => .next p.2
def sIf (c : BF) (a b : SF) : SF := fun ρ => (c ρ).toS fun p => if p.1 = true then a p.2 else b p.2
section
variable {X : Cx} {E : XK} {M P : List Nat} {fr : Bool} {pos : Pos} {e c : Expr} {st : Stmt} {a b rest : List Stmt} {fe : EF} {fc : BF} {f g : SF}
theorem dss_nil : DSs X E M P fr [] sNil := PSs.weak pss_nil fun D σ H ⟨F, W, ρ, rel, h⟩ => postS_next rel h
theorem dss_cons (h1 : DS X E M P fr st f) (h2 : DSs X E M P fr rest g) : DSs X E M P fr (st :: rest) (sSeq f g) := by
  refine PSs.weak (pss_cons h1 h2) fun D σ H ⟨F, W, ρ, rel, h⟩ => ⟨F, W, ρ, rel, ?_⟩
  unfold sSeq at h
  cases e : f ρ with
  | next ρ1 =>
    rw [e] at h
    exact fun σ' H' F' W' r s p l => ⟨F', W', ρ1, r, postS_step h s p l⟩
  | brk ρ1 => rw [e] at h; exact h
  | cont ρ1 => rw [e] at h; exact h
  | ret d ρ1 => rw [e] at h; exact h
  | err c => rw [e] at h; exact h
  | stuck => rw [e] at h; exact h
theorem dss_one (h1 : DS X E M P fr st f) : DSs X E M P fr [st] f := pss_one h1
def sBrk : SF := fun ρ => .brk ρ
def sCont : SF := fun ρ => .cont ρ
theorem ds_expr (he : DE X E M e fe) (hs : swapsWith e none pos.line X.env = pure false := by rfl) : DS X E M P fr (.Expr e pos) (sDrop fe) :=
  PS.weak (ps_expr he hs) fun D σ H ⟨F, W, ρ, rel, h⟩ => tG_toS rel h fun d ρ1 v H1 F1 W1 rel1 dn1 st1 h1 => postS_next rel1 h1
theorem ds_ret (he : DE X E M e fe) : DS X E M P false (.Return (some e) pos) (sRet fe) :=
  PS.weak (ps_ret he) fun D σ H ⟨F, W, ρ, rel, h⟩ => tG_toS rel h fun d ρ1 v H1 F1 W1 rel1 dn1 st1 h1 => h1 v σ H1 F1 W1 (fun _ => False) rel1 dn1 (fun _ z => z.elim) (Step.refl _ _ _) fun _ _ => rfl
/-- a value of which nothing can be changed -/
def sRetS (a : EF) : SF := fun ρ => (a ρ).toS fun p => if loose p.1 = true then .ret p.1 p.2 else .stuck
/-- return x, x one's own: it is let go -/
def sRetO (i : Nat) : SF := fun ρ => match ρ[i]? with
  | some (some d) => .ret d (ρ.set i none)
  | _ => .stuck
/-- .. it becomes the asker's own -/
theorem ds_retOF {x : Str} {i : Nat} {p : Pos} (h : PE X (.Name x p) (tVar i)) (hi : i ∈ M) : DS X E M P true (.Return (some (.Name x p)) pos) (sRetO i) := by
  refine PS.weak (ps_ret h) fun D σ H ⟨F, W, ρ, ⟨R, rel⟩, h⟩ => ?_
  unfold sRetO at h
  cases er : ρ[i]? with
  | none => simp [er] at h; exact False.elim h
  | some o =>
    cases o with
    | none => simp [er] at h; exact False.elim h
    | some d =>
      simp only [er] at h
      obtain ⟨v, ev, ow⟩ := rel.ow i d hi er
      exact ⟨v, ev, h v σ H F _ (R i) ⟨_, rel.cut (i := i)⟩ ⟨.inl ow, fun b z fb => rel.fw b fb (rel.rw i b z), fun b z wb => wb.2 z⟩ (fun b z => .inl (rel.rw i b z)) ⟨fun _ h => h, fun _ _ h _ => h, fun _ h => .inl h, fun b h => .inl h.1, fun _ o h => ⟨o, h⟩⟩ fun _ _ => rfl⟩
theorem ds_if (hc : DT X E M c fc) (ha : DSs X E M P fr a f) (hb : DSs X E M P fr b g) : DS X E M P fr (.If c a b pos) (sIf fc f g) := by
  refine PS.weak (ps_if hc ha hb) fun D σ H ⟨F, W, ρ, rel, h⟩ => tG_toS rel h fun d ρ1 v H1 F1 W1 rel1 dn1 st1 h1 => ?_
  cases dn1
  cases d with
  | true => exact iteT ⟨F1, W1, ρ1, rel1, h1⟩
  | false => exact iteF ⟨F1, W1, ρ1, rel1, h1⟩
/-! ### targets -/
abbrev BFn := D → Env → Option Env
def bName (i : Nat) : BFn := fun d ρ => some (ρ.set i (some d))
def bNil : List D → Env → Option Env := fun ds ρ => match ds with
  | [] => some ρ
  | _ => none
def bCons (b : BFn) (c : List D → Env → Option Env) : List D → Env → Option Env := fun ds ρ => match ds with
  | d :: r => (b d ρ).bind (c r)
  | [] => none
def bTup (n : Nat) (b : List D → Env → Option Env) : BFn := fun d ρ => match d with
  | .tup ds => if ds.length = n then b ds ρ else none
  | .ktup ds => if ds.length = n then b ds ρ else none
  | .lst ds => if ds.length = n then b ds ρ else none
  | _ => none
/-- a, b, .. = a tuple or a list -/
def gSeq (K : PySem.W.Frag) (n : Nat) (t : TGs) : TG := fun v σ H Q => gTup K n t v σ H Q ∨ ZP.gLst K n t v σ H Q
theorem pg_seq {X : Cx} {pos : Pos} {es : List Expr} {k : Nat} {t : TGs} {n : Nat} (hc : X.calm = true) (h : PGs X es t) (hn : (assignEach es X.env).length = n := by rfl) (hst : (assignEach es X.env).findIdx? (·.1) = none := by rfl) : PG X (.Tuple es k pos) (gSeq X.K n t) :=
  fun pins s σ H v u Q I r q => q.elim (pg_tup hc h hn hst pins s σ H v u Q I r) (ZP.pg_lst hc h hn hst pins s σ H v u Q I r)
/-- a target gets a thing -/
def GOk (K : PySem.W.Frag) (mg : Str → Option Value) (M T : List Nat) (n : Nat) (g : TG) (b : BFn) : Prop := ∀ (F W : AS) (σ : St) (H : Hp) (ρ ρ' : Env) (d : D) (v : V) (Q : St → Hp → Prop), Rel K mg M F W σ H ρ → σ.length = n → Den K mg F H d v → b d ρ = some ρ' →
  (∀ σ' H' F' W', Rel K mg M F' W' σ' H' ρ' → Step F W H F' W' H' → (∀ k, k ∉ T → σ'[k]? = σ[k]?) → σ'.length = σ.length → Q σ' H') → g v σ H Q
def GsOk (K : PySem.W.Frag) (mg : Str → Option Value) (M T : List Nat) (n : Nat) (g : TGs) (b : List D → Env → Option Env) : Prop := ∀ (F W : AS) (σ : St) (H : Hp) (ρ ρ' : Env) (ds : List D) (vs : List V) (Q : St → Hp → Prop), Rel K mg M F W σ H ρ → σ.length = n → DenL K mg F H ds vs → b ds ρ = some ρ' →
  (∀ σ' H' F' W', Rel K mg M F' W' σ' H' ρ' → Step F W H F' W' H' → (∀ k, k ∉ T → σ'[k]? = σ[k]?) → σ'.length = σ.length → Q σ' H') → g vs σ H Q
variable {K : PySem.W.Frag} {mg : Str → Option Value} {n : Nat}
theorem go_name {i : Nat} (hi : i < n) (hM : i ∉ M) : GOk K mg M [i] n (gName i) (bName i) := by
  intro F W σ H ρ ρ' d v Q rel hl dn hb q
  cases hb
  refine q _ H F W (rel.set hM (by omega) dn) (Step.refl _ _ _) (fun k hk => ?_) (by simp)
  have ne : i ≠ k := fun e => hk (by simp [e])
  rw [List.getElem?_set_ne ne]
theorem go_nil : GsOk K mg M [] n gNil bNil := by
  intro F W σ H ρ ρ' ds vs Q rel hl dn hb q
  cases ds with
  | nil => cases hb; cases dn; exact ⟨rfl, q σ H F W rel (Step.refl _ _ _) (fun _ _ => rfl) rfl⟩
  | cons _ _ => cases hb
theorem go_cons {T T' : List Nat} {g : TG} {gs : TGs} {b : BFn} {bs : List D → Env → Option Env} (h1 : GOk K mg M T n g b) (h2 : GsOk K mg M T' n gs bs) : GsOk K mg M (T ++ T') n (gCons g gs) (bCons b bs) := by
  intro F W σ H ρ ρ' ds vs Q rel hl dn hb q
  cases ds with
  | nil => cases hb
  | cons d r =>
    obtain ⟨v, vr, rfl, d1, d2⟩ := dn
    obtain ⟨ρ1, e1, e2⟩ := Option.bind_eq_some_iff.mp hb
    refine ⟨v, vr, rfl, h1 F W σ H ρ ρ1 d v _ rel hl d1 e1 fun σ1 H1 F1 W1 rel1 st1 p1 l1 => ?_⟩
    exact h2 F1 W1 σ1 H1 ρ1 ρ' r vr Q rel1 (l1.trans hl) (st1.denL rel d2) e2 fun σ2 H2 F2 W2 rel2 st2 p2 l2 => q σ2 H2 F2 W2 rel2 (st1.trans st2) (fun k hk => (p2 k (fun z => hk (by simp [z]))).trans (p1 k (fun z => hk (by simp [z])))) (l2.trans l1)
theorem go_tup {T : List Nat} {m : Nat} {gs : TGs} {bs : List D → Env → Option Env} (h : GsOk K mg M T n gs bs) : GOk K mg M T n (gSeq K m gs) (bTup m bs) := by
  intro F W σ H ρ ρ' d v Q rel hl dn hb q
  unfold bTup at hb
  split at hb
  · split at hb
    · rename_i ds hm
      obtain ⟨a, vs, rfl, fa, ha, ra⟩ := dn
      exact .inl ⟨a, vs, rfl, SqT.of ha, by rw [ra.len]; exact hm, h F W σ H ρ ρ' ds vs Q rel hl ra hb q⟩
    · cases hb
  · split at hb
    · rename_i ds hm
      obtain ⟨a, vs, rfl, ha, ra⟩ := dn
      exact .inl ⟨a, vs, rfl, ha.sq, by rw [ra.len]; exact hm, h F W σ H ρ ρ' ds vs Q rel hl ra hb q⟩
    · cases hb
  · split at hb
    · rename_i ds hm
      obtain ⟨a, vs, rfl, fa, ha, ra⟩ := dn
      exact .inr ⟨a, vs, rfl, SqL.of ha, by rw [ra.len]; exact hm, h F W σ H ρ ρ' ds vs Q rel hl ra hb q⟩
    · cases hb
  · cases hb
end
end DL

set_option Elab.async false
set_option linter.all false
set_option maxRecDepth 100000
set_option maxHeartbeats 4000000
namespace DL
open PySem L2 TL
theorem PS.weakI {X : Cx} {e : Stmt} {t t' : TS} (h : PS X e t) (w : ∀ D σ H, σ.length = X.N.length → t' D σ H → t D σ H) : PS X e t' := fun pins s σ H D I q => h pins s σ H D I (w D σ H I.len q)
theorem PE.weakI {X : Cx} {e : Expr} {t t' : TE} (h : PE X e t) (w : ∀ σ H Q, σ.length = X.N.length → t' σ H Q → t σ H Q) : PE X e t' := fun pins s σ H Q I q => h pins s σ H Q I (w σ H Q I.len q)
theorem PI_or {X : Cx} {tg iter : Expr} {t u : TI} (h : PI X tg iter t) (h' : PI X tg iter u) : PI X tg iter (fun σ H R => t σ H R ∨ u σ H R) := fun pins s σ H R I q => q.elim (h pins s σ H R I) (h' pins s σ H R I)
theorem PI.weak {X : Cx} {tg iter : Expr} {t t' : TI} (h : PI X tg iter t) (w : ∀ σ H R, t' σ H R → t σ H R) : PI X tg iter t' := fun pins s σ H R I q => h pins s σ H R I (w σ H R q)
section
variable {X : Cx} {E : XK} {M P : List Nat} {fr : Bool} {pos pos' : Pos} {e c o : Expr} {es : List Expr} {fe fi : EF} {fc : BF} {fs : AF}
/-! ### name = value -/
def sSet (i : Nat) (a : EF) : SF := fun ρ => (a ρ).toS fun p => .next (p.2.set i (some p.1))
def sAsg (b : BFn) (a : EF) : SF := fun ρ => (a ρ).toS fun p => match b p.1 p.2 with
  | some ρ' => .next ρ'
  | none => .stuck
theorem tAsg_of {T : List Nat} {g : TG} {b : BFn} (hT : ∀ k ∈ P, k ∉ T) (hg : GOk X.K X.mg M T X.N.length g b) {D : Ends} {σ : St} {H : Hp} (hl : σ.length = X.N.length) (h : tS X.K X.mg M P E fr (sAsg b fe) D σ H) : tAsg (tG X.K X.mg M E (dnD X.K X.mg) fe) g D σ H := by
  obtain ⟨F, W, ρ, rel, h⟩ := h
  refine tG_toS rel h fun d ρ1 v H1 F1 W1 rel1 dn1 st1 h1 => ?_
  cases eb : b d ρ1 with
  | none => rw [eb] at h1; exact False.elim h1
  | some ρ2 =>
    rw [eb] at h1
    exact hg F1 W1 σ H1 ρ1 ρ2 d v _ rel1 hl dn1 eb fun σ' H2 F2 W2 rel2 st2 p l => h1 σ' H2 F2 W2 rel2 st2 (fun k hk => p k (hT k hk)) l
theorem ds_set {i : Nat} {x : Str} (hN : X.N.Nodup) (hi : X.N[i]? = some x) (hx : Loc X.env.scope x) (hM : i ∉ M) (hP : i ∉ P) (he : DE X E M e fe)
    (hs : swapsWith e (some (.Name x pos')) pos.line X.env = pure false := by rfl) (hf : X.fn x = true ∨ X.env.scope.names.lookup x = some .local := by first | exact .inl rfl | exact .inr rfl | assumption) : DS X E M P fr (.Assign [.Name x pos'] e pos) (sSet i fe) := by
  refine PS.weakI (ps_set hN hi hx he hs hf) fun D σ H hl h => tAsg_of (b := bName i) (T := [i]) (fun k hk z => ?_) (go_name ?_ hM) hl h
  · simp at z; exact hP (z ▸ hk)
  · exact (List.getElem?_eq_some_iff.mp hi).1
theorem ds_asg {T : List Nat} {tg : Expr} {g : TG} {b : BFn} (he : DE X E M e fe) (hp : PG X tg g) (hg : GOk X.K X.mg M T X.N.length g b) (hT : ∀ k ∈ P, k ∉ T) (hs : swapsWithSole [tg] e pos.line X.env = pure false := by rfl) (hw : swappedStores [tg] e X.env = pure none := by rfl)
    (h1 : (assignEach [tg] X.env).map (·.2) = [assign tg X.env] := by rfl) : DS X E M P fr (.Assign [tg] e pos) (sAsg b fe) :=
  PS.weakI (ps_asg he hp hs hw h1) fun D σ H hl h => tAsg_of hT hg hl h
/-- a, b = x, y -/
def sPar (i j : Nat) (a : AF) : SF := fun ρ => (a ρ).toS fun p => match p.1 with
  | [d, e] => .next ((p.2.set i (some d)).set j (some e))
  | _ => .stuck
theorem tPar_of {i j : Nat} (hi : i < X.N.length) (hj : j < X.N.length) (hM : i ∉ M) (hM' : j ∉ M) (hP : i ∉ P) (hP' : j ∉ P) {D : Ends} {σ : St} {H : Hp} (hl : σ.length = X.N.length) (h : tS X.K X.mg M P E fr (sPar i j fs) D σ H) : tPar i j (tG X.K X.mg M E (dnL X.K X.mg) fs) D σ H := by
  obtain ⟨F, W, ρ, rel, h⟩ := h
  refine tG_toS rel h fun ds ρ1 vs H1 F1 W1 rel1 dn1 st1 h1 => ?_
  match ds, dn1, h1 with
  | [d, e], dn1, h1 =>
    obtain ⟨v, r, rfl, d1, w, r', rfl, d2, rfl⟩ := dn1
    refine ⟨v, w, rfl, h1 _ H1 F1 W1 ((rel1.set hM (by omega) d1).set hM' (by rw [List.length_set]; omega) d2) (Step.refl _ _ _) (fun k hk => ?_) (by simp)⟩
    have n1 : i ≠ k := fun e => hP (e ▸ hk)
    have n2 : j ≠ k := fun e => hP' (e ▸ hk)
    rw [List.getElem?_set_ne n2, List.getElem?_set_ne n1]
  | [], _, h1 => exact False.elim h1
  | [_], _, h1 => exact False.elim h1
  | _ :: _ :: _ :: _, _, h1 => exact False.elim h1
/-! ### one's own things -/
theorem ix_lt {i : Nat} {x : Str} (hi : X.N[i]? = some x) : i < X.N.length := (List.getElem?_eq_some_iff.mp hi).1
/-- what may be told as one's own, N: the thing is N's, or nothing of it is -/
abbrev OwnI (K : PySem.W.Frag) (mg : Str → Option Value) (F : AS) (H : Hp) (N : AS) (d : D) (v : V) : Prop := Own K mg F H N d v ∨ (loose d = true ∧ (∀ b, ¬ N b) ∧ Den K mg F H d v)
/-- a thing that nothing else has -/
def tN (K : PySem.W.Frag) (mg : Str → Option Value) (M : List Nat) (E : XK) (f : EF) : TE := fun σ H Q => ∃ F W ρ, Rel K mg M F W σ H ρ ∧ match f ρ with
  | .ok p => ∀ v N H' F' W', Rel K mg M F' W' σ H' p.2 → OwnI K mg F' H' N p.1 v → (∀ a, N a → ¬ F' a) → (∀ a, N a → ¬ W' a) → (∀ a, N a → W a ∨ H a = none) → Step F W H F' W' H' → Q v H'
  | .err c => ∀ C H' F' W', mg c = some (.ref C) → Step F W H F' W' H' → E (.ref C) none H'
  | .stuck => False
def DN (X : Cx) (E : XK) (M : List Nat) (e : Expr) (f : EF) : Prop := PE X e (tN X.K X.mg M E f)
section
variable {K : PySem.W.Frag} {mg : Str → Option Value} {F W F1 W1 : AS} {σ : St} {H H1 : Hp} {ρ : Env}
theorem OwnI.there {N : AS} {d : D} {v : V} (h : OwnI K mg F H N d v) : ∀ a, N a → ∃ o, H a = some o := fun a z => by
  rcases h with h | ⟨_, h, _⟩
  · exact Own.there' _ _ _ h a z
  · exact absurd z (h a)
theorem OwnI.frz {N : AS} {d : D} {v : V} (h : OwnI K mg F H N d v) : Den K mg (fun b => F b ∨ N b) H d v := by
  rcases h with h | ⟨_, _, h⟩
  · exact h.frz
  · exact Den.mono (fun _ z => .inl z) (fun _ _ _ z => z) _ _ h
theorem Rel.add {N : AS} (r : Rel K mg M F W σ H ρ) (h : ∀ a, N a → ∃ o, H a = some o) (hw : ∀ a, N a → ¬ W a) : Rel K mg M (fun b => F b ∨ N b) W σ H ρ := by
  obtain ⟨R, r⟩ := r
  refine ⟨R, fun i d hi e => ?_, fun i d hi e => ?_, r.rw, r.dj, fun b fb wb => ?_, fun b fb => ?_, r.wd⟩
  · obtain ⟨v, h1, h2⟩ := r.sh i d hi e
    exact ⟨v, h1, Den.mono (fun _ h => .inl h) (fun _ _ _ h => h) _ _ h2⟩
  · obtain ⟨v, h1, h2⟩ := r.ow i d hi e
    exact ⟨v, h1, h2.mono (fun _ h => .inl h) (fun _ _ _ h => h) fun _ _ _ h => h⟩
  · rcases fb with fb | fb
    · exact r.fw b fb wb
    · exact hw b fb wb
  · rcases fb with fb | fb
    · exact r.fd b fb
    · exact h b fb
theorem tN_of_tG {f : EF} {Q : VK} (h : tG K mg M E (dnD K mg) f σ H Q) : tN K mg M E f σ H Q := by
  obtain ⟨F, W, ρ, rel, h⟩ := h
  refine ⟨F, W, ρ, rel, ?_⟩
  cases ef : f ρ with
  | ok p =>
    rw [ef] at h
    intro v N H' F' W' rel' ow nf nw hn st
    refine h v H' (fun b => F' b ∨ N b) W' (rel'.add (OwnI.there ow) nw) (OwnI.frz ow) ⟨fun b z => .inl (st.fr b z), st.st, fun b z => ?_, st.nw, st.th⟩
    rcases z with z | z
    · exact st.nf b z
    · exact .inr (hn b z)
  | err c => rw [ef] at h; exact h
  | stuck => rw [ef] at h; exact h
/-- what is wanted of a new thing -/
abbrev NwOk (K : PySem.W.Frag) (mg : Str → Option Value) (M : List Nat) (F W : AS) (σ : St) (H : Hp) (ρ : Env) (d : D) (Q : VK) : Prop :=
  ∀ v N H' F' W', Rel K mg M F' W' σ H' ρ → OwnI K mg F' H' N d v → (∀ a, N a → ¬ F' a) → (∀ a, N a → ¬ W' a) → (∀ a, N a → W a ∨ H a = none) → Step F W H F' W' H' → Q v H'
/-- the last act: a new thing is laid -/
theorem tN_new {a : Addr} {o : HO} {d : D} {Q : VK} (h : NwOk K mg M F W σ H ρ d Q) (rel : Rel K mg M F W σ H ρ) (n : H a = none) (ow : Own K mg F (upd H a o) (fun b => b = a) d (.ref a)) : Q (.ref a) (upd H a o) := by
  obtain ⟨R, r⟩ := rel
  have ke : ∀ b u, H b = some u → upd H a o b = some u := fun b u h => by rw [upd_ne (ne_of_none h n)]; exact h
  refine h _ _ _ F W ⟨R, fun i d hi e => ?_, fun i d hi e => ?_, r.rw, r.dj, r.fw, fun b fb => ?_, fun b fb => ?_⟩ (.inl ow) (fun b e z => ?_) (fun b e z => ?_) (fun b e => .inr (e ▸ n)) ⟨fun _ h => h, fun b u h _ => ke b u h, fun _ h => .inl h, fun _ h => .inl h, fun b u h => ⟨u, ke b u h⟩⟩
  · obtain ⟨v, h1, h2⟩ := r.sh i d hi e
    exact ⟨v, h1, Den.mono (fun _ h => h) (fun b u _ => ke b u) _ _ h2⟩
  · obtain ⟨v, h1, h2⟩ := r.ow i d hi e
    exact ⟨v, h1, h2.mono (fun _ h => h) (fun b u _ => ke b u) fun b u _ => ke b u⟩
  · obtain ⟨u, q⟩ := r.fd b fb; exact ⟨u, ke b u q⟩
  · obtain ⟨u, q⟩ := r.wd b fb; exact ⟨u, ke b u q⟩
  · subst e; obtain ⟨u, q⟩ := r.fd b z; rw [n] at q; cases q
  · subst e; obtain ⟨u, q⟩ := r.wd b z; rw [n] at q; cases q
theorem tN_step {d : D} {Q : VK} (h : NwOk K mg M F W σ H ρ d Q) (st : Step F W H F1 W1 H1) : NwOk K mg M F1 W1 σ H1 ρ d Q :=
  fun v N H' F' W' r o nf nw hn s => h v N H' F' W' r o nf nw (fun a z => (hn a z).elim (st.nw a) fun z => .inr (st.none_of z)) (st.trans s)
end
/-- a new thing, told as any other -/
theorem DN.de (h : DN X E M e fe) : DE X E M e fe := PE.weak h fun σ H Q h => tN_of_tG h
end
end DL

set_option Elab.async false
set_option linter.all false
set_option maxRecDepth 100000
set_option maxHeartbeats 4000000
namespace DL
open PySem L2 TL
section
variable {K : PySem.W.Frag} {mg : Str → Option Value} {M P : List Nat} {F W : AS} {σ : St} {H : Hp} {ρ : Env}
/-- a loose thing becomes a name's own -/
theorem RelR.take {R : Nat → AS} {i : Nat} {N : AS} {v : V} {d : D} (r : RelR K mg M F W σ H ρ R) (hi : i ∈ M) (hs : i < σ.length) (nf : ∀ a, N a → ¬ F a) (nw : ∀ a, N a → ¬ W a)
    (ow : Own K mg F H N d v) : RelR K mg M F (fun b => W b ∨ N b) (σ.set i (some v)) H (ρ.set i (some d)) (fun j => if j = i then N else R j) := by
  have nR : ∀ j a, N a → R j a → False := fun j a na h => nw a na (r.rw j a h)
  refine ⟨fun j e hj h => ?_, fun j e hj h => ?_, fun j b h => ?_, fun j k b h h' => ?_, fun b fb wb => ?_, r.fd, fun b wb => ?_⟩
  · rcases get_set h with ⟨rfl, q⟩ | ⟨ne, q⟩
    · exact absurd hi hj
    · obtain ⟨w, h1, h2⟩ := r.sh j e hj q
      exact ⟨w, by rw [List.getElem?_set_ne ne]; exact h1, h2⟩
  · rcases get_set h with ⟨rfl, q⟩ | ⟨ne, q⟩
    · cases q
      refine ⟨_, by rw [List.getElem?_set_self hs], ?_⟩
      rw [if_pos rfl]
      exact ow
    · obtain ⟨w, h1, h2⟩ := r.ow j e hj q
      refine ⟨w, by rw [List.getElem?_set_ne ne]; exact h1, ?_⟩
      rw [if_neg (fun e => ne e.symm)]
      exact h2
  · split at h
    · exact .inr h
    · exact .inl (r.rw j b h)
  · split at h
    · rename_i e
      split at h'
      · rename_i e'; rw [e, e']
      · exact (nR _ _ h h').elim
    · rename_i e
      split at h'
      · exact (nR _ _ h' h).elim
      · exact r.dj j k b h h'
  · rcases wb with wb | wb
    · exact r.fw b fb wb
    · exact nf b wb fb
  · rcases wb with wb | wb
    · exact r.wd b wb
    · exact Own.there' _ _ _ ow b wb
def rooty : D → Bool
  | .lst _ => true
  | .dic _ _ => true
  | _ => false
theorem Own.root {R : AS} {d : D} {v : V} (h : Own K mg F H R d v) (hr : rooty d = true) : ∃ a, v = .ref a ∧ (∀ b, R b ↔ b = a) ∧ Own K mg F H (fun b => b = a) d (.ref a) := by
  cases d with
  | lst ds => obtain ⟨a, vs, e, r, h1, h2⟩ := h; exact ⟨a, e, r, a, vs, rfl, fun b => Iff.rfl, h1, h2⟩
  | dic t ds => obtain ⟨a, e, r, h⟩ := h; exact ⟨a, e, r, a, rfl, fun b => Iff.rfl, h⟩
  | _ => cases hr
theorem Own.reg {R : AS} {d : D} {v : V} {a : Addr} (h : Own K mg F H (fun b => b = a) d v) (hR : ∀ b, R b ↔ b = a) : Own K mg F H R d v := by
  have : R = fun b => b = a := funext fun b => propext (hR b)
  rw [this]; exact h
end
section
variable {X : Cx} {E : XK} {M P : List Nat} {fr : Bool} {pos pos' : Pos} {e c o : Expr} {es : List Expr} {fe fi : EF} {fc : BF} {fs : AF}
/-! ### new things -/
theorem dn_lst (h : DA X E M es fs) : DN X E M (.List es pos) (eN gLstN fs) := by
  refine PE.weak (pe_lst h) fun σ H Q ⟨F, W, ρ, rel, h⟩ => ⟨F, W, ρ, rel, ?_⟩
  unfold eN at h
  cases ef : fs ρ with
  | err c => rw [ef] at h; exact h
  | stuck => rw [ef] at h; exact h
  | ok p =>
    rw [ef] at h
    intro vs H1 F1 W1 rel1 dn1 st1
    cases hz : gLstN p.1 with
    | none => simp only [R.bind_ok, hz, opt_none] at h
    | some z =>
      simp only [R.bind_ok, hz, opt_some] at h
      unfold gLstN at hz
      split at hz
      · rename_i hs
        cases hz
        refine ⟨by rw [dn1.len]; exact szOk_le hs, fun q nq => tN_new (tN_step h st1) rel1 nq ⟨q, vs, rfl, fun b => Iff.rfl, upd_same, ?_⟩⟩
        exact DenL.mono (fun _ h => h) (fun b u _ z => by rw [upd_ne (ne_of_none z nq)]; exact z) _ _ dn1
      · cases hz
/-- x = a new thing, x one's own -/
def ownable : D → Bool
  | .non => true
  | .lst _ => true
  | .dic _ _ => true
  | .tup _ => true
  | _ => false
def sSetO (i : Nat) (a : EF) : SF := fun ρ => (a ρ).toS fun p => if ownable p.1 = true then .next (p.2.set i (some p.1)) else .stuck
theorem OwnL.of_den {K : PySem.W.Frag} {mg : Str → Option Value} {F : AS} {H : Hp} : ∀ {ds : List D} {vs : List V}, looseL ds = true → DenL K mg F H ds vs → OwnL K mg F H (fun _ => False) ds vs
  | [], _, _, h => ⟨h, fun _ z => z⟩
  | d :: ds, _, l, h => by
    obtain ⟨v, r, rfl, h1, h2⟩ := h
    have l' : loose d = true ∧ looseL ds = true := by simpa [looseL] using l
    exact ⟨v, r, fun _ => False, fun _ => False, rfl, fun b => ⟨fun z => z.elim, fun z => z.elim id id⟩, fun _ z => z.elim, .inr ⟨l'.1, fun _ z => z, h1⟩, OwnL.of_den l'.2 h2⟩
theorem OwnI.own {K : PySem.W.Frag} {mg : Str → Option Value} {F N : AS} {H : Hp} {d : D} {v : V} (h : OwnI K mg F H N d v) (ho : ownable d = true) : Own K mg F H N d v := by
  rcases h with h | ⟨l, n, h⟩
  · exact h
  · have e : N = fun _ => False := funext fun b => propext ⟨n b, fun z => z.elim⟩
    rw [e]
    cases d with
    | non => exact ⟨h, fun _ z => z⟩
    | lst ds => cases l
    | dic t ds => cases l
    | tup ds =>
      obtain ⟨a, vs, e, fa, ha, r⟩ := h
      exact ⟨a, vs, e, fa, ha, OwnL.of_den l r⟩
    | _ => cases ho
theorem tAsgN_of {i : Nat} (hlt : i < X.N.length) (hM : i ∈ M) (hP : i ∉ P) {D : Ends} {σ : St} {H : Hp} (hl : σ.length = X.N.length) (h : tS X.K X.mg M P E fr (sSetO i fe) D σ H) : tAsg (tN X.K X.mg M E fe) (gName i) D σ H := by
  obtain ⟨F, W, ρ, rel, h⟩ := h
  refine ⟨F, W, ρ, rel, ?_⟩
  unfold sSetO at h
  cases ef : fe ρ with
  | err c => rw [ef] at h; exact h
  | stuck => rw [ef] at h; exact h
  | ok p =>
    rw [ef] at h
    intro v N H' F' W' ⟨R, rel'⟩ ow nf nw hn st
    by_cases ho : ownable p.1 = true
    · have h : postS X.K X.mg M P E fr F W σ H (if ownable p.1 = true then .next (p.2.set i (some p.1)) else .stuck) D := h
      rw [if_pos ho] at h
      refine h _ H' F' _ ⟨_, rel'.take hM (by omega) nf nw (OwnI.own ow ho)⟩ ⟨st.fr, st.st, st.nf, fun b z => ?_, st.th⟩ (fun k hk => ?_) (by simp)
      · rcases z with z | z
        · exact st.nw b z
        · exact hn b z
      · have ne : i ≠ k := fun e => hP (e ▸ hk)
        rw [List.getElem?_set_ne ne]
    · have h : postS X.K X.mg M P E fr F W σ H (if ownable p.1 = true then .next (p.2.set i (some p.1)) else .stuck) D := h
      rw [if_neg ho] at h
      exact False.elim h
theorem ds_setO {i : Nat} {x : Str} (hN : X.N.Nodup) (hi : X.N[i]? = some x) (hx : Loc X.env.scope x) (hM : i ∈ M) (hP : i ∉ P) (he : DN X E M e fe)
    (hs : swapsWith e (some (.Name x pos')) pos.line X.env = pure false := by rfl) (hf : X.fn x = true ∨ X.env.scope.names.lookup x = some .local := by first | exact .inl rfl | exact .inr rfl | assumption) : DS X E M P fr (.Assign [.Name x pos'] e pos) (sSetO i fe) :=
  PS.weakI (ps_set hN hi hx he hs hf) fun D σ H hl h => tAsgN_of (ix_lt hi) hM hP hl h
/-- return a new thing -/
theorem ds_retF (he : DN X E M e fe) : DS X E M P true (.Return (some e) pos) (sRet fe) := by
  refine PS.weak (ps_ret he) fun D σ H ⟨F, W, ρ, rel, h⟩ => ⟨F, W, ρ, rel, ?_⟩
  unfold sRet at h
  cases ef : fe ρ with
  | err c => rw [ef] at h; exact h
  | stuck => rw [ef] at h; exact h
  | ok p =>
    rw [ef] at h
    exact fun v N H' F' W' r ow nf nw hn st => h v σ H' F' W' N r ⟨ow, nf, nw⟩ hn st fun _ _ => rfl
/-! ### methods that change one's own thing -/
def isL : D → Bool
  | .lst _ => true
  | _ => false
/-- what a method does to the thing: what it tells, and what the thing is then -/
def MutD (K : PySem.W.Frag) (mg : Str → Option Value) (r : V → List V → Hp → VK → Prop) (g : D → List D → Option (D × D)) : Prop := ∀ (F : AS) (H : Hp) (a : Addr) (d : D) (ds : List D) (vs : List V) (z d' : D) (Q : VK), ¬ F a → Own K mg F H (fun b => b = a) d (.ref a) → DenL K mg F H ds vs → g d ds = some (z, d') →
  (∀ u o, Own K mg F (upd H a o) (fun b => b = a) d' (.ref a) → Den K mg F (upd H a o) z u → Q u (upd H a o)) → r (.ref a) vs H Q
def eMut (i : Nat) (k : D → Bool) (g : D → List D → Option (D × D)) (fs : AF) : EF := fun ρ => match ρ[i]? with
  | some (some d0) => if k d0 = true then (fs ρ).bind fun p => match p.2[i]? with
    | some (some d) => match g d p.1 with
      | some (z, d') => .ok (z, p.2.set i (some d'))
      | none => .stuck
    | _ => .stuck else .stuck
  | _ => .stuck
theorem mut_end {K : PySem.W.Frag} {mg : Str → Option Value} {r : V → List V → Hp → VK → Prop} {g : D → List D → Option (D × D)} (md : MutD K mg r g) (hrt : ∀ d ds z, g d ds = some z → rooty d = true) {F W : AS} {σ : St} {H : Hp} {ρ : Env} {i : Nat} {a : Addr} {ds : List D} {vs : List V} {Q : VK} (hi : i ∈ M) (rel : Rel K mg M F W σ H ρ) (hv : σ[i]? = some (some (.ref a))) (dn : DenL K mg F H ds vs)
    (h : post K mg M E (dnD K mg) F W σ H (match ρ[i]? with
      | some (some d) => match g d ds with
        | some (z, d') => .ok (z, ρ.set i (some d'))
        | none => .stuck
      | _ => .stuck) Q) : r (.ref a) vs H Q := by
  obtain ⟨R, rel⟩ := rel
  cases er : ρ[i]? with
  | none => simp only [er] at h; exact False.elim h
  | some o =>
    cases o with
    | none => simp only [er] at h; exact False.elim h
    | some d =>
      simp only [er] at h
      cases eg : g d ds with
      | none => simp only [eg] at h; exact False.elim h
      | some zd =>
        obtain ⟨z, d'⟩ := zd
        simp only [eg] at h
        obtain ⟨v, ev, ow⟩ := rel.ow i d hi er
        obtain ⟨b, rfl, hR, ow'⟩ := ow.root (hrt d ds _ eg)
        rw [hv] at ev
        cases ev
        have nf : ¬ F a := fun fa => rel.fw a fa (rel.rw i a ((hR a).mpr rfl))
        exact md F H a d ds vs z d' Q nf ow' dn eg fun u o ow2 dn2 => h u _ F W ⟨R, rel.chg hi hv hR (ow2.reg hR)⟩ dn2 (Rel.step_upd rel hR)
theorem de_mut {i : Nat} {T : String} {m : Str} {x : Str} {p apos cpos : Pos} {k : D → Bool} {r : V → List V → Hp → VK → Prop} {g : D → List D → Option (D × D)} (md : MutD X.K X.mg r g) (hrt : ∀ d ds z, g d ds = some z → rooty d = true) (hkr : ∀ d, k d = true → rooty d = true) (hi : i ∈ M)
    (hk : ∀ F H a d, k d = true → Own X.K X.mg F H (fun b => b = a) d (.ref a) → tyV X.K T (.ref a) H)
    (h : PE X (.Call (.Attribute (.Name x p) m apos) (e :: es) [] cpos) (tBM X.K T r (tVar i) (tG X.K X.mg M E (dnL X.K X.mg) fs))) : DE X E M (.Call (.Attribute (.Name x p) m apos) (e :: es) [] cpos) (eMut i k g fs) := by
  refine PE.weak h fun σ H Q ⟨F, W, ρ, ⟨R, rel⟩, h⟩ => ?_
  unfold eMut at h
  cases er : ρ[i]? with
  | none => simp only [er] at h; exact False.elim h
  | some o =>
    cases o with
    | none => simp only [er] at h; exact False.elim h
    | some d0 =>
      simp only [er] at h
      by_cases hkd : k d0 = true
      · rw [if_pos hkd] at h
        obtain ⟨v, ev, ow⟩ := rel.ow i d0 hi er
        obtain ⟨a, rfl, hR, ow'⟩ := ow.root (hkr d0 hkd)
        refine ⟨_, ev, hk F H a d0 hkd ow', ?_⟩
        exact tG_of ⟨R, rel⟩ h fun ds ρ1 vs H1 F1 W1 rel1 dn1 st1 h1 => mut_end md hrt hi rel1 ev dn1 h1
      · rw [if_neg hkd] at h; exact False.elim h
theorem ty_list {K : PySem.W.Frag} {mg : Str → Option Value} (F : AS) (H : Hp) (a : Addr) (d : D) (hk : isL d = true) (ow : Own K mg F H (fun b => b = a) d (.ref a)) : tyV K "list" (.ref a) H := by
  cases d with
  | lst ds => obtain ⟨b, vs, e, _, h1, _⟩ := ow; cases e; exact .inl ⟨rfl, _, SqL.of h1⟩
  | _ => cases hk
section
variable {K : PySem.W.Frag} {mg : Str → Option Value}
theorem denL_upd {F : AS} {H : Hp} {a : Addr} {o : HO} (nf : ¬ F a) {ds : List D} {vs : List V} (h : DenL K mg F H ds vs) : DenL K mg F (upd H a o) ds vs :=
  DenL.mono (fun _ h => h) (fun b u fb z => by
    have ne : b ≠ a := fun e => nf (e ▸ fb)
    rw [upd_ne ne]; exact z) _ _ h
theorem den_upd {F : AS} {H : Hp} {a : Addr} {o : HO} (nf : ¬ F a) {ds : D} {vs : V} (h : Den K mg F H ds vs) : Den K mg F (upd H a o) ds vs :=
  Den.mono (fun _ h => h) (fun b u fb z => by
    have ne : b ≠ a := fun e => nf (e ▸ fb)
    rw [upd_ne ne]; exact z) _ _ h
def gAppend : D → List D → Option (D × D)
  | .lst ds, [d] => if ds.length < 16777216 then some (.non, .lst (ds ++ [d])) else none
  | _, _ => none
theorem md_append : MutD K mg rAppend gAppend := by
  intro F H a d ds vs z d' Q nf ow dn hg q
  unfold gAppend at hg
  split at hg
  · split at hg
    · rename_i hl
      cases hg
      obtain ⟨b, ws, e, _, h1, h2⟩ := ow
      cases e
      obtain ⟨v, r, rfl, d1, rfl⟩ := dn
      refine ⟨a, ws, v, rfl, rfl, h1, ?_, q .non _ ⟨a, _, rfl, fun b => Iff.rfl, upd_same, (denL_upd nf h2).app (denL_cons (den_upd nf d1) denL_nil)⟩ rfl⟩
      rw [h2.len, sizeLine_eq]; exact hl
    · cases hg
  · cases hg
def gPop : D → List D → Option (D × D)
  | .lst ds, [] => match ds[ds.length - 1]? with
    | some d => some (d, .lst ds.dropLast)
    | none => none
  | _, _ => none
theorem md_pop : MutD K mg rPop gPop := by
  intro F H a d ds vs z d' Q nf ow dn hg q
  unfold gPop at hg
  split at hg
  · split at hg
    · rename_i xs d e
      cases hg
      obtain ⟨b, ws, e1, _, h1, h2⟩ := ow
      cases e1
      cases dn
      obtain ⟨v, ev, dv⟩ := h2.get e
      exact ⟨a, ws, v, rfl, rfl, h1, by rw [h2.len]; exact ev, q v _ ⟨a, _, rfl, fun b => Iff.rfl, upd_same, (denL_upd nf h2).dropLast⟩ (den_upd nf dv)⟩
    · cases hg
  · cases hg
def gReverse : D → List D → Option (D × D)
  | .lst ds, [] => some (.non, .lst ds.reverse)
  | _, _ => none
theorem md_reverse : MutD K mg rReverse gReverse := by
  intro F H a d ds vs z d' Q nf ow dn hg q
  unfold gReverse at hg
  split at hg
  · cases hg
    obtain ⟨b, ws, e1, _, h1, h2⟩ := ow
    cases e1
    cases dn
    exact ⟨a, ws, rfl, rfl, h1, q .non _ ⟨a, _, rfl, fun b => Iff.rfl, upd_same, (denL_upd nf h2).rev⟩ rfl⟩
  · cases hg
end
/-! ### x[k] = value, x one's own list -/
def gSetL : D → D → D → Option D
  | .lst ds, .int k, d => (ixN ds.length k).map fun j => .lst (ds.set j d)
  | _, _, _ => none
def bSub (i : Nat) (fi : EF) : BFn := fun d ρ => match ρ[i]? with
  | some (some _) => match fi ρ with
    | .ok p => match p.2[i]? with
      | some (some l) => (gSetL l p.1 d).map fun l' => p.2.set i (some l')
      | _ => none
    | _ => none
  | _ => none
theorem go_sub {i n : Nat} (hi : i ∈ M) : GOk X.K X.mg M [] n (L2.gSub (tVar i) (tG X.K X.mg M E (dnD X.K X.mg) fi) rSetL) (bSub i fi) := by
  intro F W σ H ρ ρ' d v Q rel hl dn hb q
  unfold bSub at hb
  cases e0 : ρ[i]? with
  | none => rw [e0] at hb; cases hb
  | some o0 =>
  cases o0 with
  | none => rw [e0] at hb; cases hb
  | some l0 =>
  rw [e0] at hb
  simp only at hb
  cases ef : fi ρ with
  | err c => rw [ef] at hb; cases hb
  | stuck => rw [ef] at hb; cases hb
  | ok p =>
    rw [ef] at hb
    simp only at hb
    cases er : p.2[i]? with
    | none => rw [er] at hb; cases hb
    | some o =>
      cases o with
      | none => rw [er] at hb; cases hb
      | some l =>
        rw [er] at hb
        obtain ⟨l', el, rfl⟩ := Option.map_eq_some_iff.mp hb
        obtain ⟨R, rel0⟩ := id rel
        obtain ⟨v0, ev0, ow0⟩ := rel0.ow i l0 hi e0
        have hrl : rooty l = true := by
          unfold gSetL at el
          split at el
          · rfl
          · cases el
        refine ⟨_, ev0, F, W, ρ, rel, ?_⟩
        rw [ef]
        intro w H1 F1 W1 ⟨R1, rel1⟩ dn1 st1
        obtain ⟨v1, ev1, ow⟩ := rel1.ow i _ hi er
        obtain ⟨a, rfl, hR, ow'⟩ := ow.root hrl
        rw [ev0] at ev1
        cases ev1
        have nf : ¬ F1 a := fun fa => rel1.fw a fa (rel1.rw i a ((hR a).mpr rfl))
        have dv := st1.den rel dn
        obtain ⟨kk, ρ1⟩ := p
        simp only at el dn1 er rel1 q
        unfold gSetL at el
        split at el
        · rename_i ds k
          obtain ⟨j, ej, rfl⟩ := Option.map_eq_some_iff.mp el
          obtain ⟨b, ws, e1, _, h1, h2⟩ := ow'
          cases e1
          cases (show w = .int k from dn1)
          refine ⟨a, ws, k, j, rfl, rfl, h1, by rw [h2.len]; exact ej, ?_⟩
          have own : Own X.K X.mg F1 (upd H1 a (.lst (ws.set j v))) (R1 i) (.lst (ds.set j _)) (.ref a) := ⟨a, _, rfl, hR, upd_same, DenL.set (den_upd nf dv) j (denL_upd nf h2)⟩
          exact q σ _ F1 W1 ⟨R1, rel1.chg hi ev0 hR own⟩ (st1.trans (Rel.step_upd rel1 hR)) (fun _ _ => rfl) rfl
        · cases el
/-- x[k] of one's own list -/
def eIxO (i : Nat) (fi : EF) : EF := fun ρ => match ρ[i]? with
  | some (some (.lst _)) => (fi ρ).bind fun p => match p.2[i]? with
    | some (some (.lst ds)) => opt (gIx (.lst ds) p.1) p.2
    | _ => .stuck
  | _ => .stuck
theorem de_ixO {i : Nat} {x : Str} {p : Pos} {b : Expr} (h : PE X (.Subscript (.Name x p) b pos) (tOp (rIx X.K) (tVar i) (tG X.K X.mg M E (dnD X.K X.mg) fi))) (hi : i ∈ M) : DE X E M (.Subscript (.Name x p) b pos) (eIxO i fi) := by
  refine PE.weak h fun σ H Q ⟨F, W, ρ, ⟨R, rel⟩, h⟩ => ?_
  unfold eIxO at h
  split at h
  · rename_i ds0 er
    obtain ⟨v, ev, ow⟩ := rel.ow i _ hi er
    refine ⟨v, ev, ?_⟩
    refine tG_of ⟨R, rel⟩ h fun d ρ1 w H1 F1 W1 ⟨R1, rel1⟩ dn1 st1 h1 => ?_
    simp only at h1
    split at h1
    · rename_i ds e1
      obtain ⟨v', ev', ow'⟩ := rel1.ow i _ hi e1
      rw [ev] at ev'
      cases ev'
      obtain ⟨a, vs, rfl, hR, ha, hd⟩ := ow'
      obtain ⟨z, ez, h3⟩ := post_opt h1
      cases d with
      | int k =>
        cases dn1
        obtain ⟨u, e2, d2⟩ := atI_den hd ez
        exact .inl ⟨a, vs, k, u, rfl, rfl, SqL.of ha, e2, post_ok h3 ⟨R1, rel1⟩ (Ext.refl rel1.fd) d2⟩
      | _ => cases ez
    · exact False.elim h1
  · exact False.elim h
/-! ### lending: all that is one's own is frozen while an expression is reckoned, whose value is plain -/
mutual
def imm : D → Bool
  | .non => true
  | .bl _ => true
  | .int _ => true
  | .str _ => true
  | .ty _ => true
  | .cls _ => true
  | .tup ds => immL ds
  | _ => false
def immL : List D → Bool
  | [] => true
  | d :: ds => imm d && immL ds
end
mutual
theorem imm_den {K : PySem.W.Frag} {mg : Str → Option Value} {F F' : AS} {H : Hp} (h : ∀ a vs, F a → H a = some (.tup vs) → F' a) : ∀ (d : D) (v : V), imm d = true → Den K mg F H d v → Den K mg F' H d v
  | .non, _, _, q => q
  | .bl _, _, _, q => q
  | .int _, _, _, q => q
  | .str _, _, _, q => q
  | .ty _, _, _, q => q
  | .cls _, _, _, q => q
  | .tup ds, _, i, q => by
    obtain ⟨a, vs, e, fa, ha, r⟩ := q
    exact ⟨a, vs, e, h a vs fa ha, ha, imm_denL h ds vs i r⟩
  | .lst _, _, i, _ => by cases i
  | .dic _ _, _, i, _ => by cases i
  | .obj _ _, _, i, _ => by cases i
  | .scr _, _, i, _ => by cases i
  | .ktup _, _, i, _ => by cases i
  | .tab _, _, i, _ => by cases i
theorem imm_denL {K : PySem.W.Frag} {mg : Str → Option Value} {F F' : AS} {H : Hp} (h : ∀ a vs, F a → H a = some (.tup vs) → F' a) : ∀ (ds : List D) (vs : List V), immL ds = true → DenL K mg F H ds vs → DenL K mg F' H ds vs
  | [], _, _, q => q
  | d :: ds, _, i, q => by
    obtain ⟨v, r, e, q1, q2⟩ := q
    have i' : imm d = true ∧ immL ds = true := by simpa [immL] using i
    exact ⟨v, r, e, imm_den h d v i'.1 q1, imm_denL h ds r i'.2 q2⟩
end
def eLend (f : EF) : EF := fun ρ => match f ρ with
  | .ok p => if imm p.1 = true then .ok (p.1, ρ) else .stuck
  | .err c => .err c
  | .stuck => .stuck
theorem RelR.noTup {K : PySem.W.Frag} {mg : Str → Option Value} {F W : AS} {σ : St} {H : Hp} {ρ : Env} {R : Nat → AS} (r : RelR K mg M F W σ H ρ R) : ∀ i ∈ M, ∀ d, ρ[i]? = some (some d) → ∀ a vs, R i a → H a ≠ some (.tup vs) := by
  intro i hi d er a vs ra
  obtain ⟨v, _, ow⟩ := r.ow i d hi er
  exact Own.noTup' _ _ _ ow a vs ra
theorem de_lend (h : DE X E [] e fe) : DE X E M e (eLend fe) := by
  refine PE.weak h fun σ H Q ⟨F, W, ρ, ⟨R, rel⟩, h⟩ => ?_
  -- what is one's own and lives
  let L : AS := fun a => ∃ i ∈ M, (∃ d, ρ[i]? = some (some d)) ∧ R i a
  have lw : ∀ a, L a → W a := fun a ⟨i, _, _, ra⟩ => rel.rw i a ra
  have rel' : RelR X.K X.mg [] (fun a => F a ∨ L a) (fun _ => False) σ H ρ (fun _ _ => False) := by
    refine ⟨fun i d _ er => ?_, fun i d hi _ => absurd hi (by simp), fun i a z => z, fun i j a z => z.elim, fun a _ z => z, fun a z => ?_, fun a z => z.elim⟩
    · by_cases hi : i ∈ M
      · obtain ⟨v, ev, ow⟩ := rel.ow i d hi er
        refine ⟨v, ev, Den.mono (fun a z => ?_) (fun _ _ _ h => h) _ _ ow.frz⟩
        rcases z with z | z
        · exact .inl z
        · exact .inr ⟨i, hi, ⟨d, er⟩, z⟩
      · obtain ⟨v, ev, dn⟩ := rel.sh i d hi er
        exact ⟨v, ev, Den.mono (fun a z => .inl z) (fun _ _ _ h => h) _ _ dn⟩
    · rcases z with z | z
      · exact rel.fd a z
      · exact rel.wd a (lw a z)
  refine ⟨_, _, ρ, ⟨_, rel'⟩, ?_⟩
  unfold eLend at h
  cases ef : fe ρ with
  | stuck => rw [ef] at h; exact h
  | err c =>
    rw [ef] at h
    intro C H' F' W' e st
    refine h C H' (fun a => F a) (fun a => W a) e ⟨fun _ h => h, fun a o h _ => st.st a o h (fun z => z), fun _ h => .inl h, fun _ h => .inl h, st.th⟩
  | ok p =>
    rw [ef] at h
    simp only at h
    split at h
    · rename_i hi
      intro v H' F' W' ⟨R', relE⟩ dn st
      have keep : ∀ a o, H a = some o → H' a = some o := fun a o h => st.st a o h (fun z => z)
      have nW' : ∀ a, W' a → H a = none := fun a z => (st.nw a z).elim (fun z => z.elim) fun z => z
      refine h v H' (fun a => (F' a ∧ ¬ W a)) W ?_ ?_ ⟨fun a z => ⟨st.fr a (.inl z), rel.fw a z⟩, fun a o h _ => keep a o h, fun a z => ?_, fun _ h => .inl h, st.th⟩
      · refine ⟨R, fun i d hM er => ?_, fun i d hM er => ?_, rel.rw, rel.dj, fun a z wa => z.2 wa, fun a z => relE.fd a z.1, fun a wa => ?_⟩
        · obtain ⟨v, ev, d1⟩ := rel.sh i d hM er
          exact ⟨v, ev, Den.mono (fun a z => ⟨st.fr a (.inl z), rel.fw a z⟩) (fun a o _ => keep a o) _ _ d1⟩
        · obtain ⟨v, ev, d1⟩ := rel.ow i d hM er
          exact ⟨v, ev, d1.mono (fun a z => ⟨st.fr a (.inl z), rel.fw a z⟩) (fun a o _ => keep a o) fun a o _ => keep a o⟩
        · obtain ⟨o, h⟩ := rel.wd a wa
          exact ⟨o, keep a o h⟩
      · refine imm_den (fun a vs fa ha => ⟨fa, fun wa => ?_⟩) _ _ hi dn
        rcases st.nf a fa with z | z | z
        · rcases z with z | ⟨i, hM, ⟨d, er⟩, ra⟩
          · exact rel.fw a z wa
          · obtain ⟨o, ho⟩ := rel.wd a wa
            have := keep a o ho
            rw [ha] at this
            cases this
            exact rel.noTup i hM d er a vs ra ho
        · exact z.elim
        · obtain ⟨o, ho⟩ := rel.wd a wa
          rw [z] at ho; cases ho
      · rcases st.nf a z.1 with q | q | q
        · rcases q with q | q
          · exact .inl q
          · exact absurd (lw a q) z.2
        · exact q.elim
        · exact .inr (.inr q)
    · exact False.elim h
end
end DL

set_option Elab.async false
set_option linter.all false
set_option maxRecDepth 100000
set_option maxHeartbeats 4000000
namespace DL
open PySem L2 TL
/-! ### what is walked -/
/-- the walk yields these, as long as what was frozen stays -/
def ItOk (K : PySem.W.Frag) (mg : Str → Option Value) (F0 : AS) (H0 : Hp) (ds : List D) (J : It) : Prop := ∀ (F : AS) (H : Hp), (∀ a, F0 a → F a) → (∀ a o, F0 a → H0 a = some o → H a = some o) → (∀ a, F a → ∃ o, H a = some o) → ∀ i : Nat,
  (∀ d, ds[i]? = some d → J.go i H ∧ ∀ x H', J.yld i H x H' → ∃ F', Ext F H F' H' ∧ Den K mg F' H' d x) ∧ (ds.length = i → J.stop i H)
def DI (X : Cx) (E : XK) (M : List Nat) (tg iter : Expr) (f : AF) : Prop := PI X tg iter (tG X.K X.mg M E (ItOk X.K X.mg) f)
section
variable {K : PySem.W.Frag} {mg : Str → Option Value} {F0 : AS} {H0 : Hp} {ds : List D}
theorem it_list {a : Addr} {vs : List V} (sq : ∀ H : Hp, (∀ o, F0 a → H0 a = some o → H a = some o) → SqL K H a vs) (dn : DenL K mg F0 H0 ds vs) : ItOk K mg F0 H0 ds (Itl K a) := by
  intro F H ff ke fd i
  have dn' : DenL K mg F H ds vs := DenL.mono ff (fun a o f h => ke a o f h) _ _ dn
  have s := sq H fun o f => ke a o f
  refine ⟨fun d hd => ?_, fun hl => ⟨vs, s, by rw [dn.len]; omega⟩⟩
  obtain ⟨v, ev, dv⟩ := dn'.get hd
  refine ⟨⟨vs, v, s, ev⟩, fun x H' ⟨e, hx⟩ => ?_⟩
  subst e
  have := hx vs s
  rw [ev] at this
  cases this
  exact ⟨F, Ext.refl fd, dv⟩
theorem it_tup {a : Addr} {vs : List V} (sq : ∀ H, (∀ o, F0 a → H0 a = some o → H a = some o) → SqT K H a vs) (dn : DenL K mg F0 H0 ds vs) : ItOk K mg F0 H0 ds (Itt K a) := by
  intro F H ff ke fd i
  have dn' : DenL K mg F H ds vs := DenL.mono ff (fun a o f h => ke a o f h) _ _ dn
  have s := sq H fun o f => ke a o f
  refine ⟨fun d hd => ?_, fun hl => ⟨vs, s, by rw [dn.len]; omega⟩⟩
  obtain ⟨v, ev, dv⟩ := dn'.get hd
  refine ⟨⟨vs, v, s, ev⟩, fun x H' ⟨e, hx⟩ => ?_⟩
  subst e
  have := hx vs s
  rw [ev] at this
  cases this
  exact ⟨F, Ext.refl fd, dv⟩
def signsD (z : Str) : List D := z.cps.toList.map fun c => .str ⟨#[c]⟩
theorem it_str {z : Str} : ItOk K mg F0 H0 (signsD z) (Its z) := by
  intro F H ff ke fd i
  have hl : (signsD z).length = z.cps.size := by simp [signsD]
  refine ⟨fun d hd => ?_, fun h => by rw [hl] at h; exact Nat.le_of_eq h⟩
  unfold signsD at hd
  rw [List.getElem?_map] at hd
  obtain ⟨c, ec, rfl⟩ := Option.map_eq_some_iff.mp hd
  have ec' : z.cps[i]? = some c := by simpa using ec
  refine ⟨(Array.getElem?_eq_some_iff.mp ec').1, fun x H' ⟨e, c', e1, e2⟩ => ?_⟩
  subst e e2
  rw [ec'] at e1
  cases e1
  exact ⟨F, Ext.refl fd, rfl⟩
def rangeD (lo : Int) (n : Nat) : List D := (List.range n).map fun i => .int (lo + (i : Nat))
theorem it_range {lo : Int} {n : Nat} : ItOk K mg F0 H0 (rangeD lo n) (Itr lo n) := by
  intro F H ff ke fd i
  have hl : (rangeD lo n).length = n := by simp [rangeD]
  refine ⟨fun d hd => ?_, fun h => by rw [hl] at h; exact Nat.le_of_eq h⟩
  unfold rangeD at hd
  rw [List.getElem?_map] at hd
  obtain ⟨c, ec, rfl⟩ := Option.map_eq_some_iff.mp hd
  obtain ⟨h1, h2⟩ := List.getElem?_eq_some_iff.mp ec
  simp at h1 h2
  subst h2
  refine ⟨h1, fun x H' ⟨e, e2⟩ => ?_⟩
  subst e e2
  exact ⟨F, Ext.refl fd, rfl⟩
def enumD (ds : List D) : List D := (List.range ds.length).zipWith (fun i d => .tup [.int (i : Nat), d]) ds
def zipD (ds es : List D) : List D := ds.zipWith (fun d e => .tup [d, e]) es
end
section
variable {X : Cx} {E : XK} {M P : List Nat} {fr : Bool} {pos p : Pos} {tg e e2 : Expr} {es : List Expr} {fe : EF} {fs : AF}
def gItems : D → Option (List D)
  | .lst ds => some ds
  | .scr ds => some ds
  | .tup ds => some ds
  | .ktup ds => some ds
  | .str z => some (signsD z)
  | _ => none
def iAny (a : EF) : AF := fun ρ => (a ρ).bind fun p => opt (gItems p.1) p.2
theorem di_any (he : DE X E M e fe) : DI X E M tg e (iAny fe) := by
  refine PI.weak (PI_or (pi_list he) (PI_or (pi_tup he) (pi_str he))) fun σ H Q ⟨F, W, ρ, rel, h⟩ => ?_
  unfold iAny at h
  -- which of the three, by what was reckoned
  cases ef : fe ρ with
  | err c => rw [ef] at h; exact .inl ⟨F, W, ρ, rel, by rw [ef]; exact h⟩
  | stuck => rw [ef] at h; exact False.elim h
  | ok q =>
    obtain ⟨d, ρ1⟩ := q
    have h0 := h
    rw [ef] at h
    obtain ⟨z, ez, h3⟩ := post_opt h
    have go : ∀ T : VK, (∀ v H1 F1 W1, Rel X.K X.mg M F1 W1 σ H1 ρ1 → Den X.K X.mg F1 H1 d v → Step F W H F1 W1 H1 → post X.K X.mg M E (ItOk X.K X.mg) F1 W1 σ H1 (.ok (z, ρ1)) Q → T v H1) → tG X.K X.mg M E (dnD X.K X.mg) fe σ H T := by
      intro T hT
      refine ⟨F, W, ρ, rel, ?_⟩
      rw [ef]
      exact fun v H1 F1 W1 r dn st => hT v H1 F1 W1 r dn st (post_step h3 st)
    cases d with
    | lst ds =>
      cases ez
      refine .inl (go _ fun v H1 F1 W1 r dn st h4 => ?_)
      obtain ⟨a, vs, rfl, fa, ha, ra⟩ := dn
      exact ⟨a, rfl, ⟨vs, SqL.of ha⟩, post_ok h4 r (Ext.refl r.fd) (it_list (fun H' k => SqL.of (k _ fa ha)) ra)⟩
    | scr ds =>
      cases ez
      refine .inl (go _ fun v H1 F1 W1 r dn st h4 => ?_)
      obtain ⟨a, vs, rfl, ha, ra⟩ := dn
      refine ⟨a, rfl, ⟨vs, scr_sq ha⟩, post_ok h4 r (Ext.refl r.fd) (it_list (fun H' k => ?_) ra)⟩
      rcases ha with ⟨fa, o, ha⟩ | ha
      · exact .inl (.inr ⟨o, k _ fa ha⟩)
      · exact .inr ha
    | tup ds =>
      cases ez
      refine .inr (.inl (go _ fun v H1 F1 W1 r dn st h4 => ?_))
      obtain ⟨a, vs, rfl, fa, ha, ra⟩ := dn
      exact ⟨a, rfl, ⟨vs, SqT.of ha⟩, post_ok h4 r (Ext.refl r.fd) (it_tup (fun H' k => SqT.of (k _ fa ha)) ra)⟩
    | ktup ds =>
      cases ez
      refine .inr (.inl (go _ fun v H1 F1 W1 r dn st h4 => ?_))
      obtain ⟨a, vs, rfl, ha, ra⟩ := dn
      exact ⟨a, rfl, ⟨vs, ha.sq⟩, post_ok h4 r (Ext.refl r.fd) (it_tup (fun H' k => ha.sq) ra)⟩
    | str x =>
      cases ez
      refine .inr (.inr (go _ fun v H1 F1 W1 r dn st h4 => ?_))
      cases dn
      exact ⟨x, rfl, post_ok h4 r (Ext.refl r.fd) it_str⟩
    | _ => cases ez
/-- a number within a machine's word; sealed, so that nothing ever reckons it -/
theorem rangeOk_ex : ∃ f : Int → Bool, ∀ i, f i = true ↔ (-(2 ^ 62) ≤ i ∧ i < 2 ^ 62) := ⟨fun i => decide (-(2 ^ 62) ≤ i ∧ i < 2 ^ 62), fun i => decide_eq_true_iff⟩
noncomputable def rangeOk : Int → Bool := Classical.choose rangeOk_ex
theorem rangeOk_iff {i : Int} : rangeOk i = true ↔ (-(2 ^ 62) ≤ i ∧ i < 2 ^ 62) := Classical.choose_spec rangeOk_ex i
noncomputable def gRange1 : List D → Option (List D)
  | [.int j] => if rangeOk j = true then some (rangeD 0 j.toNat) else none
  | _ => none
noncomputable def gRange2 : List D → Option (List D)
  | [.int i, .int j] => if (rangeOk i && rangeOk j) = true then some (rangeD i (j - i).toNat) else none
  | _ => none
noncomputable def iRange1 (a : AF) : AF := fun ρ => (a ρ).bind fun p => opt (gRange1 p.1) p.2
noncomputable def iRange2 (a : AF) : AF := fun ρ => (a ρ).bind fun p => opt (gRange2 p.1) p.2
theorem di_range1 (hg : Gl X "range") (hm : X.mg "range" = none) (ha : DA X E M [e] fs) (hs : starEach [e] X.env = [(false, eval e X.env)] := by rfl) : DI X E M tg (.Call (.Name "range" p) [e] [] pos) (iRange1 fs) := by
  refine PI.weak (pi_range1 hg hm ha hs) fun σ H Q ⟨F, W, ρ, rel, h⟩ => tG_of rel h fun ds ρ1 vs H1 F1 W1 rel1 dn1 st1 h1 => ?_
  obtain ⟨z, ez, h3⟩ := post_opt h1
  dsimp only at ez h3
  unfold gRange1 at ez
  split at ez
  · split at ez
    · rename_i hz
      cases ez
      obtain ⟨v, r, rfl, d1, rfl⟩ := dn1
      cases d1
      have hz' := rangeOk_iff.mp hz
      exact ⟨_, rfl, hz'.1, hz'.2, post_ok h3 rel1 (Ext.refl rel1.fd) it_range⟩
    · cases ez
  · cases ez
def gEnum : List D → Option (List D)
  | [.lst ds] => some (enumD ds)
  | _ => none
def iEnumD (a : AF) : AF := fun ρ => (a ρ).bind fun p => opt (gEnum p.1) p.2
/-! ### for -/
def loop (b : BFn) (body : SF) : List D → Env → S
  | [], ρ => .next ρ
  | d :: ds, ρ => match b d ρ with
    | none => .stuck
    | some ρ1 => match body ρ1 with
      | .next ρ2 => loop b body ds ρ2
      | .cont ρ2 => loop b body ds ρ2
      | .brk ρ2 => .next ρ2
      | r => r
def sFor (it : AF) (b : BFn) (body : SF) : SF := fun ρ => (it ρ).toS fun p => loop b body p.1 p.2
variable {iter : Expr} {body : List Stmt} {fi : AF} {fb : SF} {g : TG} {b : BFn}
theorem ds_for (hp : PassesOwn (model X.prog X.w) X.A X.env X.xe) (hc : X.calm = true) (hi : DI X E M tg iter fi) (hg : PG X tg g) {T : List Nat} (gok : GOk X.K X.mg M T X.N.length g b) (hT : ∀ k ∈ P, k ∉ T) (hb : DSs X E M P fr body fb)
    (hs : ∀ x, foldedSetIterable iter X.env x = pure x := by intro _; rfl) : DS X E M P fr (.For tg iter body [] pos) (sFor fi b fb) := by
  refine PS.weakI (ps_for hp hc hi hg hb hs) fun D σ H hl ⟨F, W, ρ, rel, h⟩ => tG_toS rel h fun ds ρ0 J H0 F0 W0 rel0 it st0 h0 => ?_
  refine ⟨fun i m σ1 H1 => m = ds.length - i ∧ i ≤ ds.length ∧ ∃ F1 W1 ρ1, Rel X.K X.mg M F1 W1 σ1 H1 ρ1 ∧ Step F0 W0 H0 F1 W1 H1 ∧ σ1.length = X.N.length ∧ postS X.K X.mg M P E fr F1 W1 σ1 H1 (loop b fb (ds.drop i) ρ1) D,
    ⟨ds.length, by simp, Nat.zero_le _, F0, W0, ρ0, rel0, Step.refl _ _ _, hl, h0⟩, ?_⟩
  rintro i m σ1 H1 ⟨rfl, hile, F1, W1, ρ1, rel1, st1, hl1, h1⟩
  obtain ⟨iti, its⟩ := it F1 H1 st1.fr (fun a o f e => st1.st a o e (rel0.fw a f)) rel1.fd i
  by_cases hlt : i < ds.length
  · have ed : ds[i]? = some ds[i] := List.getElem?_eq_getElem hlt
    obtain ⟨go, yl⟩ := iti _ ed
    have edr : ds.drop i = ds[i] :: ds.drop (i + 1) := List.drop_eq_getElem_cons hlt
    rw [edr] at h1
    unfold loop at h1
    refine .inr ⟨go, fun σ' H' => ∃ F' W' ρ', Rel X.K X.mg M F' W' σ' H' ρ' ∧ Step F0 W0 H0 F' W' H' ∧ σ'.length = X.N.length ∧ postS X.K X.mg M P E fr F' W' σ' H' (loop b fb (ds.drop (i + 1)) ρ') D, fun σ' H' q => ⟨ds.length - (i + 1), by omega, rfl, hlt, q⟩, fun x H2 hy => ?_⟩
    obtain ⟨F2, ex, dx⟩ := yl x H2 hy
    cases eb : b ds[i] ρ1 with
    | none => rw [eb] at h1; exact False.elim h1
    | some ρ2 =>
      rw [eb] at h1
      dsimp only at h1
      have st2 : Step F1 W1 H1 F2 W1 H2 := ex.step
      refine gok F2 W1 σ1 H2 ρ1 ρ2 _ x _ (rel1.ext ex) hl1 dx eb fun σ3 H3 F3 W3 rel3 st3 p3 l3 => ⟨F3, W3, ρ2, rel3, ?_⟩
      have h3 := postS_step h1 (st2.trans st3) (fun k hk => p3 k (hT k hk)) l3
      have stt : Step F0 W0 H0 F3 W3 H3 := st1.trans (st2.trans st3)
      cases eB : fb ρ2 with
      | next ρ4 =>
        rw [eB] at h3
        exact fun σ' H' F' W' r s p l => ⟨F', W', ρ4, r, stt.trans s, l.trans (l3.trans hl1), postS_step h3 s p l⟩
      | cont ρ4 =>
        rw [eB] at h3
        exact fun σ' H' F' W' r s p l => ⟨F', W', ρ4, r, stt.trans s, l.trans (l3.trans hl1), postS_step h3 s p l⟩
      | brk ρ4 => rw [eB] at h3; exact h3
      | ret d ρ4 => rw [eB] at h3; exact h3
      | err c => rw [eB] at h3; exact h3
      | stuck => rw [eB] at h3; exact h3
  · have e : ds.length ≤ i := by omega
    rw [List.drop_eq_nil_of_le e] at h1
    exact .inl ⟨its (by omega), postS_next rel1 h1⟩
/-! ### while -/
open Classical in
end
end DL

set_option Elab.async false
set_option linter.all false
set_option maxRecDepth 100000
set_option maxHeartbeats 4000000
namespace DL
open PySem L2 TL
/-! ### comprehensions -/
def wipeE (ρ : Env) : List Nat → Env
  | [] => ρ
  | v :: vs => (wipeE ρ vs).set v none
theorem wipeE_some {ρ : Env} {i : Nat} {x : D} : ∀ {vs : List Nat}, (wipeE ρ vs)[i]? = some (some x) → ρ[i]? = some (some x) ∧ i ∉ vs
  | [], h => ⟨h, by simp⟩
  | v :: vs, h => by
    unfold wipeE at h
    rcases get_set h with ⟨_, q⟩ | ⟨ne, q⟩
    · cases q
    · obtain ⟨h1, h2⟩ := wipeE_some q
      exact ⟨h1, by simp [h2]; exact fun e => ne e.symm⟩
theorem wipeE_of {ρ : Env} {i : Nat} : ∀ {vs : List Nat}, i ∉ vs → (wipeE ρ vs)[i]? = ρ[i]?
  | [], _ => rfl
  | v :: vs, h => by
    unfold wipeE
    have ne : v ≠ i := fun e => h (by simp [e])
    rw [List.getElem?_set_ne ne]
    exact wipeE_of (fun z => h (by simp [z]))
theorem wipe_of {σ : St} {i : Nat} : ∀ {vs : List Nat}, i ∉ vs → (wipe σ vs)[i]? = σ[i]?
  | [], _ => rfl
  | v :: vs, h => by
    unfold wipe
    have ne : v ≠ i := fun e => h (by simp [e])
    rw [List.getElem?_set_ne ne]
    exact wipe_of (fun z => h (by simp [z]))
theorem wipe_in {σ : St} {i : Nat} : ∀ {vs : List Nat}, i ∈ vs → i < σ.length → (wipe σ vs)[i]? = some none
  | v :: vs, h, hl => by
    unfold wipe
    by_cases e : v = i
    · subst e; rw [List.getElem?_set_self (by rw [wipe_length]; exact hl)]
    · rw [List.getElem?_set_ne e]
      exact wipe_in ((List.mem_cons.mp h).resolve_left fun z => e z.symm) hl
theorem wipe_eq {σ σ' : St} {T ws : List Nat} (h : ∀ k, k ∉ T → σ'[k]? = σ[k]?) (hl : σ'.length = σ.length) (hT : ∀ k ∈ T, k ∈ ws) : wipe σ' ws = wipe σ ws := by
  apply List.ext_getElem?
  intro i
  by_cases hi : i ∈ ws
  · by_cases hlt : i < σ.length
    · rw [wipe_in hi hlt, wipe_in hi (by omega)]
    · rw [List.getElem?_eq_none (by rw [wipe_length]; omega), List.getElem?_eq_none (by rw [wipe_length]; omega)]
  · rw [wipe_of hi, wipe_of hi]
    exact h i fun z => hi (hT i z)
theorem wipe_wipe {σ : St} {ws : List Nat} : wipe (wipe σ ws) ws = wipe σ ws :=
  wipe_eq (T := ws) (fun k hk => wipe_of hk) (wipe_length _ _) fun _ h => h
def restE (ρ0 ρ : Env) : List Nat → Env
  | [] => ρ
  | v :: vs => (restE ρ0 ρ vs).set v (ρ0[v]?).join
theorem restE_some {ρ0 ρ : Env} {i : Nat} {x : D} : ∀ {vs : List Nat}, (restE ρ0 ρ vs)[i]? = some (some x) → (i ∈ vs ∧ ρ0[i]? = some (some x)) ∨ (i ∉ vs ∧ ρ[i]? = some (some x))
  | [], h => .inr ⟨by simp, h⟩
  | v :: vs, h => by
    unfold restE at h
    rcases get_set h with ⟨rfl, q⟩ | ⟨ne, q⟩
    · refine .inl ⟨by simp, ?_⟩
      cases e : ρ0[v]? with
      | none => rw [e] at q; cases q
      | some o => rw [e] at q; exact congrArg some q
    · rcases restE_some q with ⟨h1, h2⟩ | ⟨h1, h2⟩
      · exact .inl ⟨by simp [h1], h2⟩
      · exact .inr ⟨by simp [h1]; exact fun e => ne e.symm, h2⟩
def lcGo (b : BFn) (test : BF) (elt : EF) (ws : List Nat) : List D → Env → List D → R (List D × Env)
  | [], ρ, acc => .ok (acc, ρ)
  | d :: ds, ρ, acc => match b d (wipeE ρ ws) with
    | none => .stuck
    | some ρ1 => match test ρ1 with
      | .ok p => if p.1 = true then (match elt p.2 with
        | .ok q => if acc.length < 16777216 then lcGo b test elt ws ds q.2 (acc ++ [q.1]) else .stuck
        | _ => .stuck) else lcGo b test elt ws ds p.2 acc
      | _ => .stuck
theorem lcGo_noErr {b : BFn} {test : BF} {elt : EF} {ws : List Nat} {c : Str} : ∀ {ds : List D} {ρ : Env} {acc : List D}, lcGo b test elt ws ds ρ acc ≠ .err c
  | [], _, _, h => by cases h
  | d :: ds, ρ, acc, h => by
    unfold lcGo at h
    split at h
    · cases h
    · split at h
      · split at h
        · split at h
          · split at h
            · exact lcGo_noErr h
            · cases h
          · cases h
        · exact lcGo_noErr h
      · cases h
def eLc (it : AF) (b : BFn) (test : BF) (elt : EF) (ws : List Nat) : EF := fun ρ => (it ρ).bind fun p => (lcGo b test elt ws p.1 p.2 []).bind fun q => .ok (.lst q.1, restE p.2 q.2 ws)
def bTrue : BF := fun ρ => .ok (true, ρ)
def DTs (X : Cx) (E : XK) (M : List Nat) (ifs : List Expr) (f : BF) : Prop := PTs X ifs (tG X.K X.mg M E dnB f)
theorem dts_nil {X : Cx} {E : XK} {M : List Nat} : DTs X E M [] bTrue := fun pins s σ H Q I ⟨F, W, ρ, rel, h⟩ => pts_nil pins s σ H Q I (post_ok h rel (Ext.refl rel.fd) rfl)
theorem dts_one {X : Cx} {E : XK} {M : List Nat} {c : Expr} {f : BF} (h : DT X E M c f) : DTs X E M [c] f := pts_one h
section
variable {K : PySem.W.Frag} {mg : Str → Option Value} {M : List Nat} {F W : AS} {σ : St} {H : Hp} {ρ : Env} {E : XK}
theorem Rel.wipe (r : Rel K mg M F W σ H ρ) (ws : List Nat) : Rel K mg M F W (L2.wipe σ ws) H (wipeE ρ ws) := by
  obtain ⟨R, r⟩ := r
  refine ⟨R, fun i d hi h => ?_, fun i d hi h => ?_, r.rw, r.dj, r.fw, r.fd, r.wd⟩
  · obtain ⟨h1, h2⟩ := wipeE_some h
    obtain ⟨v, ev, dn⟩ := r.sh i d hi h1
    exact ⟨v, by rw [wipe_of h2]; exact ev, dn⟩
  · obtain ⟨h1, h2⟩ := wipeE_some h
    obtain ⟨v, ev, dn⟩ := r.ow i d hi h1
    exact ⟨v, by rw [wipe_of h2]; exact ev, dn⟩
theorem Rel.foreign {a : Addr} {o : HO} (r : Rel K mg M F W σ H ρ) (nf : ¬ F a) (nw : ¬ W a) : Rel K mg M F W σ (upd H a o) ρ := by
  obtain ⟨R, r⟩ := r
  have ke : ∀ b u, b ≠ a → H b = some u → upd H a o b = some u := fun b u ne h => by rw [upd_ne ne]; exact h
  have kf : ∀ b u, F b → H b = some u → upd H a o b = some u := fun b u fb h => ke b u (fun e => nf (e ▸ fb)) h
  have kw : ∀ b u, W b → H b = some u → upd H a o b = some u := fun b u fb h => ke b u (fun e => nw (e ▸ fb)) h
  refine ⟨R, fun i d hi h => ?_, fun i d hi h => ?_, r.rw, r.dj, r.fw, fun b fb => ?_, fun b wb => ?_⟩
  · obtain ⟨v, ev, dn⟩ := r.sh i d hi h
    exact ⟨v, ev, Den.mono (fun _ h => h) kf _ _ dn⟩
  · obtain ⟨v, ev, dn⟩ := r.ow i d hi h
    exact ⟨v, ev, dn.mono (fun _ h => h) kf fun b u rb => kw b u (r.rw i b rb)⟩
  · obtain ⟨u, q⟩ := r.fd b fb; exact ⟨u, kf b u fb q⟩
  · obtain ⟨u, q⟩ := r.wd b wb; exact ⟨u, kw b u wb q⟩
theorem Step.foreign {F' W' : AS} {H' : Hp} {a : Addr} {o : HO} (s : Step F W H F' W' H') (n : H a = none) : Step F W H F' W' (upd H' a o) := by
  refine ⟨s.fr, fun b u h nw => ?_, s.nf, s.nw, fun b u h => ?_⟩
  · rw [upd_ne (ne_of_none h n)]; exact s.st b u h nw
  · rw [upd_ne (ne_of_none h n)]; exact s.th b u h
theorem tLc_of {fi : AF} {g : TG} {b : BFn} {ft : BF} {fe : EF} {ws T : List Nat} {n : Nat} (gok : GOk K mg M T n g b) (hT : ∀ k ∈ T, k ∈ ws) (hM : ∀ i ∈ ws, i ∉ M) {Q : VK} (hl : σ.length = n) (h : tN K mg M E (eLc fi b ft fe ws) σ H Q) :
    tLc (tG K mg M E (ItOk K mg) fi) g (tG K mg M E0 dnB ft) (tG K mg M E0 (dnD K mg) fe) ws σ H Q := by
  obtain ⟨F, W, ρ, rel, h⟩ := h
  refine ⟨F, W, ρ, rel, ?_⟩
  unfold eLc at h
  cases ei : fi ρ with
  | err c => rw [ei] at h; exact h
  | stuck => rw [ei] at h; exact h
  | ok p =>
  rw [ei] at h
  obtain ⟨ds, ρ0⟩ := p
  intro J H0 F0 W0 rel0 it st0 D nD
  cases eg : lcGo b ft fe ws ds ρ0 [] with
  | err c => exact absurd eg lcGo_noErr
  | stuck => simp only [R.bind_ok, eg, R.bind_stuck] at h
  | ok res =>
  simp only [R.bind_ok, eg] at h
  have nF0 : ¬ F0 D := fun z => by obtain ⟨o, q⟩ := rel0.fd D z; rw [nD] at q; cases q
  have nW0 : ¬ W0 D := fun z => by obtain ⟨R, r⟩ := rel0; obtain ⟨o, q⟩ := r.wd D z; rw [nD] at q; cases q
  refine ⟨fun i m H1 => m = ds.length - i ∧ i ≤ ds.length ∧ ∃ F1 W1 ρ1 acc vs, Rel K mg M F1 W1 (L2.wipe σ ws) H1 (wipeE ρ1 ws) ∧ Step F0 W0 H0 F1 W1 H1 ∧ H1 D = some (.lst vs) ∧ DenL K mg F1 H1 acc vs ∧ ¬ F1 D ∧ ¬ W1 D ∧ lcGo b ft fe ws (ds.drop i) ρ1 acc = .ok res,
    ⟨ds.length, by simp, Nat.zero_le _, F0, W0, ρ0, [], [], (rel0.foreign nF0 nW0).wipe ws, (Step.refl _ _ _).foreign nD, upd_same, denL_nil, nF0, nW0, eg⟩, ?_⟩
  rintro i m H1 ⟨rfl, hile, F1, W1, ρ1, acc, vs, rel1, st1, hD, dn, nF, nW, go1⟩
  obtain ⟨iti, its⟩ := it F1 H1 st1.fr (fun a o f e => st1.st a o e (rel0.fw a f)) rel1.fd i
  by_cases hlt : i < ds.length
  · have ed : ds[i]? = some ds[i] := List.getElem?_eq_getElem hlt
    obtain ⟨go, yl⟩ := iti _ ed
    have edr : ds.drop i = ds[i] :: ds.drop (i + 1) := List.drop_eq_getElem_cons hlt
    rw [edr] at go1
    unfold lcGo at go1
    refine .inr ⟨go, fun H2 => ∃ F1 W1 ρ1 acc vs, Rel K mg M F1 W1 (L2.wipe σ ws) H2 (wipeE ρ1 ws) ∧ Step F0 W0 H0 F1 W1 H2 ∧ H2 D = some (.lst vs) ∧ DenL K mg F1 H2 acc vs ∧ ¬ F1 D ∧ ¬ W1 D ∧ lcGo b ft fe ws (ds.drop (i + 1)) ρ1 acc = .ok res,
      fun H2 q => ⟨ds.length - (i + 1), by omega, rfl, hlt, q⟩, fun x H2 hy => ?_⟩
    obtain ⟨F2, ex, dx⟩ := yl x H2 hy
    cases eb : b ds[i] (wipeE ρ1 ws) with
    | none => rw [eb] at go1; cases go1
    | some ρ2 =>
    rw [eb] at go1
    dsimp only at go1
    refine gok F2 W1 (L2.wipe σ ws) H2 _ ρ2 _ x _ (rel1.ext ex) (by rw [wipe_length]; exact hl) dx eb fun σ3 H3 F3 W3 rel3 st3 p3 l3 => ⟨?_, ?_⟩
    · rw [wipe_eq p3 l3 hT, wipe_wipe]
    have ew : L2.wipe σ3 ws = L2.wipe σ ws := by rw [wipe_eq p3 l3 hT, wipe_wipe]
    have s13 : Step F1 W1 H1 F3 W3 H3 := ex.step.trans st3
    have keepD : ∀ {F' W' : AS} {H' : Hp}, Step F1 W1 H1 F' W' H' → H' D = some (.lst vs) ∧ ¬ F' D ∧ ¬ W' D := fun s => by
      refine ⟨s.st D _ hD nW, fun z => ?_, fun z => ?_⟩
      · rcases s.nf D z with z | z | z
        · exact nF z
        · exact nW z
        · rw [hD] at z; cases z
      · rcases s.nw D z with z | z
        · exact nW z
        · rw [hD] at z; cases z
    refine ⟨F3, W3, ρ2, rel3, ?_⟩
    cases et : ft ρ2 with
    | err c => rw [et] at go1; cases go1
    | stuck => rw [et] at go1; cases go1
    | ok pt =>
    rw [et] at go1
    dsimp only at go1
    intro bb H4 F4 W4 rel4 eb4 st4
    cases eb4
    have s14 := s13.trans st4
    cases hpt : pt.1 with
    | false =>
      rw [hpt, if_neg (by decide)] at go1
      obtain ⟨k1, k2, k3⟩ := keepD s14
      refine iteF ⟨F4, W4, pt.2, acc, vs, ew ▸ rel4.wipe ws, st1.trans s14, k1, ?_, k2, k3, go1⟩
      exact s14.denL rel1 dn
    | true =>
      rw [hpt, if_pos rfl] at go1
      refine iteT ⟨F4, W4, pt.2, rel4, ?_⟩
      cases ee : fe pt.2 with
      | err c => rw [ee] at go1; cases go1
      | stuck => rw [ee] at go1; cases go1
      | ok pe =>
      rw [ee] at go1
      dsimp only at go1
      split at go1
      · rename_i hacc
        intro y H5 F5 W5 rel5 dy st5
        have s15 := s14.trans st5
        obtain ⟨k1, k2, k3⟩ := keepD s15
        have dn5 := s15.denL rel1 dn
        refine ⟨vs, k1, by rw [dn.len, sizeLine_eq]; exact hacc, F5, W5, pe.2, acc ++ [pe.1], vs ++ [y], ew ▸ (rel5.foreign k2 k3).wipe ws, (st1.trans s15).foreign nD, upd_same, ?_, k2, k3, go1⟩
        exact (denL_upd k2 dn5).app (denL_cons (den_upd k2 dy) denL_nil)
      · cases go1
  · have e : ds.length ≤ i := by omega
    rw [List.drop_eq_nil_of_le e] at go1
    unfold lcGo at go1
    cases go1
    refine .inl ⟨its (Nat.le_antisymm e hile), h (.ref D) (fun b => b = D) H1 F1 W1 ?_ (.inl ⟨D, vs, rfl, fun b => Iff.rfl, hD, dn⟩) (fun b e => e ▸ nF) (fun b e => e ▸ nW) (fun b e => .inr (e ▸ st0.none_of nD)) (st0.trans st1)⟩
    obtain ⟨R, r⟩ := rel1
    refine ⟨R, fun j d hj hr => ?_, fun j d hj hr => ?_, r.rw, r.dj, r.fw, r.fd, r.wd⟩
    · rcases restE_some hr with ⟨h1, h2⟩ | ⟨h1, h2⟩
      · obtain ⟨R0, r0⟩ := id rel0
        obtain ⟨v, ev, d0⟩ := r0.sh j d hj h2
        exact ⟨v, ev, st1.den rel0 d0⟩
      · obtain ⟨v, ev, d0⟩ := r.sh j d hj (by rw [wipeE_of h1]; exact h2)
        exact ⟨v, by rw [wipe_of h1] at ev; exact ev, d0⟩
    · rcases restE_some hr with ⟨h1, h2⟩ | ⟨h1, h2⟩
      · exact absurd hj (hM j h1)
      · obtain ⟨v, ev, d0⟩ := r.ow j d hj (by rw [wipeE_of h1]; exact h2)
        exact ⟨v, by rw [wipe_of h1] at ev; exact ev, d0⟩
end
section
variable {X : Cx} {E : XK} {M P : List Nat} {fr : Bool} {elt tg iter : Expr} {ifs : List Expr} {scope : Scope} {own : List (Str × Nat)} {pos spos py : Pos} {fi : AF} {g : TG} {b : BFn} {ft : BF} {fe : EF} {T : List Nat}
theorem dn_lc (hc : X.calm = true) (hN : X.N.Nodup) (hi : DI X E M tg iter fi) (ok : BlkOk X.N X.env.scope scope own)
    (hg : ∀ (s : Shared) (H : Hp) (C : Addr) (cl : List (Str × Addr)) (fp : List Addr), PG (X.blk s H scope (compEnvC scope cl C X.env) fp) tg g)
    (ht : ∀ (s : Shared) (H : Hp) (C : Addr) (cl : List (Str × Addr)) (fp : List Addr), DTs (X.blk s H scope (compEnvC scope cl C X.env) fp) E0 M ifs ft)
    (he : ∀ (s : Shared) (H : Hp) (C : Addr) (cl : List (Str × Addr)) (fp : List Addr), DE (X.blk s H scope (compEnvC scope cl C X.env) fp) E0 M elt fe)
    (gok : GOk X.K X.mg M T X.N.length g b) (hT : ∀ k ∈ T, k ∈ own.map (·.2)) (hM : ∀ i ∈ own.map (·.2), i ∉ M) (hs : ∀ x, foldedSetIterable iter X.env x = pure x := by intro _; rfl) :
    DN X E M (.ListComp elt [⟨tg, iter, ifs, 0⟩] scope pos) (eLc fi b ft fe (own.map (·.2))) :=
  PE.weakI (pe_lc (tt := tG X.K X.mg M E0 dnB ft) (te := tG X.K X.mg M E0 (dnD X.K X.mg) fe) hc hN hi ok hg ht he hs) fun σ H Q hl h => tLc_of gok hT hM hl h
end
end DL

set_option Elab.async false
set_option linter.all false
set_option maxRecDepth 100000
set_option maxHeartbeats 4000000
namespace DL
open PySem PySem.Spec PyProof.Rows L2 TL
/-! ### defs -/
/-- what a def reckons: what it tells, and its parameters behind it (those that are handed in to be changed) -/
abbrev Fn := List D → R (D × Env)
/-- what is wanted behind a call; fr: what is told is the asker's own -/
def postC (K : PySem.W.Frag) (mg : Str → Option Value) (M : List Nat) (E : XK) (fr : Bool) (F W : AS) (σ : L2.St) (H : Hp) (r : R (D × Env)) (Q : VK) : Prop :=
  match r with
  | .ok p => ∀ v N H' F' W', Rel K mg M F' W' σ H' p.2 → RetOk K mg fr F' W' H' N p.1 v → (∀ a, N a → W a ∨ H a = none) → Step F W H F' W' H' → Q v H'
  | .err c => ∀ C H' F' W', mg c = some (.ref C) → Step F W H F' W' H' → E (.ref C) none H'
  | .stuck => False
def spD (K : PySem.W.Frag) (mg : Str → Option Value) (P : List Nat) (n : Nat) (fr : Bool) (f : Fn) : Sp := fun vs H Q E => vs.length = n ∧ ∃ F W ds, ds.length = n ∧ Rel K mg P F W (vs.map some) H (ds.map some) ∧ postC K mg P E fr F W (vs.map some) H (f ds) Q
def startE (n : Nat) (ds : List D) : Env := ds.map some ++ List.replicate (n - ds.length) none
def cutP (P : List Nat) (n : Nat) (ρ : Env) : Env := (List.range n).map fun i => if i ∈ P then (ρ[i]?).join else none
/-- the def's own reckoning -/
def runF (P : List Nat) (n k : Nat) (f : SF) : Fn := fun ds => match f (startE n ds) with
  | .ret d ρ => .ok (d, cutP P k ρ)
  | .next ρ => .ok (.non, cutP P k ρ)
  | .err c => .err c
  | _ => .stuck
theorem cutP_some {P : List Nat} {n i : Nat} {ρ : Env} {d : D} (h : (cutP P n ρ)[i]? = some (some d)) : i ∈ P ∧ i < n ∧ ρ[i]? = some (some d) := by
  unfold cutP at h
  rw [List.getElem?_map] at h
  obtain ⟨j, ej, hj⟩ := Option.map_eq_some_iff.mp h
  obtain ⟨h1, h2⟩ := List.getElem?_eq_some_iff.mp ej
  simp at h1 h2
  subst h2
  split at hj
  · rename_i hP
    refine ⟨hP, h1, ?_⟩
    cases e : ρ[i]? with
    | none => rw [e] at hj; cases hj
    | some o => rw [e] at hj; exact congrArg some hj
  · cases hj
def CalD (P : Program) (w : World) (K : PySem.W.Frag) (mg : Str → Option Value) (base : Heap) (k : Nat) (x : Str) (ps : List Str) (io : List Nat) (fr : Bool) (f : Fn) : Prop := CalX P w K mg base k x ps (spD K mg io ps.length fr f)
section
variable {P : Program} {w : World} {K : PySem.W.Frag} {mg : Str → Option Value} {base : Heap}
theorem Has.calD {x : Str} {st : Stmt} {N ps : List Str} {k : Nat} (F : Has K mg x st ps) (S : FnScope N ps (defScope st)) (M io : List Nat) (fr : Bool) (f : SF) (hM : ∀ i, i < ps.length → (i ∈ M ↔ i ∈ io))
    (hN : ps.length ≤ N.length)
    (hbody : ∀ (fa : Addr) (cdv : Value) (A : Around) (outer : List PySem.Env) (s : Shared) (H : Hp) (E : XK), Room k (A.deeper (envOfC x (defScope st) s.heap.objs.size fa cdv)) →
      DSs (cxOf (CX1 P w) P w K mg base N x (defScope st) fa cdv A outer s H E) E M io fr (defBody st) f) (hio : ∀ i ∈ io, i < ps.length) : CalD P w K mg base (k + 1) x ps io fr (runF io N.length ps.length f) := by
  refine L2.Has.calX F S (fun vs H Q E h => h.1) fun fa cdv A outer s H vs Q E hr h => ⟨_, hbody fa cdv A outer s H E hr, ?_⟩
  obtain ⟨hl, F0, W0, ds, hd, ⟨R, rel⟩, h⟩ := h
  have get0 : ∀ i, i < ps.length → (L2.start N vs)[i]? = (vs.map some)[i]? := fun i hi => by
    unfold L2.start
    rw [List.getElem?_append_left (by rw [List.length_map]; omega)]
  have getE : ∀ (i : Nat) (d : D), (startE N.length ds)[i]? = some (some d) → i < ps.length ∧ (ds.map some)[i]? = some (some d) := fun i d e => by
    unfold startE at e
    by_cases hi : i < ds.length
    · rw [List.getElem?_append_left (by rw [List.length_map]; exact hi)] at e
      exact ⟨by omega, e⟩
    · rw [List.getElem?_append_right (by rw [List.length_map]; omega), List.getElem?_replicate] at e
      split at e <;> cases e
  refine ⟨F0, W0, startE N.length ds, ⟨R, fun i d hi e => ?_, fun i d hi e => ?_, rel.rw, rel.dj, rel.fw, rel.fd, rel.wd⟩, ?_⟩
  · obtain ⟨h1, h2⟩ := getE i d e
    obtain ⟨v, ev, dn⟩ := rel.sh i d (fun z => hi ((hM i h1).mpr z)) h2
    exact ⟨v, by rw [get0 i h1]; exact ev, dn⟩
  · obtain ⟨h1, h2⟩ := getE i d e
    obtain ⟨v, ev, dn⟩ := rel.ow i d ((hM i h1).mp hi) h2
    exact ⟨v, by rw [get0 i h1]; exact ev, dn⟩
  · unfold runF at h
    have back : ∀ {σ' : L2.St} {H' : Hp} {F' W' : AS} {ρ' : Env}, Rel K mg M F' W' σ' H' ρ' → (∀ k ∈ io, σ'[k]? = (L2.start N vs)[k]?) → Rel K mg io F' W' (vs.map some) H' (cutP io ps.length ρ') := by
      rintro σ' H' F' W' ρ' ⟨R', r⟩ hk
      refine ⟨R', fun i d hi e => absurd (cutP_some e).1 hi, fun i d hi e => ?_, r.rw, r.dj, r.fw, r.fd, r.wd⟩
      obtain ⟨h1, h2, h3⟩ := cutP_some e
      obtain ⟨v, ev, ow⟩ := r.ow i d ((hM i h2).mpr h1) h3
      exact ⟨v, by rw [← get0 i h2, ← hk i h1]; exact ev, ow⟩
    cases ef : f (startE N.length ds) with
    | ret d ρ' =>
      rw [ef] at h
      exact fun v σ' H' F' W' N r dn hn st p => h v N H' F' W' (back r p) dn hn st
    | next ρ' =>
      rw [ef] at h
      exact fun σ' H' F' W' r st p _ => h .non (fun _ => False) H' F' W' (back r p) (by cases fr; exact rfl; exact ⟨.inr ⟨rfl, fun _ z => z, rfl⟩, fun _ z => z.elim, fun _ z => z.elim⟩) (fun _ z => z.elim) st
    | err c => rw [ef] at h; exact h
    | brk ρ' => rw [ef] at h; exact False.elim h
    | cont ρ' => rw [ef] at h; exact False.elim h
    | stuck => rw [ef] at h; exact h
/-- the same reckoning, told in other words -/
theorem CalD.of {k : Nat} {x : Str} {ps : List Str} {io : List Nat} {fr : Bool} {f g : Fn} (c : CalD P w K mg base k x ps io fr f) (h : ∀ ds, g ds ≠ .stuck → f ds = g ds) : CalD P w K mg base k x ps io fr g := by
  refine L2.CalX.imp c fun vs H Q E ⟨hl, F, W, ds, hd, rel, q⟩ => ⟨hl, F, W, ds, hd, rel, ?_⟩
  rw [h ds (fun z => by rw [z] at q; exact q)]
  exact q
end
/-! ### arguments: told, handed in to be changed, lent -/
inductive Ak where
  | sh (f : EF) | io (i : Nat) | bo (i : Nat)
def live (ρ : Env) (i : Nat) : Bool := match ρ[i]? with
  | some (some _) => true
  | _ => false
theorem live_some {ρ : Env} {i : Nat} (h : live ρ i = true) : ∃ d, ρ[i]? = some (some d) := by
  unfold live at h
  split at h
  · exact ⟨_, by assumption⟩
  · cases h
def axGo : List Ak → Env → R (List (Option D) × Env)
  | [], ρ => .ok ([], ρ)
  | .sh f :: r, ρ => (f ρ).bind fun p => (axGo r p.2).bind fun q => .ok (some p.1 :: q.1, q.2)
  | .io i :: r, ρ => if live ρ i = true then (axGo r ρ).bind fun q => .ok (none :: q.1, q.2) else .stuck
  | .bo i :: r, ρ => if live ρ i = true then (axGo r ρ).bind fun q => .ok (none :: q.1, q.2) else .stuck
def fetch : List Ak → List (Option D) → Env → Option (List D)
  | [], _, _ => some []
  | .sh _ :: r, some d :: s, ρ => (fetch r s ρ).map (d :: ·)
  | .io i :: r, none :: s, ρ => match ρ[i]? with
    | some (some d) => (fetch r s ρ).map (d :: ·)
    | _ => none
  | .bo i :: r, none :: s, ρ => match ρ[i]? with
    | some (some d) => (fetch r s ρ).map (d :: ·)
    | _ => none
  | _, _, _ => none
def backE : List Ak → Nat → Env → Env → Env
  | [], _, _, ρ => ρ
  | .io i :: r, k, o, ρ => backE r (k + 1) o (ρ.set i (o[k]?).join)
  | _ :: r, k, o, ρ => backE r (k + 1) o ρ
def hasBo : List Ak → Bool
  | [] => false
  | .bo _ :: _ => true
  | _ :: r => hasBo r
def kids : D → Bool
  | .lst ds => immL ds
  | .dic _ kvs => kvs.all fun p => imm p.2
  | _ => false
def okOut (fr : Bool) (ks : List Ak) (d : D) (o : Env) : Bool := !hasBo ks || ((imm d || (fr && kids d)) && o.all fun x => match x with
  | some d => kids d
  | none => true)
def eCall (fr : Bool) (ks : List Ak) (f : Fn) : EF := fun ρ => (axGo ks ρ).bind fun p => match fetch ks p.1 p.2 with
  | none => .stuck
  | some ds => (f ds).bind fun q => if okOut fr ks q.1 q.2 = true then .ok (q.1, backE ks 0 q.2 p.2) else .stuck
def AxRel (K : PySem.W.Frag) (mg : Str → Option Value) (σ : L2.St) (F : AS) (H : Hp) : List Ak → List (Option D) → List V → Prop
  | [], os, vs => os = [] ∧ vs = []
  | .sh _ :: r, os, vs => ∃ d s v t, os = some d :: s ∧ vs = v :: t ∧ Den K mg F H d v ∧ AxRel K mg σ F H r s t
  | .io i :: r, os, vs => ∃ s v t, os = none :: s ∧ vs = v :: t ∧ σ[i]? = some (some v) ∧ AxRel K mg σ F H r s t
  | .bo i :: r, os, vs => ∃ s v t, os = none :: s ∧ vs = v :: t ∧ σ[i]? = some (some v) ∧ AxRel K mg σ F H r s t
def DAx (X : Cx) (E : XK) (M : List Nat) (es : List Expr) (ks : List Ak) : Prop := PA X es (fun σ H T => tG X.K X.mg M E (fun F H => AxRel X.K X.mg σ F H ks) (axGo ks) σ H T)
section
variable {X : Cx} {E : XK} {M : List Nat} {e : Expr} {es : List Expr} {ks : List Ak} {fe : EF}
theorem dax_nil : DAx X E M [] [] := PA.weak pa_nil fun σ H Q ⟨F, W, ρ, rel, h⟩ => post_ok h rel (Ext.refl rel.fd) ⟨rfl, rfl⟩
theorem dax_sh (he : DE X E M e fe) (hr : DAx X E M es ks) (hs : starEach (e :: es) X.env = (false, eval e X.env) :: starEach es X.env := by rfl) : DAx X E M (e :: es) (.sh fe :: ks) := by
  refine PA.weak (pa_cons he hr hs) fun σ H Q ⟨F, W, ρ, rel, h⟩ => ?_
  refine tG_of rel h fun d ρ1 v H1 F1 W1 rel1 dn1 st1 h1 => tG_of rel1 h1 fun ds ρ2 vs H2 F2 W2 rel2 dn2 st2 h2 => ?_
  exact post_ok h2 rel2 (Ext.refl rel2.fd) ⟨d, ds, v, vs, rfl, rfl, st2.den rel1 dn1, dn2⟩
theorem dax_io {x : Str} {p : Pos} {i : Nat} (h : PE X (.Name x p) (tVar i)) (hi : i ∈ M) (hr : DAx X E M es ks) (hs : starEach (.Name x p :: es) X.env = (false, eval (.Name x p) X.env) :: starEach es X.env := by rfl) : DAx X E M (.Name x p :: es) (.io i :: ks) := by
  refine PA.weak (pa_cons h hr hs) fun σ H Q ⟨F, W, ρ, ⟨R, rel⟩, h⟩ => ?_
  unfold axGo at h
  split at h
  · rename_i hl
    obtain ⟨d, er⟩ := live_some hl
    obtain ⟨v, ev, _⟩ := rel.ow i d hi er
    refine ⟨v, ev, tG_of ⟨R, rel⟩ h fun ds ρ2 vs H2 F2 W2 rel2 dn2 st2 h2 => ?_⟩
    exact post_ok h2 rel2 (Ext.refl rel2.fd) ⟨ds, v, vs, rfl, rfl, ev, dn2⟩
  · exact False.elim h
end
/-- the slots that are handed in, at their places -/
def ioAt (ks : List Ak) (k i : Nat) : Prop := ks[k]? = some (Ak.io i)
def isIo (ks : List Ak) (i : Nat) : Prop := ∃ k, ioAt ks k i
def isBo (ks : List Ak) (i : Nat) : Prop := ∃ k : Nat, ks[k]? = some (Ak.bo i)
/-- no slot twice, io at the places P, all of M -/
structure KsOk (M P : List Nat) (ks : List Ak) : Prop where
  ios : ∀ k, k ∈ P ↔ ∃ i, ioAt ks k i
  inM : ∀ i, isIo ks i ∨ isBo ks i → i ∈ M
  one : ∀ k k' i, ioAt ks k i → ioAt ks k' i → k = k'
  two : ∀ i, isIo ks i → ¬ isBo ks i
def slotsOf : List Ak → List Nat
  | [] => []
  | .sh _ :: r => slotsOf r
  | .io i :: r => i :: slotsOf r
  | .bo i :: r => i :: slotsOf r
def ioPos : List Ak → Nat → List Nat
  | [], _ => []
  | .io _ :: r, k => k :: ioPos r (k + 1)
  | _ :: r, k => ioPos r (k + 1)
theorem ioPos_mem : ∀ (ks : List Ak) (n k : Nat), k ∈ ioPos ks n ↔ ∃ i j, k = n + j ∧ ioAt ks j i
  | [], n, k => by simp [ioPos, ioAt]
  | .io i :: r, n, k => by
    rw [ioPos, List.mem_cons, ioPos_mem r (n + 1) k]
    constructor
    · rintro (rfl | ⟨i', j, rfl, h⟩)
      · exact ⟨i, 0, rfl, rfl⟩
      · exact ⟨i', j + 1, by omega, h⟩
    · rintro ⟨i', j, rfl, h⟩
      cases j with
      | zero => exact .inl rfl
      | succ j => exact .inr ⟨i', j, by omega, h⟩
  | .sh f :: r, n, k => by
    rw [ioPos, ioPos_mem r (n + 1) k]
    · constructor
      · rintro ⟨i', j, rfl, h⟩; exact ⟨i', j + 1, by omega, h⟩
      · rintro ⟨i', j, rfl, h⟩
        cases j with
        | zero => cases h
        | succ j => exact ⟨i', j, by omega, h⟩
    · intro i e; cases e
  | .bo f :: r, n, k => by
    rw [ioPos, ioPos_mem r (n + 1) k]
    · constructor
      · rintro ⟨i', j, rfl, h⟩; exact ⟨i', j + 1, by omega, h⟩
      · rintro ⟨i', j, rfl, h⟩
        cases j with
        | zero => cases h
        | succ j => exact ⟨i', j, by omega, h⟩
    · intro i e; cases e
theorem slots_io {ks : List Ak} {k i : Nat} (h : ioAt ks k i ∨ ks[k]? = some (Ak.bo i)) : i ∈ slotsOf ks := by
  induction ks generalizing k with
  | nil => rcases h with h | h <;> simp [ioAt] at h
  | cons a r ih =>
    cases k with
    | zero =>
      rcases h with h | h
      · cases h; simp [slotsOf]
      · cases h; simp [slotsOf]
    | succ k =>
      have := ih (k := k) (by simpa [ioAt] using h)
      cases a <;> simp [slotsOf, this]
theorem slots_one {ks : List Ak} (nd : (slotsOf ks).Nodup) {k k' i : Nat} (h : ioAt ks k i ∨ ks[k]? = some (Ak.bo i)) (h' : ioAt ks k' i ∨ ks[k']? = some (Ak.bo i)) : k = k' := by
  induction ks generalizing k k' with
  | nil => rcases h with h | h <;> simp [ioAt] at h
  | cons a r ih =>
    have key : ∀ {k : Nat}, (ioAt (a :: r) (k + 1) i ∨ (a :: r)[k + 1]? = some (.bo i)) → (ioAt r k i ∨ r[k]? = some (.bo i)) := fun z => by simpa [ioAt] using z
    have nd' : (slotsOf r).Nodup := by cases a <;> simp [slotsOf] at nd <;> first | exact nd | exact nd.2
    cases k with
    | zero =>
      cases k' with
      | zero => rfl
      | succ k' =>
        have m := slots_io (key h')
        rcases h with h | h
        · cases h; simp [slotsOf] at nd; exact absurd m nd.1
        · cases h; simp [slotsOf] at nd; exact absurd m nd.1
    | succ k =>
      cases k' with
      | zero =>
        have m := slots_io (key h)
        rcases h' with h' | h'
        · cases h'; simp [slotsOf] at nd; exact absurd m nd.1
        · cases h'; simp [slotsOf] at nd; exact absurd m nd.1
      | succ k' => rw [ih nd' (key h) (key h')]
theorem ksOk_mk {M : List Nat} {ks : List Ak} (nd : (slotsOf ks).Nodup) (hM : ∀ i ∈ slotsOf ks, i ∈ M) : KsOk M (ioPos ks 0) ks := by
  refine ⟨fun k => ?_, fun i h => ?_, fun k k' i h h' => slots_one nd (.inl h) (.inl h'), fun i ⟨k, h⟩ ⟨k', h'⟩ => ?_⟩
  · rw [ioPos_mem]
    constructor
    · rintro ⟨i, j, rfl, h⟩; exact ⟨i, by simpa using h⟩
    · rintro ⟨i, h⟩; exact ⟨i, k, by simp, h⟩
  · rcases h with ⟨k, h⟩ | ⟨k, h⟩
    · exact hM i (slots_io (.inl h))
    · exact hM i (slots_io (.inr h))
  · have e := slots_one nd (.inl h) (.inr h')
    subst e
    unfold ioAt at h
    rw [h] at h'
    cases h'
/-! ### the call -/
theorem ax_get {K : PySem.W.Frag} {mg : Str → Option Value} {σ : L2.St} {F : AS} {H : Hp} : ∀ {ks : List Ak} {os : List (Option D)} {vs : List V} {ρ : Env} {ds : List D}, AxRel K mg σ F H ks os vs → fetch ks os ρ = some ds → vs.length = ks.length ∧ ds.length = ks.length ∧
    ∀ (k : Nat) (d : D), ds[k]? = some d → ∃ v, vs[k]? = some v ∧ ((∃ f, ks[k]? = some (Ak.sh f) ∧ Den K mg F H d v) ∨ ∃ i, (ioAt ks k i ∨ ks[k]? = some (Ak.bo i)) ∧ σ[i]? = some (some v) ∧ ρ[i]? = some (some d))
  | [], os, vs, ρ, ds, h, hf => by
    obtain ⟨rfl, rfl⟩ := h
    cases hf
    exact ⟨rfl, rfl, fun k d e => by simp at e⟩
  | .sh f :: r, os, vs, ρ, ds, h, hf => by
    obtain ⟨d0, s, v0, t, rfl, rfl, dn, h⟩ := h
    unfold fetch at hf
    obtain ⟨ds', e, rfl⟩ := Option.map_eq_some_iff.mp hf
    obtain ⟨l1, l2, q⟩ := ax_get h e
    refine ⟨by simp [l1], by simp [l2], fun k d e => ?_⟩
    cases k with
    | zero => simp at e; subst e; exact ⟨v0, rfl, .inl ⟨f, rfl, dn⟩⟩
    | succ k =>
      obtain ⟨v, ev, z⟩ := q k d (by simpa using e)
      exact ⟨v, by simpa using ev, by simpa [ioAt] using z⟩
  | .io i :: r, os, vs, ρ, ds, h, hf => by
    obtain ⟨s, v0, t, rfl, rfl, ev0, h⟩ := h
    unfold fetch at hf
    split at hf
    · rename_i d0 er
      obtain ⟨ds', e, rfl⟩ := Option.map_eq_some_iff.mp hf
      obtain ⟨l1, l2, q⟩ := ax_get h e
      refine ⟨by simp [l1], by simp [l2], fun k d e => ?_⟩
      cases k with
      | zero => simp at e; subst e; exact ⟨v0, rfl, .inr ⟨i, .inl rfl, ev0, er⟩⟩
      | succ k =>
        obtain ⟨v, ev, z⟩ := q k d (by simpa using e)
        exact ⟨v, by simpa using ev, by simpa [ioAt] using z⟩
    · cases hf
  | .bo i :: r, os, vs, ρ, ds, h, hf => by
    obtain ⟨s, v0, t, rfl, rfl, ev0, h⟩ := h
    unfold fetch at hf
    split at hf
    · rename_i d0 er
      obtain ⟨ds', e, rfl⟩ := Option.map_eq_some_iff.mp hf
      obtain ⟨l1, l2, q⟩ := ax_get h e
      refine ⟨by simp [l1], by simp [l2], fun k d e => ?_⟩
      cases k with
      | zero => simp at e; subst e; exact ⟨v0, rfl, .inr ⟨i, .inr rfl, ev0, er⟩⟩
      | succ k =>
        obtain ⟨v, ev, z⟩ := q k d (by simpa using e)
        exact ⟨v, by simpa using ev, by simpa [ioAt] using z⟩
    · cases hf
/-- what the caller's names hold behind the call -/
theorem back_get {i : Nat} {d : D} : ∀ {ks : List Ak} {k : Nat} {o ρ : Env}, (backE ks k o ρ)[i]? = some (some d) → (∃ j : Nat, ioAt ks j i ∧ o[k + j]? = some (some d)) ∨ (¬ isIo ks i ∧ ρ[i]? = some (some d))
  | [], k, o, ρ, h => .inr ⟨fun ⟨_, z⟩ => by simp [ioAt] at z, h⟩
  | .io i' :: r, k, o, ρ, h => by
    unfold backE at h
    rcases back_get h with ⟨j, h1, h2⟩ | ⟨h1, h2⟩
    · exact .inl ⟨j + 1, h1, by rw [show k + (j + 1) = k + 1 + j by omega]; exact h2⟩
    · rcases get_set h2 with ⟨rfl, q⟩ | ⟨ne, q⟩
      · refine .inl ⟨0, rfl, ?_⟩
        cases e : o[k]? with
        | none => rw [e] at q; cases q
        | some x => rw [e] at q; exact congrArg some q
      · refine .inr ⟨fun ⟨j, z⟩ => ?_, q⟩
        cases j with
        | zero => cases z; exact ne rfl
        | succ j => exact h1 ⟨j, z⟩
  | .sh f :: r, k, o, ρ, h => by
    unfold backE at h
    rcases back_get h with ⟨j, h1, h2⟩ | ⟨h1, h2⟩
    · exact .inl ⟨j + 1, h1, by rw [show k + (j + 1) = k + 1 + j by omega]; exact h2⟩
    · refine .inr ⟨fun ⟨j, z⟩ => ?_, h2⟩
      cases j with
      | zero => cases z
      | succ j => exact h1 ⟨j, z⟩
  | .bo f :: r, k, o, ρ, h => by
    unfold backE at h
    rcases back_get h with ⟨j, h1, h2⟩ | ⟨h1, h2⟩
    · exact .inl ⟨j + 1, h1, by rw [show k + (j + 1) = k + 1 + j by omega]; exact h2⟩
    · refine .inr ⟨fun ⟨j, z⟩ => ?_, h2⟩
      cases j with
      | zero => cases z
      | succ j => exact h1 ⟨j, z⟩
theorem hasBo_of {ks : List Ak} {k i : Nat} (h : ks[k]? = some (Ak.bo i)) : hasBo ks = true := by
  induction ks generalizing k with
  | nil => simp at h
  | cons a r ih =>
    cases k with
    | zero => simp at h; subst h; rfl
    | succ k =>
      have := ih (k := k) (by simpa using h)
      cases a <;> simp [hasBo, this]
mutual
theorem imm_kids {K : PySem.W.Frag} {mg : Str → Option Value} {F F' : AS} {H : Hp} (h : ∀ a vs, F a → H a = some (.tup vs) → F' a) : ∀ (kvs : List (D × D)) (es : List (Key × V)), (kvs.all fun p => imm p.2) = true → DenK K mg F H kvs es → DenK K mg F' H kvs es
  | [], _, _, q => q
  | (k, d) :: ds, _, i, q => by
    obtain ⟨a, v, r, e, e2, q1, q2⟩ := q
    rw [List.all_cons, Bool.and_eq_true] at i
    exact ⟨a, v, r, e, e2, imm_den h d v i.1 q1, imm_kids h ds r i.2 q2⟩
theorem imm_kidsT {K : PySem.W.Frag} {mg : Str → Option Value} {F F' : AS} {H : Hp} (h : ∀ a vs, F a → H a = some (.tup vs) → F' a) : ∀ (kvs : List (D × D)) (es : List (List Key × V)), (kvs.all fun p => imm p.2) = true → DenT K mg F H kvs es → DenT K mg F' H kvs es
  | [], _, _, q => q
  | (k, d) :: ds, _, i, q => by
    obtain ⟨a, v, r, e, e2, q1, q2⟩ := q
    rw [List.all_cons, Bool.and_eq_true] at i
    exact ⟨a, v, r, e, e2, imm_den h d v i.1 q1, imm_kidsT h ds r i.2 q2⟩
end
theorem Own.imm {K : PySem.W.Frag} {mg : Str → Option Value} {F F' R : AS} {H : Hp} {d : D} {v : V} (h : ∀ a vs, F a → H a = some (.tup vs) → F' a) (k : kids d = true) (ow : Own K mg F H R d v) : Own K mg F' H R d v := by
  cases d with
  | lst ds => obtain ⟨a, vs, e, r, h1, h2⟩ := ow; exact ⟨a, vs, e, r, h1, imm_denL h ds vs k h2⟩
  | dic t kvs =>
    obtain ⟨a, e, r, z⟩ := ow
    refine ⟨a, e, r, ?_⟩
    rcases z with ⟨ht, es, h1, h2⟩ | ⟨ht, es, h1, h2⟩
    · exact .inl ⟨ht, es, h1, imm_kids h kvs es k h2⟩
    · exact .inr ⟨ht, es, h1, imm_kidsT h kvs es k h2⟩
  | _ => cases k
mutual
theorem imm_loose : ∀ d : D, imm d = true → loose d = true
  | .non, _ => rfl
  | .bl _, _ => rfl
  | .int _, _ => rfl
  | .str _, _ => rfl
  | .ty _, _ => rfl
  | .cls _, _ => rfl
  | .tup ds, h => imm_looseL ds h
  | .lst _, h => by cases h
  | .dic _ _, h => by cases h
  | .obj _ _, h => by cases h
  | .scr _, h => by cases h
  | .ktup _, h => by cases h
  | .tab _, h => by cases h
theorem imm_looseL : ∀ ds : List D, immL ds = true → looseL ds = true
  | [], _ => rfl
  | d :: ds, h => by
    have h' : imm d = true ∧ immL ds = true := by simpa [immL] using h
    simp [looseL, imm_loose d h'.1, imm_looseL ds h'.2]
end
theorem kids_loose {d : D} (h : kids d = true) (l : loose d = true) : False := by
  cases d <;> first | cases h | cases l
mutual
theorem Own.immN {K : PySem.W.Frag} {mg : Str → Option Value} {F : AS} {H : Hp} : ∀ (R : AS) (d : D) (v : V), imm d = true → Own K mg F H R d v → ∀ b, ¬ R b
  | R, .tup ds, _, i, h, b => by
    obtain ⟨a, vs, _, _, _, h⟩ := h
    exact OwnL.immN R ds vs i h b
  | _, .lst _, _, i, _, _ => by cases i
  | _, .dic _ _, _, i, _, _ => by cases i
  | _, .non, _, _, h, b => h.2 b
  | _, .bl _, _, _, h, _ => h.elim
  | _, .int _, _, _, h, _ => h.elim
  | _, .str _, _, _, h, _ => h.elim
  | _, .ty _, _, _, h, _ => h.elim
  | _, .obj _ _, _, _, h, _ => h.elim
  | _, .cls _, _, _, h, _ => h.elim
  | _, .scr _, _, _, h, _ => h.elim
  | _, .ktup _, _, _, h, _ => h.elim
  | _, .tab _, _, _, h, _ => h.elim
theorem OwnL.immN {K : PySem.W.Frag} {mg : Str → Option Value} {F : AS} {H : Hp} : ∀ (R : AS) (ds : List D) (vs : List V), immL ds = true → OwnL K mg F H R ds vs → ∀ b, ¬ R b
  | R, [], _, _, h, b => h.2 b
  | R, d :: ds, _, i, h, b => by
    obtain ⟨v, r, R1, R2, e, hR, dj, h1, h2⟩ := h
    have i' : imm d = true ∧ immL ds = true := by simpa [immL] using i
    intro z
    rcases (hR b).mp z with z | z
    · rcases h1 with h1 | ⟨_, h1, _⟩
      · exact Own.immN R1 d v i'.1 h1 b z
      · exact h1 b z
    · exact OwnL.immN R2 ds r i'.2 h2 b z
end
theorem call_of {K : PySem.W.Frag} {mg : Str → Option Value} {M P : List Nat} {ks : List Ak} {fr : Bool} {f : Fn} {E : XK} (ok : KsOk M P ks) {σ : L2.St} {F W : AS} {H : Hp} {ρ : Env} {os : List (Option D)} {vs : List V} {Q : VK} {n : Nat} (hn : ks.length = n) (rel : Rel K mg M F W σ H ρ) (ax : AxRel K mg σ F H ks os vs)
    (h : postC K mg M E fr F W σ H (match fetch ks os ρ with
      | none => .stuck
      | some ds => (f ds).bind fun q => if okOut fr ks q.1 q.2 = true then .ok (q.1, backE ks 0 q.2 ρ) else .stuck) Q) : spD K mg P n fr f vs H Q E := by
  obtain ⟨R, rel⟩ := rel
  cases ef : fetch ks os ρ with
  | none => rw [ef] at h; exact False.elim h
  | some ds =>
  rw [ef] at h
  dsimp only at h
  obtain ⟨l1, l2, ax'⟩ := ax_get ax ef
  refine ⟨by omega, ?_⟩
  -- what is lent, what is handed in
  let B : AS := fun a => ∃ i, isBo ks i ∧ (∃ d, ρ[i]? = some (some d)) ∧ R i a
  let I : AS := fun a => ∃ i, isIo ks i ∧ (∃ d, ρ[i]? = some (some d)) ∧ R i a
  have bW : ∀ a, B a → W a := fun a ⟨i, _, _, r⟩ => rel.rw i a r
  have iW : ∀ a, I a → W a := fun a ⟨i, _, _, r⟩ => rel.rw i a r
  have bi : ∀ a, B a → ¬ I a := fun a ⟨i, hb, _, r⟩ ⟨j, hi, _, r'⟩ => ok.two j hi (by rw [← rel.dj i j a r r']; exact hb)
  refine ⟨fun a => F a ∨ B a, I, ds, by omega, ⟨fun k a => ∃ i, ioAt ks k i ∧ (∃ d, ρ[i]? = some (some d)) ∧ R i a, fun k d hk e => ?_, fun k d hk e => ?_, fun k a ⟨i, h1, h2, h3⟩ => ⟨i, ⟨k, h1⟩, h2, h3⟩, fun k k' a ⟨i, h1, _, h3⟩ ⟨i', h1', _, h3'⟩ => ?_, fun a fa ia => ?_, fun a fa => ?_, fun a ia => rel.wd a (iW a ia)⟩, ?_⟩
  · rw [List.getElem?_map] at e
    obtain ⟨d', ed, e'⟩ := Option.map_eq_some_iff.mp e
    cases e'
    obtain ⟨v, ev, z⟩ := ax' k d ed
    refine ⟨v, by rw [List.getElem?_map, ev]; rfl, ?_⟩
    rcases z with ⟨g, _, dn⟩ | ⟨i, hi, es, er⟩
    · exact Den.mono (fun _ h => .inl h) (fun _ _ _ h => h) _ _ dn
    · rcases hi with hi | hi
      · exact absurd ((ok.ios k).mpr ⟨i, hi⟩) hk
      · obtain ⟨v', ev', ow⟩ := rel.ow i d (ok.inM i (.inr ⟨k, hi⟩)) er
        rw [es] at ev'
        cases ev'
        refine Den.mono (fun a z => ?_) (fun _ _ _ h => h) _ _ ow.frz
        rcases z with z | z
        · exact .inl z
        · exact .inr ⟨i, ⟨k, hi⟩, ⟨d, er⟩, z⟩
  · rw [List.getElem?_map] at e
    obtain ⟨d', ed, e'⟩ := Option.map_eq_some_iff.mp e
    cases e'
    obtain ⟨v, ev, z⟩ := ax' k d ed
    refine ⟨v, by rw [List.getElem?_map, ev]; rfl, ?_⟩
    obtain ⟨i, hi⟩ := (ok.ios k).mp hk
    rcases z with ⟨g, eg, dn⟩ | ⟨i', hi', es, er⟩
    · unfold ioAt at hi; rw [hi] at eg; cases eg
    · have : i' = i := by
        unfold ioAt at hi hi'
        rw [hi] at hi'
        rcases hi' with z | z
        · cases z; rfl
        · cases z
      subst this
      obtain ⟨v', ev', ow⟩ := rel.ow i' d (ok.inM i' (.inl ⟨k, hi⟩)) er
      rw [es] at ev'
      cases ev'
      have eR : (fun a => ∃ i, ioAt ks k i ∧ (∃ d, ρ[i]? = some (some d)) ∧ R i a) = R i' := by
        funext a
        refine propext ⟨fun ⟨j, hj, _, r⟩ => ?_, fun r => ⟨i', hi, ⟨d, er⟩, r⟩⟩
        unfold ioAt at hi hj
        rw [hi] at hj
        cases hj
        exact r
      rw [eR]
      exact ow.mono (fun _ h => .inl h) (fun _ _ _ h => h) fun _ _ _ h => h
  · have := rel.dj i i' a h3 h3'
    subst this
    exact ok.one k k' i h1 h1'
  · rcases fa with fa | fa
    · exact rel.fw a fa (iW a ia)
    · exact bi a fa ia
  · rcases fa with fa | fa
    · exact rel.fd a fa
    · exact rel.wd a (bW a fa)
  -- behind the call
  cases eq : f ds with
  | stuck => rw [eq] at h; exact h
  | err c =>
    rw [eq] at h
    intro C H' F' W' ec st
    refine h C H' F W ec ⟨fun _ h => h, fun a o e nw => st.st a o e (fun ia => nw (iW a ia)), fun _ h => .inl h, fun _ h => .inl h, st.th⟩
  | ok q =>
  rw [eq] at h
  by_cases hok : okOut fr ks q.1 q.2 = true
  case neg =>
    have h : postC K mg M E fr F W σ H (if okOut fr ks q.1 q.2 = true then .ok (q.1, backE ks 0 q.2 ρ) else .stuck) Q := h
    rw [if_neg hok] at h
    exact False.elim h
  have h : postC K mg M E fr F W σ H (if okOut fr ks q.1 q.2 = true then .ok (q.1, backE ks 0 q.2 ρ) else .stuck) Q := h
  rw [if_pos hok] at h
  intro v N H' F' W' ⟨R', rel'⟩ dn hN st
  have ni : ∀ a o, H a = some o → ¬ I a → H' a = some o := fun a o e n => st.st a o e n
  have notTup : ∀ a vs, B a → H' a ≠ some (.tup vs) := fun a vs ⟨i, hb, ⟨d, er⟩, r⟩ e => by
    obtain ⟨o, ho⟩ := rel.wd a (rel.rw i a r)
    have := ni a o ho (bi a ⟨i, hb, ⟨d, er⟩, r⟩)
    rw [e] at this
    cases this
    exact rel.noTup i (ok.inM i (.inr hb)) d er a vs r ho
  have noB : hasBo ks = false → ∀ a, ¬ B a := fun z a ⟨i, ⟨k, hk⟩, _⟩ => by rw [hasBo_of hk] at z; cases z
  have fB : ∀ a, F a → ¬ B a := fun a fa ba => rel.fw a fa (bW a ba)
  have imm1 : ∀ d v, (hasBo ks = true → imm d = true) → Den K mg F' H' d v → Den K mg (fun a => F' a ∧ ¬ B a) H' d v := fun d v hi dd => by
    cases hb : hasBo ks with
    | true => exact imm_den (fun a vs fa ha => ⟨fa, fun z => notTup a vs z ha⟩) _ _ (hi hb) dd
    | false => exact Den.mono (fun a fa => ⟨fa, noB hb a⟩) (fun _ _ _ h => h) _ _ dd
  have hok1 : hasBo ks = true → (imm q.1 || (fr && kids q.1)) = true ∧ ∀ x ∈ q.2, ∀ d, x = some d → kids d = true := fun hb => by
    unfold okOut at hok
    rw [hb] at hok
    rw [Bool.not_true, Bool.false_or, Bool.and_eq_true, List.all_eq_true] at hok
    refine ⟨hok.1, fun x hx d e => ?_⟩
    have := hok.2 x hx
    rw [e] at this
    exact this
  have ret : RetOk K mg fr (fun a => F' a ∧ ¬ B a) (fun a => (W a ∧ ¬ I a) ∨ W' a) H' N q.1 v := by
    cases fr with
    | false =>
      refine imm1 _ _ (fun hb => ?_) dn
      have := (hok1 hb).1
      rwa [Bool.false_and, Bool.or_false] at this
    | true =>
      obtain ⟨ow, nf, nw⟩ := dn
      refine ⟨?_, fun b z y => nf b z y.1, fun b z y => ?_⟩
      · cases hb : hasBo ks with
        | false =>
          rcases ow with ow | ⟨l, n, d⟩
          · exact .inl (ow.mono (fun a fa => ⟨fa, noB hb a⟩) (fun _ _ _ h => h) fun _ _ _ h => h)
          · exact .inr ⟨l, n, Den.mono (fun a fa => ⟨fa, noB hb a⟩) (fun _ _ _ h => h) _ _ d⟩
        | true =>
          have h1 := (hok1 hb).1
          rw [Bool.true_and, Bool.or_eq_true] at h1
          rcases ow with ow | ⟨l, n, d⟩
          · rcases h1 with h1 | h1
            · have e : ∀ b, ¬ N b := fun b z => by
                have im : imm q.1 = true := h1
                exact absurd z (Own.immN _ _ _ im ow b)
              refine .inr ⟨imm_loose _ h1, e, imm1 _ _ (fun _ => h1) (Den.mono (fun a z => z.elim id fun z => absurd z (e a)) (fun _ _ _ h => h) _ _ ow.frz)⟩
            · exact .inl (ow.imm (fun a vs fa ha => ⟨fa, fun z => notTup a vs z ha⟩) h1)
          · refine .inr ⟨l, n, imm1 _ _ (fun _ => ?_) d⟩
            rcases h1 with h1 | h1
            · exact h1
            · exact (kids_loose h1 l).elim
      · rcases y with ⟨y, ni'⟩ | y
        · rcases hN b z with z | z
          · exact ni' z
          · obtain ⟨o, e⟩ := rel.wd b y
            rw [z] at e; cases e
        · exact nw b z y
  refine h v N H' (fun a => F' a ∧ ¬ B a) (fun a => (W a ∧ ¬ I a) ∨ W' a) ?_ ret (fun a z => (hN a z).elim (fun z => .inl (iW a z)) .inr) ⟨fun a fa => ⟨st.fr a (.inl fa), fB a fa⟩, fun a o e nw => ni a o e fun ia => nw (iW a ia), fun a z => ?_, fun a z => ?_, st.th⟩
  · refine ⟨fun j a => (isIo ks j ∧ ∃ k, ioAt ks k j ∧ R' k a) ∨ (¬ isIo ks j ∧ R j a ∧ ¬ I a), fun j d hj e => ?_, fun j d hj e => ?_, fun j a z => ?_, fun j j' a z z' => ?_, fun a z wa => ?_, fun a z => rel'.fd a z.1, fun a z => ?_⟩
    · rcases back_get e with ⟨k, h1, h2⟩ | ⟨h1, h2⟩
      · exact absurd (ok.inM j (.inl ⟨k, h1⟩)) hj
      · obtain ⟨v, ev, d0⟩ := rel.sh j d hj h2
        exact ⟨v, ev, Den.mono (fun a fa => ⟨st.fr a (.inl fa), fB a fa⟩) (fun a o fa e => ni a o e fun ia => rel.fw a fa (iW a ia)) _ _ d0⟩
    · rcases back_get e with ⟨k, h1, h2⟩ | ⟨h1, h2⟩
      · rw [Nat.zero_add] at h2
        obtain ⟨v, ev, ow⟩ := rel'.ow k d ((ok.ios k).mpr ⟨j, h1⟩) h2
        rw [List.getElem?_map] at ev
        obtain ⟨v', ev', ee⟩ := Option.map_eq_some_iff.mp ev
        cases ee
        have hk : k < ds.length := by
          have := (List.getElem?_eq_some_iff.mp ev').1
          omega
        obtain ⟨w, ew, z⟩ := ax' k ds[k] (List.getElem?_eq_getElem hk)
        rw [ev'] at ew
        cases ew
        have es : σ[j]? = some (some v) := by
          rcases z with ⟨g, eg, _⟩ | ⟨i, hi, es, _⟩
          · unfold ioAt at h1; rw [h1] at eg; cases eg
          · unfold ioAt at h1 hi
            rw [h1] at hi
            rcases hi with z | z
            · cases z; exact es
            · cases z
        refine ⟨v, es, ?_⟩
        have eR : (fun a => (isIo ks j ∧ ∃ k, ioAt ks k j ∧ R' k a) ∨ (¬ isIo ks j ∧ R j a ∧ ¬ I a)) = R' k := by
          funext a
          refine propext ⟨fun z => ?_, fun r => .inl ⟨⟨k, h1⟩, k, h1, r⟩⟩
          rcases z with ⟨_, k', hk', r⟩ | ⟨z, _⟩
          · rw [ok.one k k' j h1 hk']; exact r
          · exact absurd ⟨k, h1⟩ z
        rw [eR]
        cases hb : hasBo ks with
        | true => exact ow.imm (fun a vs fa ha => ⟨fa, fun z => notTup a vs z ha⟩) ((hok1 hb).2 _ (List.mem_of_getElem? h2) d rfl)
        | false => exact ow.mono (fun a fa => ⟨fa, noB hb a⟩) (fun _ _ _ h => h) fun _ _ _ h => h
      · obtain ⟨v, ev, ow⟩ := rel.ow j d hj h2
        refine ⟨v, ev, ?_⟩
        have nIj : ∀ a, R j a → ¬ I a := fun a r ⟨i, hi, _, r'⟩ => h1 (by rw [rel.dj j i a r r']; exact hi)
        have eR : (fun a => (isIo ks j ∧ ∃ k, ioAt ks k j ∧ R' k a) ∨ (¬ isIo ks j ∧ R j a ∧ ¬ I a)) = R j := by
          funext a
          refine propext ⟨fun z => ?_, fun r => .inr ⟨h1, r, nIj a r⟩⟩
          rcases z with ⟨z, _⟩ | ⟨_, z, _⟩
          · exact absurd z h1
          · exact z
        rw [eR]
        exact ow.mono (fun a fa => ⟨st.fr a (.inl fa), fB a fa⟩) (fun a o fa e => ni a o e fun ia => rel.fw a fa (iW a ia)) fun a o r e => ni a o e (nIj a r)
    · rcases z with ⟨_, k, _, r⟩ | ⟨_, r, n⟩
      · exact .inr (rel'.rw k a r)
      · exact .inl ⟨rel.rw j a r, n⟩
    · have wI : ∀ a, W' a → I a ∨ H a = none := fun a => st.nw a
      rcases z with ⟨_, k, hk, r⟩ | ⟨hj, r, n⟩
      · rcases z' with ⟨_, k', hk', r'⟩ | ⟨_, r', n'⟩
        · have := rel'.dj k k' a r r'
          subst this
          unfold ioAt at hk hk'
          rw [hk] at hk'
          cases hk'
          rfl
        · rcases wI a (rel'.rw k a r) with z | z
          · exact absurd z n'
          · obtain ⟨o, e⟩ := rel.wd a (rel.rw j' a r')
            rw [z] at e; cases e
      · rcases z' with ⟨_, k', hk', r'⟩ | ⟨_, r', n'⟩
        · rcases wI a (rel'.rw k' a r') with z | z
          · exact absurd z n
          · obtain ⟨o, e⟩ := rel.wd a (rel.rw j a r)
            rw [z] at e; cases e
        · exact rel.dj j j' a r r'
    · rcases wa with ⟨wa, n⟩ | wa
      · rcases st.nf a z.1 with q | q | q
        · rcases q with q | q
          · exact rel.fw a q wa
          · exact z.2 q
        · exact n q
        · obtain ⟨o, e⟩ := rel.wd a wa
          rw [q] at e; cases e
      · exact rel'.fw a z.1 wa
    · rcases z with ⟨z, n⟩ | z
      · obtain ⟨o, e⟩ := rel.wd a z
        exact ⟨o, ni a o e n⟩
      · exact rel'.wd a z
  · rcases st.nf a z.1 with q | q | q
    · rcases q with q | q
      · exact .inl q
      · exact absurd q z.2
    · exact .inr (.inl (iW a q))
    · exact .inr (.inr q)
  · rcases z with ⟨z, _⟩ | z
    · exact .inl z
    · rcases st.nw a z with z | z
      · exact .inl (iW a z)
      · exact .inr z
theorem post_C {K : PySem.W.Frag} {mg : Str → Option Value} {M : List Nat} {E : XK} {F W : AS} {σ : L2.St} {H : Hp} {r : R (D × Env)} {Q : VK} (h : post K mg M E (dnD K mg) F W σ H r Q) : ∀ fr, postC K mg M E fr F W σ H r Q := by
  intro fr
  cases r with
  | stuck => exact h
  | err c => exact h
  | ok p =>
    intro v N H' F' W' rel ok hn st
    cases fr with
    | false => exact h v H' F' W' rel ok st
    | true =>
      obtain ⟨ow, nf, nw⟩ := ok
      refine h v H' (fun b => F' b ∨ N b) W' (rel.add (OwnI.there ow) nw) (OwnI.frz ow) ⟨fun b z => .inl (st.fr b z), st.st, fun b z => ?_, st.nw, st.th⟩
      rcases z with z | z
      · exact st.nf b z
      · exact .inr (hn b z)
/-- f(..) of a def of the text -/
theorem de_cal {X : Cx} {E : XK} {M P : List Nat} {k : Nat} {ps : List Str} {x : Str} {p pos : Pos} {e : Expr} {es : List Expr} {ks : List Ak} {fr : Bool} {f : Fn} (c : CalD X.prog X.w X.K X.mg X.base k x ps P fr f) (hr : Room k X.A) (hg : Gl X x) (hx : Passes (CX1 X.prog X.w) X E) (ha : DAx X E M (e :: es) ks)
    (ok : KsOk M P ks) (hn : ks.length = ps.length) (hdb : (x == ("__debug__" : Str)) = false := by decide) (he : starEach (e :: es) X.env = (false, eval e X.env) :: starEach es X.env := by rfl) (hpl : (backTo pos (starEach es X.env)).any (·.1) = false := by rfl) :
    DE X E M (.Call (.Name x p) (e :: es) [] pos) (eCall fr ks f) := by
  obtain ⟨fa, fd, hm, hk, hb, _, Fk⟩ := c
  refine PE.weak (pe_call Fk hr hg hm hk (.all hb) .nil hx ha hdb he hpl) fun σ H Q ⟨F, W, ρ, rel, h⟩ => ?_
  refine tG_of rel h fun os ρ1 vs H1 F1 W1 rel1 ax st1 h1 => ?_
  rw [List.append_nil]
  exact call_of ok hn rel1 ax (post_C h1 fr)
/-- .. whose answer is the asker's own -/
theorem dn_cal {X : Cx} {E : XK} {M P : List Nat} {k : Nat} {ps : List Str} {x : Str} {p pos : Pos} {e : Expr} {es : List Expr} {ks : List Ak} {f : Fn} (c : CalD X.prog X.w X.K X.mg X.base k x ps P true f) (hr : Room k X.A) (hg : Gl X x) (hx : Passes (CX1 X.prog X.w) X E) (ha : DAx X E M (e :: es) ks)
    (ok : KsOk M P ks) (hn : ks.length = ps.length) (hdb : (x == ("__debug__" : Str)) = false := by decide) (he : starEach (e :: es) X.env = (false, eval e X.env) :: starEach es X.env := by rfl) (hpl : (backTo pos (starEach es X.env)).any (·.1) = false := by rfl) :
    DN X E M (.Call (.Name x p) (e :: es) [] pos) (eCall true ks f) := by
  obtain ⟨fa, fd, hm, hk, hb, _, Fk⟩ := c
  refine PE.weak (pe_call Fk hr hg hm hk (.all hb) .nil hx ha hdb he hpl) fun σ H Q ⟨F, W, ρ, rel, h⟩ => ?_
  refine ⟨F, W, ρ, rel, ?_⟩
  unfold eCall at h
  cases eg : axGo ks ρ with
  | err c => rw [eg] at h; exact h
  | stuck => rw [eg] at h; exact h
  | ok q =>
    rw [eg] at h
    intro vs H1 F1 W1 rel1 ax st1
    rw [List.append_nil]
    refine call_of (fr := true) ok hn rel1 ax ?_
    have h : (match (match fetch ks q.1 q.2 with
      | none => .stuck
      | some ds => (f ds).bind fun r => if okOut true ks r.1 r.2 = true then .ok (r.1, backE ks 0 r.2 q.2) else .stuck : R (D × Env)) with
      | .ok p => NwOk X.K X.mg M F W σ H p.2 p.1 Q
      | .err c => ∀ C H' F' W', X.mg c = some (.ref C) → Step F W H F' W' H' → E (.ref C) none H'
      | .stuck => False) := h
    generalize (match fetch ks q.1 q.2 with
      | none => .stuck
      | some ds => (f ds).bind fun r => if okOut true ks r.1 r.2 = true then .ok (r.1, backE ks 0 r.2 q.2) else .stuck : R (D × Env)) = r at h ⊢
    cases r with
    | stuck => exact h
    | err c => exact fun C H' F' W' e s => h C H' F' W' e (st1.trans s)
    | ok p =>
      have h := tN_step h st1
      exact fun v N H' F' W' rel' ok hn st => h v N H' F' W' rel' ok.1 ok.2.1 ok.2.2 hn st
end DL

set_option Elab.async false
set_option linter.all false
set_option maxRecDepth 100000
set_option maxHeartbeats 4000000
namespace DL
open PySem L2 TL
/-! ### built-in functions -/
section
variable {X : Cx} {K : PySem.W.Frag} {mg : Str → Option Value}
def gLen : List D → Option D
  | [.str z] => if szOk z.length = true then some (.int (z.length : Nat)) else none
  | [.lst ds] => some (.int (ds.length : Nat))
  | [.tup ds] => some (.int (ds.length : Nat))
  | [.ktup ds] => some (.int (ds.length : Nat))
  | [.scr ds] => some (.int (ds.length : Nat))
  | _ => none
def rLenA (K : PySem.W.Frag) : List V → Hp → VK → Prop := fun xs H Q => ∃ x n, xs = [x] ∧ LenV K x H n ∧ Q (.int n) H
theorem call_lenA : CallR X (.builtin "len") (rLenA X.K) := call_len
theorem cd_len : CallD K mg (rLenA K) gLen := by
  intro F H ds z vs Q fd dn hg q
  unfold gLen at hg
  split at hg
  · split at hg
    · rename_i hz
      cases hg
      obtain ⟨v, r, rfl, d1, rfl⟩ := dn
      cases d1
      exact ⟨_, _, rfl, ⟨szOk_le hz, rfl⟩, q _ _ _ (Ext.refl fd) rfl⟩
    · cases hg
  · cases hg
    obtain ⟨v, r, rfl, ⟨a, vs, rfl, fa, ha, ra⟩, rfl⟩ := dn
    exact ⟨_, _, rfl, .inl ⟨vs, SqL.of ha, ra.len.symm⟩, q _ _ _ (Ext.refl fd) rfl⟩
  · cases hg
    obtain ⟨v, r, rfl, ⟨a, vs, rfl, fa, ha, ra⟩, rfl⟩ := dn
    exact ⟨_, _, rfl, .inr ⟨vs, SqT.of ha, ra.len.symm⟩, q _ _ _ (Ext.refl fd) rfl⟩
  · cases hg
    obtain ⟨v, r, rfl, ⟨a, vs, rfl, ha, ra⟩, rfl⟩ := dn
    exact ⟨_, _, rfl, .inr ⟨vs, ha.sq, ra.len.symm⟩, q _ _ _ (Ext.refl fd) rfl⟩
  · cases hg
    obtain ⟨v, r, rfl, ⟨a, vs, rfl, ha, ra⟩, rfl⟩ := dn
    exact ⟨_, _, rfl, .inl ⟨vs, scr_sq ha, ra.len.symm⟩, q _ _ _ (Ext.refl fd) rfl⟩
  · cases hg
def gAbs : List D → Option D
  | [.int i] => some (.int (if i < 0 then -i else i))
  | _ => none
theorem cd_abs : CallD K mg (fun xs H Q => ∃ i, xs = [.int i] ∧ Q (.int (if i < 0 then -i else i)) H) gAbs := by
  intro F H ds z vs Q fd dn hg q
  unfold gAbs at hg
  split at hg
  · cases hg
    obtain ⟨v, r, rfl, d1, rfl⟩ := dn
    cases d1
    exact ⟨_, rfl, q _ _ _ (Ext.refl fd) rfl⟩
  · cases hg
def gMax2 : List D → Option D
  | [.int i, .int j] => some (.int (if j > i then j else i))
  | _ => none
theorem cd_max2 : CallD K mg (fun xs H Q => ∃ i j, xs = [.int i, .int j] ∧ Q (.int (if j > i then j else i)) H) gMax2 := by
  intro F H ds z vs Q fd dn hg q
  unfold gMax2 at hg
  split at hg
  · cases hg
    obtain ⟨v, r, rfl, d1, w, r', rfl, d2, rfl⟩ := dn
    cases d1; cases d2
    exact ⟨_, _, rfl, q _ _ _ (Ext.refl fd) rfl⟩
  · cases hg
def gMin2 : List D → Option D
  | [.int i, .int j] => some (.int (if j < i then j else i))
  | _ => none
theorem cd_min2 : CallD K mg (fun xs H Q => ∃ i j, xs = [.int i, .int j] ∧ Q (.int (if j < i then j else i)) H) gMin2 := by
  intro F H ds z vs Q fd dn hg q
  unfold gMin2 at hg
  split at hg
  · cases hg
    obtain ⟨v, r, rfl, d1, w, r', rfl, d2, rfl⟩ := dn
    cases d1; cases d2
    exact ⟨_, _, rfl, q _ _ _ (Ext.refl fd) rfl⟩
  · cases hg
def gInt : List D → Option D
  | [.int i] => some (.int i)
  | [.bl b] => some (.int (if b = true then 1 else 0))
  | _ => none
theorem cd_int : CallD K mg (fun xs H Q => (∃ i, xs = [.int i] ∧ Q (.int i) H) ∨ ∃ k, xs = [.bl k] ∧ Q (.int (if k then 1 else 0)) H) gInt := by
  intro F H ds z vs Q fd dn hg q
  unfold gInt at hg
  split at hg
  · cases hg
    obtain ⟨v, r, rfl, d1, rfl⟩ := dn
    cases d1
    exact .inl ⟨_, rfl, q _ _ _ (Ext.refl fd) rfl⟩
  · cases hg
    obtain ⟨v, r, rfl, d1, rfl⟩ := dn
    cases d1
    exact .inr ⟨_, rfl, q _ _ _ (Ext.refl fd) rfl⟩
  · cases hg
def gDivmod : List D → Option D
  | [.int i, .int j] => if 0 < j ∧ j.natAbs.log2 < 9000 then some (.tup [.int (i / j), .int (i % j)]) else none
  | _ => none
theorem cd_divmod : CallD K mg (fun xs H Q => ∃ i j, xs = [.int i, .int j] ∧ (0 < j ∧ j.natAbs.log2 < 9000) ∧ ∀ p, H p = none → Q (.ref p) (upd H p (.tup [.int (i / j), .int (i % j)]))) gDivmod := by
  intro F H ds z vs Q fd dn hg q
  unfold gDivmod at hg
  split at hg
  · split at hg
    · rename_i hz
      cases hg
      obtain ⟨v, r, rfl, d1, w, r', rfl, d2, rfl⟩ := dn
      cases d1; cases d2
      refine ⟨_, _, rfl, hz, fun p np => ?_⟩
      obtain ⟨ex, dn⟩ := den_tupN (K := K) (mg := mg) fd np (denL_cons (d := .int _) rfl (denL_cons (d := .int _) rfl denL_nil))
      exact q _ _ _ ex dn
    · cases hg
  · cases hg
/-! isinstance -/
def tyD : D → Option String
  | .non => some "NoneType"
  | .bl _ => some "bool"
  | .int _ => some "int"
  | .str _ => some "str"
  | .lst _ => some "list"
  | .tup _ => some "tuple"
  | .dic _ _ => some "dict"
  | _ => none
def subTy (t n : String) : Bool := t == n || (t == "bool" && n == "int")
def knownTy (n : String) : Bool := n == "int" || n == "str" || n == "bool" || n == "list" || n == "tuple" || n == "dict"
def gIsI : List D → Option D
  | [d, .ty n] => match tyD d with
    | some t => if knownTy n = true then some (.bl (subTy t n)) else none
    | none => none
  | _ => none
theorem kit_sub {t n : String} (ht : t = "NoneType" ∨ t = "bool" ∨ t = "int" ∨ t = "str" ∨ t = "list" ∨ t = "tuple" ∨ t = "dict") (hn : knownTy n = true) : PySem.W.kitOne K (.type t) (.type n) = some (subTy t n) := by
  unfold knownTy at hn
  simp only [Bool.or_eq_true, beq_iff_eq] at hn
  rcases hn with ((((rfl | rfl) | rfl) | rfl) | rfl) | rfl <;> rcases ht with rfl | rfl | rfl | rfl | rfl | rfl | rfl <;> rfl
def rIsF (K : PySem.W.Frag) : List V → Hp → VK → Prop := fun xs H Q => rIsInst K xs H Q ∨ ∃ a n b u o, xs = [.ref a, .ty n] ∧ H a = some (.frz o u) ∧ ((∃ kvs, u = .dK kvs) ∨ ∃ kvs, u = .dT kvs) ∧ PySem.W.kitOne K (.type "dict") (.type n) = some b ∧ Q (.bl b) H
theorem cr_isF : CallR X (.builtin "isinstance") (rIsF X.K) := by
  refine CallR_or cr_isinstK ?_
  intro pins s σ H xs us Q I r h
  obtain ⟨a, n, b, u, o, rfl, ha, hu, e, q⟩ := h
  obtain ⟨u1, u2, rfl, r1, r2⟩ := vals2 r
  cases r1
  cases r2
  obtain ⟨h1, h2⟩ := I.hok a _ ha
  have ex : o.ExactDict := by
    rcases hu with ⟨kvs, rfl⟩ | ⟨kvs, rfl⟩
    · obtain ⟨_, _, _, _, o', _, _, e', ex, _⟩ := h2
      rw [h1] at e'; cases e'; exact ex
    · obtain ⟨_, _, _, _, o', _, _, e', ex, _⟩ := h2
      rw [h1] at e'; cases e'; exact ex
  exact PySem.W.kia_one PySem.W.kitx_dict I.kIn ⟨o, h1, ex.1⟩ e (fun z => nomatch z) fun tk => ⟨.bl b, H, I.tok tk, rfl, q⟩
theorem cd_isinst : CallD K mg (rIsF K) gIsI := by
  intro F H ds z vs Q fd dn hg q
  unfold gIsI at hg
  split at hg
  · rename_i d n
    split at hg
    · rename_i t et
      split at hg
      · rename_i hk
        cases hg
        obtain ⟨v, r, rfl, d1, w, r', rfl, d2, rfl⟩ := dn
        cases d2
        have fin : ∀ T : Value, TyOf K H v T → T = .type t → (t = "NoneType" ∨ t = "bool" ∨ t = "int" ∨ t = "str" ∨ t = "list" ∨ t = "tuple" ∨ t = "dict") → rIsF K [v, .ty n] H Q := fun T hT e ht => by
          subst e
          exact .inl ⟨v, n, _, _, rfl, hT, kit_sub ht hk, q _ _ _ (Ext.refl fd) rfl⟩
        cases d with
        | non => cases et; cases d1; exact fin _ .non rfl (by simp)
        | bl b => cases et; cases d1; exact fin _ (.bl _) rfl (by simp)
        | int b => cases et; cases d1; exact fin _ (.int _) rfl (by simp)
        | str b => cases et; cases d1; exact fin _ (.str _) rfl (by simp)
        | lst ds => cases et; obtain ⟨a, ws, rfl, _, ha, _⟩ := d1; exact fin _ (.lst ha) rfl (by simp)
        | tup ds => cases et; obtain ⟨a, ws, rfl, _, ha, _⟩ := d1; exact fin _ (.tup ha) rfl (by simp)
        | dic t ds =>
          cases et
          obtain ⟨a, rfl, _, h⟩ := d1
          rcases h with ⟨_, es, h1, _⟩ | ⟨_, es, h1, _⟩
          · rcases h1 with h1 | ⟨o, h1⟩
            · exact fin _ (.dK h1) rfl (by simp)
            · exact .inr ⟨a, n, _, _, o, rfl, h1, .inl ⟨_, rfl⟩, kit_sub (by simp) hk, q _ _ _ (Ext.refl fd) rfl⟩
          · rcases h1 with h1 | ⟨o, h1⟩
            · exact fin _ (.dT h1) rfl (by simp)
            · exact .inr ⟨a, n, _, _, o, rfl, h1, .inr ⟨_, rfl⟩, kit_sub (by simp) hk, q _ _ _ (Ext.refl fd) rfl⟩
        | _ => cases et
      · cases hg
    · cases hg
  · cases hg
/-! over lists -/
/-! list(x), tuple(x) -/
variable {E : XK} {M P : List Nat} {pos p : Pos} {e : Expr} {es : List Expr} {fs : AF}
/-! chains, slices, minus -/
variable {a b c : Expr} {fa fb fc fe : EF}
def eChain (g g' : D → D → Option D) (fa fb fc : EF) : EF := fun ρ => (fa ρ).bind fun p => (fb p.2).bind fun q => (opt ((g p.1 q.1).bind gBool) q.2).bind fun k => if k.1 = true then (fc k.2).bind fun r => opt (g' q.1 r.1) r.2 else .ok (.bl false, k.2)
theorem tChain_of {r r' : R2} {g g' : D → D → Option D} (hg : OpD K mg r g) (hg' : OpD K mg r' g') {σ : St} {H : Hp} {Q : VK} (h : tG K mg M E (dnD K mg) (eChain g g' fa fb fc) σ H Q) :
    tChain r r' (tG K mg M E (dnD K mg) fa) (tG K mg M E (dnD K mg) fb) (tG K mg M E (dnD K mg) fc) σ H Q := by
  obtain ⟨F, W, ρ, rel, h⟩ := h
  refine tG_of rel h fun d ρ1 v H1 F1 W1 rel1 dn1 st1 h1 => tG_of rel1 h1 fun d2 ρ2 w H2 F2 W2 rel2 dn2 st2 h2 => ?_
  dsimp only at h2
  cases eg : g d d2 with
  | none => rw [eg] at h2; exact False.elim h2
  | some z =>
    rw [eg] at h2
    refine hg F2 H2 d d2 z v w _ rel2.fd (st2.den rel1 dn1) dn2 eg fun u F3 H3 ex du => ?_
    cases z with
    | bl k =>
      refine ⟨k, du, ?_⟩
      have rel3 := rel2.ext (ρ := ρ2) ex
      have st3 : Step F2 W2 H2 F3 W2 H3 := ex.step
      have h3 := post_step h2 st3
      cases k with
      | false => exact iteF (post_ok h3 rel3 (Ext.refl rel3.fd) rfl)
      | true =>
        refine iteT (tG_of rel3 h3 fun d4 ρ4 w4 H4 F4 W4 rel4 dn4 st4 h4 => ?_)
        obtain ⟨y, ey, h5⟩ := post_opt h4
        exact hg' F4 H4 d2 d4 y w w4 Q rel4.fd (st4.den rel3 (ex.den dn2)) dn4 ey fun u F' H' ex du => post_ok h5 rel4 ex du
    | _ => exact False.elim h2
theorem de_chain {op op' : CmpOp} {r r' : R2} {g g' : D → D → Option D} (ho : OpR X (compareOp op) r) (ho' : OpR X (compareOp op') r') (hg : OpD X.K X.mg r g) (hg' : OpD X.K X.mg r' g') (ha : DE X E M a fa) (hb : DE X E M b fb) (hc : DE X E M c fc)
    (hm : lastMarks [op, op'] [b, c] = false := by with_unfolding_all rfl) : DE X E M (.Compare a [op, op'] [b, c] pos) (eChain g g' fa fb fc) := PE.weak (pe_chain ho ho' ha hb hc hm) fun _ _ _ h => tChain_of hg hg' h
theorem de_neg (ha : DE X E M a fa) : DE X E M (.UnaryOp .USub a pos) (e1 gNeg fa) := by
  refine PE.weak (pe_un un_neg ha) fun σ H Q ⟨F, W, ρ, rel, h⟩ => tG_of rel h fun d ρ1 v H1 F1 W1 rel1 dn1 st1 h1 => ?_
  obtain ⟨z, ez, h3⟩ := post_opt h1
  cases d with
  | int i => cases ez; cases dn1; exact ⟨i, rfl, post_ok h3 rel1 (Ext.refl rel1.fd) rfl⟩
  | _ => cases ez
def cutD (xs : List D) (lo hi : Option Int) : List D := (xs.drop (HT.sIx xs.length 0 lo)).take (HT.sIx xs.length xs.length hi - HT.sIx xs.length 0 lo)
def gSlice : D → Option Int → Option Int → Option D
  | .lst ds, lo, hi => some (.lst (cutD ds lo hi))
  | .tup ds, lo, hi => if HT.sIx ds.length 0 lo = 0 ∧ HT.sIx ds.length ds.length hi = ds.length then none else some (.tup (cutD ds lo hi))
  | .str z, lo, hi => if szOk z.length = true then some (.str (cutS z lo hi)) else none
  | _, _, _ => none
abbrev PF := Env → R (Option Int × Env)
def pNone : PF := fun ρ => .ok (none, ρ)
def gSomeI : D → Option (Option Int)
  | .int i => some (some i)
  | _ => none
def pSome (f : EF) : PF := fun ρ => (f ρ).bind fun p => opt (gSomeI p.1) p.2
def DP (X : Cx) (E : XK) (M : List Nat) (lo : Option Expr) (f : PF) : Prop := PO X lo (tG X.K X.mg M E (fun _ _ o i => i = o) f)
theorem PO.weak {lo : Option Expr} {t t' : TO} (h : PO X lo t) (w : ∀ σ H Q, t' σ H Q → t σ H Q) : PO X lo t' := fun pins s σ H Q I q => h pins s σ H Q I (w σ H Q q)
def eSlice (fa : EF) (lo hi : PF) : EF := fun ρ => (fa ρ).bind fun p => (lo p.2).bind fun q => (hi q.2).bind fun r => opt (gSlice p.1 q.1 r.1) r.2
/-! a table of the module -/
def datD (k : Str) : List (Str × D) → Option D
  | [] => none
  | (x, d) :: r => if x = k then some d else datD k r
end
end DL

set_option Elab.async false
set_option linter.all false
set_option maxRecDepth 100000
set_option maxHeartbeats 4000000
/-! ### repr of lists, tuples and dicts within each other: of dicts alone it is asked that they are not the modules' own -/
namespace L2
open PySem PySem.Spec PyProof PyProof.Rows TL
mutual
inductive Rp (h : Heap) : Value → PyData → Prop
  | non : Rp h .none .none
  | bl (b : Bool) : Rp h (.bool b) (.bool b)
  | int (i : Int) (t : Tok) : Rp h (.int i t) (.int i)
  | str (x : Str) (t : Tok) : Rp h (.str x t) (.str x)
  | lst {a : Addr} {o : Obj} {vs : Array Value} {n : Nat} {ds : List PyData} (e1 : h.get? a = some o) (e2 : o.cls = .type "list") (e3 : o.data = .seq vs n) (e4 : Rps h vs.toList ds) : Rp h (.ref a) (.list ds)
  | tup {a : Addr} {o : Obj} {vs : Array Value} {n : Nat} {ds : List PyData} (e1 : h.get? a = some o) (e2 : o.cls = .type "tuple") (e3 : o.data = .seq vs n) (e4 : Rps h vs.toList ds) : Rp h (.ref a) (.tuple ds)
  | dic {a : Addr} {o : Obj} {es : Array DictEntry} {n : Nat} {kvs : List (PyData × PyData)} (e1 : h.get? a = some o) (e2 : o.cls = .type "dict") (e3 : o.data = .dict es n) (e0 : (a == sysModules) = false) (e4 : Rps h (es.toList.map fun e => e.key) (kvs.map fun p => p.1)) (e5 : Rps h (es.toList.map fun e => e.val) (kvs.map fun p => p.2)) : Rp h (.ref a) (.dict kvs)
inductive Rps (h : Heap) : List Value → List PyData → Prop
  | nil : Rps h [] []
  | cons {v : Value} {vs : List Value} {d : PyData} {ds : List PyData} : Rp h v d → Rps h vs ds → Rps h (v :: vs) (d :: ds)
end
section
variable {prog : Program} {w : World} {h : Heap}
theorem Rp.reads {v : Value} {d : PyData} (r : Rp h v d) : ∃ as, Reads h v d as := by
  refine Rp.rec (motive_1 := fun v d _ => ∃ as, Reads h v d as) (motive_2 := fun vs ds _ => ∃ as, ReadsAll h vs ds as) ?_ ?_ ?_ ?_ ?_ ?_ ?_ ?_ ?_ r
  · exact ⟨_, .none⟩
  · intro b; exact ⟨_, .bool b⟩
  · intro i t; exact ⟨_, .int i t⟩
  · intro x t; exact ⟨_, .str x t⟩
  · intro a o vs n ds e1 e2 e3 _ ⟨as, q⟩; exact ⟨_, .list e1 e2 e3 q⟩
  · intro a o vs n ds e1 e2 e3 _ ⟨as, q⟩; exact ⟨_, .tuple e1 e2 e3 q⟩
  · intro a o es n kvs e1 e2 e3 e0 _ _ ⟨as, q⟩ ⟨bs, q2⟩; exact ⟨_, .dict e1 e2 e3 q q2⟩
  · exact ⟨_, .nil⟩
  · intro v vs d ds _ _ ⟨as, q⟩ ⟨bs, q2⟩; exact ⟨_, .cons q q2⟩
/-- what is shown of a part is no longer than what is shown of the whole -/
theorem all_le_list {ds : List PyData} (hz : (PyData.list ds).shown.length ≤ sizeLine) : ∀ t ∈ PyData.shownAll ds, t.length ≤ sizeLine := fun t ht => by
  simp only [PyData.shown] at hz
  exact Nat.le_trans (listText_mem_le ht) hz
theorem all_le_tuple {ds : List PyData} (hz : (PyData.tuple ds).shown.length ≤ sizeLine) : ∀ t ∈ PyData.shownAll ds, t.length ≤ sizeLine := fun t ht => by
  simp only [PyData.shown] at hz
  exact Nat.le_trans (tupleText_mem_le ht) hz
theorem all_le_keys {kvs : List (PyData × PyData)} (hz : (PyData.dict kvs).shown.length ≤ sizeLine) : ∀ t ∈ PyData.shownAll (kvs.map fun p => p.1), t.length ≤ sizeLine := fun t ht => by
  simp only [PyData.shown] at hz
  obtain ⟨p, hp, hl⟩ := PyData.shownKv_key_le kvs t ht
  exact Nat.le_trans hl (Nat.le_trans (dictText_mem_le hp) hz)
theorem all_le_vals {kvs : List (PyData × PyData)} (hz : (PyData.dict kvs).shown.length ≤ sizeLine) : ∀ t ∈ PyData.shownAll (kvs.map fun p => p.2), t.length ≤ sizeLine := fun t ht => by
  simp only [PyData.shown] at hz
  obtain ⟨p, hp, hl⟩ := PyData.shownKv_val_le kvs t ht
  exact Nat.le_trans hl (Nat.le_trans (dictText_mem_le hp) hz)
/-- the addresses that the parts bear, and how each part is shown -/
def Bears (prog : Program) (w : World) (h : Heap) (n : Nat) (vs : List Value) (ts : List Str) : Prop := ∃ bs, ReadAtMost h n bs ∧ ReprAllK prog w bs h n vs ts
theorem Rp.bears {v : Value} {d : PyData} (r : Rp h v d) : d.showable = true → d.shown.length ≤ sizeLine → ∃ bs, ReadAtMost h d.depth bs ∧ ReprK prog w bs h d.depth v d.shown := by
  refine Rp.rec (motive_1 := fun v d _ => d.showable = true → d.shown.length ≤ sizeLine → ∃ bs, ReadAtMost h d.depth bs ∧ ReprK prog w bs h d.depth v d.shown)
    (motive_2 := fun vs ds _ => PyData.showableAll ds = true → (∀ t ∈ PyData.shownAll ds, t.length ≤ sizeLine) → Bears prog w h (PyData.depthAll ds) vs (PyData.shownAll ds)) ?_ ?_ ?_ ?_ ?_ ?_ ?_ ?_ ?_ r
  · intro _ _
    refine ⟨[], fun _ z => (nomatch z), ?_⟩
    simp only [PyData.shown]
    exact ReprK.of_is ReprIs.none _ _ _
  · intro b _ _
    refine ⟨[], fun _ z => (nomatch z), ?_⟩
    simp only [PyData.shown]
    exact ReprK.of_is (ReprIs.bool b) _ _ _
  · intro i t hs _
    refine ⟨[], fun _ z => (nomatch z), ?_⟩
    have hs' : i.natAbs.log2 < 1920 := by simpa [PyData.showable] using hs
    simp only [PyData.shown]
    exact ReprK.of_is (ReprIs.int t hs') _ _ _
  · intro x t _ hz
    refine ⟨[], fun _ z => (nomatch z), ?_⟩
    simp only [PyData.shown] at hz ⊢
    exact ReprK.of_is (ReprIs.str x t hz) _ _ _
  · intro a o vs n ds e1 e2 e3 e4 ih hs hz
    obtain ⟨bs, hb, hk⟩ := ih (by simpa [PyData.showable] using hs) (all_le_list hz)
    obtain ⟨as, rd⟩ := Rp.reads (Rp.lst e1 e2 e3 e4)
    have lt : PyData.depthAll ds < (PyData.list ds).depth := by simp only [PyData.depth]; omega
    have out := not_mem_of_deeper rd lt hb
    refine ⟨a :: bs, ReadAtMost.cons rd (Nat.le_of_lt lt) hb, ?_⟩
    simp only [PyData.depth, PyData.shown]
    obtain ⟨l⟩ := vs
    cases l with
    | nil =>
      cases e4
      exact ReprK.listEmpty e1 e2 e3
    | cons x l =>
      refine ReprK.list e1 e2 e3 out ?_ fun i y e => hk.item i y (by simpa using e)
      simpa using hk.length_eq
  · intro a o vs n ds e1 e2 e3 e4 ih hs hz
    obtain ⟨bs, hb, hk⟩ := ih (by simpa [PyData.showable] using hs) (all_le_tuple hz)
    obtain ⟨as, rd⟩ := Rp.reads (Rp.tup e1 e2 e3 e4)
    have lt : PyData.depthAll ds < (PyData.tuple ds).depth := by simp only [PyData.depth]; omega
    refine ⟨a :: bs, ReadAtMost.cons rd (Nat.le_of_lt lt) hb, ?_⟩
    simp only [PyData.depth, PyData.shown]
    exact ReprK.tuple e1 e2 e3 (not_mem_of_deeper rd lt hb) hk
  · intro a o es n kvs e1 e2 e3 e0 e4 e5 ih1 ih2 hs hz
    have hs' := PyData.showableKv_split kvs (by simpa [PyData.showable] using hs)
    obtain ⟨b1, hb1, k1⟩ := ih1 hs'.1 (all_le_keys hz)
    obtain ⟨b2, hb2, k2⟩ := ih2 hs'.2 (all_le_vals hz)
    obtain ⟨as, rd⟩ := Rp.reads (Rp.dic e1 e2 e3 e0 e4 e5)
    have hb : ReadAtMost h (PyData.depthKv kvs) (b1 ++ b2) := (hb1.mono (PyData.depthAll_keys_le kvs)).append (hb2.mono (PyData.depthAll_vals_le kvs))
    have lt : PyData.depthKv kvs < (PyData.dict kvs).depth := by simp only [PyData.depth]; omega
    refine ⟨a :: (b1 ++ b2), ReadAtMost.cons rd (Nat.le_of_lt lt) hb, ?_⟩
    simp only [PyData.depth, PyData.shown, PyData.shownKv_eq]
    have k1' := k1.more_le (as' := b1 ++ b2) (fun b m => List.mem_append_left _ m) (PyData.depthAll_keys_le kvs)
    have k2' := k2.more_le (as' := b1 ++ b2) (fun b m => List.mem_append_right _ m) (PyData.depthAll_vals_le kvs)
    exact ReprK.dict e1 e2 e3 e0 (not_mem_of_deeper rd lt hb) (ReprEntriesK.of_two es.toList _ _ k1' k2')
  · intro _ _
    exact ⟨[], fun _ z => (nomatch z), by simp only [PyData.shownAll]; exact .nil⟩
  · intro v vs d ds _ _ ih1 ih2 hs hz
    have hs' : d.showable = true ∧ PyData.showableAll ds = true := by simpa [PyData.showableAll] using hs
    obtain ⟨b1, hb1, k1⟩ := ih1 hs'.1 (hz _ (by simp only [PyData.shownAll]; exact List.mem_cons_self ..))
    obtain ⟨b2, hb2, k2⟩ := ih2 hs'.2 fun t ht => hz t (by simp only [PyData.shownAll]; exact List.mem_cons_of_mem _ ht)
    have l1 : d.depth ≤ PyData.depthAll (d :: ds) := by simp only [PyData.depthAll]; exact Nat.le_max_left ..
    have l2 : PyData.depthAll ds ≤ PyData.depthAll (d :: ds) := by simp only [PyData.depthAll]; exact Nat.le_max_right ..
    refine ⟨b1 ++ b2, (hb1.mono l1).append (hb2.mono l2), ?_⟩
    simp only [PyData.shownAll]
    exact .cons ((k1.more fun b m => List.mem_append_left _ m).level_le l1) (k2.more_le (fun b m => List.mem_append_right _ m) l2)
theorem Rps.bears {vs : List Value} {ds : List PyData} (r : Rps h vs ds) : PyData.showableAll ds = true → (∀ t ∈ PyData.shownAll ds, t.length ≤ sizeLine) → Bears prog w h (PyData.depthAll ds) vs (PyData.shownAll ds) := by
  induction ds generalizing vs with
  | nil => cases r; exact fun _ _ => ⟨[], fun _ z => (nomatch z), by simp only [PyData.shownAll]; exact .nil⟩
  | cons d ds ih =>
    cases r with
    | cons r1 r2 =>
      intro hs hz
      have hs' : d.showable = true ∧ PyData.showableAll ds = true := by simpa [PyData.showableAll] using hs
      obtain ⟨b1, hb1, k1⟩ := Rp.bears (prog := prog) (w := w) r1 hs'.1 (hz _ (by simp only [PyData.shownAll]; exact List.mem_cons_self ..))
      obtain ⟨b2, hb2, k2⟩ := ih r2 hs'.2 fun t ht => hz t (by simp only [PyData.shownAll]; exact List.mem_cons_of_mem _ ht)
      have l1 : d.depth ≤ PyData.depthAll (d :: ds) := by simp only [PyData.depthAll]; exact Nat.le_max_left ..
      have l2 : PyData.depthAll ds ≤ PyData.depthAll (d :: ds) := by simp only [PyData.depthAll]; exact Nat.le_max_right ..
      refine ⟨b1 ++ b2, (hb1.mono l1).append (hb2.mono l2), ?_⟩
      simp only [PyData.shownAll]
      exact .cons ((k1.more fun b m => List.mem_append_left _ m).level_le l1) (k2.more_le (fun b m => List.mem_append_right _ m) l2)
/-- repr(x) -/
theorem Rp.call {a : Addr} {d : PyData} (r : Rp h (.ref a) d) (hs : d.showable = true) (hz : d.shown.length ≤ sizeLine) {A : Around} {E : Value → Shared → Prop} {s : Shared} {Q : Value → Shared → Prop}
    (hg : A.guards = some []) (hu : A.units + (d.depth + 1) < cLine) (k0 : ∀ b o, h.get? b = some o → s.heap.get? b = some o)
    (q : ∀ h' u tk, (∀ b o, s.heap.get? b = some o → h'.get? b = some o) → Q (.str d.shown u) { s with heap := h', toks := tk }) : wpAny (model prog w) A (PySem.call (.builtin "repr") [.ref a]) Q E s := by
  have hu1 : ∀ n, n + 1 = d.depth → A.in1.units + (n + 1) < cLine := fun n e => by show A.units + 1 + (n + 1) < cLine; omega
  cases r with
  | @lst _ o vs n ds e1 e2 e3 e4 =>
    obtain ⟨bs, hb, hk⟩ := Rps.bears (prog := prog) (w := w) e4 (by simpa [PyData.showable] using hs) (all_le_list hz)
    obtain ⟨as, rd⟩ := Rp.reads (Rp.lst e1 e2 e3 e4)
    have lt : PyData.depthAll ds < (PyData.list ds).depth := by simp only [PyData.depth]; omega
    have out := not_mem_of_deeper rd lt hb
    have hu2 := hu1 (PyData.depthAll ds) (by simp only [PyData.depth])
    refine call_repr_slot (by omega) ⟨o, k0 _ _ e1, e2⟩ F.slot_list_repr.toG ?_
    simp only [PyData.shown] at q hz
    obtain ⟨l⟩ := vs
    cases l with
    | nil =>
      cases e4
      exact call_list_repr_empty ⟨o, k0 _ _ e1, e2⟩ (k0 _ _ e1) e3 ⟨_, _, rfl, q s.heap _ _ fun _ _ e => e⟩
    | cons x l =>
      refine call_list_reprK e1 e2 e3 out ?_ (fun i y e => hk.item i y (by simpa using e)) (g := []) hg (fun b _ => Clear.nil b) hu2 k0 (fun h' u tk k => ⟨_, _, rfl, q h' u tk k⟩) hz
      simpa using hk.length_eq
  | @tup _ o vs n ds e1 e2 e3 e4 =>
    obtain ⟨bs, hb, hk⟩ := Rps.bears (prog := prog) (w := w) e4 (by simpa [PyData.showable] using hs) (all_le_tuple hz)
    obtain ⟨as, rd⟩ := Rp.reads (Rp.tup e1 e2 e3 e4)
    have lt : PyData.depthAll ds < (PyData.tuple ds).depth := by simp only [PyData.depth]; omega
    have hu2 := hu1 (PyData.depthAll ds) (by simp only [PyData.depth])
    refine call_repr_slot (by omega) ⟨o, k0 _ _ e1, e2⟩ F.slot_tuple_repr ?_
    simp only [PyData.shown] at q hz
    exact call_tuple_reprK e1 e2 e3 (not_mem_of_deeper rd lt hb) hk (g := []) hg (fun b _ => Clear.nil b) hu2 k0 (fun h' u tk k => ⟨_, _, rfl, q h' u tk k⟩) hz
  | @dic _ o es n kvs e1 e2 e3 e0 e4 e5 =>
    have hs' := PyData.showableKv_split kvs (by simpa [PyData.showable] using hs)
    obtain ⟨b1, hb1, k1⟩ := Rps.bears (prog := prog) (w := w) e4 hs'.1 (all_le_keys hz)
    obtain ⟨b2, hb2, k2⟩ := Rps.bears (prog := prog) (w := w) e5 hs'.2 (all_le_vals hz)
    obtain ⟨as, rd⟩ := Rp.reads (Rp.dic e1 e2 e3 e0 e4 e5)
    have hb : ReadAtMost h (PyData.depthKv kvs) (b1 ++ b2) := (hb1.mono (PyData.depthAll_keys_le kvs)).append (hb2.mono (PyData.depthAll_vals_le kvs))
    have lt : PyData.depthKv kvs < (PyData.dict kvs).depth := by simp only [PyData.depth]; omega
    have hu2 := hu1 (PyData.depthKv kvs) (by simp only [PyData.depth])
    have k1' := k1.more_le (as' := b1 ++ b2) (fun b m => List.mem_append_left _ m) (PyData.depthAll_keys_le kvs)
    have k2' := k2.more_le (as' := b1 ++ b2) (fun b m => List.mem_append_right _ m) (PyData.depthAll_vals_le kvs)
    refine call_repr_slot (by omega) ⟨o, k0 _ _ e1, e2⟩ F.slot_dict_repr ?_
    simp only [PyData.shown, PyData.shownKv_eq] at q hz
    exact call_dict_reprK e1 e2 e3 e0 (not_mem_of_deeper rd lt hb) (ReprEntriesK.of_two es.toList _ _ k1' k2') (g := []) hg (fun b _ => Clear.nil b) hu2 k0 (fun h' u tk k => ⟨_, _, rfl, q h' u tk k⟩) hz
end
/-! ### the same by the layer's own values -/
def keyP : Key → PyData
  | .inl i => .int i
  | .inr x => .str x
mutual
inductive RdW (K : PySem.W.Frag) (H : Hp) : V → PyData → Prop
  | non : RdW K H .non .none
  | bl (b : Bool) : RdW K H (.bl b) (.bool b)
  | int (i : Int) : RdW K H (.int i) (.int i)
  | str (x : Str) : RdW K H (.str x) (.str x)
  | lst {a : Addr} {xs : List V} {ds : List PyData} : SqL K H a xs → RdWs K H xs ds → RdW K H (.ref a) (.list ds)
  | tup {a : Addr} {xs : List V} {ds : List PyData} : SqT K H a xs → RdWs K H xs ds → RdW K H (.ref a) (.tuple ds)
  | dK {a : Addr} {es : List (Key × V)} {ds : List (PyData × PyData)} : Rd H a (.dK es) → ds.map (fun p => p.1) = es.map (fun p => keyP p.1) → RdWs K H (es.map fun p => p.2) (ds.map fun p => p.2) → RdW K H (.ref a) (.dict ds)
  | dT {a : Addr} {es : List (List Key × V)} {ds : List (PyData × PyData)} : Rd H a (.dT es) → ds.map (fun p => p.1) = es.map (fun p => PyData.tuple (p.1.map keyP)) → RdWs K H (es.map fun p => p.2) (ds.map fun p => p.2) → RdW K H (.ref a) (.dict ds)
inductive RdWs (K : PySem.W.Frag) (H : Hp) : List V → List PyData → Prop
  | nil : RdWs K H [] []
  | cons {x : V} {xs : List V} {d : PyData} {ds : List PyData} : RdW K H x d → RdWs K H xs ds → RdWs K H (x :: xs) (d :: ds)
end
section
variable {X : Cx} {pins : List (Addr × Obj)} {σ : St} {H : Hp} {s : Shared}
theorem rp_key {h : Heap} {k : Key} {v : Value} (e : keyIs k v = true) : Rp h v (keyP k) := by
  rcases keyIs_shape e with ⟨i, t, rfl, rfl⟩ | ⟨x, t, rfl, rfl⟩
  · exact .int i t
  · exact .str x t
theorem rp_keys {h : Heap} : ∀ {ks : List Key} {us : List Value}, Vals (ks.map kV) us → Rps h us (ks.map keyP)
  | [], _, r => by cases r; exact .nil
  | k :: ks, _, r => by
    cases r with
    | cons r1 r2 =>
      refine .cons ?_ (rp_keys r2)
      cases k with
      | inl i => obtain ⟨t, rfl⟩ := r1; exact .int i t
      | inr x => obtain ⟨t, rfl⟩ := r1; exact .str x t
theorem rp_pairs {P : Program} {w : World} {h : Heap} : ∀ {es : List (Key × V)} {vs : List (Key × Value)} {l : List DictEntry}, KV es vs → Pairs (mixKind P w) l vs → Vals (es.map fun p => p.2) (l.map fun e => e.val) ∧ Rps h (l.map fun e => e.key) (es.map fun p => keyP p.1)
  | [], _, _, r, q => by cases r; cases q; exact ⟨.nil, .nil⟩
  | p :: es, _, _, r, q => by
    unfold KV at r
    cases r with
    | cons h1 t =>
      cases q with
      | cons h2 h3 q =>
        obtain ⟨a, b⟩ := rp_pairs (h := h) (show KV es _ from t) q
        refine ⟨.cons (by dsimp only; rw [h3]; exact h1.2) a, .cons ?_ b⟩
        dsimp only
        rw [h1.1]
        exact rp_key h2
theorem rp_pairsT {h : Heap} (I : Inv X pins σ H s) : ∀ {es : List (List Key × V)} {xs : List (List Key × Addr × Value)}, KT H es xs → Vals (es.map fun p => p.2) ((xs.map (entryOfKey (tupleKind (mixKind X.prog X.w)))).map fun e => e.val) ∧ Rps s.heap ((xs.map (entryOfKey (tupleKind (mixKind X.prog X.w)))).map fun e => e.key) (es.map fun p => PyData.tuple (p.1.map keyP))
  | [], _, r => by cases r; exact ⟨.nil, .nil⟩
  | p :: es, _, r => by
    cases r with
    | cons h1 t =>
      obtain ⟨a, b⟩ := rp_pairsT (h := h) I t
      refine ⟨.cons h1.2.2 a, .cons ?_ b⟩
      obtain ⟨its, rv, ⟨o, e1, e2, n, e4⟩, _⟩ := I.tuple (SqT.of h1.2.1)
      exact .tup e1 e2 e4 (by simpa using rp_keys rv)
theorem Inv.rp (I : Inv X pins σ H s) {x : V} {d : PyData} (r : RdW X.K H x d) : ∀ v, RelV x v → Rp s.heap v d := by
  refine RdW.rec (motive_1 := fun x d _ => ∀ v, RelV x v → Rp s.heap v d) (motive_2 := fun xs ds _ => ∀ vs, Vals xs vs → Rps s.heap vs ds) ?_ ?_ ?_ ?_ ?_ ?_ ?_ ?_ ?_ ?_ r
  · intro v e; cases e; exact .non
  · intro b v e; cases e; exact .bl b
  · intro i v e; obtain ⟨t, rfl⟩ := e; exact .int i t
  · intro z v e; obtain ⟨t, rfl⟩ := e; exact .str z t
  · intro a xs ds h _ ih v e
    cases e
    obtain ⟨its, rv, ⟨o, n, e1, e2, e3, e4⟩, _⟩ := I.list h
    exact .lst e1 e2 e4 (by simpa using ih its rv)
  · intro a xs ds h _ ih v e
    cases e
    obtain ⟨its, rv, ⟨o, e1, e2, n, e4⟩, _⟩ := I.tuple h
    exact .tup e1 e2 e4 (by simpa using ih its rv)
  · intro a es ds h hk _ ih v e
    cases e
    obtain ⟨_, hS, vs, kv, o, ens, ep, e1, e2, e3, _, pr, _⟩ := dk_rd I.hok h
    obtain ⟨vals, keys⟩ := rp_pairs (h := s.heap) kv pr
    exact .dic e1 e2.1 e3 hS (by rw [hk]; exact keys) (ih _ vals)
  · intro a es ds h hk _ ih v e
    cases e
    obtain ⟨_, hS, xs, kt, o, ens, ep, e1, e2, e3, e4, e5, _⟩ := dt_rd I.hok h
    obtain ⟨vals, keys⟩ := rp_pairsT (h := s.heap) I kt
    rw [← e4] at vals keys
    exact .dic e1 e2.1 e3 hS (by rw [hk]; exact keys) (ih _ vals)
  · intro vs e; cases e; exact .nil
  · intro x xs d ds _ _ ih1 ih2 vs e
    cases e with
    | cons e1 e2 => exact .cons (ih1 _ e1) (ih2 _ e2)
theorem cr_reprW {k : Nat} (hr : Room k X.A) : CallR X (.builtin "repr") (fun xs H Q => ∃ a d, xs = [.ref a] ∧ RdW X.K H (.ref a) d ∧ d.showable = true ∧ d.depth ≤ 60 ∧ d.shown.length ≤ sizeLine ∧ Q (.str d.shown) H) := by
  intro pins s σ H xs us Q I r h
  obtain ⟨a, d, rfl, rd, sh, dp, sz, q⟩ := h
  obtain ⟨u, rfl, e⟩ := vals1 r
  cases e
  exact Rp.call (I.rp rd _ rfl) sh sz hr.gd (by have := hr.un; omega) (fun _ _ e => e) fun h' u tk hk => ⟨.str d.shown, H, I.kept hk, ⟨_, rfl⟩, q⟩
end
end L2

set_option Elab.async false
set_option linter.all false
set_option maxRecDepth 100000
set_option maxHeartbeats 4000000
namespace DL
open PySem L2 TL
section
variable {X : Cx} {E : XK} {M P : List Nat} {fr : Bool} {pos p apos cpos : Pos} {e e2 f o : Expr} {es : List Expr} {fe ff : EF} {fs : AF} {x : Str}
/-! ### what the module has -/
def eTab1 (kvs : List (Str × D)) (fe : EF) : EF := fun ρ => (fe ρ).bind fun p => match p.1 with
  | .str k => .ok ((datD k kvs).getD .non, p.2)
  | _ => .stuck
def eTab2 (kvs : List (Str × D)) (fe ff : EF) : EF := fun ρ => (fe ρ).bind fun p => (ff p.2).bind fun q => match p.1 with
  | .str k => .ok ((datD k kvs).getD q.1, q.2)
  | _ => .stuck
def eTabS (kvs : List (Str × D)) (fe : EF) : EF := fun ρ => (fe ρ).bind fun p => match p.1 with
  | .str k => opt (datD k kvs) p.2
  | _ => .stuck
/-! ### raise -/
def sRaise (c : Str) (fs : AF) : SF := fun ρ => (fs ρ).toS fun p => if p.1.length ≤ 1000 then .err c else .stuck
theorem ds_raise {P0 : Program} {w : World} {K : PySem.W.Frag} {mg : Str → Option Value} {base : Heap} {N : List Str} {qual : Str} {scope : Scope} {fa : Addr} {cd : Value} {A : Around} {outer : List PySem.Env} {s0 : Shared} {H0 : Hp}
    {C : Addr} {np : Pos} (hC : ExcC K C) (hm : mg x = some (.ref C)) (hg : Gl (cxOf (CX1 P0 w) P0 w K mg base N qual scope fa cd A outer s0 H0 E) x)
    (ha : DA (cxOf (CX1 P0 w) P0 w K mg base N qual scope fa cd A outer s0 H0 E) E M [e] fs) (hd : (x == ("__debug__" : Str)) = false := by decide)
    (he : starEach [e] (PyProof.Rows.envOfC qual scope s0.heap.objs.size fa cd) = [(false, eval e (PyProof.Rows.envOfC qual scope s0.heap.objs.size fa cd))] := by rfl) :
    DS (cxOf (CX1 P0 w) P0 w K mg base N qual scope fa cd A outer s0 H0 E) E M P fr (.Raise (some (.Call (.Name x np) [e] [] cpos)) none pos) (sRaise x fs) := by
  refine PS.weak (ps_raise hC hm hg ha hd he) fun D σ H ⟨F, W, ρ, rel, h⟩ => tG_toS rel h fun ds ρ1 vs H1 F1 W1 rel1 dn1 st1 h1 => ?_
  dsimp only at h1
  split at h1
  · rename_i hl
    exact ⟨by rw [dn1.len]; exact hl, h1 C H1 F1 W1 hm (Step.refl _ _ _)⟩
  · exact False.elim h1
/-! ### zip -/
def gZip : List D → Option (List D)
  | [.lst a, .lst b] => some (zipD a b)
  | [.lst a, .tup b] => some (zipD a b)
  | [.tup a, .lst b] => some (zipD a b)
  | [.tup a, .tup b] => some (zipD a b)
  | _ => none
def iZipD (a : AF) : AF := fun ρ => (a ρ).bind fun p => opt (gZip p.1) p.2
/-! ### repr of lists, tuples, dicts -/
mutual
def okR : D → Bool
  | .non => true
  | .bl _ => true
  | .int _ => true
  | .str _ => true
  | .lst ds => okRL ds
  | .tup ds => okRL ds
  | .ktup ds => okRL ds
  | .dic _ kvs => okRK kvs
  | _ => false
def okRL : List D → Bool
  | [] => true
  | d :: ds => okR d && okRL ds
def okRK : List (D × D) → Bool
  | [] => true
  | (_, d) :: ds => okR d && okRK ds
end
theorem toPy_kD (q : Key) : toPy (kD q) = keyP q := by cases q <;> simp [kD, toPy, keyP]
theorem toPyL_kD : ∀ q : List Key, toPyL (q.map kD) = q.map keyP
  | [] => by simp [toPyL]
  | k :: q => by simp [toPyL, toPy_kD, toPyL_kD q]
mutual
theorem den_rd {K : PySem.W.Frag} {mg : Str → Option Value} {F : AS} {H : Hp} : ∀ (d : D) (v : V), Den K mg F H d v → okR d = true → RdW K H v (toPy d)
  | .non, _, h, _ => by cases h; exact .non
  | .bl b, _, h, _ => by cases h; exact .bl b
  | .int i, _, h, _ => by cases h; exact .int i
  | .str x, _, h, _ => by cases h; exact .str x
  | .lst ds, _, h, o => by obtain ⟨a, vs, rfl, _, h1, h2⟩ := h; exact .lst (SqL.of h1) (den_rdL ds vs h2 o)
  | .tup ds, _, h, o => by obtain ⟨a, vs, rfl, _, h1, h2⟩ := h; exact .tup (SqT.of h1) (den_rdL ds vs h2 o)
  | .ktup ds, _, h, o => by obtain ⟨a, vs, rfl, h1, h2⟩ := h; exact .tup h1.sq (den_rdL ds vs h2 o)
  | .ty _, _, _, o => by cases o
  | .dic t kvs, _, h, o => by
    obtain ⟨a, rfl, _, h⟩ := h
    rcases h with ⟨_, es, h1, h2⟩ | ⟨_, es, h1, h2⟩
    · obtain ⟨k, r⟩ := den_rdK kvs es h2 o
      exact .dK h1 k r
    · obtain ⟨k, r⟩ := den_rdT kvs es h2 o
      exact .dT h1 k r
  | .obj _ _, _, _, o => by cases o
  | .cls _, _, _, o => by cases o
  | .scr _, _, _, o => by cases o
  | .tab _, _, _, o => by cases o
theorem den_rdL {K : PySem.W.Frag} {mg : Str → Option Value} {F : AS} {H : Hp} : ∀ (ds : List D) (vs : List V), DenL K mg F H ds vs → okRL ds = true → RdWs K H vs (toPyL ds)
  | [], _, h, _ => by cases h; exact .nil
  | d :: ds, _, h, o => by
    obtain ⟨v, r, rfl, h1, h2⟩ := h
    have o' : okR d = true ∧ okRL ds = true := by simpa [okRL] using o
    exact .cons (den_rd d v h1 o'.1) (den_rdL ds r h2 o'.2)
theorem den_rdK {K : PySem.W.Frag} {mg : Str → Option Value} {F : AS} {H : Hp} : ∀ (ds : List (D × D)) (es : List (Key × V)), DenK K mg F H ds es → okRK ds = true → (toPyK ds).map (fun p => p.1) = es.map (fun p => keyP p.1) ∧ RdWs K H (es.map fun p => p.2) ((toPyK ds).map fun p => p.2)
  | [], _, h, _ => by cases h; exact ⟨by simp [toPyK], by simp only [toPyK, List.map_nil]; exact .nil⟩
  | (k, d) :: ds, _, h, o => by
    obtain ⟨q, v, r, rfl, rfl, h1, h2⟩ := h
    have o' : okR d = true ∧ okRK ds = true := by simpa [okRK] using o
    obtain ⟨a, b⟩ := den_rdK ds r h2 o'.2
    exact ⟨by simp [toPyK, toPy_kD, a], by simp only [toPyK, List.map_cons]; exact .cons (den_rd d v h1 o'.1) b⟩
theorem den_rdT {K : PySem.W.Frag} {mg : Str → Option Value} {F : AS} {H : Hp} : ∀ (ds : List (D × D)) (es : List (List Key × V)), DenT K mg F H ds es → okRK ds = true → (toPyK ds).map (fun p => p.1) = es.map (fun p => PyData.tuple (p.1.map keyP)) ∧ RdWs K H (es.map fun p => p.2) ((toPyK ds).map fun p => p.2)
  | [], _, h, _ => by cases h; exact ⟨by simp [toPyK], by simp only [toPyK, List.map_nil]; exact .nil⟩
  | (k, d) :: ds, _, h, o => by
    obtain ⟨q, v, r, rfl, rfl, h1, h2⟩ := h
    have o' : okR d = true ∧ okRK ds = true := by simpa [okRK] using o
    obtain ⟨a, b⟩ := den_rdT ds r h2 o'.2
    exact ⟨by simp [toPyK, toPy, toPyL_kD, a], by simp only [toPyK, List.map_cons]; exact .cons (den_rd d v h1 o'.1) b⟩
end
/-- it can be shown, in so many signs -/
def shOk (d : D) : Bool := okR d && (toPy d).showable && decide ((toPy d).depth ≤ 60) && decide ((toPy d).shown.length ≤ 16777216)
def gRepr : List D → Option D
  | [d] => if shOk d = true then some (.str (toPy d).shown) else none
  | _ => none
def rReprK (K : PySem.W.Frag) : List V → Hp → VK → Prop := fun xs H Q => ∃ x d, xs = [x] ∧ RdW K H x d ∧ d.showable = true ∧ d.depth ≤ 60 ∧ d.shown.length ≤ sizeLine ∧ Q (.str d.shown) H
theorem cr_reprK {k : Nat} (hr : Room k X.A) : CallR X (.builtin "repr") (rReprK X.K) := by
  intro pins s σ H xs us Q I r h
  obtain ⟨x, d, rfl, rd, sh, dp, sz, q⟩ := h
  obtain ⟨u, rfl, e⟩ := vals1 r
  cases rd with
  | non => cases e; exact P.repr_of_none ⟨.str _, H, I.tok _, ⟨_, rfl⟩, q⟩
  | bl b => cases e; exact P.repr_of_bool ⟨.str _, H, I.tok _, ⟨_, rfl⟩, q⟩
  | int i => obtain ⟨t, rfl⟩ := e; exact P.repr_of_int (by simpa [PyData.showable] using sh) ⟨.str _, H, I.tok _, ⟨_, rfl⟩, q⟩
  | str z => obtain ⟨t, rfl⟩ := e; exact P.repr_of_str ⟨.str _, H, I.tok _, ⟨_, rfl⟩, q⟩ (by simpa [PyData.shown] using sz)
  | lst h1 h2 => exact cr_reprW hr pins s σ H _ _ Q I r ⟨_, _, rfl, .lst h1 h2, sh, dp, sz, q⟩
  | tup h1 h2 => exact cr_reprW hr pins s σ H _ _ Q I r ⟨_, _, rfl, .tup h1 h2, sh, dp, sz, q⟩
  | dK h1 h2 h3 => exact cr_reprW hr pins s σ H _ _ Q I r ⟨_, _, rfl, .dK h1 h2 h3, sh, dp, sz, q⟩
  | dT h1 h2 h3 => exact cr_reprW hr pins s σ H _ _ Q I r ⟨_, _, rfl, .dT h1 h2 h3, sh, dp, sz, q⟩
theorem cd_repr {K : PySem.W.Frag} {mg : Str → Option Value} : CallD K mg (rReprK K) gRepr := by
  intro F H ds z vs Q fd dn hg q
  unfold gRepr at hg
  split at hg
  · split at hg
    · rename_i d hz
      cases hg
      obtain ⟨v, r, rfl, d1, rfl⟩ := dn
      unfold shOk at hz
      simp only [Bool.and_eq_true, decide_eq_true_eq] at hz
      have rd := den_rd d v d1 hz.1.1.1
      exact ⟨v, _, rfl, rd, hz.1.1.2, hz.1.2, by rw [sizeLine_eq]; exact hz.2, q _ _ _ (Ext.refl fd) rfl⟩
    · cases hg
  · cases hg
/-! ### max, min with default -/
theorem PK.weak {kws : List Keyword} {t t' : TA} (h : PK X kws t) (w : ∀ σ H Q, t' σ H Q → t σ H Q) : PK X kws t' := fun pos pins s σ H Q I q => h pos pins s σ H Q I (w σ H Q q)
def eMM (g : List D → D → Option D) (fs : AF) (ff : EF) : EF := fun ρ => (fs ρ).bind fun p => (ff p.2).bind fun q => opt (g p.1 q.1) q.2
/-! ### truth of anything -/
def truD : D → Option Bool
  | .non => some false
  | .bl b => some b
  | .int i => some (i != 0)
  | .str z => if szOk z.length = true then some ((z.length : Int) != 0) else none
  | .lst ds => some (!ds.isEmpty)
  | .tup ds => some (!ds.isEmpty)
  | .ktup ds => some (!ds.isEmpty)
  | _ => none
def bTru (a : EF) : BF := fun ρ => (a ρ).bind fun p => opt (truD p.1) p.2
end
end DL

set_option Elab.async false
set_option linter.all false
set_option maxRecDepth 100000
set_option maxHeartbeats 4000000
namespace DL
open PySem L2 TL
/-- the built-ins that no name of the module hides -/
def bNames : List Str := ["len", "abs", "max", "min", "int", "bool", "str", "list", "tuple", "dict", "set", "divmod", "isinstance", "all", "any", "sum", "sorted", "repr", "range", "enumerate", "zip", "reversed"]
def NoB (mg : Str → Option Value) : Prop := ∀ x ∈ bNames, mg x = none
section
variable {X : Cx} {E : XK} {M P : List Nat} {fr : Bool} {pos p apos cpos : Pos} {a b e f o : Expr} {es : List Expr} {fe ff fa fb : EF} {fs : AF} {x : Str}
theorem de_gint {i : Int} (h : ∃ t, X.mg x = some (.int i t)) (hg : Gl X x) (hd : (x == ("__debug__" : Str)) = false := by decide) : DE X E M (.Name x pos) (eC (.int i)) := by
  obtain ⟨t, h⟩ := h
  exact de_c (pe_glob (v := .int i) hg h ⟨_, rfl⟩ hd) fun _ _ => rfl
theorem de_ix (ha : DE X E M a fa) (hb : DE X E M b fb) (hs : PlainIx b) : DE X E M (.Subscript a b pos) (e2 gIx fa fb) := PE.weak (pe_ix ix_seq ha hb hs) fun _ _ _ h => tOp_of od_ix h
theorem de_cmpR {op : CmpOp} {r : R2} {g : D → D → Option D} (hop : OpR X (compareOp op) r) (hg : OpD X.K X.mg r g) (ha : DE X E M a fa) (hb : DE X E M b fb) (hm : behindInMarks op b = false) : DE X E M (.Compare a [op] [b] pos) (e2 g fa fb) := PE.weak (pe_cmpR hop ha hb hm) fun _ _ _ h => tOp_of hg h
theorem dt_cmpR {op : CmpOp} {r : R2} {g : D → D → Option D} (hop : OpR X (compareOp op) r) (hg : OpD X.K X.mg r g) (ha : DE X E M a fa) (hb : DE X E M b fb) (hm : behindInMarks op b = false) : DT X E M (.Compare a [op] [b] pos) (bVal (e2 g fa fb)) := dt_cmp hg (pt_cmpR hop ha hb hm)
theorem rt_append : ∀ d ds z, gAppend d ds = some z → rooty d = true := by
  intro d ds z h
  unfold gAppend at h
  split at h
  · rfl
  · cases h
theorem rt_isL : ∀ d, isL d = true → rooty d = true := by
  intro d h
  cases d <;> first | rfl | cases h
/-! ### a, b = x, y; what is told as one's own, told as any other; a tuple of one's own things -/
theorem ds_par {i j : Nat} {x y : Str} {px py pt : Pos} {kt k2 pt2} (hN : X.N.Nodup) (hi : X.N[i]? = some x) (hj : X.N[j]? = some y) (hx : X.env.scope.names.lookup x = some .local) (hy : X.env.scope.names.lookup y = some .local) (hij : i ≠ j)
    (hM : i ∉ M) (hM' : j ∉ M) (hP : i ∉ P) (hP' : j ∉ P) (ha : DA X E M [a, b] fs) (hc : X.calm = true := by rfl)
    (hw : swappedStores [.Tuple [.Name x px, .Name y py] kt pt] (.Tuple [a, b] k2 pt2) X.env = pure (some [x, y]) := by rfl)
    (hs : swapsWithSole [.Tuple [.Name x px, .Name y py] kt pt] (.Tuple [a, b] k2 pt2) pos.line X.env = pure false := by rfl) :
    DS X E M P fr (.Assign [.Tuple [.Name x px, .Name y py] kt pt] (.Tuple [a, b] k2 pt2) pos) (sPar i j fs) :=
  PS.weakI (ps_par hc hN hi hj hij hx hy ha hw hs) fun D σ H hl h => tPar_of (ix_lt hi) (ix_lt hj) hM hM' hP hP' hl h
def killE : List Ak → Env → Env
  | [], ρ => ρ
  | .io i :: r, ρ => killE r (ρ.set i none)
  | _ :: r, ρ => killE r ρ
theorem kill_get {i : Nat} {d : D} : ∀ {ks : List Ak} {ρ : Env}, (killE ks ρ)[i]? = some (some d) → ρ[i]? = some (some d) ∧ ¬ isIo ks i
  | [], ρ, h => ⟨h, fun ⟨_, z⟩ => by simp [ioAt] at z⟩
  | .io i' :: r, ρ, h => by
    unfold killE at h
    obtain ⟨h1, h2⟩ := kill_get h
    rcases get_set h1 with ⟨rfl, q⟩ | ⟨ne, q⟩
    · cases q
    · refine ⟨q, fun ⟨j, z⟩ => ?_⟩
      cases j with
      | zero => cases z; exact ne rfl
      | succ j => exact h2 ⟨j, z⟩
  | .sh f :: r, ρ, h => by
    unfold killE at h
    obtain ⟨h1, h2⟩ := kill_get h
    refine ⟨h1, fun ⟨j, z⟩ => ?_⟩
    cases j with
    | zero => cases z
    | succ j => exact h2 ⟨j, z⟩
  | .bo f :: r, ρ, h => by
    unfold killE at h
    obtain ⟨h1, h2⟩ := kill_get h
    refine ⟨h1, fun ⟨j, z⟩ => ?_⟩
    cases j with
    | zero => cases z
    | succ j => exact h2 ⟨j, z⟩
def osLoose : List (Option D) → Bool
  | [] => true
  | some d :: r => loose d && osLoose r
  | none :: r => osLoose r
theorem ax_own {K : PySem.W.Frag} {mg : Str → Option Value} {F W F' : AS} {σ : St} {H H' : Hp} {ρ : Env} {R : Nat → AS} (rel : RelR K mg M F W σ H ρ R) (ff : ∀ a, F a → F' a) (ke : ∀ a o, H a = some o → H' a = some o) : ∀ {ks : List Ak} {os : List (Option D)} {vs : List V} {ds : List D},
    (slotsOf ks).Nodup → (∀ i ∈ slotsOf ks, i ∈ M) → hasBo ks = false → osLoose os = true → AxRel K mg σ F H ks os vs → fetch ks os ρ = some ds → OwnL K mg F' H' (fun a => ∃ i, i ∈ slotsOf ks ∧ R i a) ds vs
  | [], os, vs, ds, _, _, _, _, ax, hf => by
    obtain ⟨rfl, rfl⟩ := ax
    cases hf
    exact ⟨rfl, fun b ⟨i, hi, _⟩ => by simp [slotsOf] at hi⟩
  | .sh f :: r, os, vs, ds, nd, hM, hb, lo, ax, hf => by
    obtain ⟨d, s, v, t, rfl, rfl, dn, ax⟩ := ax
    unfold fetch at hf
    obtain ⟨ds', e, rfl⟩ := Option.map_eq_some_iff.mp hf
    have lo' : loose d = true ∧ osLoose s = true := by simpa [osLoose] using lo
    refine ⟨v, t, fun _ => False, _, rfl, fun b => ⟨fun z => .inr z, fun z => z.elim (fun z => z.elim) id⟩, fun _ z => z.elim, .inr ⟨lo'.1, fun _ z => z, Den.mono ff (fun a o _ => ke a o) _ _ dn⟩, ?_⟩
    exact ax_own (ks := r) rel ff ke nd hM (by simpa [hasBo] using hb) lo'.2 ax e
  | .io i :: r, os, vs, ds, nd, hM, hb, lo, ax, hf => by
    obtain ⟨s, v, t, rfl, rfl, ev, ax⟩ := ax
    unfold fetch at hf
    split at hf
    · rename_i d er
      obtain ⟨ds', e, rfl⟩ := Option.map_eq_some_iff.mp hf
      have nd' : i ∉ slotsOf r ∧ (slotsOf r).Nodup := by simpa [slotsOf] using nd
      obtain ⟨v', ev', ow⟩ := rel.ow i d (hM i (by simp [slotsOf])) er
      rw [ev] at ev'
      cases ev'
      refine ⟨v, t, R i, fun a => ∃ j, j ∈ slotsOf r ∧ R j a, rfl, fun b => ⟨fun ⟨j, hj, z⟩ => ?_, fun z => ?_⟩, fun b z ⟨j, hj, z'⟩ => ?_, .inl (ow.mono ff (fun a o _ => ke a o) fun a o _ => ke a o), ?_⟩
      · rcases List.mem_cons.mp hj with rfl | hj
        · exact .inl z
        · exact .inr ⟨j, hj, z⟩
      · rcases z with z | ⟨j, hj, z⟩
        · exact ⟨i, by simp [slotsOf], z⟩
        · exact ⟨j, by simp [slotsOf, hj], z⟩
      · rw [rel.dj i j b z z'] at nd'
        exact nd'.1 hj
      · exact ax_own rel ff ke nd'.2 (fun j hj => hM j (by simp [slotsOf, hj])) (by simpa [hasBo] using hb) (by simpa [osLoose] using lo) ax e
    · cases hf
  | .bo i :: r, os, vs, ds, nd, hM, hb, lo, ax, hf => by cases hb
theorem slots_isIo {ks : List Ak} (hb : hasBo ks = false) {i : Nat} : i ∈ slotsOf ks → isIo ks i := by
  induction ks with
  | nil => intro h; simp [slotsOf] at h
  | cons k r ih =>
    intro h
    cases k with
    | sh f => obtain ⟨j, hj⟩ := ih (by simpa [hasBo] using hb) (by simpa [slotsOf] using h); exact ⟨j + 1, hj⟩
    | io j =>
      rcases List.mem_cons.mp h with rfl | h
      · exact ⟨0, rfl⟩
      · obtain ⟨j, hj⟩ := ih (by simpa [hasBo] using hb) h; exact ⟨j + 1, hj⟩
    | bo j => cases hb
def sRetT (ks : List Ak) : SF := fun ρ => (axGo ks ρ).toS fun p => match fetch ks p.1 p.2 with
  | some ds => if (szOk ds.length && osLoose p.1) = true then .ret (.tup ds) (killE ks p.2) else .stuck
  | none => .stuck
end
end DL

set_option Elab.async false
set_option linter.all false
set_option maxRecDepth 100000
set_option maxHeartbeats 4000000
namespace DL
open PySem PySem.Spec PyProof.Rows L2 TL
/-! ### a new list told while one's own things are lent -/
def lstImm : D → Bool
  | .lst ds => immL ds
  | _ => false
def eLendK (f : EF) : EF := fun ρ => match f ρ with
  | .ok p => if lstImm p.1 = true then .ok (p.1, ρ) else .stuck
  | .err c => .err c
  | .stuck => .stuck
section
variable {K : PySem.W.Frag} {mg : Str → Option Value} {M : List Nat} {E : XK} {σ : L2.St} {H : Hp}
end
section
variable {X : Cx} {E : XK} {M P : List Nat} {fr : Bool} {e elt tg iter : Expr} {ifs : List Expr} {scope : Scope} {own : List (Str × Nat)} {pos spos py : Pos} {fi : AF} {g : TG} {b : BFn} {ft : BF} {fe : EF} {T : List Nat}
end
/-! ### a test while one's own things are lent -/
def bLend (f : BF) : BF := fun ρ => match f ρ with
  | .ok p => .ok (p.1, ρ)
  | .err c => .err c
  | .stuck => .stuck
@[simp] theorem ap_bLend {a : BF} {ρ : Env} : bLend a ρ = match a ρ with
  | .ok p => .ok (p.1, ρ)
  | .err c => .err c
  | .stuck => .stuck := rfl
/-! ### names of one's own that are not yet alive -/
def deadE (js : List Nat) (ρ : Env) : Bool := js.all fun j => match ρ[j]? with
  | some (some _) => false
  | _ => true
def eDead (js : List Nat) (f : EF) : EF := fun ρ => if deadE js ρ = true then match f ρ with
  | .ok p => if deadE js p.2 = true then .ok p else .stuck
  | .err c => .err c
  | .stuck => .stuck else .stuck
section
variable {K : PySem.W.Frag} {mg : Str → Option Value} {M M' js : List Nat} {E : XK} {σ : L2.St} {H : Hp}
end
section
variable {X : Cx} {E : XK} {M M' js P : List Nat} {fr : Bool} {e elt tg iter : Expr} {ifs : List Expr} {scope : Scope} {own : List (Str × Nat)} {pos spos py : Pos} {fi : AF} {g : TG} {b : BFn} {ft : BF} {fe : EF} {T : List Nat}
end
@[simp] theorem ap_eDead {a : EF} {ρ : Env} {js : List Nat} : eDead js a ρ = if deadE js ρ = true then match a ρ with
  | .ok p => if deadE js p.2 = true then .ok p else .stuck
  | .err c => .err c
  | .stuck => .stuck else .stuck := rfl
@[simp] theorem ap_eLendK {a : EF} {ρ : Env} : eLendK a ρ = match a ρ with
  | .ok p => if lstImm p.1 = true then .ok (p.1, ρ) else .stuck
  | .err c => .err c
  | .stuck => .stuck := rfl
@[simp] theorem lstImm_lst (ds : List D) : lstImm (.lst ds) = immL ds := rfl
end DL

set_option Elab.async false
set_option linter.all false
set_option maxRecDepth 100000
set_option maxHeartbeats 4000000
namespace L2
open PySem PySem.Spec PyProof.Rows TL
/-- list(range(e)) -/
def tLRng (t : TA) : TE := fun σ H Q => t σ H fun vs H1 => ∃ j : Nat, vs = [.int j] ∧ j ≤ 65536 ∧ ∀ l, H1 l = none → Q (.ref l) (upd H1 l (.lst ((List.range j).map fun i => V.int (i : Nat))))
section
variable {X : Cx} {e : Expr} {p p2 pos pos2 : Pos} {t : TA}
theorem pe_listRng (hc : X.calm = true) (hgL : Gl X "list") (hmL : X.mg "list" = none) (hgR : Gl X "range") (hmR : X.mg "range" = none) (ha : PA X [e] t) (hs : starEach [e] X.env = [(false, eval e X.env)] := by rfl)
    (hs2 : starEach [Expr.Call (.Name "range" p2) [e] [] pos2] X.env = [(false, eval (.Call (.Name "range" p2) [e] [] pos2) X.env)] := by rfl) :
    PE X (.Call (.Name "list" p) [.Call (.Name "range" p2) [e] [] pos2] [] pos) (tLRng t) := by
  intro pins s σ H Q I h
  refine wpAny_Call_Name_kw (ld_blt I hgL hmL (by decide +kernel : bootBuiltins "list" = some (.type "list")) ?_)
  refine PyProof.Rows.callWith_type1 ?_ hs2 rfl
  rw [hs2]
  show wpAny _ _ (spliced ((false, eval (.Call (.Name "range" p2) [e] [] pos2) X.env) :: [])) _ _ s
  refine Calls.spliced_cons ?_
  refine wpAny_Call_Name_kw (ld_blt I hgR hmR (by decide +kernel : bootBuiltins "range" = some (.type "range")) ?_)
  refine PyProof.Rows.callWith_type1 (thn (ha pos2 pins s σ H _ I h) fun us s1 ⟨vs, H1, I1, r1, j, ej, hj, q⟩ => ?_) hs rfl
  subst ej
  cases r1 with
  | cons r rr =>
    cases rr
    obtain ⟨tk, rfl⟩ := r
    refine call_range_1 (Calls.spliced_nil ?_)
    refine call_list_range (n := j) (I1.ok.hd hc) (IsRange.new ..) (small_one (by omega) (by omega) (by omega) (by omega)) (by rw [rangeSize_one]; split <;> omega) (by omega) fun h' tk' acc c' hk hS hacc => ?_
    have hv : Vals ((List.range j).map fun i => V.int (i : Nat)) acc.toList := by
      obtain ⟨h1, h2⟩ := hacc
      have key : ∀ (n : Nat) (l : List Nat) (us : List Value), l.length = n → us.length = n → (∀ (k : Nat) (v : Value), us[k]? = some v → ∃ (c : Nat) (t : Tok), l[k]? = some c ∧ v = Value.int c t) → Vals (l.map fun c => V.int (c : Nat)) us := by
        intro n
        induction n with
        | zero =>
          intro l us hl hu _
          obtain rfl := List.length_eq_zero_iff.mp hl
          obtain rfl := List.length_eq_zero_iff.mp hu
          exact .nil
        | succ n ih =>
          intro l us hl hu hk
          cases l with
          | nil => simp at hl
          | cons c l =>
            cases us with
            | nil => simp at hu
            | cons v us =>
              obtain ⟨c', t, e1, e2⟩ := hk 0 v rfl
              simp at e1
              subst e1
              refine .cons ⟨t, e2⟩ (ih l us (by simpa using hl) (by simpa using hu) fun k v' e => ?_)
              obtain ⟨c'', t', e3, e4⟩ := hk (k + 1) v' (by simpa using e)
              exact ⟨c'', t', by simpa using e3, e4⟩
      refine key j _ _ (by simp) (by simpa using h1) fun k v e => ?_
      obtain ⟨t, e2⟩ := h2 k v (by simpa using e)
      have hk : k < j := by
        have := (List.getElem?_eq_some_iff.mp e).1
        have h1' : acc.size = j := h1
        simp at this
        omega
      refine ⟨k, t, by simp [hk], ?_⟩
      rw [e2]
      congr 1
      omega
    have hl : ((List.range j).map fun i => V.int (i : Nat)).length ≤ sizeLine := by
      simp
      exact Nat.le_trans hj (by decide)
    have I2 : Inv X pins σ H1 { s1 with heap := s1.heap.push { cls := .type "range", data := .fields #[.int 0 s1.toks, .int j tk, .int 1 (s1.toks + 1)] }, toks := s1.toks + 1 + 1 } := I1.kept fun b o e => Heap.get?_push_of_some _ e
    exact ⟨.ref _, _, I2.laid (t' := tk') hk (Nat.le_refl _) (show ObjOk X.prog X.w _ h' _ (.lst ((List.range j).map fun i => V.int (i : Nat))) from ⟨hl, acc.toList, c', hv, by simpa using hS⟩), rfl, q _ (I2.hok.fresh (Nat.le_refl _))⟩
end
end L2

set_option Elab.async false
set_option linter.all false
set_option maxRecDepth 100000
set_option maxHeartbeats 4000000
namespace DL
open PySem PySem.Spec PyProof.Rows L2 TL
/-! ### list(range(e)) -/
def gListRng : List D → Option D
  | [.int j] => if 0 ≤ j ∧ j ≤ 65536 then some (.lst (rangeD 0 j.toNat)) else none
  | _ => none
section
variable {X : Cx} {E : XK} {M : List Nat} {pos p p2 pos2 : Pos} {e : Expr} {fs : AF}
theorem denL_rng {K : PySem.W.Frag} {mg : Str → Option Value} {F : AS} {H : Hp} (n : Nat) : DenL K mg F H (rangeD 0 n) ((List.range n).map fun i => V.int (i : Nat)) := by
  unfold rangeD
  generalize List.range n = l
  induction l with
  | nil => rfl
  | cons a l ih => exact ⟨_, _, rfl, by show V.int _ = V.int _; simp, ih⟩
theorem dn_listRng (hc : X.calm = true) (hg : Gl X "list") (hm : X.mg "list" = none) (hg2 : Gl X "range") (hm2 : X.mg "range" = none) (ha : DA X E M [e] fs)
    (hs : starEach [e] X.env = [(false, eval e X.env)] := by rfl) (hs2 : starEach [Expr.Call (.Name "range" p2) [e] [] pos2] X.env = [(false, eval (.Call (.Name "range" p2) [e] [] pos2) X.env)] := by rfl) :
    DN X E M (.Call (.Name "list" p) [.Call (.Name "range" p2) [e] [] pos2] [] pos) (eN gListRng fs) := by
  refine PE.weak (pe_listRng hc hg hm hg2 hm2 ha hs hs2) fun σ H Q ⟨F, W, ρ, rel, h⟩ => ⟨F, W, ρ, rel, ?_⟩
  unfold eN at h
  cases ef : fs ρ with
  | err c => rw [ef] at h; exact h
  | stuck => rw [ef] at h; exact h
  | ok p =>
    rw [ef] at h
    intro vs H1 F1 W1 rel1 dn1 st1
    cases hz : gListRng p.1 with
    | none => simp only [R.bind_ok, hz, opt_none] at h
    | some z =>
      simp only [R.bind_ok, hz, opt_some] at h
      obtain ⟨ds, ρ1⟩ := p
      dsimp only at dn1 hz
      unfold gListRng at hz
      split at hz
      · split at hz
        · rename_i j hj
          cases hz
          obtain ⟨v, r', rfl, d1, rfl⟩ := dn1
          cases d1
          refine ⟨j.toNat, by rw [show ((j.toNat : Nat) : Int) = j by omega], by omega, fun l nl => ?_⟩
          exact tN_new (tN_step h st1) rel1 nl ⟨l, _, rfl, fun b => Iff.rfl, upd_same, denL_rng _⟩
        · cases hz
      · cases hz
end
end DL

set_option Elab.async false
set_option linter.all false
set_option maxRecDepth 100000
set_option maxHeartbeats 4000000
namespace DL
open PySem PySem.Spec PyProof.Rows L2 TL
/-! ### a list within an own tuple -/
section
variable {K : PySem.W.Frag} {mg : Str → Option Value} {F : AS} {H : Hp}
theorem OwnL.at' : ∀ (ds : List D) (R : AS) (vs : List V) (k : Nat) (es : List D), OwnL K mg F H R ds vs → ds[k]? = some (.lst es) → ∃ (b : Addr) (ws : List V), vs[k]? = some (.ref b) ∧ R b ∧ H b = some (.lst ws) ∧ DenL K mg F H es ws ∧
    ∀ (ws' : List V) (es' : List D), ¬ F b → DenL K mg F (upd H b (.lst ws')) es' ws' → OwnL K mg F (upd H b (.lst ws')) R (ds.set k (.lst es')) vs
  | [], R, vs, k, es, _, e => by simp at e
  | d :: ds, R, vs, 0, es, h, e => by
    obtain ⟨v, r, R1, R2, rfl, hR, dj, h1, h2⟩ := h
    cases e
    rcases h1 with ⟨a, ws, rfl, hR1, ha, dn⟩ | ⟨lo, _⟩
    · have r1 : R1 a := (hR1 a).mpr rfl
      refine ⟨a, ws, rfl, (hR a).mpr (.inl r1), ha, dn, fun ws' es' nf dn' => ⟨_, r, R1, R2, rfl, hR, dj, .inl ⟨a, ws', rfl, hR1, upd_same, dn'⟩, ?_⟩⟩
      refine OwnL.mono' (fun _ z => z) (fun c o fc z => ?_) R2 ds r h2 fun c o rc z => ?_
      · have ne : c ≠ a := fun e => nf (e ▸ fc)
        rw [upd_ne ne]; exact z
      · have ne : c ≠ a := fun e => dj a r1 (e ▸ rc)
        rw [upd_ne ne]; exact z
    · cases lo
  | d :: ds, R, vs, k + 1, es, h, e => by
    obtain ⟨v, r, R1, R2, rfl, hR, dj, h1, h2⟩ := h
    obtain ⟨b, ws, e1, rb, hb, dn, up⟩ := OwnL.at' ds R2 r k es h2 (by simpa using e)
    refine ⟨b, ws, by simpa using e1, (hR b).mpr (.inr rb), hb, dn, fun ws' es' nf dn' => ⟨v, r, R1, R2, rfl, hR, dj, ?_, up ws' es' nf dn'⟩⟩
    rcases h1 with h1 | ⟨lo, n1, h1⟩
    · refine .inl (Own.mono' (fun _ z => z) (fun c o fc z => ?_) R1 d v h1 fun c o rc z => ?_)
      · have ne : c ≠ b := fun e => nf (e ▸ fc)
        rw [upd_ne ne]; exact z
      · have ne : c ≠ b := fun e => dj c rc (e ▸ rb)
        rw [upd_ne ne]; exact z
    · exact .inr ⟨lo, n1, den_upd nf h1⟩
theorem RelR.chgT {M : List Nat} {W : AS} {σ : L2.St} {ρ : Env} {R : Nat → AS} {i : Nat} {a : Addr} {v : V} {o : HO} {d : D} (r : RelR K mg M F W σ H ρ R) (hi : i ∈ M) (hs : σ[i]? = some (some v)) (ra : R i a)
    (ow : Own K mg F (upd H a o) (R i) d v) : RelR K mg M F W σ (upd H a o) (ρ.set i (some d)) R := by
  have wa : W a := r.rw i a ra
  have ke : ∀ b u, b ≠ a → H b = some u → upd H a o b = some u := fun b u ne h => by rw [upd_ne ne]; exact h
  have kf : ∀ b u, F b → H b = some u → upd H a o b = some u := fun b u fb h => ke b u (fun e => r.fw b fb (e ▸ wa)) h
  refine ⟨fun j e hj h => ?_, fun j e hj h => ?_, r.rw, r.dj, r.fw, fun b fb => ?_, fun b wb => ?_⟩
  · rcases get_set h with ⟨rfl, q⟩ | ⟨ne, q⟩
    · exact absurd hi hj
    · obtain ⟨w, h1, h2⟩ := r.sh j e hj q
      exact ⟨w, h1, Den.mono (fun _ h => h) kf _ _ h2⟩
  · rcases get_set h with ⟨rfl, q⟩ | ⟨ne, q⟩
    · cases q; exact ⟨_, hs, ow⟩
    · obtain ⟨w, h1, h2⟩ := r.ow j e hj q
      exact ⟨w, h1, h2.mono (fun _ h => h) kf fun b u rb h => ke b u (fun e => ne (r.dj i j a ra (e ▸ rb))) h⟩
  · obtain ⟨u, h⟩ := r.fd b fb
    exact ⟨u, kf b u fb h⟩
  · by_cases e : b = a
    · subst e; exact ⟨o, upd_same⟩
    · obtain ⟨u, h⟩ := r.wd b wb
      exact ⟨u, ke b u e h⟩
theorem step_updT {W : AS} {a : Addr} {o : HO} (wa : W a) : Step F W H F W (upd H a o) := by
  refine ⟨fun _ h => h, fun b u h nw => ?_, fun _ h => .inl h, fun _ h => .inl h, fun b u h => ?_⟩
  · have ne : b ≠ a := fun e => nw (e ▸ wa)
    rw [upd_ne ne]; exact h
  · by_cases e : b = a
    · subst e; exact ⟨o, upd_same⟩
    · exact ⟨u, by rw [upd_ne e]; exact h⟩
end
/-! ### x[k].method(..), x an own tuple -/
def eMutT (i k : Nat) (g : D → List D → Option (D × D)) (fs : AF) : EF := fun ρ => match ρ[i]? with
  | some (some (.tup ds0)) => match ds0[k]? with
    | some (.lst _) => (fs ρ).bind fun p => match p.2[i]? with
      | some (some (.tup ds)) => match ds[k]? with
        | some (.lst es) => match g (.lst es) p.1 with
          | some (z, .lst es') => .ok (z, p.2.set i (some (.tup (ds.set k (.lst es')))))
          | _ => .stuck
        | _ => .stuck
      | _ => .stuck
    | _ => .stuck
  | _ => .stuck
/-! ### x[k][j] = value, x an own tuple -/
def bSubT (i k : Nat) (fi : EF) : BFn := fun d ρ => match ρ[i]? with
  | some (some (.tup ds0)) => match ds0[k]? with
    | some (.lst _) => match fi ρ with
      | .ok p => match p.2[i]? with
        | some (some (.tup ds)) => match ds[k]? with
          | some (.lst es) => match gSetL (.lst es) p.1 d with
            | some (.lst es') => some (p.2.set i (some (.tup (ds.set k (.lst es')))))
            | _ => none
          | _ => none
        | _ => none
      | _ => none
    | _ => none
  | _ => none
theorem atI_nat (vs : List V) (k : Nat) : atI vs (k : Int) = vs[k]? := by
  unfold atI ixN
  by_cases z : k < vs.length
  · simp [z]
  · simp [z]
@[simp] theorem ap_eMutT {i k : Nat} {g : D → List D → Option (D × D)} {fs : AF} {ρ : Env} : eMutT i k g fs ρ = match ρ[i]? with
  | some (some (.tup ds0)) => match ds0[k]? with
    | some (.lst _) => (fs ρ).bind fun p => match p.2[i]? with
      | some (some (.tup ds)) => match ds[k]? with
        | some (.lst es) => match g (.lst es) p.1 with
          | some (z, .lst es') => .ok (z, p.2.set i (some (.tup (ds.set k (.lst es')))))
          | _ => .stuck
        | _ => .stuck
      | _ => .stuck
    | _ => .stuck
  | _ => .stuck := rfl
@[simp] theorem ap_bSubT {i k : Nat} {fi : EF} {d : D} {ρ : Env} : bSubT i k fi d ρ = match ρ[i]? with
  | some (some (.tup ds0)) => match ds0[k]? with
    | some (.lst _) => match fi ρ with
      | .ok p => match p.2[i]? with
        | some (some (.tup ds)) => match ds[k]? with
          | some (.lst es) => match gSetL (.lst es) p.1 d with
            | some (.lst es') => some (p.2.set i (some (.tup (ds.set k (.lst es')))))
            | _ => none
          | _ => none
        | _ => none
      | _ => none
    | _ => none
  | _ => none := rfl
end DL

set_option Elab.async false
set_option linter.all false
set_option maxRecDepth 100000
set_option maxHeartbeats 4000000
/-! ### zip over three lists or tuples -/
namespace ZP
open PySem PyProof.Rows L2
structure Ap3 (z TI TO i1 i2 i3 : Addr) (f1 f2 f3 : List Addr) : Prop where
  a1 : TI ≠ z
  a2 : TO ≠ z
  a3 : i1 ≠ z
  a4 : i2 ≠ z
  b4 : i3 ≠ z
  a5 : TI ≠ TO
  a6 : TI ≠ i1
  a7 : TI ≠ i2
  b7 : TI ≠ i3
  a8 : TO ≠ i1
  a9 : TO ≠ i2
  b9 : TO ≠ i3
  z1 : z ∉ f1
  z2 : z ∉ f2
  z3 : z ∉ f3
  t1 : TO ∉ f1
  t2 : TO ∉ f2
  t3 : TO ∉ f3
  c12 : i2 ∉ f1
  c13 : i3 ∉ f1
  c21 : i1 ∉ f2
  c23 : i3 ∉ f2
  c31 : i1 ∉ f3
  c32 : i2 ∉ f3
section
variable {prog : Program} {w : World} {A : Around} {E : Value → Shared → Prop} {s : Shared} {z TI TO i1 i2 i3 : Addr} {f1 f2 f3 : List Addr} {n1 n2 n3 k : Nat} {P1 P2 P3 : Nat → Value → Prop} {S1 S2 S3 : Nat → Heap → Prop} {a b c0 : Value}
end
structure Off3 (z TI TO i1 i2 i3 a b c : Addr) : Prop where
  d : Ap3 z TI TO i1 i2 i3 [i1, a] [i2, b] [i3, c]
  e1 : a ≠ i1
  e2 : b ≠ i2
  e3 : c ≠ i3
end ZP
namespace DL
open PySem L2
/-- a list (true) or a tuple (false), and its items -/
def seqOf : D → Option (Bool × List D)
  | .lst a => some (true, a)
  | .tup a => some (false, a)
  | _ => none
def zip3D (a b c : List D) : List D := (a.zip (b.zip c)).map fun p => .tup [p.1, p.2.1, p.2.2]
def gZip3 : List D → Option (List D)
  | [x, y, u] => match seqOf x, seqOf y, seqOf u with
    | some p, some q, some r => some (zip3D p.2 q.2 r.2)
    | _, _, _ => none
  | _ => none
def iZip3D (a : AF) : AF := fun ρ => (a ρ).bind fun p => opt (gZip3 p.1) p.2
end DL

set_option Elab.async false
set_option linter.all false
set_option maxRecDepth 100000
set_option maxHeartbeats 4000000
namespace DL
open PySem L2 TL
section
variable {ρ : Env} {a b c f : EF} {as : AF} {i j n : Nat} {d e : D} {ds es : List D} {g g' : D → D → Option D} {h : List D → Option D} {t u v : BF} {r s : SF} {w : BFn} {ws : List D → Env → Option Env} {x : Str} {ks : List Ak} {F : Fn} {fr : Bool}
@[simp] theorem ap_eC : eC d ρ = .ok (d, ρ) := rfl
@[simp] theorem ap_e1 {g : D → Option D} : e1 g a ρ = (a ρ).bind fun p => opt (g p.1) p.2 := rfl
@[simp] theorem ap_e2 : e2 g a b ρ = (a ρ).bind fun p => (b p.2).bind fun q => opt (g p.1 q.1) q.2 := rfl
@[simp] theorem ap_eN : eN h as ρ = (as ρ).bind fun p => opt (h p.1) p.2 := rfl
@[simp] theorem ap_aNil : aNil ρ = .ok ([], ρ) := rfl
@[simp] theorem ap_aCons : aCons a as ρ = (a ρ).bind fun p => (as p.2).bind fun q => .ok (p.1 :: q.1, q.2) := rfl
@[simp] theorem ap_eIf : eIf t a b ρ = (t ρ).bind fun p => if p.1 = true then a p.2 else b p.2 := rfl
@[simp] theorem ap_bVal : bVal a ρ = (a ρ).bind fun p => opt (gBool p.1) p.2 := rfl
@[simp] theorem ap_eAnd : eAnd a b ρ = (a ρ).bind fun p => (opt (gBool p.1) p.2).bind fun q => if q.1 = true then b q.2 else .ok (.bl false, q.2) := rfl
@[simp] theorem ap_eOr : eOr a b ρ = (a ρ).bind fun p => (opt (gBool p.1) p.2).bind fun q => if q.1 = true then .ok (.bl true, q.2) else b q.2 := rfl
@[simp] theorem ap_eNot : eNot a ρ = (a ρ).bind fun p => (opt (gBool p.1) p.2).bind fun q => .ok (.bl (!q.1), q.2) := rfl
@[simp] theorem ap_bAnd : bAnd t u ρ = (t ρ).bind fun p => if p.1 = true then u p.2 else .ok (false, p.2) := rfl
@[simp] theorem ap_bOr : bOr t u ρ = (t ρ).bind fun p => if p.1 = true then .ok (true, p.2) else u p.2 := rfl
@[simp] theorem ap_bNot : bNot t ρ = (t ρ).bind fun p => .ok (!p.1, p.2) := rfl
@[simp] theorem ap_bTru : bTru a ρ = (a ρ).bind fun p => opt (truD p.1) p.2 := rfl
@[simp] theorem ap_bTrue : bTrue ρ = .ok (true, ρ) := rfl
@[simp] theorem ap_eChain : eChain g g' a b c ρ = (a ρ).bind fun p => (b p.2).bind fun q => (opt ((g p.1 q.1).bind gBool) q.2).bind fun k => if k.1 = true then (c k.2).bind fun r => opt (g' q.1 r.1) r.2 else .ok (.bl false, k.2) := rfl
@[simp] theorem ap_pNone : pNone ρ = .ok (none, ρ) := rfl
@[simp] theorem ap_pSome : pSome a ρ = (a ρ).bind fun p => opt (gSomeI p.1) p.2 := rfl
@[simp] theorem ap_eSlice {lo hi : PF} : eSlice a lo hi ρ = (a ρ).bind fun p => (lo p.2).bind fun q => (hi q.2).bind fun r => opt (gSlice p.1 q.1 r.1) r.2 := rfl
@[simp] theorem ap_eTab1 {kvs : List (Str × D)} : eTab1 kvs a ρ = (a ρ).bind fun p => match p.1 with
  | .str k => .ok ((datD k kvs).getD .non, p.2)
  | _ => .stuck := rfl
@[simp] theorem ap_eTab2 {kvs : List (Str × D)} : eTab2 kvs a b ρ = (a ρ).bind fun p => (b p.2).bind fun q => match p.1 with
  | .str k => .ok ((datD k kvs).getD q.1, q.2)
  | _ => .stuck := rfl
@[simp] theorem ap_eTabS {kvs : List (Str × D)} : eTabS kvs a ρ = (a ρ).bind fun p => match p.1 with
  | .str k => opt (datD k kvs) p.2
  | _ => .stuck := rfl
@[simp] theorem ap_iAny : iAny a ρ = (a ρ).bind fun p => opt (gItems p.1) p.2 := rfl
@[simp] theorem ap_iRange1 : iRange1 as ρ = (as ρ).bind fun p => opt (gRange1 p.1) p.2 := rfl
@[simp] theorem ap_iRange2 : iRange2 as ρ = (as ρ).bind fun p => opt (gRange2 p.1) p.2 := rfl
@[simp] theorem ap_iEnumD : iEnumD as ρ = (as ρ).bind fun p => opt (gEnum p.1) p.2 := rfl
@[simp] theorem ap_iZipD : iZipD as ρ = (as ρ).bind fun p => opt (gZip p.1) p.2 := rfl
@[simp] theorem ap_eMM {m : List D → D → Option D} : eMM m as a ρ = (as ρ).bind fun p => (a p.2).bind fun q => opt (m p.1 q.1) q.2 := rfl
@[simp] theorem ap_sSeq : sSeq r s ρ = (r ρ).seq s := rfl
@[simp] theorem ap_sNil : sNil ρ = .next ρ := rfl
@[simp] theorem ap_sRet : sRet a ρ = (a ρ).toS fun p => .ret p.1 p.2 := rfl
@[simp] theorem ap_sRetS : sRetS a ρ = (a ρ).toS fun p => if loose p.1 = true then .ret p.1 p.2 else .stuck := rfl
@[simp] theorem ap_sRetN : sRetN ρ = .ret .non ρ := rfl
@[simp] theorem ap_sDrop : sDrop a ρ = (a ρ).toS fun p => .next p.2 := rfl
@[simp] theorem ap_sIf : sIf t r s ρ = (t ρ).toS fun p => if p.1 = true then r p.2 else s p.2 := rfl
@[simp] theorem ap_sSet : sSet i a ρ = (a ρ).toS fun p => .next (p.2.set i (some p.1)) := rfl
@[simp] theorem ap_sSetO : sSetO i a ρ = (a ρ).toS fun p => if ownable p.1 = true then .next (p.2.set i (some p.1)) else .stuck := rfl
@[simp] theorem ap_sAsg : sAsg w a ρ = (a ρ).toS fun p => match w p.1 p.2 with
  | some ρ' => .next ρ'
  | none => .stuck := rfl
@[simp] theorem ap_sPar : sPar i j as ρ = (as ρ).toS fun p => match p.1 with
  | [d, e] => .next ((p.2.set i (some d)).set j (some e))
  | _ => .stuck := rfl
@[simp] theorem ap_sFor {it : AF} : sFor it w r ρ = (it ρ).toS fun p => loop w r p.1 p.2 := rfl
@[simp] theorem ap_sRaise : sRaise x as ρ = (as ρ).toS fun p => if p.1.length ≤ 1000 then .err x else .stuck := rfl
@[simp] theorem ap_sBrk : sBrk ρ = .brk ρ := rfl
@[simp] theorem ap_sCont : sCont ρ = .cont ρ := rfl
@[simp] theorem ap_bName : bName i d ρ = some (ρ.set i (some d)) := rfl
@[simp] theorem ap_bTup : bTup n ws (.tup ds) ρ = if ds.length = n then ws ds ρ else none := rfl
@[simp] theorem ap_bTupK : bTup n ws (.ktup ds) ρ = if ds.length = n then ws ds ρ else none := rfl
@[simp] theorem ap_bTupL : bTup n ws (.lst ds) ρ = if ds.length = n then ws ds ρ else none := rfl
@[simp] theorem ap_bCons : bCons w ws (d :: ds) ρ = (w d ρ).bind (ws ds) := rfl
@[simp] theorem ap_bNil : bNil [] ρ = some ρ := rfl
@[simp] theorem ap_eVar : eVar i ρ = match ρ[i]? with
  | some (some d) => .ok (d, ρ)
  | _ => .stuck := rfl
@[simp] theorem ap_sRetO : sRetO i ρ = match ρ[i]? with
  | some (some d) => .ret d (ρ.set i none)
  | _ => .stuck := rfl
@[simp] theorem ap_eCall : eCall fr ks F ρ = (axGo ks ρ).bind fun p => match fetch ks p.1 p.2 with
  | none => .stuck
  | some ds => (F ds).bind fun q => if okOut fr ks q.1 q.2 = true then .ok (q.1, backE ks 0 q.2 p.2) else .stuck := rfl
@[simp] theorem ap_eLend : eLend a ρ = match a ρ with
  | .ok p => if imm p.1 = true then .ok (p.1, ρ) else .stuck
  | .err c => .err c
  | .stuck => .stuck := rfl
@[simp] theorem ap_eIxO : eIxO i a ρ = match ρ[i]? with
  | some (some (.lst _)) => (a ρ).bind fun p => match p.2[i]? with
    | some (some (.lst ds)) => opt (gIx (.lst ds) p.1) p.2
    | _ => .stuck
  | _ => .stuck := rfl
@[simp] theorem ap_eMut {k : D → Bool} {g : D → List D → Option (D × D)} : eMut i k g as ρ = match ρ[i]? with
  | some (some d0) => if k d0 = true then (as ρ).bind fun p => match p.2[i]? with
    | some (some d) => match g d p.1 with
      | some (z, d') => .ok (z, p.2.set i (some d'))
      | none => .stuck
    | _ => .stuck else .stuck
  | _ => .stuck := rfl
@[simp] theorem ap_bSub : bSub i a d ρ = match ρ[i]? with
  | some (some _) => match a ρ with
    | .ok p => match p.2[i]? with
      | some (some l) => (gSetL l p.1 d).map fun l' => p.2.set i (some l')
      | _ => none
    | _ => none
  | _ => none := rfl
@[simp] theorem ap_sRetT : sRetT ks ρ = (axGo ks ρ).toS fun p => match fetch ks p.1 p.2 with
  | some ds => if (szOk ds.length && osLoose p.1) = true then .ret (.tup ds) (killE ks p.2) else .stuck
  | none => .stuck := rfl
end
/-- what a def's run tells -/
def finS (P : List Nat) (k : Nat) : S → R (D × Env)
  | .ret d ρ => .ok (d, cutP P k ρ)
  | .next ρ => .ok (.non, cutP P k ρ)
  | .err c => .err c
  | _ => .stuck
@[simp] theorem finS_ret {P : List Nat} {k : Nat} {d : D} {ρ : Env} : finS P k (.ret d ρ) = .ok (d, cutP P k ρ) := rfl
@[simp] theorem finS_next {P : List Nat} {k : Nat} {ρ : Env} : finS P k (.next ρ) = .ok (.non, cutP P k ρ) := rfl
@[simp] theorem finS_err {P : List Nat} {k : Nat} {c : Str} : finS P k (.err c) = .err c := rfl
theorem run_eq {P : List Nat} {n k : Nat} {f : SF} {ds : List D} : runF P n k f ds = finS P k (f (startE n ds)) := by
  unfold runF finS
  rfl
/-- nothing is handed back -/
theorem cutP_nil (n : Nat) (ρ : Env) : cutP [] n ρ = List.replicate n none := by
  unfold cutP
  apply List.ext_getElem?
  intro i
  simp [List.getElem?_replicate]
  split <;> simp_all
end DL

set_option Elab.async false
set_option linter.all false
namespace DL
open PySem L2
@[simp] theorem ap_iZip3D {as : AF} {ρ : Env} : iZip3D as ρ = (as ρ).bind fun p => opt (gZip3 p.1) p.2 := rfl
@[simp] theorem gZip3_lll (a b c : List D) : gZip3 [.lst a, .lst b, .lst c] = some (zip3D a b c) := rfl
end DL

set_option Elab.async false
set_option linter.all false
set_option maxRecDepth 100000
set_option maxHeartbeats 4000000
namespace DL
open PySem PySem.Spec PyProof.Rows L2 TL
/-! ### dicts: keys, what stands at a key -/
def keyD : D → Option Key
  | .int i => some (.inl i)
  | .str x => some (.inr x)
  | _ => none
def keysD : List D → Option (List Key)
  | [] => some []
  | d :: ds => match keyD d, keysD ds with
    | some k, some r => some (k :: r)
    | _, _ => none
@[simp] theorem keyD_of (q : Key) : keyD (kD q) = some q := by cases q <;> rfl
@[simp] theorem keysD_of : ∀ q : List Key, keysD (q.map kD) = some q
  | [] => rfl
  | k :: q => by simp [keysD, keysD_of q]
section
variable {K : PySem.W.Frag} {mg : Str → Option Value} {F : AS} {H : Hp}
/-- the keys of a dict of the one or the other kind -/
inductive Ky where
  | one (k : Key) | row (k : List Key)
def atK (kvs : List (D × D)) (q : Key) : Option D := (kvs.find? fun p => decide (keyD p.1 = some q)).map fun p => p.2
def atT (kvs : List (D × D)) (q : List Key) : Option D := (kvs.find? fun p => match p.1 with
  | .tup ds => decide (keysD ds = some q)
  | _ => false).map fun p => p.2
/-- what stands at a key, where it is of the dict's kind -/
def dget : Bool → List (D × D) → D → Option (Option D)
  | false, kvs, k => (keyD k).map fun q => atK kvs q
  | true, kvs, .tup ks => (keysD ks).map fun q => atT kvs q
  | _, _, _ => none
end
/-! ### d[k], k in d -/
section
variable {X : Cx} {E : XK} {M : List Nat} {K : PySem.W.Frag} {mg : Str → Option Value} {a b : Expr} {fa fb : EF} {pos : Pos}
/-! ### d.get(k), d.get(k, x) -/
def eGet2 (fd fk fx : EF) : EF := fun ρ => (fd ρ).bind fun p => match p.1 with
  | .dic t kvs => (fk p.2).bind fun q => (fx q.2).bind fun r => match dget t kvs q.1 with
    | some o => .ok (o.getD r.1, r.2)
    | none => .stuck
  | _ => .stuck
/-! ### displays -/
def pPairs : List (EF × EF) → Env → R (List (D × D) × Env)
  | [], ρ => .ok ([], ρ)
  | (fk, fv) :: r, ρ => (fk ρ).bind fun p => (fv p.2).bind fun q => (pPairs r q.2).bind fun z => .ok ((p.1, q.1) :: z.1, z.2)
def putD (kvs : List (D × D)) (q : Key) (d : D) : List (D × D) :=
  if (kvs.any fun p => decide (keyD p.1 = some q)) = true then kvs.map (fun p => if keyD p.1 = some q then (p.1, d) else p) else kvs ++ [(kD q, d)]
def putsD : List (D × D) → List (D × D) → Option (List (D × D))
  | kvs, [] => some kvs
  | kvs, (k, d) :: r => match keyD k with
    | some q => putsD (putD kvs q d) r
    | none => none
def eDisp (fs : List (EF × EF)) : EF := fun ρ => (pPairs fs ρ).bind fun p => if p.1.length ≤ 15 then opt ((putsD [] p.1).map (D.dic false)) p.2 else .stuck
end
section
variable {K : PySem.W.Frag} {mg : Str → Option Value} {F : AS} {H : Hp}
theorem DenK.any {q : Key} : ∀ {kvs : List (D × D)} {es : List (Key × V)}, DenK K mg F H kvs es → (kvs.any fun p => decide (keyD p.1 = some q)) = es.any fun e => decide (e.1 = q)
  | [], _, h => by cases h; rfl
  | (k, d) :: kvs, _, h => by
    obtain ⟨q', v, r, rfl, rfl, h1, h2⟩ := h
    simp [DenK.any h2]
end
section
variable {X : Cx} {E : XK} {M : List Nat}
/-- the pairs, from the left -/
def DPs (X : Cx) (E : XK) (M : List Nat) (pos : Pos) (keys : List (Option Expr)) (values : List Expr) (fs : List (EF × EF)) : Prop :=
  PPs X pos keys values (fs.map fun p => (tG X.K X.mg M E (dnD X.K X.mg) p.1, tG X.K X.mg M E (dnD X.K X.mg) p.2))
/-- {} -/
theorem den_dicN {K : PySem.W.Frag} {mg : Str → Option Value} {F : AS} {H : Hp} {p : Addr} (fd : ∀ a, F a → ∃ o, H a = some o) (np : H p = none) : Ext F H (fun b => F b ∨ b = p) (upd H p (.dK [])) ∧ Den K mg (fun b => F b ∨ b = p) (upd H p (.dK [])) (.dic false []) (.ref p) :=
  ⟨Ext.new fd np, p, rfl, .inr rfl, .inl ⟨rfl, [], .inl upd_same, rfl⟩⟩
theorem de_dnew {pos : Pos} : DE X E M (.Dict [] [] pos) (eC (.dic false [])) := PE.weak pe_dnewK fun σ H Q ⟨F, W, ρ, rel, h⟩ p np =>
  post_ok h rel (den_dicN (K := X.K) (mg := X.mg) rel.fd np).1 (den_dicN rel.fd np).2
end
end DL

set_option Elab.async false
set_option linter.all false
set_option maxRecDepth 100000
set_option maxHeartbeats 4000000
namespace DL
open PySem PySem.Spec PyProof.Rows L2 TL
/-! ### x == [], x == (): of any items -/
def gEqE : D → D → Option D
  | .lst xs, .lst [] => some (.bl xs.isEmpty)
  | .tup xs, .tup [] => some (.bl xs.isEmpty)
  | d, e => gEq d e
section
variable {X : Cx} {K : PySem.W.Frag} {mg : Str → Option Value}
end
end DL


set_option Elab.async false
set_option linter.all false
set_option maxRecDepth 100000
set_option maxHeartbeats 4000000
namespace PySem.W
open PySem PySem.Spec PySem.Calls PyProof.Rows PySem.Builtin PySem.Builtin.ObjectAttr PySem.Builtin.Getset_descriptor 
/-! ### isinstance of a caught exception: its dict is not looked at -/
section
variable {prog : Program} {w : World} {A : Around} {E : Value → Shared → Prop} {s : Shared} {K : Frag} {x D : Addr}
/-- an object of the class at D -/
def XcAt (x D : Addr) (h : Heap) : Prop := ∃ o, h.get? x = some o ∧ o.cls = .ref D
theorem XcAt.ty {M : Model} {h : Heap} (I : XcAt x D h) : Looks M h (typeOf (.ref x)) (.ref D) := by
  obtain ⟨o, e, c⟩ := I
  exact c ▸ (Looks.ld e).andThen .now
theorem XcAt.keeps {h h' : Heap} (I : XcAt x D h) (k : ∀ o, h.get? x = some o → h'.get? x = some o) : XcAt x D h' := let ⟨o, e, c⟩ := I; ⟨o, k o e, c⟩
theorem xc_find {M : Model} {h : Heap} {name : Str} {a g : Value} (X : K.In h) (ha : findIn K (.ref D) name = some (some a)) (hg : specialIn K a "__get__" = some (some g)) (ht : takesIn K a = some true) :
    Looks M h (find (.ref x) (.ref D) name) (.bind g a) := by
  have L1 := looks_findIn (M := M) X ha
  have L2 : Looks M h (getOf (some a)) (some g) := looks_specialIn X hg
  have L3 := looks_takesIn (M := M) X ht
  exact L1.andThen (L2.andThen ((show Looks M h (dataDescriptor? (some a) (some g)) (some (g, a)) from L3.andThen .now).andThen (Looks.tag .now)))
theorem xc_check {M : Model} {nameV : Value} {Q : Unit → Shared → Prop} (X : K.In s.heap) (I : XcAt x D s.heap) (hb : mroIn K D (.type "BaseException") = some true) (hq : Q () s) :
    wpAny M A (checkBuiltinCall "BaseException.__getattribute__" ⟨[.ref x, nameV], []⟩) Q E s := by
  have hk : builtinKind "BaseException.__getattribute__" = some .slot := by decide +kernel
  have hsplit : splitId "BaseException.__getattribute__" = some ("BaseException", "__getattribute__") := by decide +kernel
  have ha := F.args_bexc_ga (.ref x) nameV
  have L0 := I.ty (M := M)
  have L1 := looks_mroIn (M := M) X hb
  obtain ⟨hh, g, d, t, os⟩ := s
  simp only [checkBuiltinCall, hk, hsplit]
  refine wpAny_bind ?_
  unfold isInstance
  repeat lk
  repeat (first | wp_step)
  exact hq
theorem xc_attr {name : Str} {g a : Value} {tk : Tok} {P : Value → Shared → Prop} (X : K.In s.heap) (I : XcAt x D s.heap) (L1 : Looks (model prog w) s.heap (find (.ref x) (.ref D) name) (.bind g a))
    (h : wpAny (model prog w) A (call g [a, .ref x, .ref D]) P E s) :
    wpAny (model prog w) A (Builtin.«object.__getattribute__» ⟨[.ref x, .str name tk], []⟩) (fun fin s' => match fin with | .done (.ret v) => P v s' | _ => False) E s := by
  obtain ⟨hh, gg, d, t, os⟩ := s
  have L0 := I.ty (M := model prog w)
  refine wpAny_bind (wpAny_pure (wpAny_bind (wpAny_pure (wpAny_bind (L0.at (wpAny_bind (L1.at ?_)))))))
  show wpAny _ _ (holding [a] (call g [a, .ref x, .ref D]) >>= ret) _ _ _
  exact wpAny_bind (wpAny_holding (wpAny_mono h (fun v s' z => wpAny_pure z) fun _ _ z => z))
theorem xc_open {name : Str} {Q : Option Value → Shared → Prop} {g a : Value} (X : K.In s.heap) (I : XcAt x D s.heap) (hga : findIn K (.ref D) "__getattribute__" = some (some (.builtin "BaseException.__getattribute__")))
    (hk : findIn K (.ref D) "__getattr__" = some none) (hb : mroIn K D (.type "BaseException") = some true) (Lf : Looks (model prog w) s.heap (find (.ref x) (.ref D) name) (.bind g a))
    (h : wpAny (model prog w) A.in1 (call g [a, .ref x, .ref D]) (fun v s' => wpAny (model prog w) A (handedOut v) (fun v s'' => Q (some v) s'') (fun _ _ => False) s') (fun _ _ => False) { s with toks := s.toks + 1 }) :
    wpAny (model prog w) A (getAttr? (.ref x) name) Q E s := by
  obtain ⟨hh, gg, d, t, os⟩ := s
  have L0 := I.ty (M := model prog w)
  have L1 := looks_findIn (M := model prog w) X hga
  have L2 := looks_findIn (M := model prog w) X hk
  have hx2 : (Value.builtin "BaseException.__getattribute__" == Value.builtin "object.__getattribute__") = false := by decide +kernel
  have f3 := F.excAttr_ValueError.ga.bind (.ref x)
  unfold getAttr? getAttrBy? getAttrBy
  refine wpAny_bind (wpAny_mkText (wpAny_bind (wpAny_attempt (wpAny_holding (wpAny_bind (L0.at (wpAny_bind (L1.at ?_))))))))
  dsimp only
  rw [hx2, Bool.and_false, if_neg (by decide)]
  unfold getAttrByItsOwn hookBefore
  rw [if_pos (by rfl)]
  refine wpAny_bind (L2.at (wpAny_bind (wpAny_attempt (wpAny_holding ?_))))
  unfold callGetattribute
  rw [Bool.false_and, if_neg (by decide)]
  unfold boundAndCalled
  rw [f3]
  refine wpAny_bind (wpAny_pure ?_)
  refine wpAny_call (codeAny_call_builtin F.excAttr_ValueError.ga.plain F.entry_bexc_ga (xc_check (s := ⟨hh, gg, d, t + 1, os⟩) X I hb ?_))
  refine wpAny_mono (xc_attr (s := ⟨hh, gg, d, t + 1, os⟩) X I Lf h) (fun fin s' z => ?_) fun _ _ z => z.elim
  rcases fin with (_ | _ | _ | _) | _ <;> first | exact wpAny_mono z (fun v s'' hv => wpAny_pure hv) (fun _ _ z => z.elim) | exact z.elim
theorem xc_get {R : Result → Shared → Prop} {tp : Value} (X : K.In s.heap) (I : XcAt x D s.heap) (hm : mroIn K D (.type "object") = some true)
    (h : R (.ok (.ret (.ref D))) s) : codeAny (model prog w) A (.call (.builtin "getset_descriptor.__get__") ⟨[.builtin "object.__class__", .ref x, tp], []⟩) R s := by
  obtain ⟨hh, g, dr, t, os⟩ := s
  have L0 := I.ty (M := model prog w)
  have L1 := looks_mroIn (M := model prog w) X hm
  refine codeAny_call_builtin KF.slot_gs.plain KF.entry_gs (KF.slot_gs.check _ _ _ _ _ _ _ _ KF.type_class (KF.args_gs _ _ _) ?_)
  unfold Builtin.«getset_descriptor.__get__» descrGet
  rw [dga_obj]
  refine wpAny_bind (wpAny_pure ?_)
  unfold descrGetter descrCheckInstance descrNameAndClass isInstance
  simp only [KF.owner_class]
  repeat lk
  refine ⟨Code.quiet_builtin _ (by decide +kernel), codeAny_builtin KF.entry_class ?_⟩
  unfold Builtin.«object.__class__» shownTypeOf
  repeat lk
  exact h
/-- the class at D is read as any own class is -/
structure XcCls (K : Frag) (D : Addr) : Prop where
  ga : findIn K (.ref D) "__getattribute__" = some (some (.builtin "BaseException.__getattribute__"))
  gh : findIn K (.ref D) "__getattr__" = some none
  gb : mroIn K D (.type "BaseException") = some true
  hc : (clsIn K D).isSome = true
  ha : findIn K (.ref D) "__class__" = some (some (.builtin "object.__class__"))
  hn : specialIn K (.builtin "object.__class__") "__get__" = some (some (.builtin "getset_descriptor.__get__"))
  ht : takesIn K (.builtin "object.__class__") = some true
  hm : mroIn K D (.type "object") = some true
theorem kitx_exc (c : XcCls K D) : KitX K (.ref x) (.ref D) (XcAt x D) where
  ty := fun _ _ _ I => I.ty
  it := fun _ _ X _ => by
    obtain ⟨cdD, hcD⟩ := Option.isSome_iff_exists.mp c.hc
    unfold clsIn at hcD
    split at hcD
    · rename_i c' d' cd' sl' ho
      intro A' Q' E' s' k q
      unfold isType loadHead
      exact wpAny_bind (wpAny_loadPart (k _ _ (X _ _ ho)) (wpAny_pure q))
    · cases hcD
  ne := fun h tp dd its n sl X htp => by
    obtain ⟨cdD, hcD⟩ := Option.isSome_iff_exists.mp c.hc
    refine Bool.eq_false_iff.mpr fun q => ?_
    have e : D = tp := Value.ref.inj (beq_iff_eq.mp q)
    subst e
    unfold clsIn at hcD
    split at hcD
    · rename_i c' d' cd' sl' ho
      have z := (X _ _ ho).symm.trans htp
      cases z
    · cases hcD
  ca := fun {prog w A E Q s} X I k => xc_open X I c.ga c.gh c.gb (xc_find X c.ha c.hn c.ht)
    (wpAny_call (xc_get (s := { s with toks := s.toks + 1 }) X I c.hm (handed_on rfl k)))
end
end PySem.W

set_option Elab.async false
set_option linter.all false
set_option maxRecDepth 100000
set_option maxHeartbeats 4000000
namespace L2
open PySem PySem.Spec PyProof.Rows
/-! ### try: .. except C as n: .. -/
/-- an exception that flies out of code that has left the names as they were -/
def XP (X : Cx) (pins : List (Addr × Obj)) (σ : St) (E : XK) (e : Value) (s' : Shared) : Prop := ∃ H1 s1, Inv X pins σ H1 s1 ∧ CX1 X.prog X.w X.stack H1 s1 E e s'
/-- within the except suite of e -/
abbrev Cx.hand (X : Cx) (e : Value) (xe : Value → Shared → Prop) : Cx := { X with A := X.A.mark (some e), calm := false, xe := xe }
section
variable {X : Cx} {pins : List (Addr × Obj)} {σ : St} {H : Hp} {s : Shared}
theorem Cx.Ok.hand (ok : X.Ok) (e : Value) (xe : Value → Shared → Prop) : (X.hand e xe).Ok :=
  ⟨ok.mod, ok.kind, ok.glob, ok.blt, ok.above, ok.inj, ok.has, ok.cab, fun h => (by cases h), ok.frames, ok.stk, ok.exf, ok.bs, ok.bsz, ok.noex, ok.exfs, ok.funs, ok.frf⟩
theorem Inv.hand (I : Inv X pins σ H s) (e : Value) (xe : Value → Shared → Prop) : Inv (X.hand e xe) pins σ H s := ⟨I.ok.hand e xe, I.os, I.bare, I.base, I.loc, I.cell, I.free, I.freeC, I.pin, I.hok, I.len⟩
theorem Inv.unhand {e : Value} {xe : Value → Shared → Prop} (I : Inv (X.hand e xe) pins σ H s) (ok : X.Ok) : Inv X pins σ H s := ⟨ok, I.os, I.bare, I.base, I.loc, I.cell, I.free, I.freeC, I.pin, I.hok, I.len⟩
/-- the exception has landed: the state, with the exception a thing that is told -/
theorem inv_land {H1 H' : Hp} {s1 s' : Shared} {B : Heap} {x C : Addr} {a0 : Value} {h3 : Heap} {t : Nat} (I : Inv X pins σ H1 s1) (os : s'.os = s1.os) (bare : AllBare s'.gens) (un : Un (frs X.stack) [] H1 H' s1.heap s'.heap) (hok : HOk X.prog X.w H' s'.heap)
    (tb : ∀ b o ob, H' b = some o → s'.heap.get? b = some ob → B.get? b = some ob) (kb : ∀ b o o', s1.heap.get? b = some o → b ∉ frs X.stack → s'.heap.get? b = some o' → B.get? b = some o') (hx : H' x = none) (hsx : s1.heap.get? x = none)
    (fl0 : Heap.FlyingW B X.stack x (.ref C) a0 s'.heap) (fl : Heap.FlyingW B X.stack x (.ref C) a0 h3) (up : s'.heap.UpToSlots h3) :
    Inv X pins σ H' { s' with heap := h3, toks := t } ∧ Inv X pins σ (upd H' x (.ext (PySem.W.XcAt x C))) { s' with heap := h3, toks := t } := by
  have frm : ∀ b o, s'.heap.get? b = some o → b ∈ frs X.stack → ∃ sl, h3.get? b = some { o with slots := sl } := fun b o e n => by
    obtain ⟨_, o', e', nf⟩ := fl0.2.2.1.mem (b := b) n
    rw [e] at e'
    cases e'
    exact up b o e nf
  have keep : ∀ b o, s1.heap.get? b = some o → H1 b = none → b ∉ frs X.stack → b ∉ ([] : List Addr) → h3.get? b = some o := fun b o e n hb hz => fl.1 b o (kb b o o e hb (un.keep b o e n hb hz))
  have slot : ∀ b o, s1.heap.get? b = some o → H1 b = none → b ∈ frs X.stack → b ∉ ([] : List Addr) → ∃ sl, h3.get? b = some { o with slots := sl } := fun b o e n hb hz => by
    obtain ⟨sl, e1⟩ := un.slot b o e n hb hz
    obtain ⟨sl2, e2⟩ := frm b _ e1 hb
    exact ⟨sl2, e2⟩
  have there : ∀ b o, s1.heap.get? b = some o → b ∉ ([] : List Addr) → ∃ o', h3.get? b = some o' := fun b o e hz => by
    obtain ⟨o1, e1⟩ := un.there b o e hz
    by_cases hb : b ∈ frs X.stack
    · obtain ⟨sl, e2⟩ := frm b o1 e1 hb
      exact ⟨_, e2⟩
    · exact ⟨o1, fl.1 b o1 (kb b o o1 e hb e1)⟩
  have nx : ∀ b o, H' b = some o → b ≠ x := fun b o e => ne_of_none e hx
  have hok3 : HOk X.prog X.w H' h3 := hok_stay hok fun b o ob e1 e2 => fl.1 b ob (tb b o ob e1 e2)
  refine ⟨I.call' (s' := { s' with heap := h3, toks := t }) (ch := []) os ⟨keep, slot, un.free, there, un.tups, un.frzs, un.tbls⟩ hok3 bare (fun b hb => absurd hb (by simp)),
    I.call' (s' := { s' with heap := h3, toks := t }) (ch := []) os ⟨keep, slot, fun b o e n hz => ?_, there, fun b xs e => ?_, fun b o u e => ?_, fun b ps e => ?_⟩ (fun b u q => ?_) bare (fun b hb => absurd hb (by simp))⟩
  · rw [upd_ne (fun q => by rw [q, hsx] at e; cases e)]
    exact un.free b o e n hz
  · have q := un.tups b xs e
    rw [upd_ne (nx _ _ q)]
    exact q
  · have q := un.frzs b o u e
    rw [upd_ne (nx _ _ q)]
    exact q
  · obtain ⟨m, q⟩ := un.tbls b ps e
    exact ⟨m, by rw [upd_ne (nx _ _ q)]; exact q⟩
  · by_cases hb : b = x
    · subst hb
      rw [upd_same] at q
      cases q
      obtain ⟨ob, e1, e2⟩ := fl.there
      exact ⟨⟨ob, e1, e2⟩, ⟨ob, e1⟩, fun h1 h2 p k => p.keeps k⟩
    · rw [upd_ne hb] at q
      exact (hok3 b u q).stay (fun c v _ q => q) (fun c q => by rw [upd_ne (nx _ _ q)]; exact q) fun c xs q => by rw [upd_ne (nx _ _ q)]; exact q
/-- the suite's name goes -/
theorem name_gone {M : Model} {A : Around} {E : Value → Shared → Prop} {i : Nat} {n : Str} {pos : Pos} {Q : Unit → Shared → Prop} (I : Inv X pins σ H s) (hN : X.N.Nodup) (hi : X.N[i]? = some n) (hk : X.env.scope.names.lookup n = some .local)
    (h : ∀ s', Inv X pins (σ.set i none) H s' → Q () s') : wpAny M A (do bindName X.env n .none; unbindBehindTheSuite X.env n pos) Q E s := by
  obtain ⟨m, hn, hl⟩ := id I.loc
  have hcls : (X.env.scope.kind == .class || (X.env.scope.kind == .module && X.env.locals != X.env.globals)) = false := by rw [I.ok.kind]; rfl
  have hiσ : i < σ.length := by rw [I.len]; exact (List.getElem?_eq_some_iff.mp hi).1
  have cne := I.cne
  refine wpAny_nameGoes_keeps hk hn hcls fun h' v hn' hs => ?_
  obtain ⟨oL, _, _, hoL, _⟩ := id hn
  have ab : ∀ b o, X.s_0.heap.get? b = some o → b ≠ X.env.locals := fun b o e => Nat.ne_of_lt (Nat.lt_of_lt_of_le (Heap.lt_size e) I.ok.above)
  refine h _ ⟨I.ok, I.os, I.bare, ⟨fun b o e n hb hx => ?_, fun b o e n hb hx => ?_, I.base.free, fun b o e hx => ?_, I.base.tups, I.base.frzs, I.base.tbls⟩, ⟨_, hn', fun j y v' e1 e2 e3 => ?_⟩, fun y c e => ?_, I.free, I.freeC, fun p hp => ?_, fun b ob e => ?_, by simpa using I.len⟩
  · exact (hs.2 b (ab b o e)).trans (I.base.keep b o e n hb hx)
  · obtain ⟨sl, e1⟩ := I.base.slot b o e n hb hx
    exact ⟨sl, (hs.2 b (ab b o e)).trans e1⟩
  · obtain ⟨o', e1⟩ := I.base.there b o e hx
    exact ⟨o', (hs.2 b (ab b o e)).trans e1⟩
  · by_cases hj : j = i
    · subst hj
      rw [List.getElem?_set_self hiσ] at e2
      cases e2
    · rw [List.getElem?_set_ne (Ne.symm hj)] at e2
      obtain ⟨u', r', q⟩ := hl j y v' e1 e2 e3
      refine ⟨u', r', ?_⟩
      rcases q with ⟨k, e⟩ | ⟨k, c, e, z⟩
      · refine .inl ⟨k, ?_⟩
        have : y ≠ n := fun e => hj (nodup_ix hN e1 (e ▸ hi))
        simp [this, e]
      · exact .inr ⟨k, c, e, z.sameBut hs (cne y c e)⟩
  · obtain ⟨w', z⟩ := I.cell y c e
    exact ⟨w', z.sameBut hs (cne y c e)⟩
  · obtain ⟨e, n, ne, nf, d⟩ := I.pin p hp
    exact ⟨(hs.2 p.1 ne).trans e, n, ne, nf, d⟩
  · refine (I.hok b ob e).stay (fun c w' hc q => (hs.2 c ?_).trans q) (fun _ q => q) fun _ _ q => q
    rintro rfl
    have z := I.free
    rcases hc with rfl | hc
    · rw [z] at e; cases e
    · rw [z] at hc; cases hc
end
end L2

set_option Elab.async false
set_option linter.all false
set_option maxRecDepth 100000
set_option maxHeartbeats 4000000
namespace L2
open PySem PySem.Spec PyProof.Rows PySem.W
def gone (i : Nat) (D : Ends) : Ends := ⟨fun σ H => D.nx (σ.set i none) H, D.rt, fun σ H => D.bk (σ.set i none) H, fun σ H => D.ct (σ.set i none) H⟩
/-- what the handler wants of an exception -/
def EH (X : Cx) (Cf : Addr) (i : Nat) (ts : TS) (D : Ends) (σ : St) : XK := fun cls _ H' => ∃ C, cls = .ref C ∧ exmOne X.K (.ref C) (.ref Cf) = some true ∧ ∀ x, H' x = none → ts (gone i D) (σ.set i (some (.ref x))) (upd H' x (.ext (XcAt x C)))
theorem try_ok {X : Cx} {pins : List (Addr × Obj)} {σ : St} {s : Shared} {D : Ends} {body suite : List Stmt} {b0 : Stmt} {cf n : Str} {Cf : Addr} {i : Nat} {ts : TS} {np hpos pos : Pos} (ok : X.Ok)
    (hst : X.stack = X.env :: X.outer) (hf : X.env.frame = some X.env.locals) (hN : X.N.Nodup) (hi : X.N[i]? = some n) (hk : X.env.scope.names.lookup n = some .local) (hg : Gl X cf) (hm : X.mg cf = some (.ref Cf)) (hdb : (cf == ("__debug__" : Str)) = false)
    (hs : ∀ e xe, PSs (X.hand e xe) (b0 :: suite) ts)
    (hb : wpAny (model X.prog X.w) X.A (execs body X.env) (SP X pins D) (XP X pins σ (EH X Cf i ts D σ)) s) :
    wpAny (model X.prog X.w) X.A (exec (.Try body [.ExceptHandler (some (.Name cf np)) (some n) (b0 :: suite) hpos] [] [] pos) X.env) (SP X pins D) X.xe s := by
  refine wpAny_Try_except (wpAny_mono hb (fun f s1 h => ?_) (fun e s' h => ?_))
  · cases f with
    | next =>
      obtain ⟨σ1, H1, I1, q⟩ := h
      exact pss_nil pins s1 σ1 H1 D I1 q
    | brk => exact h
    | cont => exact h
    | ret u => exact h
  · obtain ⟨H1, s1, I1, x, cls, a0, H', B, rfl, os, bare, un, hok, tb, kb, hx, hsx, fl, C, rfl, hm', hk'⟩ := h
    have fl' := fl
    rw [hst] at fl'
    refine wpAny_looks_onW (by rw [I1.ok.frames, hst]) hf fl' fun h4 held up4 => ?_
    refine wpAny_landsW held fun h5 fl5 up5 => ?_
    have I5 := (inv_land (t := s'.toks) I1 os bare un hok tb kb hx hsx fl (hst ▸ fl5) (up4.trans up5)).1
    refine wpAny_handleBy_cons (codeAny_handlers_test (ld_glob (I5.hand (.ref x) X.xe) hg hm ?_ hdb)) (by intro q; cases q)
    refine (exm_one I5.kIn (XcAt.ty (let ⟨o, e1, e2⟩ := fl5.there; ⟨o, e1, e2⟩)) hm').here ?_
    refine codeAny_handlers_suite_as ?_
    refine lands_againW (hst ▸ fl5) fun h6 fl6 up6 => ?_
    have I6 := (inv_land (t := s'.toks) I1 os bare un hok tb kb hx hsx fl fl6 ((up4.trans up5).trans up6)).2
    refine store_ok I6 hN hi (.inl hk) (v := .ref x) (by rfl) (fun s7 I7 => ?_) (.inr hk)
    refine wpAny_mono (hs (.ref x) _ pins s7 _ _ (gone i D) (I7.hand (.ref x) _) (hk' x hx)) (fun f s8 h8 => ?_) (fun _ _ h => h)
    cases f with
    | next => obtain ⟨σ8, H8, I8, q⟩ := h8; exact name_gone (I8.unhand ok) hN hi hk fun s9 I9 => ⟨_, _, I9, q⟩
    | brk => obtain ⟨σ8, H8, I8, q⟩ := h8; exact name_gone (I8.unhand ok) hN hi hk fun s9 I9 => ⟨_, _, I9, q⟩
    | cont => obtain ⟨σ8, H8, I8, q⟩ := h8; exact name_gone (I8.unhand ok) hN hi hk fun s9 I9 => ⟨_, _, I9, q⟩
    | ret u => obtain ⟨v, σ8, H8, I8, r, q⟩ := h8; exact name_gone (I8.unhand ok) hN hi hk fun s9 I9 => ⟨v, _, _, I9, r, q⟩
end L2

set_option Elab.async false
set_option linter.all false
set_option maxRecDepth 100000
set_option maxHeartbeats 4000000
namespace DL
open PySem PySem.Spec PyProof.Rows L2 TL PySem.W
/-! ### try: .. except C as n: .. -/
def DSx (X : Cx) (E' : XK) (M P : List Nat) (fr : Bool) (st : List Stmt) (f : SF) : Prop :=
  ∀ (pins : List (Addr × Obj)) (s : Shared) (σ : L2.St) (H : Hp) (D : Ends), Inv X pins σ H s → tS X.K X.mg M P E' fr f D σ H → wpAny (model X.prog X.w) X.A (execs st X.env) (SP X pins D) (XP X pins σ E') s
def eCallT (fr : Bool) (ks : List Ak) (f : Fn) : EF := fun ρ => match axGo ks ρ with
  | .err _ => .stuck
  | _ => eCall fr ks f ρ
theorem run_fnX {X : Cx} {E' : XK} {k : Nat} {f : Addr} {fd : FuncData} {ps : List Str} {sp : Sp} {pins : List (Addr × Obj)} {σ : L2.St} {H : Hp} {s : Shared} {Q : VK} {us : List Value} {vs : List V} (F : FnOk X.prog X.w X.K X.mg X.base (CX1 X.prog X.w) k f fd ps sp) (hr : Room k X.A)
    (hb : Binds X.K fd ps []) (I : Inv X pins σ H s) (r : Vals vs us) (h : sp vs H Q E') : wpAny (model X.prog X.w) X.A (call (.ref f) us) (EP X pins σ Q) (XP X pins σ E') s := by
  have hl : (us ++ []).length = ps.length := by rw [List.append_nil, ← r.length]; exact F.len _ _ _ _ h
  have b := hb s us I.kIn hl
  rw [List.append_nil] at b
  refine wpAny_call (codeAny_mono (F.run X.A X.stack s H ⟨us, []⟩ us vs Q E' hr I.env0 b r h) fun r s' hq => ?_)
  cases r with
  | error e => exact ⟨H, s, I, hq⟩
  | ok fl =>
    cases fl with
    | ret u => exact I.after hq
    | next => exact False.elim hq
    | brk => exact False.elim hq
    | cont => exact False.elim hq
section
variable {X : Cx} {E E' : XK} {M P : List Nat} {fr : Bool}
/-- an exception of the class c -/
def excOf (c : Str) : D := .obj c [("!", .non)]
def dropM (M : List Nat) (ρ : Env) : Env := ρ.mapIdx fun i d => if i ∈ M then none else d
@[simp] theorem dropM_nil (ρ : Env) : dropM [] ρ = ρ := by
  unfold dropM
  apply List.ext_getElem?
  intro i
  rw [List.getElem?_mapIdx]
  cases ρ[i]? <;> simp
theorem dropM_some {ρ : Env} {j : Nat} {d : D} (h : (dropM M ρ)[j]? = some (some d)) : j ∉ M ∧ ρ[j]? = some (some d) := by
  unfold dropM at h
  rw [List.getElem?_mapIdx] at h
  cases e : ρ[j]? with
  | none => rw [e] at h; cases h
  | some o =>
    rw [e] at h
    by_cases hj : j ∈ M
    · simp [hj] at h
    · simp [hj] at h
      exact ⟨hj, by rw [h]⟩
def S.gone (i : Nat) : S → S
  | .next ρ => .next (ρ.set i none)
  | .brk ρ => .brk (ρ.set i none)
  | .cont ρ => .cont (ρ.set i none)
  | .ret d ρ => .ret d ρ
  | _ => .stuck
def sTry (M : List Nat) (cat : Str → Bool) (i : Nat) (fb fh : SF) : SF := fun ρ => match fb ρ with
  | .err c => if cat c = true then (fh ((dropM M ρ).set i (some (excOf c)))).gone i else .stuck
  | r => r
theorem rel_unset {K : PySem.W.Frag} {mg : Str → Option Value} {F W : AS} {σ : L2.St} {H : Hp} {ρ : Env} {i : Nat} (r : Rel K mg M F W σ H ρ) : Rel K mg M F W (σ.set i none) H (ρ.set i none) := by
  obtain ⟨R, q⟩ := r
  have g : ∀ (j : Nat) (d : D), (ρ.set i none)[j]? = some (some d) → j ≠ i ∧ ρ[j]? = some (some d) := fun j d e => by
    by_cases hj : j = i
    · subst hj
      rw [List.getElem?_set] at e
      split at e
      · split at e <;> cases e
      · rename_i z; exact absurd rfl z
    · rw [List.getElem?_set_ne (Ne.symm hj)] at e
      exact ⟨hj, e⟩
  refine ⟨R, fun j d hj e => ?_, fun j d hj e => ?_, q.rw, q.dj, q.fw, q.fd, q.wd⟩
  · obtain ⟨n, e⟩ := g j d e
    rw [List.getElem?_set_ne (Ne.symm n)]
    exact q.sh j d hj e
  · obtain ⟨n, e⟩ := g j d e
    rw [List.getElem?_set_ne (Ne.symm n)]
    exact q.ow j d hj e
theorem ds_try {body suite : List Stmt} {b0 : Stmt} {cf n : Str} {Cf : Addr} {i : Nat} {fb fh : SF} {cat : Str → Bool} {np hpos pos : Pos} (hst : X.stack = X.env :: X.outer) (hf : X.env.frame = some X.env.locals) (hN : X.N.Nodup) (hi : X.N[i]? = some n)
    (hk : X.env.scope.names.lookup n = some .local) (hg : Gl X cf) (hm : X.mg cf = some (.ref Cf)) (hiM : i ∉ M) (hiP : i ∉ P) (hcat : ∀ c C, cat c = true → X.mg c = some (.ref C) → exmOne X.K (.ref C) (.ref Cf) = some true)
    (hb : ∀ E', DSx X E' M P fr body fb) (hs : ∀ e xe, DSs (X.hand e xe) E0 M P fr (b0 :: suite) fh) (hdb : (cf == ("__debug__" : Str)) = false := by decide) :
    DS X E M P fr (.Try body [.ExceptHandler (some (.Name cf np)) (some n) (b0 :: suite) hpos] [] [] pos) (sTry M cat i fb fh) := by
  intro pins s σ H D I ⟨F, W, ρ, rel, h⟩
  refine try_ok (ts := tS X.K X.mg M P E0 fr fh) I.ok hst hf hN hi hk hg hm hdb (fun e xe => hs e xe) (hb _ pins s σ H D I ⟨F, W, ρ, rel, ?_⟩)
  unfold sTry at h
  cases eb : fb ρ with
  | next ρ' => rw [eb] at h; exact h
  | brk ρ' => rw [eb] at h; exact h
  | cont ρ' => rw [eb] at h; exact h
  | ret d ρ' => rw [eb] at h; exact h
  | stuck => rw [eb] at h; exact h
  | err c =>
    rw [eb] at h
    dsimp only at h
    split at h
    · rename_i hc
      intro C H' F' W' hmc st
      refine ⟨C, rfl, hcat c C hc hmc, fun x hx => ?_⟩
      have hiσ : i < σ.length := by rw [I.len]; exact (List.getElem?_eq_some_iff.mp hi).1
      have kf : ∀ a o, F a → H a = some o → upd H' x (.ext (XcAt x C)) a = some o := fun a o fa e => by
        have q := st.st a o e (rel.fw a fa)
        rw [upd_ne (ne_of_none q hx)]
        exact q
      have hHx : H x = none := st.none_of hx
      have stN : Step F W H (fun a => F a ∨ a = x) (fun _ => False) (upd H' x (.ext (XcAt x C))) := by
        refine ⟨fun a z => .inl z, fun a o e nw => ?_, fun a z => ?_, fun a z => z.elim, fun a o e => ?_⟩
        · have q := st.st a o e nw
          rw [upd_ne (ne_of_none q hx)]
          exact q
        · rcases z with z | rfl
          · exact .inl z
          · exact .inr (.inr hHx)
        · obtain ⟨o', q⟩ := st.th a o e
          exact ⟨o', by rw [upd_ne (ne_of_none q hx)]; exact q⟩
      have pk : ∀ {σ' : L2.St}, (∀ k ∈ P, σ'[k]? = (σ.set i (some (.ref x)))[k]?) → ∀ k ∈ P, σ'[k]? = σ[k]? := fun q k hk => by
        rw [q k hk, List.getElem?_set_ne (show i ≠ k from fun z => hiP (by rw [z]; exact hk))]
      have pk2 : ∀ {σ' : L2.St}, (∀ k ∈ P, σ'[k]? = (σ.set i (some (.ref x)))[k]?) → ∀ k ∈ P, (σ'.set i none)[k]? = σ[k]? := fun q k hk => by
        rw [List.getElem?_set_ne (show i ≠ k from fun z => hiP (by rw [z]; exact hk))]
        exact pk q k hk
      have ln : ∀ {σ' : L2.St}, σ'.length = (σ.set i (some (.ref x))).length → (σ'.set i none).length = σ.length := fun q => by rw [List.length_set, q, List.length_set]
      refine ⟨fun a => F a ∨ a = x, fun _ => False, (dropM M ρ).set i (some (excOf c)), ⟨fun _ _ => False, fun j d hj e => ?_, fun j d hj e => ?_, fun _ _ z => z, fun _ _ _ z => z.elim, fun _ _ z => z, fun a z => ?_, fun _ z => z.elim⟩, ?_⟩
      · by_cases hji : j = i
        · subst hji
          have ed : d = excOf c := by
            rw [List.getElem?_set] at e
            split at e
            · split at e
              · cases e; rfl
              · cases e
            · rename_i z; exact absurd rfl z
          subst ed
          exact ⟨.ref x, List.getElem?_set_self hiσ, .inr ⟨rfl, x, C, rfl, .inr rfl, upd_same, hmc⟩⟩
        · rw [List.getElem?_set_ne (Ne.symm hji)] at e
          obtain ⟨_, e⟩ := dropM_some e
          obtain ⟨R, q⟩ := rel
          obtain ⟨v, e1, e2⟩ := q.sh j d hj e
          exact ⟨v, by rw [List.getElem?_set_ne (Ne.symm hji)]; exact e1, Den.mono (fun a z => .inl z) kf d v e2⟩
      · by_cases hji : j = i
        · exact absurd (hji ▸ hj) hiM
        · rw [List.getElem?_set_ne (Ne.symm hji)] at e
          exact absurd hj (dropM_some e).1
      · rcases z with z | rfl
        · obtain ⟨o, q⟩ := rel.fd a z
          exact ⟨o, kf a o z q⟩
        · exact ⟨_, upd_same⟩
      · generalize fh ((dropM M ρ).set i (some (excOf c))) = r at h
        cases r with
        | next ρ' => exact fun σ' H2 F2 W2 rel2 st2 p l => h _ H2 F2 W2 (rel_unset rel2) (stN.trans st2) (pk2 p) (ln l)
        | brk ρ' => exact fun σ' H2 F2 W2 rel2 st2 p l => h _ H2 F2 W2 (rel_unset rel2) (stN.trans st2) (pk2 p) (ln l)
        | cont ρ' => exact fun σ' H2 F2 W2 rel2 st2 p l => h _ H2 F2 W2 (rel_unset rel2) (stN.trans st2) (pk2 p) (ln l)
        | ret d ρ' => exact fun v σ' H2 F2 W2 N rel2 ok hn st2 p => h v σ' H2 F2 W2 N rel2 ok (fun a z => (hn a z).elim (fun z => z.elim) fun z => .inr (stN.none_of z)) (stN.trans st2) (pk p)
        | err c' => exact False.elim h
        | stuck => exact h
    · exact False.elim h
end
end DL

set_option Elab.async false
set_option linter.all false
set_option maxRecDepth 100000
set_option maxHeartbeats 4000000
namespace L2
open PySem PySem.Spec PyProof.Rows PySem.W
/-! ### defs called within an except suite -/
structure RoomH (k : Nat) (A : Around) : Prop where
  dp : A.depth + 3 * k + 5 < recursionLimit
  un : A.units + 16 * k + 200 < cLine
  gd : A.guards = some []
theorem RoomH.mono {j k : Nat} {A : Around} (r : RoomH k A) (h : j ≤ k) : RoomH j A := ⟨by have := r.dp; omega, by have := r.un; omega, r.gd⟩
theorem RoomH.units {k : Nat} {A : Around} (r : RoomH k A) : A.units + 64 < cLine := by have := r.un; omega
theorem RoomH.deeper {k : Nat} {A : Around} (r : RoomH (k + 1) A) (env : Env) : RoomH k (A.deeper env) :=
  ⟨by have := r.dp; show A.depth + 1 + 3 * k + 5 < _; omega, by have := r.un; show A.units + 3 + 16 * k + 200 < _; omega, r.gd⟩
theorem RoomH.hand {k : Nat} {A : Around} (r : RoomH k A) (e : Value) : RoomH k (A.mark (some e)) := ⟨r.dp, r.un, r.gd⟩
theorem Room.hand {k : Nat} {A : Around} (r : Room k A) (e : Value) : RoomH k (A.mark (some e)) := ⟨r.dp, r.un, r.gd⟩
/-- a def that raises nothing, with an exception handled -/
structure FnH (P : Program) (w : World) (K : Frag) (mg : Str → Option Value) (base : Heap) (k : Nat) (f : Addr) (fd : FuncData) (ps : List Str) (sp : Sp) : Prop where
  len : ∀ vs H Q, sp vs H Q E0 → vs.length = ps.length
  run : ∀ (A : Around) (outer : List Env) (s : Shared) (H : Hp) (args : Args) (us : List Value) (vs : List V) (Q : VK), RoomH k A → Env0 P w K mg base A outer s H → BindsTo s fd args (ps.zip us) → Vals vs us → sp vs H Q E0 →
    codeAny (model P w) A (.call (.ref f) args) (fun r s' => match r with | .ok (.ret u) => CE outer P w H s Q u s' | _ => False) s
end L2
namespace DL
open PySem PySem.Spec PyProof.Rows L2 TL PySem.W
end DL

set_option Elab.async false
set_option linter.all false
set_option maxRecDepth 100000
set_option maxHeartbeats 4000000
namespace DL
open PySem PySem.Spec PyProof.Rows L2 TL PySem.W
/-! ### isinstance of a caught exception -/
/-- the exceptions of the text stand under FallError, that one under ValueError -/
def xSub (c d : Str) : Bool := c == d || d == "FallError"
structure ExAll (K : Frag) (mg : Str → Option Value) (cl : List Str) : Prop where
  cls : ∀ c ∈ cl, ∃ C, mg c = some (.ref C) ∧ XcCls K C
  sub : ∀ c ∈ cl, ∀ d ∈ cl, ∀ C D, mg c = some (.ref C) → mg d = some (.ref D) → kitOne K (.ref C) (.ref D) = some (xSub c d)
  val : ∀ c ∈ cl, ∀ C, mg c = some (.ref C) → kitOne K (.ref C) (.type "ValueError") = some true
  exm : ∀ c ∈ cl, ∀ C D, mg c = some (.ref C) → mg "FallError" = some (.ref D) → exmOne K (.ref C) (.ref D) = some true
def rIsX (K : Frag) : List V → Hp → VK → Prop := fun xs H Q => ∃ a C v u b, xs = [.ref a, v] ∧ RelV v u ∧ (∀ u', RelV v u' → u' = u) ∧ H a = some (.ext (XcAt a C)) ∧ XcCls K C ∧ kitOne K (.ref C) u = some b ∧ Q (.bl b) H
theorem cr_isX {X : Cx} : CallR X (.builtin "isinstance") (rIsX X.K) := by
  intro pins s σ H xs us Q I r h
  obtain ⟨a, C, v, u, b, rfl, _, un, ha, xc, e, q⟩ := h
  obtain ⟨u1, u2, rfl, r1, r2⟩ := vals2 r
  cases r1
  obtain rfl := un _ r2
  obtain ⟨h1, _⟩ := I.hok a _ ha
  exact kia_one (kitx_exc xc) I.kIn h1 e (fun z => nomatch z) fun tk => ⟨.bl b, H, I.tok tk, rfl, q⟩
def gIsX (cl : List Str) : List D → Option D
  | [.obj c fs, .cls d] => if excD fs = true ∧ c ∈ cl ∧ d ∈ cl then some (.bl (xSub c d)) else none
  | [.obj c fs, .ty n] => if excD fs = true ∧ c ∈ cl ∧ n = "ValueError" then some (.bl true) else none
  | _ => none
theorem cd_isX {K : Frag} {mg : Str → Option Value} {cl : List Str} (hx : ExAll K mg cl) : CallD K mg (rIsX K) (gIsX cl) := by
  intro F H ds z vs Q fd dn hg q
  unfold gIsX at hg
  split at hg
  · rename_i c fs d
    split at hg
    · rename_i hc
      cases hg
      obtain ⟨he, hc, hd⟩ := hc
      obtain ⟨v, r, rfl, d1, w, r', rfl, d2, rfl⟩ := dn
      obtain ⟨b, rfl, mb⟩ := d2
      rcases d1 with ⟨e0, _⟩ | ⟨_, a, C, rfl, _, ha, hm⟩
      · rw [he] at e0; cases e0
      · obtain ⟨C', m', xc⟩ := hx.cls c hc
        rw [hm] at m'
        cases m'
        exact ⟨a, C, _, .ref b, _, rfl, rfl, fun _ z => z, ha, xc, hx.sub c hc d hd C b hm mb, q _ _ _ (Ext.refl fd) rfl⟩
    · cases hg
  · rename_i c fs n
    split at hg
    · rename_i hc
      cases hg
      obtain ⟨he, hc, rfl⟩ := hc
      obtain ⟨v, r, rfl, d1, w, r', rfl, d2, rfl⟩ := dn
      cases d2
      rcases d1 with ⟨e0, _⟩ | ⟨_, a, C, rfl, _, ha, hm⟩
      · rw [he] at e0; cases e0
      · obtain ⟨C', m', xc⟩ := hx.cls c hc
        rw [hm] at m'
        cases m'
        exact ⟨a, C, _, .type "ValueError", _, rfl, rfl, fun _ z => z, ha, xc, hx.val c hc C hm, q _ _ _ (Ext.refl fd) rfl⟩
    · cases hg
  · cases hg
theorem exc_g {K : Frag} {mg : Str → Option Value} {x : Str} (h : ∃ C, ExcC K C ∧ mg x = some (.ref C)) : ∃ C, mg x = some (.ref C) := let ⟨C, _, m⟩ := h; ⟨C, m⟩
/-- a class of the text, as a value -/
theorem de_gcls {X : Cx} {E : XK} {M : List Nat} {x : Str} {pos : Pos} (h : ∃ C, X.mg x = some (.ref C)) (hg : Gl X x) (hd : (x == ("__debug__" : Str)) = false := by decide) : DE X E M (.Name x pos) (eC (.cls x)) := by
  obtain ⟨C, h⟩ := h
  exact de_c (pe_glob (v := .ref C) hg h rfl hd) fun _ _ => ⟨C, rfl, h⟩
end DL

set_option Elab.async false
set_option linter.all false
set_option maxRecDepth 100000
set_option maxHeartbeats 4000000
namespace DL
open PySem PySem.Spec PyProof.Rows L2 TL PySem.W
/-! ### count and index in a told list of bools -/
def isLst : D → Bool
  | .lst _ => true
  | _ => false
/-- o.m(e) of a told list -/
def eBM (g : D → List D → Option D) (fo : EF) (fs : AF) : EF := fun ρ => (fo ρ).bind fun p => if isLst p.1 = true then (fs p.2).bind fun q => opt (g p.1 q.1) q.2 else .stuck
end DL

set_option Elab.async false
set_option linter.all false
set_option maxRecDepth 100000
set_option maxHeartbeats 4000000
namespace DL
open PySem PySem.Spec PyProof.Rows L2 TL PySem.W
/-! ### t + u where t may be empty -/
def gAddE : D → D → Option D
  | .tup [], .tup ys => some (.tup ys)
  | d, e => gAdd d e
section
variable {X : Cx} {K : Frag} {mg : Str → Option Value}
end
@[simp] theorem gAddE_nil (ys : List D) : gAddE (.tup []) (.tup ys) = some (.tup ys) := rfl
end DL

set_option Elab.async false
set_option linter.all false
set_option maxRecDepth 100000
set_option maxHeartbeats 4000000
namespace DL
open PySem L2 TL
/-! ### comprehensions with two fors -/
def lcGo2 (b : BFn) (test : BF) (it1 : AF) (b1 : BFn) (test1 : BF) (elt : EF) (ws ws1 : List Nat) : List D → Env → List D → R (List D × Env)
  | [], ρ, acc => .ok (acc, ρ)
  | d :: ds, ρ, acc => match b d (wipeE ρ ws) with
    | none => .stuck
    | some ρ1 => match test ρ1 with
      | .ok p => if p.1 = true then (match it1 p.2 with
        | .ok q => (match lcGo b1 test1 elt ws1 q.1 q.2 acc with
          | .ok r => lcGo2 b test it1 b1 test1 elt ws ws1 ds r.2 r.1
          | _ => .stuck)
        | _ => .stuck) else lcGo2 b test it1 b1 test1 elt ws ws1 ds p.2 acc
      | _ => .stuck
theorem lcGo2_noErr {b : BFn} {test : BF} {it1 : AF} {b1 : BFn} {test1 : BF} {elt : EF} {ws ws1 : List Nat} {c : Str} : ∀ {ds : List D} {ρ : Env} {acc : List D}, lcGo2 b test it1 b1 test1 elt ws ws1 ds ρ acc ≠ .err c
  | [], _, _, h => by cases h
  | d :: ds, ρ, acc, h => by
    unfold lcGo2 at h
    split at h
    · cases h
    · split at h
      · split at h
        · split at h
          · split at h
            · exact lcGo2_noErr h
            · cases h
          · cases h
        · exact lcGo2_noErr h
      · cases h
def eLc2 (it : AF) (b : BFn) (test : BF) (it1 : AF) (b1 : BFn) (test1 : BF) (elt : EF) (ws ws1 : List Nat) : EF := fun ρ => (it ρ).bind fun p => (lcGo2 b test it1 b1 test1 elt ws ws1 p.1 p.2 []).bind fun q => .ok (.lst q.1, restE p.2 q.2 ws)
theorem wipeE_len' (ρ : Env) : ∀ ws : List Nat, (wipeE ρ ws).length = ρ.length
  | [] => rfl
  | v :: vs => by unfold wipeE; rw [List.length_set, wipeE_len' ρ vs]
theorem wipeE_in' {ρ : Env} {i : Nat} : ∀ {vs : List Nat}, i ∈ vs → i < ρ.length → (wipeE ρ vs)[i]? = some none
  | v :: vs, h, hl => by
    unfold wipeE
    by_cases e : v = i
    · subst e; rw [List.getElem?_set_self (by rw [wipeE_len']; exact hl)]
    · rw [List.getElem?_set_ne e]
      exact wipeE_in' ((List.mem_cons.mp h).resolve_left fun z => e z.symm) hl
theorem wipeE_sub {ρ : Env} {ws ws1 : List Nat} (h : ∀ k ∈ ws1, k ∈ ws) : wipeE (wipeE ρ ws1) ws = wipeE ρ ws := by
  apply List.ext_getElem?
  intro i
  by_cases hi : i ∈ ws
  · by_cases hlt : i < ρ.length
    · rw [wipeE_in' hi hlt, wipeE_in' hi (by rw [wipeE_len']; exact hlt)]
    · rw [List.getElem?_eq_none (by rw [wipeE_len', wipeE_len']; omega), List.getElem?_eq_none (by rw [wipeE_len']; omega)]
  · rw [wipeE_of hi, wipeE_of hi, wipeE_of fun z => hi (h i z)]
section
variable {K : PySem.W.Frag} {mg : Str → Option Value} {M : List Nat} {F W : AS} {σ : St} {H : Hp} {ρ : Env} {E : XK}
theorem tLc2_of {fi fi1 : AF} {g g1 : TG} {b b1 : BFn} {ft ft1 : BF} {fe : EF} {ws ws1 T T1 : List Nat} {n : Nat} (gok : GOk K mg M T n g b) (gok1 : GOk K mg M T1 n g1 b1) (hT : ∀ k ∈ T, k ∈ ws) (hT1 : ∀ k ∈ T1, k ∈ ws1) (hw : ∀ k ∈ ws1, k ∈ ws) (hM : ∀ i ∈ ws, i ∉ M) {Q : VK} (hl : σ.length = n)
    (h : tN K mg M E (eLc2 fi b ft fi1 b1 ft1 fe ws ws1) σ H Q) :
    tLc2 (tG K mg M E (ItOk K mg) fi) g (tG K mg M E0 dnB ft) (tG K mg M E0 (ItOk K mg) fi1) g1 (tG K mg M E0 dnB ft1) (tG K mg M E0 (dnD K mg) fe) ws ws1 σ H Q := by
  obtain ⟨F, W, ρ, rel, h⟩ := h
  refine ⟨F, W, ρ, rel, ?_⟩
  unfold eLc2 at h
  cases ei : fi ρ with
  | err c => rw [ei] at h; exact h
  | stuck => rw [ei] at h; exact h
  | ok p =>
  rw [ei] at h
  obtain ⟨ds, ρ0⟩ := p
  intro J H0 F0 W0 rel0 it st0 D nD
  cases eg : lcGo2 b ft fi1 b1 ft1 fe ws ws1 ds ρ0 [] with
  | err c => exact absurd eg lcGo2_noErr
  | stuck => simp only [R.bind_ok, eg, R.bind_stuck] at h
  | ok res =>
  simp only [R.bind_ok, eg] at h
  have nF0 : ¬ F0 D := fun z => by obtain ⟨o, q⟩ := rel0.fd D z; rw [nD] at q; cases q
  have nW0 : ¬ W0 D := fun z => by obtain ⟨R, r⟩ := rel0; obtain ⟨o, q⟩ := r.wd D z; rw [nD] at q; cases q
  refine ⟨fun i m H1 => m = ds.length - i ∧ i ≤ ds.length ∧ ∃ F1 W1 ρ1 acc vs, Rel K mg M F1 W1 (L2.wipe σ ws) H1 (wipeE ρ1 ws) ∧ Step F0 W0 H0 F1 W1 H1 ∧ H1 D = some (.lst vs) ∧ DenL K mg F1 H1 acc vs ∧ ¬ F1 D ∧ ¬ W1 D ∧ lcGo2 b ft fi1 b1 ft1 fe ws ws1 (ds.drop i) ρ1 acc = .ok res,
    ⟨ds.length, by simp, Nat.zero_le _, F0, W0, ρ0, [], [], (rel0.foreign nF0 nW0).wipe ws, (Step.refl _ _ _).foreign nD, upd_same, denL_nil, nF0, nW0, eg⟩, ?_⟩
  rintro i m H1 ⟨rfl, hile, F1, W1, ρ1, acc, vs, rel1, st1, hD, dn, nF, nW, go1⟩
  obtain ⟨iti, its⟩ := it F1 H1 st1.fr (fun a o f e => st1.st a o e (rel0.fw a f)) rel1.fd i
  by_cases hlt : i < ds.length
  · have ed : ds[i]? = some ds[i] := List.getElem?_eq_getElem hlt
    obtain ⟨go, yl⟩ := iti _ ed
    have edr : ds.drop i = ds[i] :: ds.drop (i + 1) := List.drop_eq_getElem_cons hlt
    rw [edr] at go1
    unfold lcGo2 at go1
    refine .inr ⟨go, fun H2 => ∃ F1 W1 ρ1 acc vs, Rel K mg M F1 W1 (L2.wipe σ ws) H2 (wipeE ρ1 ws) ∧ Step F0 W0 H0 F1 W1 H2 ∧ H2 D = some (.lst vs) ∧ DenL K mg F1 H2 acc vs ∧ ¬ F1 D ∧ ¬ W1 D ∧ lcGo2 b ft fi1 b1 ft1 fe ws ws1 (ds.drop (i + 1)) ρ1 acc = .ok res,
      fun H2 q => ⟨ds.length - (i + 1), by omega, rfl, hlt, q⟩, fun x H2 hy => ?_⟩
    obtain ⟨F2, ex, dx⟩ := yl x H2 hy
    cases eb : b ds[i] (wipeE ρ1 ws) with
    | none => rw [eb] at go1; cases go1
    | some ρ2 =>
    rw [eb] at go1
    dsimp only at go1
    refine gok F2 W1 (L2.wipe σ ws) H2 _ ρ2 _ x _ (rel1.ext ex) (by rw [wipe_length]; exact hl) dx eb fun σ3 H3 F3 W3 rel3 st3 p3 l3 => ⟨?_, ?_⟩
    · rw [wipe_eq p3 l3 hT, wipe_wipe]
    have l3n : σ3.length = n := by rw [l3, wipe_length]; exact hl
    have ew : L2.wipe σ3 ws = L2.wipe σ ws := by rw [wipe_eq p3 l3 hT, wipe_wipe]
    have s13 : Step F1 W1 H1 F3 W3 H3 := ex.step.trans st3
    have keepD : ∀ {F' W' : AS} {H' : Hp}, Step F1 W1 H1 F' W' H' → H' D = some (.lst vs) ∧ ¬ F' D ∧ ¬ W' D := fun s => by
      refine ⟨s.st D _ hD nW, fun z => ?_, fun z => ?_⟩
      · rcases s.nf D z with z | z | z
        · exact nF z
        · exact nW z
        · rw [hD] at z; cases z
      · rcases s.nw D z with z | z
        · exact nW z
        · rw [hD] at z; cases z
    refine ⟨F3, W3, ρ2, rel3, ?_⟩
    cases et : ft ρ2 with
    | err c => rw [et] at go1; cases go1
    | stuck => rw [et] at go1; cases go1
    | ok pt =>
    rw [et] at go1
    dsimp only at go1
    intro bb H4 F4 W4 rel4 eb4 st4
    cases eb4
    have s14 := s13.trans st4
    cases hpt : pt.1 with
    | false =>
      rw [hpt, if_neg (by decide)] at go1
      obtain ⟨k1, k2, k3⟩ := keepD s14
      refine iteF ⟨F4, W4, pt.2, acc, vs, ew ▸ rel4.wipe ws, st1.trans s14, k1, ?_, k2, k3, go1⟩
      exact s14.denL rel1 dn
    | true =>
      rw [hpt, if_pos rfl] at go1
      refine iteT ⟨F4, W4, pt.2, rel4, ?_⟩
      cases ei1 : fi1 pt.2 with
      | err c => rw [ei1] at go1; cases go1
      | stuck => rw [ei1] at go1; cases go1
      | ok p1 =>
      rw [ei1] at go1
      obtain ⟨ds1, ρ5⟩ := p1
      dsimp only at go1
      cases eg1 : lcGo b1 ft1 fe ws1 ds1 ρ5 acc with
      | err c => rw [eg1] at go1; cases go1
      | stuck => rw [eg1] at go1; cases go1
      | ok res1 =>
      rw [eg1] at go1
      dsimp only at go1
      intro J1 H5 F5 W5 rel5 it5 st5
      have s15 := s14.trans st5
      obtain ⟨k1, k2, k3⟩ := keepD s15
      have dn5 := s15.denL rel1 dn
      refine ⟨fun j k H6 => k = ds1.length - j ∧ j ≤ ds1.length ∧ ∃ F6 W6 ρ6 acc6 vs6, Rel K mg M F6 W6 (L2.wipe σ3 ws1) H6 (wipeE ρ6 ws1) ∧ Step F0 W0 H0 F6 W6 H6 ∧ (∀ a, F5 a → F6 a) ∧ (∀ a o, F5 a → H5 a = some o → H6 a = some o) ∧ H6 D = some (.lst vs6) ∧ DenL K mg F6 H6 acc6 vs6 ∧ ¬ F6 D ∧ ¬ W6 D ∧ lcGo b1 ft1 fe ws1 (ds1.drop j) ρ6 acc6 = .ok res1,
        ⟨ds1.length, by simp, Nat.zero_le _, F5, W5, ρ5, acc, vs, rel5.wipe ws1, st1.trans s15, fun _ z => z, fun _ _ _ z => z, k1, dn5, k2, k3, eg1⟩, ?_⟩
      rintro j k H6 ⟨rfl, hjle, F6, W6, ρ6, acc6, vs6, rel6, st6, fs6, fk6, hD6, dn6, nF6, nW6, go6⟩
      obtain ⟨iti1, its1⟩ := it5 F6 H6 fs6 (fun a o f e => fk6 a o f e) rel6.fd j
      by_cases hlt1 : j < ds1.length
      · have ed1 : ds1[j]? = some ds1[j] := List.getElem?_eq_getElem hlt1
        obtain ⟨goj, yl1⟩ := iti1 _ ed1
        have edr1 : ds1.drop j = ds1[j] :: ds1.drop (j + 1) := List.drop_eq_getElem_cons hlt1
        rw [edr1] at go6
        unfold lcGo at go6
        refine .inr ⟨goj, fun H7 => ∃ F6 W6 ρ6 acc6 vs6, Rel K mg M F6 W6 (L2.wipe σ3 ws1) H7 (wipeE ρ6 ws1) ∧ Step F0 W0 H0 F6 W6 H7 ∧ (∀ a, F5 a → F6 a) ∧ (∀ a o, F5 a → H5 a = some o → H7 a = some o) ∧ H7 D = some (.lst vs6) ∧ DenL K mg F6 H7 acc6 vs6 ∧ ¬ F6 D ∧ ¬ W6 D ∧ lcGo b1 ft1 fe ws1 (ds1.drop (j + 1)) ρ6 acc6 = .ok res1,
          fun H7 q => ⟨ds1.length - (j + 1), by omega, rfl, hlt1, q⟩, fun x1 H7 hy1 => ?_⟩
        obtain ⟨F7, ex7, dx7⟩ := yl1 x1 H7 hy1
        cases eb1 : b1 ds1[j] (wipeE ρ6 ws1) with
        | none => rw [eb1] at go6; cases go6
        | some ρ7 =>
        rw [eb1] at go6
        dsimp only at go6
        refine gok1 F7 W6 (L2.wipe σ3 ws1) H7 _ ρ7 _ x1 _ (rel6.ext ex7) (by rw [wipe_length]; exact l3n) dx7 eb1 fun σ8 H8 F8 W8 rel8 st8 p8 l8 => ⟨?_, ?_⟩
        · rw [wipe_eq p8 l8 hT1, wipe_wipe]
        have ew8 : L2.wipe σ8 ws1 = L2.wipe σ3 ws1 := by rw [wipe_eq p8 l8 hT1, wipe_wipe]
        have s68 : Step F6 W6 H6 F8 W8 H8 := ex7.step.trans st8
        have keepD6 : ∀ {F' W' : AS} {H' : Hp}, Step F6 W6 H6 F' W' H' → H' D = some (.lst vs6) ∧ ¬ F' D ∧ ¬ W' D := fun s => by
          refine ⟨s.st D _ hD6 nW6, fun z => ?_, fun z => ?_⟩
          · rcases s.nf D z with z | z | z
            · exact nF6 z
            · exact nW6 z
            · rw [hD6] at z; cases z
          · rcases s.nw D z with z | z
            · exact nW6 z
            · rw [hD6] at z; cases z
        have keepF : ∀ {F' W' : AS} {H' : Hp}, Step F6 W6 H6 F' W' H' → (∀ a, F5 a → F' a) ∧ (∀ a o, F5 a → H5 a = some o → H' a = some o) := fun s =>
          ⟨fun a z => s.fr a (fs6 a z), fun a o z e => s.st a o (fk6 a o z e) (rel6.fw a (fs6 a z))⟩
        refine ⟨F8, W8, ρ7, rel8, ?_⟩
        cases et1 : ft1 ρ7 with
        | err c => rw [et1] at go6; cases go6
        | stuck => rw [et1] at go6; cases go6
        | ok pt1 =>
        rw [et1] at go6
        dsimp only at go6
        intro bb1 H9 F9 W9 rel9 eb9 st9
        cases eb9
        have s69 := s68.trans st9
        cases hpt1 : pt1.1 with
        | false =>
          rw [hpt1, if_neg (by decide)] at go6
          obtain ⟨q1, q2, q3⟩ := keepD6 s69
          obtain ⟨q4, q5⟩ := keepF s69
          refine iteF ⟨F9, W9, pt1.2, acc6, vs6, ew8 ▸ rel9.wipe ws1, st6.trans s69, q4, q5, q1, ?_, q2, q3, go6⟩
          exact s69.denL rel6 dn6
        | true =>
          rw [hpt1, if_pos rfl] at go6
          refine iteT ⟨F9, W9, pt1.2, rel9, ?_⟩
          cases ee : fe pt1.2 with
          | err c => rw [ee] at go6; cases go6
          | stuck => rw [ee] at go6; cases go6
          | ok pe =>
          rw [ee] at go6
          dsimp only at go6
          split at go6
          · rename_i hacc
            intro y H10 F10 W10 rel10 dy st10
            have s610 := s69.trans st10
            obtain ⟨q1, q2, q3⟩ := keepD6 s610
            obtain ⟨q4, q5⟩ := keepF s610
            have dn10 := s610.denL rel6 dn6
            refine ⟨vs6, q1, by rw [dn6.len, sizeLine_eq]; exact hacc, F10, W10, pe.2, acc6 ++ [pe.1], vs6 ++ [y], ew8 ▸ (rel10.foreign q2 q3).wipe ws1, (st6.trans s610).foreign nD, q4, fun a o z e => ?_, upd_same, ?_, q2, q3, go6⟩
            · rw [upd_ne (show a ≠ D from fun e' => q2 (e' ▸ q4 a z))]; exact q5 a o z e
            · exact (denL_upd q2 dn10).app (denL_cons (den_upd q2 dy) denL_nil)
          · cases go6
      · have e1 : ds1.length ≤ j := by omega
        rw [List.drop_eq_nil_of_le e1] at go6
        unfold lcGo at go6
        cases go6
        refine .inl ⟨its1 (Nat.le_antisymm e1 hjle), F6, W6, ρ6, acc6, vs6, ?_, st6, hD6, dn6, nF6, nW6, go1⟩
        have r := rel6.wipe ws
        rw [wipeE_sub hw, wipe_eq (σ := σ3) (T := ws1) (fun k hk => wipe_of hk) (wipe_length _ _) hw, ew] at r
        exact r
  · have e : ds.length ≤ i := by omega
    rw [List.drop_eq_nil_of_le e] at go1
    unfold lcGo2 at go1
    cases go1
    refine .inl ⟨its (Nat.le_antisymm e hile), h (.ref D) (fun b => b = D) H1 F1 W1 ?_ (.inl ⟨D, vs, rfl, fun b => Iff.rfl, hD, dn⟩) (fun b e => e ▸ nF) (fun b e => e ▸ nW) (fun b e => .inr (e ▸ st0.none_of nD)) (st0.trans st1)⟩
    obtain ⟨R, r⟩ := rel1
    refine ⟨R, fun j d hj hr => ?_, fun j d hj hr => ?_, r.rw, r.dj, r.fw, r.fd, r.wd⟩
    · rcases restE_some hr with ⟨h1, h2⟩ | ⟨h1, h2⟩
      · obtain ⟨R0, r0⟩ := id rel0
        obtain ⟨v, ev, d0⟩ := r0.sh j d hj h2
        exact ⟨v, ev, st1.den rel0 d0⟩
      · obtain ⟨v, ev, d0⟩ := r.sh j d hj (by rw [wipeE_of h1]; exact h2)
        exact ⟨v, by rw [wipe_of h1] at ev; exact ev, d0⟩
    · rcases restE_some hr with ⟨h1, h2⟩ | ⟨h1, h2⟩
      · exact absurd hj (hM j h1)
      · obtain ⟨v, ev, d0⟩ := r.ow j d hj (by rw [wipeE_of h1]; exact h2)
        exact ⟨v, by rw [wipe_of h1] at ev; exact ev, d0⟩
end
section
variable {X : Cx} {E : XK} {M P : List Nat} {fr : Bool} {elt tg iter tg1 iter1 : Expr} {ifs ifs1 : List Expr} {scope : Scope} {own : List (Str × Nat)} {pos spos py : Pos} {fi fi1 : AF} {g g1 : TG} {b b1 : BFn} {ft ft1 : BF} {fe : EF} {T T1 ws1 : List Nat}
/-- name = [.. for .. for ..] on one line -/
theorem ds_setLc2 {i : Nat} {y : Str} (hc : X.calm = true) (hN : X.N.Nodup) (hy : X.N[i]? = some y) (hyl : X.env.scope.names.lookup y = some .local) (hsw : swapsWith (.ListComp elt [⟨tg, iter, ifs, 0⟩, ⟨tg1, iter1, ifs1, 0⟩] scope pos) (some (.Name y py)) spos.line X.env = pure true)
    (hi : DI X E M tg iter fi) (ok : BlkOk X.N X.env.scope scope own)
    (hg : ∀ (s : Shared) (H : Hp) (C : Addr) (cl : List (Str × Addr)) (fp : List Addr), PG (X.blk s H scope (compEnvC scope cl C X.env) fp) tg g)
    (ht : ∀ (s : Shared) (H : Hp) (C : Addr) (cl : List (Str × Addr)) (fp : List Addr), DTs (X.blk s H scope (compEnvC scope cl C X.env) fp) E0 M ifs ft)
    (hi1 : ∀ (s : Shared) (H : Hp) (C : Addr) (cl : List (Str × Addr)) (fp : List Addr), DI (X.blk s H scope (compEnvC scope cl C X.env) fp) E0 M tg1 iter1 fi1)
    (hg1 : ∀ (s : Shared) (H : Hp) (C : Addr) (cl : List (Str × Addr)) (fp : List Addr), PG (X.blk s H scope (compEnvC scope cl C X.env) fp) tg1 g1)
    (ht1 : ∀ (s : Shared) (H : Hp) (C : Addr) (cl : List (Str × Addr)) (fp : List Addr), DTs (X.blk s H scope (compEnvC scope cl C X.env) fp) E0 M ifs1 ft1)
    (he : ∀ (s : Shared) (H : Hp) (C : Addr) (cl : List (Str × Addr)) (fp : List Addr), DE (X.blk s H scope (compEnvC scope cl C X.env) fp) E0 M elt fe)
    (gok : GOk X.K X.mg M T X.N.length g b) (gok1 : GOk X.K X.mg M T1 X.N.length g1 b1) (hT : ∀ k ∈ T, k ∈ own.map (·.2)) (hT1 : ∀ k ∈ T1, k ∈ ws1) (hw : ∀ k ∈ ws1, k ∈ own.map (·.2)) (hM : ∀ i ∈ own.map (·.2), i ∉ M) (hiM : i ∉ M) (hP : i ∉ P)
    (hs : ∀ x, foldedSetIterable iter X.env x = pure x := by intro _; rfl) (hs1 : ∀ env x, foldedSetIterable iter1 env x = pure x := by intro _ _; rfl) :
    DS X E M P fr (.Assign [.Name y py] (.ListComp elt [⟨tg, iter, ifs, 0⟩, ⟨tg1, iter1, ifs1, 0⟩] scope pos) spos) (sSet i (eLc2 fi b ft fi1 b1 ft1 fe (own.map (·.2)) ws1)) := by
  refine PS.weakI (ps_setLc2 (tt := tG X.K X.mg M E0 dnB ft) (wi1 := tG X.K X.mg M E0 (ItOk X.K X.mg) fi1) (tt1 := tG X.K X.mg M E0 dnB ft1) (te := tG X.K X.mg M E0 (dnD X.K X.mg) fe) hc hN hy hyl hsw hi ok hw hg ht hi1 hg1 ht1 he hs hs1) fun D σ H hl h => tLc2_of gok gok1 hT hT1 hw hM hl (tN_of_tG (tAsg_of (b := bName i) (T := [i]) (fun k hk z => ?_) (go_name ?_ hiM) hl h))
  · simp at z; exact hP (z ▸ hk)
  · exact (List.getElem?_eq_some_iff.mp hy).1
end
end DL

set_option Elab.async false
set_option linter.all false
set_option maxRecDepth 100000
set_option maxHeartbeats 4000000
namespace DL
open PySem PySem.Spec PyProof.Rows L2 TL PySem.W
/-! ### (*t, e) -/
def tStar (K : Frag) (te : TE) (t : TA) : TA := fun σ H Q => te σ H fun x H1 => ∃ a xs, x = .ref a ∧ SqT K H1 a xs ∧ t σ H1 fun ys H2 => Q (xs ++ ys) H2
theorem star_tuple {X : Cx} {a : Addr} {pins : List (Addr × Obj)} {σ : L2.St} {H : Hp} {s : Shared} {xs : List V} {Q : List Value → Shared → Prop} {E : Value → Shared → Prop} (I : Inv X pins σ H s) (h : SqT X.K H a xs)
    (q : ∀ its h', Vals xs its → Inv X pins σ H { s with heap := h' } → Q its { s with heap := h' }) : StarOf (model X.prog X.w) X.A E (.ref a) Q s := by
  obtain ⟨its, r, p, z⟩ := I.tuple h
  obtain ⟨o, ho, hc, n, hd⟩ := p
  have hT : s.TypeIs (.ref a) "tuple" := ⟨o, ho, hc⟩
  have c : wpAny (model X.prog X.w) X.A (collect (.ref a)) Q E s :=
    wpAny_collect_seq a (.inr rfl) ho hc hd (fun h' hk => by simpa using q its h' r (I.kept (t' := s.toks) hk)) (by simp; rw [← r.length]; exact z)
  unfold StarOf notIterableAtAll
  exact wpAny_bind (wpAny_specialOf hT PySem.F.slot_tuple_iter.lookup (wpAny_pure ⟨rfl, c⟩))
section
variable {X : Cx} {E : XK} {M : List Nat} {e : Expr} {p : Pos} {es : List Expr} {te : TE} {t : TA} {fe : EF} {fs : AF}
theorem pa_star (ha : PE X e te) (hr : PA X es t) (hs : starEach (.Starred e p :: es) X.env = (true, eval e X.env) :: starEach es X.env := by rfl) : PA X (.Starred e p :: es) (tStar X.K te t) := by
  intro pos pins s σ H Q I h
  refine items_star ?_ hs
  refine thn (ha pins s σ H _ I h) fun u s1 ⟨x, H1, I1, r1, q1⟩ => ?_
  obtain ⟨a, xs, rfl, hx, q1⟩ := q1
  cases r1
  refine star_tuple I1 hx fun its h' r I2 => ?_
  exact thn (hr pos pins _ σ H1 _ I2 q1) fun us s2 ⟨ys, H2, I3, r2, q2⟩ => ⟨xs ++ ys, H2, I3, r.append r2, q2⟩
def aStar (a : EF) (b : AF) : AF := fun ρ => (a ρ).bind fun p => match p.1 with
  | .tup ds => (b p.2).bind fun q => .ok (ds ++ q.1, q.2)
  | _ => .stuck
@[simp] theorem ap_aStar {a : EF} {b : AF} {ρ : Env} : aStar a b ρ = (a ρ).bind fun p => match p.1 with
  | .tup ds => (b p.2).bind fun q => .ok (ds ++ q.1, q.2)
  | _ => .stuck := rfl
theorem da_star (ha : DE X E M e fe) (hr : DA X E M es fs) (hs : starEach (.Starred e p :: es) X.env = (true, eval e X.env) :: starEach es X.env := by rfl) : DA X E M (.Starred e p :: es) (aStar fe fs) := by
  refine PA.weak (pa_star ha hr hs) fun σ H Q ⟨F, W, ρ, rel, h⟩ => ?_
  refine tG_of rel h fun d ρ1 v H1 F1 W1 rel1 dn1 st1 h1 => ?_
  cases d with
  | tup ds =>
    obtain ⟨a, vs, rfl, fa, hx, rv⟩ := id dn1
    refine ⟨a, vs, rfl, SqT.of hx, ?_⟩
    refine tG_of rel1 h1 fun ds2 ρ2 vs2 H2 F2 W2 rel2 dn2 st2 h2 => ?_
    exact post_ok h2 rel2 (Ext.refl rel2.fd) ((st2.denL rel1 rv).app dn2)
  | _ => exact False.elim h1
end
end DL

set_option Elab.async false
set_option linter.all false
set_option maxRecDepth 100000
set_option maxHeartbeats 4000000
namespace DL
open PySem PySem.Spec PyProof.Rows L2 TL PySem.W
/-! ### new tuples: of loose things and own names; a word and a new thing -/
section
variable {X : Cx} {E E' : XK} {M P : List Nat} {fr : Bool} {es : List Expr} {pos : Pos}
def eTupT (ks : List Ak) : EF := fun ρ => (axGo ks ρ).bind fun p => match fetch ks p.1 p.2 with
  | some ds => if (szOk ds.length && osLoose p.1) = true then .ok (.tup ds, killE ks p.2) else .stuck
  | none => .stuck
@[simp] theorem ap_eTupT {ks : List Ak} {ρ : DL.Env} : eTupT ks ρ = (axGo ks ρ).bind fun p => match fetch ks p.1 p.2 with
  | some ds => if (szOk ds.length && osLoose p.1) = true then .ok (.tup ds, killE ks p.2) else .stuck
  | none => .stuck := rfl
theorem dn_tupT {x1 : Nat} {p2 : Pos} {ks : List Ak} (ha : DAx X E M es ks) (nd : (slotsOf ks).Nodup) (hM : ∀ i ∈ slotsOf ks, i ∈ M) (hb : hasBo ks = false := by rfl) : DN X E M (.Tuple es x1 p2) (eTupT ks) := by
  refine PE.weak (pe_tup ha) fun σ H Q ⟨F, W, ρ, rel, h⟩ => ⟨F, W, ρ, rel, ?_⟩
  unfold eTupT at h
  cases eg : axGo ks ρ with
  | err c => rw [eg] at h; exact h
  | stuck => rw [eg] at h; exact h
  | ok p =>
  rw [eg] at h
  obtain ⟨os, ρ1⟩ := p
  intro vs H1 F1 W1 ⟨Rg, rel1⟩ ax st1
  simp only [R.bind_ok] at h
  cases ef : fetch ks os ρ1 with
  | none => rw [ef] at h; exact False.elim h
  | some ds =>
    rw [ef] at h
    by_cases hz : (szOk ds.length && osLoose os) = true
    · simp only [if_pos hz] at h
      rw [Bool.and_eq_true] at hz
      obtain ⟨l1, l2, _⟩ := ax_get ax ef
      refine ⟨by rw [l1, ← l2]; exact szOk_le hz.1, fun q nq => ?_⟩
      have ke : ∀ a o, H1 a = some o → upd H1 q (.tup vs) a = some o := fun a o e => by rw [upd_ne (ne_of_none e nq)]; exact e
      have ow := ax_own (F' := fun b => F1 b ∨ b = q) rel1 (fun a z => .inl z) ke nd hM hb hz.2 ax ef
      have nW : ¬ W1 q := fun z => by obtain ⟨o, e⟩ := rel1.wd q z; rw [nq] at e; cases e
      refine h (.ref q) (fun a => ∃ i, i ∈ slotsOf ks ∧ Rg i a) _ (fun b => F1 b ∨ b = q) (fun b => W1 b ∧ ¬ ∃ i, i ∈ slotsOf ks ∧ Rg i b) ⟨fun j b => Rg j b ∧ j ∉ slotsOf ks, fun j d hj e => ?_, fun j d hj e => ?_, fun j b z => ⟨rel1.rw j b z.1, fun ⟨i, hi, z'⟩ => z.2 (by rw [rel1.dj j i b z.1 z']; exact hi)⟩, fun j k b z z' => rel1.dj j k b z.1 z'.1, fun b fb wb => ?_, fun b fb => ?_, fun b wb => ?_⟩
        (.inl ⟨q, vs, rfl, .inr rfl, upd_same, ow⟩) (fun b ⟨i, hi, z⟩ fb => ?_) (fun b z wb => wb.2 z) (fun b ⟨i, hi, z⟩ => ?_) (st1.trans ⟨fun b z => .inl z, fun b o e _ => ke b o e, fun b z => ?_, fun b z => .inl z.1, fun b o e => ⟨o, ke b o e⟩⟩)
      · obtain ⟨e1, e2⟩ := kill_get e
        obtain ⟨v, ev, dn⟩ := rel1.sh j d hj e1
        exact ⟨v, ev, Den.mono (fun b z => .inl z) (fun b o _ => ke b o) _ _ dn⟩
      · obtain ⟨e1, e2⟩ := kill_get e
        obtain ⟨v, ev, dn⟩ := rel1.ow j d hj e1
        have nj : j ∉ slotsOf ks := fun z => e2 (slots_isIo hb z)
        refine ⟨v, ev, ?_⟩
        have eR : (fun b => Rg j b ∧ j ∉ slotsOf ks) = Rg j := funext fun b => propext ⟨fun z => z.1, fun z => ⟨z, nj⟩⟩
        rw [eR]
        exact dn.mono (fun b z => .inl z) (fun b o _ => ke b o) fun b o _ => ke b o
      · rcases fb with fb | rfl
        · exact rel1.fw b fb wb.1
        · exact nW wb.1
      · rcases fb with fb | rfl
        · obtain ⟨o, e⟩ := rel1.fd b fb; exact ⟨o, ke b o e⟩
        · exact ⟨_, upd_same⟩
      · obtain ⟨o, e⟩ := rel1.wd b wb.1; exact ⟨o, ke b o e⟩
      · rcases fb with fb | rfl
        · exact rel1.fw b fb (rel1.rw i b z)
        · exact nW (rel1.rw i b z)
      · exact st1.nw b (rel1.rw i b z)
      · rcases z with z | rfl
        · exact .inl z
        · exact .inr (.inr nq)
    · simp only [if_neg hz] at h
def eTag (c : Str) (f : EF) : EF := fun ρ => (f ρ).bind fun p => .ok (.tup [.str c, p.1], p.2)
@[simp] theorem ap_eTag {c : Str} {f : EF} {ρ : DL.Env} : eTag c f ρ = (f ρ).bind fun p => .ok (.tup [.str c, p.1], p.2) := rfl
theorem tag_of {K : Frag} {mg : Str → Option Value} {c : Str} {f : EF} {σ : L2.St} {H : Hp} {Q : VK} (h : tN K mg M E (eTag c f) σ H Q) : tN K mg M E f σ H (fun v H1 => [V.str c, v].length ≤ sizeLine ∧ ∀ p, H1 p = none → Q (.ref p) (upd H1 p (.tup [V.str c, v]))) := by
  obtain ⟨F, W, ρ, rel, h⟩ := h
  refine ⟨F, W, ρ, rel, ?_⟩
  unfold eTag at h
  cases ef : f ρ with
  | err c => rw [ef] at h; exact h
  | stuck => rw [ef] at h; exact h
  | ok p =>
    rw [ef] at h
    intro v N H' F' W' rel' ow nf nw hn st
    refine ⟨by rw [sizeLine_eq]; show 2 ≤ 16777216; decide, fun q nq => ?_⟩
    have ke : ∀ a o, H' a = some o → upd H' q (.tup [V.str c, v]) a = some o := fun a o e => by rw [upd_ne (ne_of_none e nq)]; exact e
    obtain ⟨R, r⟩ := rel'
    have nW : ¬ W' q := fun z => by obtain ⟨o, e⟩ := r.wd q z; rw [nq] at e; cases e
    have nN : ¬ N q := fun z => by obtain ⟨o, e⟩ := OwnI.there ow q z; rw [nq] at e; cases e
    have hd : OwnL K mg (fun b => F' b ∨ b = q) (upd H' q (.tup [V.str c, v])) N [.str c, p.1] [V.str c, v] := by
      refine ⟨V.str c, [v], fun _ => False, N, rfl, fun b => ⟨fun z => .inr z, fun z => z.elim (fun z => z.elim) id⟩, fun _ z => z.elim, .inr ⟨rfl, fun _ z => z, rfl⟩, v, [], N, fun _ => False, rfl, fun b => ⟨fun z => .inl z, fun z => z.elim id fun z => z.elim⟩, fun _ _ z => z, ?_, rfl, fun _ z => z⟩
      rcases ow with ow | ⟨lo, n0, dn⟩
      · exact .inl (ow.mono (fun b z => .inl z) (fun b o _ => ke b o) fun b o _ => ke b o)
      · exact .inr ⟨lo, n0, Den.mono (fun b z => .inl z) (fun b o _ => ke b o) _ _ dn⟩
    refine h (.ref q) N _ (fun b => F' b ∨ b = q) W' ⟨R, fun j d hj e => ?_, fun j d hj e => ?_, r.rw, r.dj, fun b fb wb => ?_, fun b fb => ?_, fun b wb => ?_⟩ (.inl ⟨q, _, rfl, .inr rfl, upd_same, hd⟩) (fun b z fb => ?_) nw hn (st.trans ⟨fun b z => .inl z, fun b o e _ => ke b o e, fun b z => ?_, fun b z => .inl z, fun b o e => ⟨o, ke b o e⟩⟩)
    · obtain ⟨u, ev, dn⟩ := r.sh j d hj e
      exact ⟨u, ev, Den.mono (fun b z => .inl z) (fun b o _ => ke b o) _ _ dn⟩
    · obtain ⟨u, ev, dn⟩ := r.ow j d hj e
      exact ⟨u, ev, dn.mono (fun b z => .inl z) (fun b o _ => ke b o) fun b o _ => ke b o⟩
    · rcases fb with fb | rfl
      · exact r.fw b fb wb
      · exact nW wb
    · rcases fb with fb | rfl
      · obtain ⟨o, e⟩ := r.fd b fb; exact ⟨o, ke b o e⟩
      · exact ⟨_, upd_same⟩
    · obtain ⟨o, e⟩ := r.wd b wb; exact ⟨o, ke b o e⟩
    · rcases fb with fb | rfl
      · exact nf b z fb
      · exact nN z
    · rcases z with z | rfl
      · exact .inl z
      · exact .inr (.inr nq)
/-! ### what may raise and tells a new thing -/
def DNx (X : Cx) (E' : XK) (M : List Nat) (e : Expr) (f : EF) : Prop :=
  ∀ (pins : List (Addr × Obj)) (s : Shared) (σ : L2.St) (H : Hp) (Q : VK), Inv X pins σ H s → tN X.K X.mg M E' f σ H Q → wpAny (model X.prog X.w) X.A (eval e X.env) (EP X pins σ Q) (XP X pins σ E') s
theorem dnx_cal {k : Nat} {ps : List Str} {x : Str} {p pos : Pos} {e : Expr} {es : List Expr} {ks : List Ak} {f : Fn} (c : CalD X.prog X.w X.K X.mg X.base k x ps P true f) (hr : Room k X.A) (hg : Gl X x) (ha : ∀ xe, DAx (X.wish xe) E0 M (e :: es) ks)
    (ok : KsOk M P ks) (hn : ks.length = ps.length) (hdb : (x == ("__debug__" : Str)) = false := by decide) (he : starEach (e :: es) X.env = (false, eval e X.env) :: starEach es X.env := by rfl) (hpl : (backTo pos (starEach es X.env)).any (·.1) = false := by rfl) :
    DNx X E' M (.Call (.Name x p) (e :: es) [] pos) (eCallT true ks f) := by
  obtain ⟨fa, fd, hm, hk, hb, _, Fk⟩ := c
  intro pins s σ H Q I ⟨F, W, ρ, rel, h⟩
  have key : tG X.K X.mg M E0 (fun F H => AxRel X.K X.mg σ F H ks) (axGo ks) σ H (fun vs H1 => spD X.K X.mg P ps.length true f vs H1 Q E') := by
    refine ⟨F, W, ρ, rel, ?_⟩
    unfold eCallT at h
    cases eg : axGo ks ρ with
    | err c => rw [eg] at h; exact False.elim h
    | stuck => rw [eg] at h; unfold eCall at h; rw [eg] at h; exact h
    | ok q =>
      rw [eg] at h
      unfold eCall at h
      rw [eg] at h
      intro vs H1 F1 W1 rel1 ax st1
      refine call_of (fr := true) ok hn rel1 ax ?_
      cases ef : fetch ks q.1 q.2 with
      | none => simp only [R.bind_ok, ef] at h
      | some ds =>
        simp only [R.bind_ok, ef] at h
        dsimp only
        generalize ((f ds).bind fun r => if okOut true ks r.1 r.2 = true then .ok (r.1, backE ks 0 r.2 q.2) else .stuck : R (D × DL.Env)) = r at h ⊢
        cases r with
        | stuck => exact h
        | err c => exact fun C H' F' W' e s => h C H' F' W' e (st1.trans s)
        | ok p =>
          have h : NwOk X.K X.mg M F W σ H p.2 p.1 Q := h
          have h := tN_step h st1
          exact fun v N H' F' W' rel' ok hn st => h v N H' F' W' rel' ok.1 ok.2.1 ok.2.2 hn st
  refine wpAny_Call_Name_kw (ld_glob I hg hm ?_ hdb)
  refine PySem.W.callWith_K (h₀ := X.base) I.ok.mod.kin hk (thn (ha (XP X pins σ E') pos pins s σ H _ (I.wish _) key) fun us s1 ⟨vs, H1, I1, r, q⟩ => ⟨I1.kIn, ?_⟩) he hpl
  exact run_fnX Fk hr (.all hb) I1.unwish r q
theorem dnx_tag {c : Str} {kd : Nat} {p1 p2 : Pos} {x1 : Nat} {e : Expr} {f : EF} (he : DNx X E' M e f) (hs : starEach [.Constant (.str c) kd p1, e] X.env = [(false, eval (.Constant (.str c) kd p1) X.env), (false, eval e X.env)] := by rfl) :
    DNx X E' M (.Tuple [.Constant (.str c) kd p1, e] x1 p2) (eTag c f) := by
  intro pins s σ H Q I h
  refine wpAny_Tuple_spliced ?_
  rw [hs]
  show wpAny _ _ (spliced ((false, eval (.Constant (.str c) kd p1) X.env) :: (false, eval e X.env) :: [])) _ _ s
  refine Calls.spliced_cons (Calls.Constant_str (Calls.spliced_cons (thn (he pins _ σ H _ (I.tok _) (tag_of h)) fun u s1 ⟨x, H1, I1, r1, z, q1⟩ => ?_)))
  refine Calls.spliced_nil ⟨by rw [sizeLine_eq]; show 2 ≤ 16777216; decide, ?_⟩
  have hf : H1 s1.heap.objs.size = none := I1.hok.fresh (Nat.le_refl _)
  refine ⟨.ref s1.heap.objs.size, upd H1 s1.heap.objs.size (.tup [V.str c, x]), I1.laid (t' := s1.toks) (fun b u e => Heap.get?_push_of_some _ e) (Nat.le_refl _) ?_, rfl, q1 _ hf⟩
  exact ⟨z, [Value.str c s.toks, u], .cons ⟨_, rfl⟩ (.cons r1 .nil), ⟨_, Heap.get?_push_size _ rfl, rfl, _, rfl⟩⟩
/-- x = what may raise, x one's own -/
theorem dsx_setO {i : Nat} {x : Str} {pos pos' : Pos} {e : Expr} {fe : EF} (hN : X.N.Nodup) (hi : X.N[i]? = some x) (hx : Loc X.env.scope x) (hM : i ∈ M) (hP : i ∉ P) (he : DNx X E' M e fe)
    (hs : swapsWith e (some (.Name x pos')) pos.line X.env = pure false := by rfl) (hf : X.fn x = true ∨ X.env.scope.names.lookup x = some .local := by first | exact .inl rfl | exact .inr rfl | assumption) : DSx X E' M P fr [.Assign [.Name x pos'] e pos] (sSetO i fe) := by
  intro pins s σ H D I h
  have hl : σ.length = X.N.length := I.len
  have t := tAsgN_of (X := X) (ix_lt hi) hM hP hl h
  refine wpAny_execs_cons (wpAny_Assign_Name (thn (he pins s σ H _ I t) fun v s1 ⟨y, H1, I1, r1, q1⟩ => ?_) hs)
  exact store_ok I1 hN hi hx r1 (fun s2 I2 => wpAny_execs_nil ⟨_, H1, I2, q1⟩) hf
/-! ### x[k].method(), x an own tuple -/
theorem de_mutT0 {i k : Nat} {o : Expr} {m : Str} {apos cpos : Pos} {r : V → List V → Hp → VK → Prop} {g : D → List D → Option (D × D)} (md : MutD X.K X.mg r g) (hi : i ∈ M)
    (h : PE X (.Call (.Attribute o m apos) [] [] cpos) (tBM0 X.K "list" r (tOp (rIx X.K) (tVar i) (tC (.int (k : Nat)))))) : DE X E M (.Call (.Attribute o m apos) [] [] cpos) (eMutT i k g aNil) := by
  refine PE.weak h fun σ H Q ⟨F, W, ρ, ⟨Rg, rel⟩, h⟩ => ?_
  unfold eMutT at h
  split at h
  · rename_i ds0 er
    split at h
    · rename_i es0 ek
      obtain ⟨v, ev, a, vs0, rfl, fa, ha, owl⟩ := rel.ow i _ hi er
      obtain ⟨b, ws, eb, rb, hb, dn2, up⟩ := OwnL.at' _ _ _ _ _ owl ek
      have h : post X.K X.mg M E (dnD X.K X.mg) F W σ H (match ρ[i]? with
        | some (some (.tup ds)) => match ds[k]? with
          | some (.lst es) => match g (.lst es) [] with
            | some (z, .lst es') => .ok (z, ρ.set i (some (.tup (ds.set k (.lst es')))))
            | _ => .stuck
          | _ => .stuck
        | _ => .stuck) Q := h
      rw [er] at h
      dsimp only at h
      rw [ek] at h
      dsimp only at h
      have hat : atI vs0 (k : Int) = some (.ref b) := by rw [atI_nat]; exact eb
      refine ⟨.ref a, ev, .inr (.inl ⟨a, vs0, k, .ref b, rfl, rfl, SqT.of ha, hat, .inl ⟨rfl, _, SqL.of hb⟩, ?_⟩)⟩
      split at h
      · rename_i z es' eg
        have nf : ¬ F b := fun fb => rel.fw b fb (rel.rw i b rb)
        refine md F H b (.lst es0) [] [] z (.lst es') Q nf ⟨b, ws, rfl, fun c => Iff.rfl, hb, dn2⟩ denL_nil eg fun u o ow2 dn3 => ?_
        obtain ⟨b2, ws2, eb2, _, hb2, dn4⟩ := ow2
        cases eb2
        have eo : o = .lst ws2 := by rw [upd_same] at hb2; exact Option.some.inj hb2
        subst eo
        have ha2 : upd H b (.lst ws2) a = some (.tup vs0) := by
          have ne : a ≠ b := fun e => nf (e ▸ fa)
          rw [upd_ne ne]; exact ha
        exact h u _ F W ⟨Rg, rel.chgT hi ev rb ⟨a, vs0, rfl, fa, ha2, up ws2 es' nf dn4⟩⟩ dn3 (step_updT (rel.rw i b rb))
      · exact False.elim h
    · exact False.elim h
  · exact False.elim h
end
end DL
namespace DL
open PySem PySem.Spec PyProof.Rows L2 TL PySem.W
theorem dn_non {X : Cx} {E : XK} {M : List Nat} {j : Nat} {pos : Pos} : DN X E M (.Constant .none j pos) (eC .non) := by
  refine PE.weak pe_non fun σ H Q ⟨F, W, ρ, rel, h⟩ => ?_
  exact h .non (fun _ => False) H F W rel (.inl ⟨rfl, fun _ z => z⟩) (fun _ z => z.elim) (fun _ z => z.elim) (fun _ z => z.elim) (Step.refl _ _ _)
end DL

set_option Elab.async false
set_option linter.all false
set_option maxRecDepth 100000
set_option maxHeartbeats 4000000
namespace G
open PySem L2 DL
noncomputable section
def exAll : List Str := ["FallError", "NoNumber", "CantBe", "NoTiming"]
-- is_whole(thing)
abbrev n_is_whole : List Str := ["thing"]
def g_is_whole : SF :=
    (sRet (eAnd (eN gIsI (aCons (eVar 0) (aCons (eC (.ty "int")) aNil))) (eNot (eN gIsI (aCons (eVar 0) (aCons (eC (.ty "bool")) aNil))))))
def F_is_whole : Fn := runF [] 1 1 g_is_whole
-- is_whole_within(thing, least, most)
abbrev n_is_whole_within : List Str := ["thing", "least", "most"]
def g_is_whole_within : SF :=
    (sRet (eAnd (eCall false (.sh (eVar 0) :: []) F_is_whole) (eChain gLe gLe (eVar 1) (eVar 0) (eVar 2))))
def F_is_whole_within : Fn := runF [] 3 3 g_is_whole_within
-- refuse_no_span(n, m)
abbrev n_refuse_no_span : List Str := ["n", "m"]
def g_refuse_no_span : SF :=
    (sSeq (sIf (bNot (bVal (eCall false (.sh (eVar 0) :: (.sh (eC (.int 1)) :: (.sh (eC (.int 3)) :: []))) F_is_whole_within))) (sRaise "NoNumber" (aCons (eC (.str "normal rows have from 1 to 3 ways in")) aNil)) sNil)
    (sIf (bNot (bVal (eCall false (.sh (eVar 1) :: (.sh (eC (.int 0)) :: (.sh (eC (.int 3)) :: []))) F_is_whole_within))) (sRaise "NoNumber" (aCons (eC (.str "a span is from 0 to 3")) aNil)) sNil))
def F_refuse_no_span : Fn := runF [] 2 2 g_refuse_no_span
-- normal_rows(n, m)
abbrev n_normal_rows : List Str := ["n", "m", "things", "rows", "way", "row", "thing"]
def g_normal_rows : SF :=
    (sSeq (sDrop (eCall false (.sh (eVar 0) :: (.sh (eVar 1) :: [])) F_refuse_no_span))
    (sSeq (sSet 2 (e2 gAdd (eN gListRng (aCons (e2 gAdd (eVar 1) (eC (.int 1))) aNil)) (eN gLstN (aCons (eC .non) aNil))))
    (sSeq (sSet 3 (eN gLstN (aCons (eN gTupN aNil) aNil)))
    (sSeq (sFor (iRange1 (aCons (eVar 0) aNil)) (bName 4) (sSet 3 (eLc2 (iAny (eVar 3)) (bName 5) bTrue (iAny (eVar 2)) (bName 6) bTrue (eN gTupN (aStar (eVar 5) (aCons (eVar 6) aNil))) [5, 6] [6])))
    (sRet (eLc (iAny (eVar 3)) (bName 5) (bVal (e2 gIn (eC (.int 0)) (eVar 5))) (eVar 5) [5]))))))
def F_normal_rows : Fn := runF [] 7 2 g_normal_rows
-- _law_cell(_law_script, _law_k)
abbrev n_l_cell : List Str := ["_law_script", "_law_k"]
def g_l_cell : SF :=
    (sSeq (sIf (bVal (e2 gLt (eVar 1) (eN gLen (aCons (eVar 0) aNil)))) (sRet (e2 gIx (eVar 0) (eVar 1))) sNil)
    (sRet (eC (.int 0))))
def F_l_cell : Fn := runF [] 2 2 g_l_cell
-- _law_pot(_law_script, _law_k)
abbrev n_l_pot : List Str := ["_law_script", "_law_k", "_law_cell_here"]
def g_l_pot : SF :=
    (sSeq (sSet 2 (eCall false (.sh (eVar 0) :: (.sh (eVar 1) :: [])) F_l_cell))
    (sRet (eN gLstN (aCons (eN gMax2 (aCons (eC (.int 0)) (aCons (e2 gSub (eVar 2) (e2 gPow (eC (.int 10)) (eC (.int 18)))) aNil))) (aCons (e2 gAdd (e2 gMod (e2 gPow (e2 gAdd (e2 gAdd (e2 gMod (eN gAbs (aCons (eVar 2) aNil)) (eC (.int 2147483629))) (e2 gMul (eC (.int 104729)) (eVar 1))) (eC (.int 31))) (eC (.int 3))) (eC (.int 2147483587))) (eC (.int 1))) aNil)))))
def F_l_pot : Fn := runF [] 3 2 g_l_pot
-- _law_draw(_law_pot_here, _law_many)
abbrev n_l_draw : List Str := ["_law_pot_here", "_law_many", "_law_digit"]
def g_l_draw : SF :=
    (sSeq (sIf (bVal (e2 gGt (eIxO 0 (eC (.int 0))) (eC (.int 0)))) (sSeq (sAsg (bTup 2 (bCons (bSub 0 (eC (.int 0))) (bCons (bName 2) bNil))) (eN gDivmod (aCons (eIxO 0 (eC (.int 0))) (aCons (eVar 1) aNil))))
    (sRet (eVar 2))) sNil)
    (sSeq (sAsg (bSub 0 (eC (.int 1))) (e2 gMod (e2 gAdd (e2 gMul (eIxO 0 (eC (.int 1))) (eC (.int 48271))) (eC (.int 11))) (eC (.int 2147483647))))
    (sRet (e2 gMod (e2 gFdiv (e2 gMod (e2 gMul (eIxO 0 (eC (.int 1))) (eIxO 0 (eC (.int 1)))) (eC (.int 2147483629))) (eC (.int 5))) (eVar 1)))))
def F_l_draw : Fn := runF [0] 3 2 g_l_draw
-- _law_rows(_law_n, _law_m)
abbrev n_l_rows : List Str := ["_law_n", "_law_m", "_law_total", "_law_k", "_law_found", "_law_number", "_law_row", "_law_digit"]
def g_l_rows : SF :=
    (sSeq (sSet 2 (eC (.int 1)))
    (sSeq (sFor (iRange1 (aCons (eVar 0) aNil)) (bName 3) (sSet 2 (e2 gMul (eVar 2) (e2 gAdd (eVar 1) (eC (.int 2))))))
    (sSeq (sSetO 4 (eN gLstN aNil))
    (sSeq (sFor (iRange1 (aCons (eVar 2) aNil)) (bName 5) (sSeq (sSet 6 (eN gTupN aNil))
    (sSeq (sFor (iRange1 (aCons (eVar 0) aNil)) (bName 3) (sSeq (sAsg (bTup 2 (bCons (bName 5) (bCons (bName 7) bNil))) (eN gDivmod (aCons (eVar 5) (aCons (e2 gAdd (eVar 1) (eC (.int 2))) aNil))))
    (sSet 6 (e2 gAdd (eN gTupN (aCons (e2 gIx (eN gLstN (aCons (eVar 7) (aCons (eC .non) aNil))) (eN gInt (aCons (e2 gGt (eVar 7) (eVar 1)) aNil))) aNil)) (eVar 6)))))
    (sIf (bVal (e2 gIn (eC (.int 0)) (eVar 6))) (sDrop (eMut 4 isL gAppend (aCons (eVar 6) aNil))) sNil))))
    (sRetO 4)))))
def F_l_rows : Fn := runF [] 8 2 g_l_rows
-- _law_multiplied(_law_number, _law_many)
abbrev n_l_multiplied : List Str := ["_law_number", "_law_many", "_law_found", "_law_turn"]
def g_l_multiplied : SF :=
    (sSeq (sSet 2 (eC (.int 1)))
    (sSeq (sFor (iRange1 (aCons (eVar 1) aNil)) (bName 3) (sSet 2 (e2 gMul (eVar 2) (eVar 0))))
    (sRet (eVar 2))))
def F_l_multiplied : Fn := runF [] 4 2 g_l_multiplied
-- _law_odd(_law_pot_here, _law_many)
abbrev n_l_odd : List Str := ["_law_pot_here", "_law_many", "_law_some"]
def g_l_odd : SF :=
    (sSeq (sSet 2 (eN gLstN (aCons (e2 gSub (e1 gNeg (eC (.int 1))) (eCall false (.io 0 :: (.sh (eC (.int 9)) :: [])) F_l_draw)) (aCons (e2 gAdd (eC (.int 4)) (eCall false (.io 0 :: (.sh (eC (.int 9)) :: [])) F_l_draw)) (aCons (e2 gPow (eC (.int 10)) (eC (.int 29))) (aCons (eC (.bl true)) (aCons (eC (.bl false)) (aCons (eC .non) (aCons (eC (.str "1")) (aCons (eN gTupN (aCons (eC (.int 1)) aNil)) (aCons (eN gLstN aNil) (aCons (eC (.dic false [])) (aCons (eC (.str "")) (aCons (eN gLstN (aCons (eC (.int 2)) aNil)) aNil))))))))))))))
    (sRet (e2 gIx (e2 gAdd (eVar 2) (e2 gMul (eN gLstN (aCons (eC (.int 0)) aNil)) (eVar 1))) (eCall false (.io 0 :: (.sh (e2 gAdd (eN gLen (aCons (eVar 2) aNil)) (eVar 1)) :: [])) F_l_draw))))
def F_l_odd : Fn := runF [0] 3 2 g_l_odd
-- _law_told(_law_n, _law_m)
abbrev n_l_told : List Str := ["_law_n", "_law_m", "_law_found", "e", "_law_kinds"]
def g_l_told : SF :=
    (sSeq (sSetO 2 (eC .non))
    (sSeq (sTry [2, 4] (fun c => decide (c ∈ exAll)) 3 (sSetO 2 (eTag "rows" (eCallT true (.sh (eVar 0) :: (.sh (eVar 1) :: [])) F_normal_rows))) (sSeq (sSetO 4 (eN gLstN (aCons (eN (gIsX exAll) (aCons (eVar 3) (aCons (eC (.cls "NoNumber")) aNil))) (aCons (eN (gIsX exAll) (aCons (eVar 3) (aCons (eC (.cls "NoTiming")) aNil))) (aCons (eN (gIsX exAll) (aCons (eVar 3) (aCons (eC (.cls "CantBe")) aNil))) (aCons (eN (gIsX exAll) (aCons (eVar 3) (aCons (eC (.ty "ValueError")) aNil))) aNil))))))
    (sSetO 2 (eTupT (.sh (eC (.str "refused")) :: (.io 4 :: []))))))
    (sRetO 2)))
def F_l_told : Fn := runF [] 5 2 g_l_told
-- law(_law_script)
abbrev n_law : List Str := ["_law_script", "_law_k", "_law_pot_here", "_law_way", "_law_n", "_law_m", "_law_due", "_law_turn", "_law_odd_here", "_law_told_here"]
def g_law : SF :=
    (sSeq (sFor (iRange1 (aCons (eN gMax2 (aCons (eC (.int 1)) (aCons (eN gMin2 (aCons (eN gLen (aCons (eVar 0) aNil)) (aCons (eC (.int 8)) aNil))) aNil))) aNil)) (bName 1) (sSeq (sSetO 2 (eCall true (.sh (eVar 0) :: (.sh (eVar 1) :: [])) F_l_pot))
    (sSeq (sSet 3 (eCall false (.io 2 :: (.sh (eC (.int 3)) :: [])) F_l_draw))
    (sSeq (sPar 4 5 (aCons (e2 gAdd (eC (.int 1)) (eCall false (.io 2 :: (.sh (eC (.int 3)) :: [])) F_l_draw)) (aCons (eCall false (.io 2 :: (.sh (eC (.int 4)) :: [])) F_l_draw) aNil)))
    (sSeq (sSet 6 (eCall true (.sh (eVar 4) :: (.sh (eVar 5) :: [])) F_l_rows))
    (sSeq (sIf (bVal (e2 gNe (eN gLen (aCons (eVar 6) aNil)) (e2 gSub (eCall false (.sh (e2 gAdd (eVar 5) (eC (.int 2))) :: (.sh (eVar 4) :: [])) F_l_multiplied) (eCall false (.sh (e2 gAdd (eVar 5) (eC (.int 1))) :: (.sh (eVar 4) :: [])) F_l_multiplied)))) (sRet (eC (.bl false))) sNil)
    (sSeq (sFor (iRange1 (aCons (eC (.int 2)) aNil)) (bName 7) (sSeq (sSetO 9 (eCall true (.sh (eVar 4) :: (.sh (eVar 5) :: [])) F_l_told))
    (sSeq (sIf (bVal (e2 gNe (eLend (eN gRepr (aCons (eVar 9) aNil))) (eN gRepr (aCons (eN gTupN (aCons (eC (.str "rows")) (aCons (eVar 6) aNil))) aNil)))) (sRet (eC (.bl false))) sNil)
    (sSeq (sDrop (eMutT 9 1 gReverse aNil))
    (sDrop (eMutT 9 1 gPop aNil))))))
    (sSeq (sSet 8 (e2 gIx (eN gLstN (aCons (eN gTupN (aCons (eCall false (.io 2 :: (.sh (eC (.int 1)) :: [])) F_l_odd) (aCons (eVar 5) aNil))) (aCons (eN gTupN (aCons (eVar 4) (aCons (eCall false (.io 2 :: (.sh (eC (.int 0)) :: [])) F_l_odd) aNil))) (aCons (eN gTupN (aCons (eCall false (.io 2 :: (.sh (eC (.int 1)) :: [])) F_l_odd) (aCons (eCall false (.io 2 :: (.sh (eC (.int 0)) :: [])) F_l_odd) aNil))) aNil)))) (eVar 3)))
    (sSeq (sIf (bVal (e2 gNe (eCall true (.sh (e2 gIx (eVar 8) (eC (.int 0))) :: (.sh (e2 gIx (eVar 8) (eC (.int 1))) :: [])) F_l_told) (eN gTupN (aCons (eC (.str "refused")) (aCons (eN gLstN (aCons (eC (.bl true)) (aCons (eC (.bl false)) (aCons (eC (.bl false)) (aCons (eC (.bl true)) aNil))))) aNil))))) (sRet (eC (.bl false))) sNil)
    (sIf (bVal (e2 gNe (eN gRepr (aCons (eCall true (.sh (eVar 4) :: (.sh (eVar 5) :: [])) F_l_told) aNil)) (eN gRepr (aCons (eN gTupN (aCons (eC (.str "rows")) (aCons (eVar 6) aNil))) aNil)))) (sRet (eC (.bl false))) sNil))))))))))
    (sRet (eC (.bl true))))
def F_law : Fn := runF [] 10 1 g_law
end
end G

set_option Elab.async false
set_option linter.all false
set_option maxRecDepth 100000
set_option maxHeartbeats 4000000
namespace G
open PySem
def top (i : Nat) : Stmt := PySem.Challenge.pw_fallstones_k81_normal_rows.main.body.getD i (.Pass ⟨0, 0, 0, 0⟩)
abbrev s_is_whole : Stmt := top 6
abbrev s_is_whole_within : Stmt := top 7
abbrev s_refuse_no_span : Stmt := top 11
abbrev s_normal_rows : Stmt := top 12
abbrev s_l_cell : Stmt := top 14
abbrev s_l_pot : Stmt := top 15
abbrev s_l_draw : Stmt := top 16
abbrev s_l_rows : Stmt := top 17
abbrev s_l_multiplied : Stmt := top 18
abbrev s_l_odd : Stmt := top 19
abbrev s_l_told : Stmt := top 20
abbrev s_law : Stmt := top 21
end G

set_option Elab.async false
set_option linter.all false
set_option maxRecDepth 10000
namespace DL
open PySem L2
structure BE (X : L2.Cx) (E : L2.XK) (M : List.{0} Nat) (e : PySem.Expr) (f : DL.Env → DL.R (Prod.{0, 0} DL.D DL.Env)) : Prop where
  h : DL.DE X E M e f
structure BT (X : L2.Cx) (E : L2.XK) (M : List.{0} Nat) (e : PySem.Expr) (f : DL.Env → DL.R (Prod.{0, 0} Bool DL.Env)) : Prop where
  h : DL.DT X E M e f
structure BW (X : L2.Cx) (E : L2.XK) (M : List.{0} Nat) (e : PySem.Expr) (f : DL.Env → DL.R (Prod.{0, 0} Bool DL.Env)) : Prop where
  h : DL.DW X E M e f
structure BA (X : L2.Cx) (E : L2.XK) (M : List.{0} Nat) (es : List.{0} PySem.Expr) (f : DL.Env → DL.R (Prod.{0, 0} (List.{0} DL.D) DL.Env)) : Prop where
  h : DL.DA X E M es f
structure BS (X : L2.Cx) (E : L2.XK) (M : List.{0} Nat) (P : List.{0} Nat) (fr : Bool) (st : PySem.Stmt) (f : DL.SF) : Prop where
  h : DL.DS X E M P fr st f
structure BSs (X : L2.Cx) (E : L2.XK) (M : List.{0} Nat) (P : List.{0} Nat) (fr : Bool) (st : List.{0} PySem.Stmt) (f : DL.SF) : Prop where
  h : DL.DSs X E M P fr st f
structure BN (X : L2.Cx) (E : L2.XK) (M : List.{0} Nat) (e : PySem.Expr) (f : DL.EF) : Prop where
  h : DL.DN X E M e f
structure BI (X : L2.Cx) (E : L2.XK) (M : List.{0} Nat) (tg : PySem.Expr) (iter : PySem.Expr) (f : DL.AF) : Prop where
  h : DL.DI X E M tg iter f
structure BTs (X : L2.Cx) (E : L2.XK) (M : List.{0} Nat) (ifs : List.{0} PySem.Expr) (f : DL.BF) : Prop where
  h : DL.DTs X E M ifs f
structure BAx (X : L2.Cx) (E : L2.XK) (M : List.{0} Nat) (es : List.{0} PySem.Expr) (ks : List.{0} DL.Ak) : Prop where
  h : DL.DAx X E M es ks
structure BP (X : L2.Cx) (E : L2.XK) (M : List.{0} Nat) (lo : Option.{0} PySem.Expr) (f : DL.PF) : Prop where
  h : DL.DP X E M lo f
structure BPs (X : L2.Cx) (E : L2.XK) (M : List.{0} Nat) (pos : PySem.Pos) (keys : List.{0} (Option.{0} PySem.Expr)) (values : List.{0} PySem.Expr) (fs : List.{0} (Prod.{0, 0} DL.EF DL.EF)) : Prop where
  h : DL.DPs X E M pos keys values fs
theorem b_DN_de {X : L2.Cx} {E : L2.XK} {M : List.{0} Nat} {e : PySem.Expr} {fe : DL.EF} (h : DL.BN X E M e fe) : DL.BE X E M e fe := ⟨@DL.DN.de X E M e fe h.h⟩
theorem b_da_cons {X : L2.Cx} {E : L2.XK} {M : List.{0} Nat} {e : PySem.Expr} {es : List.{0} PySem.Expr} {fe : DL.EF} {fs : DL.AF} (ha : DL.BE X E M e fe) (hr : DL.BA X E M es fs) (hs : @Eq.{1} (List.{0} (Prod.{0, 0} Bool (PySem.Sem PySem.Value))) (PySem.starEach (@List.cons.{0} PySem.Expr e es) (L2.Cx.env X)) (@List.cons.{0} (Prod.{0, 0} Bool (PySem.Sem PySem.Value)) (@Prod.mk.{0, 0} Bool (PySem.Sem PySem.Value) Bool.false (PySem.eval e (L2.Cx.env X))) (PySem.starEach es (L2.Cx.env X))) := by rfl) : DL.BA X E M (@List.cons.{0} PySem.Expr e es) (DL.aCons fe fs) := ⟨@DL.da_cons X E M e es fe fs ha.h hr.h hs⟩
theorem b_da_nil {X : L2.Cx} {E : L2.XK} {M : List.{0} Nat} : DL.BA X E M (@List.nil.{0} PySem.Expr) DL.aNil := ⟨@DL.da_nil X E M⟩
theorem b_da_star {X : L2.Cx} {E : L2.XK} {M : List.{0} Nat} {e : PySem.Expr} {p : PySem.Pos} {es : List.{0} PySem.Expr} {fe : DL.EF} {fs : DL.AF} (ha : DL.BE X E M e fe) (hr : DL.BA X E M es fs) (hs : @Eq.{1} (List.{0} (Prod.{0, 0} Bool (PySem.Sem PySem.Value))) (PySem.starEach (@List.cons.{0} PySem.Expr (PySem.Expr.Starred e p) es) (L2.Cx.env X)) (@List.cons.{0} (Prod.{0, 0} Bool (PySem.Sem PySem.Value)) (@Prod.mk.{0, 0} Bool (PySem.Sem PySem.Value) Bool.true (PySem.eval e (L2.Cx.env X))) (PySem.starEach es (L2.Cx.env X))) := by rfl) : DL.BA X E M (@List.cons.{0} PySem.Expr (PySem.Expr.Starred e p) es) (DL.aStar fe fs) := ⟨@DL.da_star X E M e p es fe fs ha.h hr.h hs⟩
theorem b_dax_io {X : L2.Cx} {E : L2.XK} {M : List.{0} Nat} {es : List.{0} PySem.Expr} {ks : List.{0} DL.Ak} {x : PySem.Str} {p : PySem.Pos} {i : Nat} (h : L2.PE X (PySem.Expr.Name x p) (L2.tVar i)) (hi : @Membership.mem.{0, 0} Nat (List.{0} Nat) (@List.instMembership.{0} Nat) M i) (hr : DL.BAx X E M es ks) (hs : @Eq.{1} (List.{0} (Prod.{0, 0} Bool (PySem.Sem PySem.Value))) (PySem.starEach (@List.cons.{0} PySem.Expr (PySem.Expr.Name x p) es) (L2.Cx.env X)) (@List.cons.{0} (Prod.{0, 0} Bool (PySem.Sem PySem.Value)) (@Prod.mk.{0, 0} Bool (PySem.Sem PySem.Value) Bool.false (PySem.eval (PySem.Expr.Name x p) (L2.Cx.env X))) (PySem.starEach es (L2.Cx.env X))) := by rfl) : DL.BAx X E M (@List.cons.{0} PySem.Expr (PySem.Expr.Name x p) es) (@List.cons.{0} DL.Ak (DL.Ak.io i) ks) := ⟨@DL.dax_io X E M es ks x p i h hi hr.h hs⟩
theorem b_dax_nil {X : L2.Cx} {E : L2.XK} {M : List.{0} Nat} : DL.BAx X E M (@List.nil.{0} PySem.Expr) (@List.nil.{0} DL.Ak) := ⟨@DL.dax_nil X E M⟩
theorem b_dax_sh {X : L2.Cx} {E : L2.XK} {M : List.{0} Nat} {e : PySem.Expr} {es : List.{0} PySem.Expr} {ks : List.{0} DL.Ak} {fe : DL.EF} (he : DL.BE X E M e fe) (hr : DL.BAx X E M es ks) (hs : @Eq.{1} (List.{0} (Prod.{0, 0} Bool (PySem.Sem PySem.Value))) (PySem.starEach (@List.cons.{0} PySem.Expr e es) (L2.Cx.env X)) (@List.cons.{0} (Prod.{0, 0} Bool (PySem.Sem PySem.Value)) (@Prod.mk.{0, 0} Bool (PySem.Sem PySem.Value) Bool.false (PySem.eval e (L2.Cx.env X))) (PySem.starEach es (L2.Cx.env X))) := by rfl) : DL.BAx X E M (@List.cons.{0} PySem.Expr e es) (@List.cons.{0} DL.Ak (DL.Ak.sh fe) ks) := ⟨@DL.dax_sh X E M e es ks fe he.h hr.h hs⟩
theorem b_de_and {X : L2.Cx} {E : L2.XK} {M : List.{0} Nat} {pos : PySem.Pos} {a : PySem.Expr} {b : PySem.Expr} {fa : DL.EF} {fb : DL.EF} {rest : List.{0} PySem.Expr} (ha : DL.BE X E M a fa) (hb : DL.BE X E M (PySem.Expr.BoolOp PySem.BoolOp.And (@List.cons.{0} PySem.Expr b rest) pos) fb) : DL.BE X E M (PySem.Expr.BoolOp PySem.BoolOp.And (@List.cons.{0} PySem.Expr a (@List.cons.{0} PySem.Expr b rest)) pos) (DL.eAnd fa fb) := ⟨@DL.de_and X E M pos a b fa fb rest ha.h hb.h⟩
theorem b_de_bl {X : L2.Cx} {E : L2.XK} {M : List.{0} Nat} {pos : PySem.Pos} {i : Bool} {j : Nat} : DL.BE X E M (PySem.Expr.Constant (PySem.Const.bool i) j pos) (DL.eC (DL.D.bl i)) := ⟨@DL.de_bl X E M pos i j⟩
theorem b_de_c {X : L2.Cx} {E : L2.XK} {M : List.{0} Nat} {e : PySem.Expr} {v : L2.V} {d : DL.D} (h : L2.PE X e (L2.tC v)) (dn : ∀ (F : DL.AS) (H : L2.Hp), DL.Den (L2.Cx.K X) (L2.Cx.mg X) F H d v) : DL.BE X E M e (DL.eC d) := ⟨@DL.de_c X E M e v d h dn⟩
theorem b_de_cal {X : L2.Cx} {E : L2.XK} {M : List.{0} Nat} {P : List.{0} Nat} {k : Nat} {ps : List.{0} PySem.Str} {x : PySem.Str} {p : PySem.Pos} {pos : PySem.Pos} {e : PySem.Expr} {es : List.{0} PySem.Expr} {ks : List.{0} DL.Ak} {fr : Bool} {f : DL.Fn} (c : DL.CalD (L2.Cx.prog X) (L2.Cx.w X) (L2.Cx.K X) (L2.Cx.mg X) (L2.Cx.base X) k x ps P fr f) (hr : L2.Room k (L2.Cx.A X)) (hg : L2.Gl X x) (hx : L2.Passes (L2.CX1 (L2.Cx.prog X) (L2.Cx.w X)) X E) (ha : DL.BAx X E M (@List.cons.{0} PySem.Expr e es) ks) (ok : DL.KsOk M P ks) (hn : @Eq.{1} Nat (@List.length.{0} DL.Ak ks) (@List.length.{0} PySem.Str ps)) (hdb : @Eq.{1} Bool (@BEq.beq.{0} PySem.Str (@instBEqOfDecidableEq.{0} PySem.Str PySem.instDecidableEqStr) x (PySem.Str.ofString "__debug__")) Bool.false := by first | rfl | decide | with_unfolding_all rfl) (he : @Eq.{1} (List.{0} (Prod.{0, 0} Bool (PySem.Sem PySem.Value))) (PySem.starEach (@List.cons.{0} PySem.Expr e es) (L2.Cx.env X)) (@List.cons.{0} (Prod.{0, 0} Bool (PySem.Sem PySem.Value)) (@Prod.mk.{0, 0} Bool (PySem.Sem PySem.Value) Bool.false (PySem.eval e (L2.Cx.env X))) (PySem.starEach es (L2.Cx.env X))) := by rfl) (hpl : @Eq.{1} Bool (@List.any.{0} (Prod.{0, 0} Bool (PySem.Sem PySem.Value)) (PySem.backTo pos (PySem.starEach es (L2.Cx.env X))) fun (x : Prod.{0, 0} Bool (PySem.Sem PySem.Value)) => @Prod.fst.{0, 0} Bool (PySem.Sem PySem.Value) x) Bool.false := by rfl) : DL.BE X E M (PySem.Expr.Call (PySem.Expr.Name x p) (@List.cons.{0} PySem.Expr e es) (@List.nil.{0} PySem.Keyword) pos) (DL.eCall fr ks f) := ⟨@DL.de_cal X E M P k ps x p pos e es ks fr f c hr hg hx ha.h ok hn hdb he hpl⟩
theorem b_de_callB {X : L2.Cx} {E : L2.XK} {M : List.{0} Nat} {pos : PySem.Pos} {e : PySem.Expr} {es : List.{0} PySem.Expr} {fs : DL.AF} {x : PySem.Str} {p : PySem.Pos} {id : String} {r : List.{0} L2.V → L2.Hp → L2.VK → Prop} {g : List.{0} DL.D → Option.{0} DL.D} (hc : L2.CallR X (PySem.Value.builtin id) r) (hd : DL.CallD (L2.Cx.K X) (L2.Cx.mg X) r g) (hg : L2.Gl X x) (hm : @Eq.{1} (Option.{0} PySem.Value) (L2.Cx.mg X x) (@Option.none.{0} PySem.Value)) (hv : @Eq.{1} (Option.{0} PySem.Value) (PySem.bootBuiltins x) (@Option.some.{0} PySem.Value (PySem.Value.builtin id))) (ha : DL.BA X E M (@List.cons.{0} PySem.Expr e es) fs) (hn : @Ne.{1} PySem.Str x (PySem.Str.ofString "__name__") := by first | rfl | decide | with_unfolding_all rfl) (hdb : @Eq.{1} Bool (@BEq.beq.{0} PySem.Str (@instBEqOfDecidableEq.{0} PySem.Str PySem.instDecidableEqStr) x (PySem.Str.ofString "__debug__")) Bool.false := by first | rfl | decide | with_unfolding_all rfl) (he : @Eq.{1} (List.{0} (Prod.{0, 0} Bool (PySem.Sem PySem.Value))) (PySem.starEach (@List.cons.{0} PySem.Expr e es) (L2.Cx.env X)) (@List.cons.{0} (Prod.{0, 0} Bool (PySem.Sem PySem.Value)) (@Prod.mk.{0, 0} Bool (PySem.Sem PySem.Value) Bool.false (PySem.eval e (L2.Cx.env X))) (PySem.starEach es (L2.Cx.env X))) := by rfl) (hpl : @Eq.{1} Bool (@List.any.{0} (Prod.{0, 0} Bool (PySem.Sem PySem.Value)) (PySem.backTo pos (PySem.starEach es (L2.Cx.env X))) fun (x : Prod.{0, 0} Bool (PySem.Sem PySem.Value)) => @Prod.fst.{0, 0} Bool (PySem.Sem PySem.Value) x) Bool.false := by rfl) : DL.BE X E M (PySem.Expr.Call (PySem.Expr.Name x p) (@List.cons.{0} PySem.Expr e es) (@List.nil.{0} PySem.Keyword) pos) (DL.eN g fs) := ⟨@DL.de_callB X E M pos e es fs x p id r g hc hd hg hm hv ha.h hn hdb he hpl⟩
theorem b_de_callTy {X : L2.Cx} {E : L2.XK} {M : List.{0} Nat} {pos : PySem.Pos} {e : PySem.Expr} {es : List.{0} PySem.Expr} {fs : DL.AF} {x : PySem.Str} {p : PySem.Pos} {T : String} {r : List.{0} L2.V → L2.Hp → L2.VK → Prop} {g : List.{0} DL.D → Option.{0} DL.D} (hc : L2.CallR X (PySem.Value.type T) r) (hd : DL.CallD (L2.Cx.K X) (L2.Cx.mg X) r g) (hg : L2.Gl X x) (hm : @Eq.{1} (Option.{0} PySem.Value) (L2.Cx.mg X x) (@Option.none.{0} PySem.Value)) (hv : @Eq.{1} (Option.{0} PySem.Value) (PySem.bootBuiltins x) (@Option.some.{0} PySem.Value (PySem.Value.type T))) (ha : DL.BA X E M (@List.cons.{0} PySem.Expr e es) fs) (hn : @Ne.{1} PySem.Str x (PySem.Str.ofString "__name__") := by first | rfl | decide | with_unfolding_all rfl) (hdb : @Eq.{1} Bool (@BEq.beq.{0} PySem.Str (@instBEqOfDecidableEq.{0} PySem.Str PySem.instDecidableEqStr) x (PySem.Str.ofString "__debug__")) Bool.false := by first | rfl | decide | with_unfolding_all rfl) (he : @Eq.{1} (List.{0} (Prod.{0, 0} Bool (PySem.Sem PySem.Value))) (PySem.starEach (@List.cons.{0} PySem.Expr e es) (L2.Cx.env X)) (@List.cons.{0} (Prod.{0, 0} Bool (PySem.Sem PySem.Value)) (@Prod.mk.{0, 0} Bool (PySem.Sem PySem.Value) Bool.false (PySem.eval e (L2.Cx.env X))) (PySem.starEach es (L2.Cx.env X))) := by rfl) (hpl : @Eq.{1} Bool (@List.any.{0} (Prod.{0, 0} Bool (PySem.Sem PySem.Value)) (PySem.backTo pos (PySem.starEach es (L2.Cx.env X))) fun (x : Prod.{0, 0} Bool (PySem.Sem PySem.Value)) => @Prod.fst.{0, 0} Bool (PySem.Sem PySem.Value) x) Bool.false := by rfl) : DL.BE X E M (PySem.Expr.Call (PySem.Expr.Name x p) (@List.cons.{0} PySem.Expr e es) (@List.nil.{0} PySem.Keyword) pos) (DL.eN g fs) := ⟨@DL.de_callTy X E M pos e es fs x p T r g hc hd hg hm hv ha.h hn hdb he hpl⟩
theorem b_de_chain {X : L2.Cx} {E : L2.XK} {M : List.{0} Nat} {pos : PySem.Pos} {a : PySem.Expr} {b : PySem.Expr} {c : PySem.Expr} {fa : DL.EF} {fb : DL.EF} {fc : DL.EF} {op : PySem.CmpOp} {op' : PySem.CmpOp} {r : L2.R2} {r' : L2.R2} {g : DL.D → DL.D → Option.{0} DL.D} {g' : DL.D → DL.D → Option.{0} DL.D} (ho : L2.OpR X (PySem.compareOp op) r) (ho' : L2.OpR X (PySem.compareOp op') r') (hg : DL.OpD (L2.Cx.K X) (L2.Cx.mg X) r g) (hg' : DL.OpD (L2.Cx.K X) (L2.Cx.mg X) r' g') (ha : DL.BE X E M a fa) (hb : DL.BE X E M b fb) (hc : DL.BE X E M c fc) (hm : @Eq.{1} Bool (PySem.lastMarks (@List.cons.{0} PySem.CmpOp op (@List.cons.{0} PySem.CmpOp op' (@List.nil.{0} PySem.CmpOp))) (@List.cons.{0} PySem.Expr b (@List.cons.{0} PySem.Expr c (@List.nil.{0} PySem.Expr)))) Bool.false := by first | rfl | decide | with_unfolding_all rfl) : DL.BE X E M (PySem.Expr.Compare a (@List.cons.{0} PySem.CmpOp op (@List.cons.{0} PySem.CmpOp op' (@List.nil.{0} PySem.CmpOp))) (@List.cons.{0} PySem.Expr b (@List.cons.{0} PySem.Expr c (@List.nil.{0} PySem.Expr))) pos) (DL.eChain g g' fa fb fc) := ⟨@DL.de_chain X E M pos a b c fa fb fc op op' r r' g g' ho ho' hg hg' ha.h hb.h hc.h hm⟩
theorem b_de_cmpR {X : L2.Cx} {E : L2.XK} {M : List.{0} Nat} {pos : PySem.Pos} {a : PySem.Expr} {b : PySem.Expr} {fa : DL.EF} {fb : DL.EF} {op : PySem.CmpOp} {r : L2.R2} {g : DL.D → DL.D → Option.{0} DL.D} (hop : L2.OpR X (PySem.compareOp op) r) (hg : DL.OpD (L2.Cx.K X) (L2.Cx.mg X) r g) (ha : DL.BE X E M a fa) (hb : DL.BE X E M b fb) (hm : @Eq.{1} Bool (PySem.behindInMarks op b) Bool.false) : DL.BE X E M (PySem.Expr.Compare a (@List.cons.{0} PySem.CmpOp op (@List.nil.{0} PySem.CmpOp)) (@List.cons.{0} PySem.Expr b (@List.nil.{0} PySem.Expr)) pos) (DL.e2 g fa fb) := ⟨@DL.de_cmpR X E M pos a b fa fb op r g hop hg ha.h hb.h hm⟩
theorem b_de_dnew {X : L2.Cx} {E : L2.XK} {M : List.{0} Nat} {pos : PySem.Pos} : DL.BE X E M (PySem.Expr.Dict (@List.nil.{0} (Option.{0} PySem.Expr)) (@List.nil.{0} PySem.Expr) pos) (DL.eC (DL.D.dic Bool.false (@List.nil.{0} (Prod.{0, 0} DL.D DL.D)))) := ⟨@DL.de_dnew X E M pos⟩
theorem b_de_gcls {X : L2.Cx} {E : L2.XK} {M : List.{0} Nat} {x : PySem.Str} {pos : PySem.Pos} (h : @Exists.{1} PySem.Addr fun (C : PySem.Addr) => @Eq.{1} (Option.{0} PySem.Value) (L2.Cx.mg X x) (@Option.some.{0} PySem.Value (PySem.Value.ref C))) (hg : L2.Gl X x) (hd : @Eq.{1} Bool (@BEq.beq.{0} PySem.Str (@instBEqOfDecidableEq.{0} PySem.Str PySem.instDecidableEqStr) x (PySem.Str.ofString "__debug__")) Bool.false := by first | rfl | decide | with_unfolding_all rfl) : DL.BE X E M (PySem.Expr.Name x pos) (DL.eC (DL.D.cls x)) := ⟨@DL.de_gcls X E M x pos h hg hd⟩
theorem b_de_gint {X : L2.Cx} {E : L2.XK} {M : List.{0} Nat} {pos : PySem.Pos} {x : PySem.Str} {i : Int} (h : @Exists.{1} PySem.Tok fun (t : PySem.Tok) => @Eq.{1} (Option.{0} PySem.Value) (L2.Cx.mg X x) (@Option.some.{0} PySem.Value (PySem.Value.int i t))) (hg : L2.Gl X x) (hd : @Eq.{1} Bool (@BEq.beq.{0} PySem.Str (@instBEqOfDecidableEq.{0} PySem.Str PySem.instDecidableEqStr) x (PySem.Str.ofString "__debug__")) Bool.false := by first | rfl | decide | with_unfolding_all rfl) : DL.BE X E M (PySem.Expr.Name x pos) (DL.eC (DL.D.int i)) := ⟨@DL.de_gint X E M pos x i h hg hd⟩
theorem b_de_int {X : L2.Cx} {E : L2.XK} {M : List.{0} Nat} {pos : PySem.Pos} {i : Int} {j : Nat} : DL.BE X E M (PySem.Expr.Constant (PySem.Const.int i) j pos) (DL.eC (DL.D.int i)) := ⟨@DL.de_int X E M pos i j⟩
theorem b_de_ix {X : L2.Cx} {E : L2.XK} {M : List.{0} Nat} {pos : PySem.Pos} {a : PySem.Expr} {b : PySem.Expr} {fa : DL.EF} {fb : DL.EF} (ha : DL.BE X E M a fa) (hb : DL.BE X E M b fb) (hs : L2.PlainIx b) : DL.BE X E M (PySem.Expr.Subscript a b pos) (DL.e2 DL.gIx fa fb) := ⟨@DL.de_ix X E M pos a b fa fb ha.h hb.h hs⟩
theorem b_de_ixO {X : L2.Cx} {E : L2.XK} {M : List.{0} Nat} {pos : PySem.Pos} {fi : DL.EF} {i : Nat} {x : PySem.Str} {p : PySem.Pos} {b : PySem.Expr} (h : L2.PE X (PySem.Expr.Subscript (PySem.Expr.Name x p) b pos) (L2.tOp (L2.rIx (L2.Cx.K X)) (L2.tVar i) (@DL.tG (L2.Cx.K X) (L2.Cx.mg X) M E DL.D L2.V (DL.dnD (L2.Cx.K X) (L2.Cx.mg X)) fi))) (hi : @Membership.mem.{0, 0} Nat (List.{0} Nat) (@List.instMembership.{0} Nat) M i) : DL.BE X E M (PySem.Expr.Subscript (PySem.Expr.Name x p) b pos) (DL.eIxO i fi) := ⟨@DL.de_ixO X E M pos fi i x p b h hi⟩
theorem b_de_lend {X : L2.Cx} {E : L2.XK} {M : List.{0} Nat} {e : PySem.Expr} {fe : DL.EF} (h : DL.BE X E (@List.nil.{0} Nat) e fe) : DL.BE X E M e (DL.eLend fe) := ⟨@DL.de_lend X E M e fe h.h⟩
theorem b_de_lst {X : L2.Cx} {E : L2.XK} {M : List.{0} Nat} {pos : PySem.Pos} {es : List.{0} PySem.Expr} {fs : DL.AF} (h : DL.BA X E M es fs) : DL.BE X E M (PySem.Expr.List es pos) (DL.eN DL.gLstN fs) := ⟨@DL.de_lst X E M pos es fs h.h⟩
theorem b_de_mut {X : L2.Cx} {E : L2.XK} {M : List.{0} Nat} {e : PySem.Expr} {es : List.{0} PySem.Expr} {fs : DL.AF} {i : Nat} {T : String} {m : PySem.Str} {x : PySem.Str} {p : PySem.Pos} {apos : PySem.Pos} {cpos : PySem.Pos} {k : DL.D → Bool} {r : L2.V → List.{0} L2.V → L2.Hp → L2.VK → Prop} {g : DL.D → List.{0} DL.D → Option.{0} (Prod.{0, 0} DL.D DL.D)} (md : DL.MutD (L2.Cx.K X) (L2.Cx.mg X) r g) (hrt : ∀ (d : DL.D) (ds : List.{0} DL.D) (z : Prod.{0, 0} DL.D DL.D), @Eq.{1} (Option.{0} (Prod.{0, 0} DL.D DL.D)) (g d ds) (@Option.some.{0} (Prod.{0, 0} DL.D DL.D) z) → @Eq.{1} Bool (DL.rooty d) Bool.true) (hkr : ∀ (d : DL.D), @Eq.{1} Bool (k d) Bool.true → @Eq.{1} Bool (DL.rooty d) Bool.true) (hi : @Membership.mem.{0, 0} Nat (List.{0} Nat) (@List.instMembership.{0} Nat) M i) (hk : ∀ (F : DL.AS) (H : L2.Hp) (a : PySem.Addr) (d : DL.D), @Eq.{1} Bool (k d) Bool.true → DL.Own (L2.Cx.K X) (L2.Cx.mg X) F H (fun (b : PySem.Addr) => @Eq.{1} PySem.Addr b a) d (L2.V.ref a) → L2.tyV (L2.Cx.K X) T (L2.V.ref a) H) (h : L2.PE X (PySem.Expr.Call (PySem.Expr.Attribute (PySem.Expr.Name x p) m apos) (@List.cons.{0} PySem.Expr e es) (@List.nil.{0} PySem.Keyword) cpos) (L2.tBM (L2.Cx.K X) T r (L2.tVar i) (@DL.tG (L2.Cx.K X) (L2.Cx.mg X) M E (List.{0} DL.D) (List.{0} L2.V) (DL.dnL (L2.Cx.K X) (L2.Cx.mg X)) fs))) : DL.BE X E M (PySem.Expr.Call (PySem.Expr.Attribute (PySem.Expr.Name x p) m apos) (@List.cons.{0} PySem.Expr e es) (@List.nil.{0} PySem.Keyword) cpos) (DL.eMut i k g fs) := ⟨@DL.de_mut X E M e es fs i T m x p apos cpos k r g md hrt hkr hi hk h⟩
theorem b_de_mutT0 {X : L2.Cx} {E : L2.XK} {M : List.{0} Nat} {i : Nat} {k : Nat} {o : PySem.Expr} {m : PySem.Str} {apos : PySem.Pos} {cpos : PySem.Pos} {r : L2.V → List.{0} L2.V → L2.Hp → L2.VK → Prop} {g : DL.D → List.{0} DL.D → Option.{0} (Prod.{0, 0} DL.D DL.D)} (md : DL.MutD (L2.Cx.K X) (L2.Cx.mg X) r g) (hi : @Membership.mem.{0, 0} Nat (List.{0} Nat) (@List.instMembership.{0} Nat) M i) (h : L2.PE X (PySem.Expr.Call (PySem.Expr.Attribute o m apos) (@List.nil.{0} PySem.Expr) (@List.nil.{0} PySem.Keyword) cpos) (L2.tBM0 (L2.Cx.K X) "list" r (L2.tOp (L2.rIx (L2.Cx.K X)) (L2.tVar i) (L2.tC (L2.V.int (@Nat.cast.{0} Int instNatCastInt k)))))) : DL.BE X E M (PySem.Expr.Call (PySem.Expr.Attribute o m apos) (@List.nil.{0} PySem.Expr) (@List.nil.{0} PySem.Keyword) cpos) (DL.eMutT i k g DL.aNil) := ⟨@DL.de_mutT0 X E M i k o m apos cpos r g md hi h⟩
theorem b_de_neg {X : L2.Cx} {E : L2.XK} {M : List.{0} Nat} {pos : PySem.Pos} {a : PySem.Expr} {fa : DL.EF} (ha : DL.BE X E M a fa) : DL.BE X E M (PySem.Expr.UnaryOp PySem.UnaryOp.USub a pos) (DL.e1 DL.gNeg fa) := ⟨@DL.de_neg X E M pos a fa ha.h⟩
theorem b_de_non {X : L2.Cx} {E : L2.XK} {M : List.{0} Nat} {pos : PySem.Pos} {j : Nat} : DL.BE X E M (PySem.Expr.Constant PySem.Const.none j pos) (DL.eC DL.D.non) := ⟨@DL.de_non X E M pos j⟩
theorem b_de_not {X : L2.Cx} {E : L2.XK} {M : List.{0} Nat} {pos : PySem.Pos} {a : PySem.Expr} {fa : DL.EF} (ha : DL.BE X E M a fa) : DL.BE X E M (PySem.Expr.UnaryOp PySem.UnaryOp.Not a pos) (DL.eNot fa) := ⟨@DL.de_not X E M pos a fa ha.h⟩
theorem b_de_one {X : L2.Cx} {E : L2.XK} {M : List.{0} Nat} {pos : PySem.Pos} {a : PySem.Expr} {fa : DL.EF} {op : PySem.BoolOp} (ha : DL.BE X E M a fa) : DL.BE X E M (PySem.Expr.BoolOp op (@List.cons.{0} PySem.Expr a (@List.nil.{0} PySem.Expr)) pos) fa := ⟨@DL.de_one X E M pos a fa op ha.h⟩
theorem b_de_op {X : L2.Cx} {E : L2.XK} {M : List.{0} Nat} {pos : PySem.Pos} {a : PySem.Expr} {b : PySem.Expr} {fa : DL.EF} {fb : DL.EF} {op : PySem.Operator} {r : L2.R2} {g : DL.D → DL.D → Option.{0} DL.D} (hop : L2.OpR X (PySem.binaryOp op) r) (hg : DL.OpD (L2.Cx.K X) (L2.Cx.mg X) r g) (ha : DL.BE X E M a fa) (hb : DL.BE X E M b fb) : DL.BE X E M (PySem.Expr.BinOp a op b pos) (DL.e2 g fa fb) := ⟨@DL.de_op X E M pos a b fa fb op r g hop hg ha.h hb.h⟩
theorem b_de_str {X : L2.Cx} {E : L2.XK} {M : List.{0} Nat} {pos : PySem.Pos} {i : PySem.Str} {j : Nat} : DL.BE X E M (PySem.Expr.Constant (PySem.Const.str i) j pos) (DL.eC (DL.D.str i)) := ⟨@DL.de_str X E M pos i j⟩
theorem b_de_tup {X : L2.Cx} {E : L2.XK} {M : List.{0} Nat} {pos : PySem.Pos} {es : List.{0} PySem.Expr} {fs : DL.AF} {x1 : Nat} (h : DL.BA X E M es fs) : DL.BE X E M (PySem.Expr.Tuple es x1 pos) (DL.eN DL.gTupN fs) := ⟨@DL.de_tup X E M pos es fs x1 h.h⟩
theorem b_de_var {X : L2.Cx} {E : L2.XK} {M : List.{0} Nat} {pos : PySem.Pos} {x : PySem.Str} {i : Nat} (h : L2.PE X (PySem.Expr.Name x pos) (L2.tVar i)) (hM : Not (@Membership.mem.{0, 0} Nat (List.{0} Nat) (@List.instMembership.{0} Nat) M i)) : DL.BE X E M (PySem.Expr.Name x pos) (DL.eVar i) := ⟨@DL.de_var X E M pos x i h hM⟩
theorem b_di_any {X : L2.Cx} {E : L2.XK} {M : List.{0} Nat} {tg : PySem.Expr} {e : PySem.Expr} {fe : DL.EF} (he : DL.BE X E M e fe) : DL.BI X E M tg e (DL.iAny fe) := ⟨@DL.di_any X E M tg e fe he.h⟩
theorem b_di_range1 {X : L2.Cx} {E : L2.XK} {M : List.{0} Nat} {pos : PySem.Pos} {p : PySem.Pos} {tg : PySem.Expr} {e : PySem.Expr} {fs : DL.AF} (hg : L2.Gl X (PySem.Str.ofString "range")) (hm : @Eq.{1} (Option.{0} PySem.Value) (L2.Cx.mg X (PySem.Str.ofString "range")) (@Option.none.{0} PySem.Value)) (ha : DL.BA X E M (@List.cons.{0} PySem.Expr e (@List.nil.{0} PySem.Expr)) fs) (hs : @Eq.{1} (List.{0} (Prod.{0, 0} Bool (PySem.Sem PySem.Value))) (PySem.starEach (@List.cons.{0} PySem.Expr e (@List.nil.{0} PySem.Expr)) (L2.Cx.env X)) (@List.cons.{0} (Prod.{0, 0} Bool (PySem.Sem PySem.Value)) (@Prod.mk.{0, 0} Bool (PySem.Sem PySem.Value) Bool.false (PySem.eval e (L2.Cx.env X))) (@List.nil.{0} (Prod.{0, 0} Bool (PySem.Sem PySem.Value)))) := by rfl) : DL.BI X E M tg (PySem.Expr.Call (PySem.Expr.Name (PySem.Str.ofString "range") p) (@List.cons.{0} PySem.Expr e (@List.nil.{0} PySem.Expr)) (@List.nil.{0} PySem.Keyword) pos) (DL.iRange1 fs) := ⟨@DL.di_range1 X E M pos p tg e fs hg hm ha.h hs⟩
theorem b_dn_cal {X : L2.Cx} {E : L2.XK} {M : List.{0} Nat} {P : List.{0} Nat} {k : Nat} {ps : List.{0} PySem.Str} {x : PySem.Str} {p : PySem.Pos} {pos : PySem.Pos} {e : PySem.Expr} {es : List.{0} PySem.Expr} {ks : List.{0} DL.Ak} {f : DL.Fn} (c : DL.CalD (L2.Cx.prog X) (L2.Cx.w X) (L2.Cx.K X) (L2.Cx.mg X) (L2.Cx.base X) k x ps P Bool.true f) (hr : L2.Room k (L2.Cx.A X)) (hg : L2.Gl X x) (hx : L2.Passes (L2.CX1 (L2.Cx.prog X) (L2.Cx.w X)) X E) (ha : DL.BAx X E M (@List.cons.{0} PySem.Expr e es) ks) (ok : DL.KsOk M P ks) (hn : @Eq.{1} Nat (@List.length.{0} DL.Ak ks) (@List.length.{0} PySem.Str ps)) (hdb : @Eq.{1} Bool (@BEq.beq.{0} PySem.Str (@instBEqOfDecidableEq.{0} PySem.Str PySem.instDecidableEqStr) x (PySem.Str.ofString "__debug__")) Bool.false := by first | rfl | decide | with_unfolding_all rfl) (he : @Eq.{1} (List.{0} (Prod.{0, 0} Bool (PySem.Sem PySem.Value))) (PySem.starEach (@List.cons.{0} PySem.Expr e es) (L2.Cx.env X)) (@List.cons.{0} (Prod.{0, 0} Bool (PySem.Sem PySem.Value)) (@Prod.mk.{0, 0} Bool (PySem.Sem PySem.Value) Bool.false (PySem.eval e (L2.Cx.env X))) (PySem.starEach es (L2.Cx.env X))) := by rfl) (hpl : @Eq.{1} Bool (@List.any.{0} (Prod.{0, 0} Bool (PySem.Sem PySem.Value)) (PySem.backTo pos (PySem.starEach es (L2.Cx.env X))) fun (x : Prod.{0, 0} Bool (PySem.Sem PySem.Value)) => @Prod.fst.{0, 0} Bool (PySem.Sem PySem.Value) x) Bool.false := by rfl) : DL.BN X E M (PySem.Expr.Call (PySem.Expr.Name x p) (@List.cons.{0} PySem.Expr e es) (@List.nil.{0} PySem.Keyword) pos) (DL.eCall Bool.true ks f) := ⟨@DL.dn_cal X E M P k ps x p pos e es ks f c hr hg hx ha.h ok hn hdb he hpl⟩
theorem b_dn_lc {X : L2.Cx} {E : L2.XK} {M : List.{0} Nat} {elt : PySem.Expr} {tg : PySem.Expr} {iter : PySem.Expr} {ifs : List.{0} PySem.Expr} {scope : PySem.Scope} {own : List.{0} (Prod.{0, 0} PySem.Str Nat)} {pos : PySem.Pos} {fi : DL.AF} {g : L2.TG} {b : DL.BFn} {ft : DL.BF} {fe : DL.EF} {T : List.{0} Nat} (hc : @Eq.{1} Bool (L2.Cx.calm X) Bool.true) (hN : @List.Nodup.{0} PySem.Str (L2.Cx.N X)) (hi : DL.BI X E M tg iter fi) (ok : L2.BlkOk (L2.Cx.N X) (PySem.Env.scope (L2.Cx.env X)) scope own) (hg : ∀ (s : PySem.Shared) (H : L2.Hp) (C : PySem.Addr) (cl : List.{0} (Prod.{0, 0} PySem.Str PySem.Addr)) (fp : List.{0} PySem.Addr), L2.PG (L2.Cx.blk X s H scope (PySem.compEnvC scope cl C (L2.Cx.env X)) fp) tg g) (ht : (s : PySem.Shared) → (H : L2.Hp) → (C : PySem.Addr) → (cl : List.{0} (Prod.{0, 0} PySem.Str PySem.Addr)) → (fp : List.{0} PySem.Addr) → DL.BTs (L2.Cx.blk X s H scope (PySem.compEnvC scope cl C (L2.Cx.env X)) fp) L2.E0 M ifs ft) (he : (s : PySem.Shared) → (H : L2.Hp) → (C : PySem.Addr) → (cl : List.{0} (Prod.{0, 0} PySem.Str PySem.Addr)) → (fp : List.{0} PySem.Addr) → DL.BE (L2.Cx.blk X s H scope (PySem.compEnvC scope cl C (L2.Cx.env X)) fp) L2.E0 M elt fe) (gok : DL.GOk (L2.Cx.K X) (L2.Cx.mg X) M T (@List.length.{0} PySem.Str (L2.Cx.N X)) g b) (hT : ∀ (k : Nat), @Membership.mem.{0, 0} Nat (List.{0} Nat) (@List.instMembership.{0} Nat) T k → @Membership.mem.{0, 0} Nat (List.{0} Nat) (@List.instMembership.{0} Nat) (@List.map.{0, 0} (Prod.{0, 0} PySem.Str Nat) Nat (fun (x : Prod.{0, 0} PySem.Str Nat) => @Prod.snd.{0, 0} PySem.Str Nat x) own) k) (hM : ∀ (i : Nat), @Membership.mem.{0, 0} Nat (List.{0} Nat) (@List.instMembership.{0} Nat) (@List.map.{0, 0} (Prod.{0, 0} PySem.Str Nat) Nat (fun (x : Prod.{0, 0} PySem.Str Nat) => @Prod.snd.{0, 0} PySem.Str Nat x) own) i → Not (@Membership.mem.{0, 0} Nat (List.{0} Nat) (@List.instMembership.{0} Nat) M i)) (hs : ∀ (x : PySem.Value), @Eq.{1} (PySem.Sem PySem.Value) (PySem.foldedSetIterable iter (L2.Cx.env X) x) (@Pure.pure.{0, 0} PySem.Sem (@Applicative.toPure.{0, 0} PySem.Sem (@Monad.toApplicative.{0, 0} PySem.Sem PySem.Sem.instMonad)) PySem.Value x) := by intros; rfl) : DL.BN X E M (PySem.Expr.ListComp elt (@List.cons.{0} PySem.Comprehension (PySem.Comprehension.mk tg iter ifs (@OfNat.ofNat.{0} Int (nat_lit 0) (@instOfNat (nat_lit 0)))) (@List.nil.{0} PySem.Comprehension)) scope pos) (DL.eLc fi b ft fe (@List.map.{0, 0} (Prod.{0, 0} PySem.Str Nat) Nat (fun (x : Prod.{0, 0} PySem.Str Nat) => @Prod.snd.{0, 0} PySem.Str Nat x) own)) := ⟨@DL.dn_lc X E M elt tg iter ifs scope own pos fi g b ft fe T hc hN hi.h ok hg (fun y0 y1 y2 y3 y4 => (ht y0 y1 y2 y3 y4).h) (fun y0 y1 y2 y3 y4 => (he y0 y1 y2 y3 y4).h) gok hT hM hs⟩
theorem b_dn_listRng {X : L2.Cx} {E : L2.XK} {M : List.{0} Nat} {pos : PySem.Pos} {p : PySem.Pos} {p2 : PySem.Pos} {pos2 : PySem.Pos} {e : PySem.Expr} {fs : DL.AF} (hc : @Eq.{1} Bool (L2.Cx.calm X) Bool.true) (hg : L2.Gl X (PySem.Str.ofString "list")) (hm : @Eq.{1} (Option.{0} PySem.Value) (L2.Cx.mg X (PySem.Str.ofString "list")) (@Option.none.{0} PySem.Value)) (hg2 : L2.Gl X (PySem.Str.ofString "range")) (hm2 : @Eq.{1} (Option.{0} PySem.Value) (L2.Cx.mg X (PySem.Str.ofString "range")) (@Option.none.{0} PySem.Value)) (ha : DL.BA X E M (@List.cons.{0} PySem.Expr e (@List.nil.{0} PySem.Expr)) fs) (hs : @Eq.{1} (List.{0} (Prod.{0, 0} Bool (PySem.Sem PySem.Value))) (PySem.starEach (@List.cons.{0} PySem.Expr e (@List.nil.{0} PySem.Expr)) (L2.Cx.env X)) (@List.cons.{0} (Prod.{0, 0} Bool (PySem.Sem PySem.Value)) (@Prod.mk.{0, 0} Bool (PySem.Sem PySem.Value) Bool.false (PySem.eval e (L2.Cx.env X))) (@List.nil.{0} (Prod.{0, 0} Bool (PySem.Sem PySem.Value)))) := by rfl) (hs2 : @Eq.{1} (List.{0} (Prod.{0, 0} Bool (PySem.Sem PySem.Value))) (PySem.starEach (@List.cons.{0} PySem.Expr (PySem.Expr.Call (PySem.Expr.Name (PySem.Str.ofString "range") p2) (@List.cons.{0} PySem.Expr e (@List.nil.{0} PySem.Expr)) (@List.nil.{0} PySem.Keyword) pos2) (@List.nil.{0} PySem.Expr)) (L2.Cx.env X)) (@List.cons.{0} (Prod.{0, 0} Bool (PySem.Sem PySem.Value)) (@Prod.mk.{0, 0} Bool (PySem.Sem PySem.Value) Bool.false (PySem.eval (PySem.Expr.Call (PySem.Expr.Name (PySem.Str.ofString "range") p2) (@List.cons.{0} PySem.Expr e (@List.nil.{0} PySem.Expr)) (@List.nil.{0} PySem.Keyword) pos2) (L2.Cx.env X))) (@List.nil.{0} (Prod.{0, 0} Bool (PySem.Sem PySem.Value)))) := by rfl) : DL.BN X E M (PySem.Expr.Call (PySem.Expr.Name (PySem.Str.ofString "list") p) (@List.cons.{0} PySem.Expr (PySem.Expr.Call (PySem.Expr.Name (PySem.Str.ofString "range") p2) (@List.cons.{0} PySem.Expr e (@List.nil.{0} PySem.Expr)) (@List.nil.{0} PySem.Keyword) pos2) (@List.nil.{0} PySem.Expr)) (@List.nil.{0} PySem.Keyword) pos) (DL.eN DL.gListRng fs) := ⟨@DL.dn_listRng X E M pos p p2 pos2 e fs hc hg hm hg2 hm2 ha.h hs hs2⟩
theorem b_dn_lst {X : L2.Cx} {E : L2.XK} {M : List.{0} Nat} {pos : PySem.Pos} {es : List.{0} PySem.Expr} {fs : DL.AF} (h : DL.BA X E M es fs) : DL.BN X E M (PySem.Expr.List es pos) (DL.eN DL.gLstN fs) := ⟨@DL.dn_lst X E M pos es fs h.h⟩
theorem b_dn_non {X : L2.Cx} {E : L2.XK} {M : List.{0} Nat} {j : Nat} {pos : PySem.Pos} : DL.BN X E M (PySem.Expr.Constant PySem.Const.none j pos) (DL.eC DL.D.non) := ⟨@DL.dn_non X E M j pos⟩
theorem b_dn_tupT {X : L2.Cx} {E : L2.XK} {M : List.{0} Nat} {es : List.{0} PySem.Expr} {x1 : Nat} {p2 : PySem.Pos} {ks : List.{0} DL.Ak} (ha : DL.BAx X E M es ks) (nd : @List.Nodup.{0} Nat (DL.slotsOf ks)) (hM : ∀ (i : Nat), @Membership.mem.{0, 0} Nat (List.{0} Nat) (@List.instMembership.{0} Nat) (DL.slotsOf ks) i → @Membership.mem.{0, 0} Nat (List.{0} Nat) (@List.instMembership.{0} Nat) M i) (hb : @Eq.{1} Bool (DL.hasBo ks) Bool.false := by first | rfl | decide | with_unfolding_all rfl) : DL.BN X E M (PySem.Expr.Tuple es x1 p2) (DL.eTupT ks) := ⟨@DL.dn_tupT X E M es x1 p2 ks ha.h nd hM hb⟩
theorem b_ds_asg {X : L2.Cx} {E : L2.XK} {M : List.{0} Nat} {P : List.{0} Nat} {fr : Bool} {pos : PySem.Pos} {e : PySem.Expr} {fe : DL.EF} {T : List.{0} Nat} {tg : PySem.Expr} {g : L2.TG} {b : DL.BFn} (he : DL.BE X E M e fe) (hp : L2.PG X tg g) (hg : DL.GOk (L2.Cx.K X) (L2.Cx.mg X) M T (@List.length.{0} PySem.Str (L2.Cx.N X)) g b) (hT : ∀ (k : Nat), @Membership.mem.{0, 0} Nat (List.{0} Nat) (@List.instMembership.{0} Nat) P k → Not (@Membership.mem.{0, 0} Nat (List.{0} Nat) (@List.instMembership.{0} Nat) T k)) (hs : @Eq.{1} (PySem.Sem Bool) (PySem.swapsWithSole (@List.cons.{0} PySem.Expr tg (@List.nil.{0} PySem.Expr)) e (PySem.Pos.line pos) (L2.Cx.env X)) (@Pure.pure.{0, 0} PySem.Sem (@Applicative.toPure.{0, 0} PySem.Sem (@Monad.toApplicative.{0, 0} PySem.Sem PySem.Sem.instMonad)) Bool Bool.false) := by first | rfl | decide | with_unfolding_all rfl) (hw : @Eq.{1} (PySem.Sem (Option.{0} (List.{0} PySem.Str))) (PySem.swappedStores (@List.cons.{0} PySem.Expr tg (@List.nil.{0} PySem.Expr)) e (L2.Cx.env X)) (@Pure.pure.{0, 0} PySem.Sem (@Applicative.toPure.{0, 0} PySem.Sem (@Monad.toApplicative.{0, 0} PySem.Sem PySem.Sem.instMonad)) (Option.{0} (List.{0} PySem.Str)) (@Option.none.{0} (List.{0} PySem.Str))) := by first | rfl | decide | with_unfolding_all rfl) (h1 : @Eq.{1} (List.{0} (PySem.Value → PySem.Sem Unit)) (@List.map.{0, 0} (Prod.{0, 0} Bool (PySem.Value → PySem.Sem Unit)) (PySem.Value → PySem.Sem Unit) (fun (x : Prod.{0, 0} Bool (PySem.Value → PySem.Sem Unit)) => @Prod.snd.{0, 0} Bool (PySem.Value → PySem.Sem Unit) x) (PySem.assignEach (@List.cons.{0} PySem.Expr tg (@List.nil.{0} PySem.Expr)) (L2.Cx.env X))) (@List.cons.{0} (PySem.Value → PySem.Sem Unit) (PySem.assign tg (L2.Cx.env X)) (@List.nil.{0} (PySem.Value → PySem.Sem Unit))) := by first | rfl | decide | with_unfolding_all rfl) : DL.BS X E M P fr (PySem.Stmt.Assign (@List.cons.{0} PySem.Expr tg (@List.nil.{0} PySem.Expr)) e pos) (DL.sAsg b fe) := ⟨@DL.ds_asg X E M P fr pos e fe T tg g b he.h hp hg hT hs hw h1⟩
theorem b_ds_expr {X : L2.Cx} {E : L2.XK} {M : List.{0} Nat} {P : List.{0} Nat} {fr : Bool} {pos : PySem.Pos} {e : PySem.Expr} {fe : DL.EF} (he : DL.BE X E M e fe) (hs : @Eq.{1} (PySem.Sem Bool) (PySem.swapsWith e (@Option.none.{0} PySem.Expr) (PySem.Pos.line pos) (L2.Cx.env X)) (@Pure.pure.{0, 0} PySem.Sem (@Applicative.toPure.{0, 0} PySem.Sem (@Monad.toApplicative.{0, 0} PySem.Sem PySem.Sem.instMonad)) Bool Bool.false) := by first | rfl | decide | with_unfolding_all rfl) : DL.BS X E M P fr (PySem.Stmt.Expr e pos) (DL.sDrop fe) := ⟨@DL.ds_expr X E M P fr pos e fe he.h hs⟩
theorem b_ds_for {X : L2.Cx} {E : L2.XK} {M : List.{0} Nat} {P : List.{0} Nat} {fr : Bool} {pos : PySem.Pos} {tg : PySem.Expr} {iter : PySem.Expr} {body : List.{0} PySem.Stmt} {fi : DL.AF} {fb : DL.SF} {g : L2.TG} {b : DL.BFn} (hp : PySem.PassesOwn (PySem.model (L2.Cx.prog X) (L2.Cx.w X)) (L2.Cx.A X) (L2.Cx.env X) (L2.Cx.xe X)) (hc : @Eq.{1} Bool (L2.Cx.calm X) Bool.true) (hi : DL.BI X E M tg iter fi) (hg : L2.PG X tg g) {T : List.{0} Nat} (gok : DL.GOk (L2.Cx.K X) (L2.Cx.mg X) M T (@List.length.{0} PySem.Str (L2.Cx.N X)) g b) (hT : ∀ (k : Nat), @Membership.mem.{0, 0} Nat (List.{0} Nat) (@List.instMembership.{0} Nat) P k → Not (@Membership.mem.{0, 0} Nat (List.{0} Nat) (@List.instMembership.{0} Nat) T k)) (hb : DL.BSs X E M P fr body fb) (hs : ∀ (x : PySem.Value), @Eq.{1} (PySem.Sem PySem.Value) (PySem.foldedSetIterable iter (L2.Cx.env X) x) (@Pure.pure.{0, 0} PySem.Sem (@Applicative.toPure.{0, 0} PySem.Sem (@Monad.toApplicative.{0, 0} PySem.Sem PySem.Sem.instMonad)) PySem.Value x) := by intros; rfl) : DL.BS X E M P fr (PySem.Stmt.For tg iter body (@List.nil.{0} PySem.Stmt) pos) (DL.sFor fi b fb) := ⟨@DL.ds_for X E M P fr pos tg iter body fi fb g b hp hc hi.h hg T gok hT hb.h hs⟩
theorem b_ds_if {X : L2.Cx} {E : L2.XK} {M : List.{0} Nat} {P : List.{0} Nat} {fr : Bool} {pos : PySem.Pos} {c : PySem.Expr} {a : List.{0} PySem.Stmt} {b : List.{0} PySem.Stmt} {fc : DL.BF} {f : DL.SF} {g : DL.SF} (hc : DL.BT X E M c fc) (ha : DL.BSs X E M P fr a f) (hb : DL.BSs X E M P fr b g) : DL.BS X E M P fr (PySem.Stmt.If c a b pos) (DL.sIf fc f g) := ⟨@DL.ds_if X E M P fr pos c a b fc f g hc.h ha.h hb.h⟩
theorem b_ds_par {X : L2.Cx} {E : L2.XK} {M : List.{0} Nat} {P : List.{0} Nat} {fr : Bool} {pos : PySem.Pos} {a : PySem.Expr} {b : PySem.Expr} {fs : DL.AF} {i : Nat} {j : Nat} {x : PySem.Str} {y : PySem.Str} {px : PySem.Pos} {py : PySem.Pos} {pt : PySem.Pos} {kt : Nat} {k2 : Nat} {pt2 : PySem.Pos} (hN : @List.Nodup.{0} PySem.Str (L2.Cx.N X)) (hi : @Eq.{1} (Option.{0} PySem.Str) (@GetElem?.getElem?.{0, 0, 0} (List.{0} PySem.Str) Nat PySem.Str (fun (as : List.{0} PySem.Str) (i : Nat) => @LT.lt.{0} Nat instLTNat i (@List.length.{0} PySem.Str as)) (@List.instGetElem?NatLtLength.{0} PySem.Str) (L2.Cx.N X) i) (@Option.some.{0} PySem.Str x)) (hj : @Eq.{1} (Option.{0} PySem.Str) (@GetElem?.getElem?.{0, 0, 0} (List.{0} PySem.Str) Nat PySem.Str (fun (as : List.{0} PySem.Str) (i : Nat) => @LT.lt.{0} Nat instLTNat i (@List.length.{0} PySem.Str as)) (@List.instGetElem?NatLtLength.{0} PySem.Str) (L2.Cx.N X) j) (@Option.some.{0} PySem.Str y)) (hx : @Eq.{1} (Option.{0} PySem.NameKind) (@List.lookup.{0, 0} PySem.Str PySem.NameKind (@instBEqOfDecidableEq.{0} PySem.Str PySem.instDecidableEqStr) x (PySem.Scope.names (PySem.Env.scope (L2.Cx.env X)))) (@Option.some.{0} PySem.NameKind PySem.NameKind.local)) (hy : @Eq.{1} (Option.{0} PySem.NameKind) (@List.lookup.{0, 0} PySem.Str PySem.NameKind (@instBEqOfDecidableEq.{0} PySem.Str PySem.instDecidableEqStr) y (PySem.Scope.names (PySem.Env.scope (L2.Cx.env X)))) (@Option.some.{0} PySem.NameKind PySem.NameKind.local)) (hij : @Ne.{1} Nat i j) (hM : Not (@Membership.mem.{0, 0} Nat (List.{0} Nat) (@List.instMembership.{0} Nat) M i)) (hM' : Not (@Membership.mem.{0, 0} Nat (List.{0} Nat) (@List.instMembership.{0} Nat) M j)) (hP : Not (@Membership.mem.{0, 0} Nat (List.{0} Nat) (@List.instMembership.{0} Nat) P i)) (hP' : Not (@Membership.mem.{0, 0} Nat (List.{0} Nat) (@List.instMembership.{0} Nat) P j)) (ha : DL.BA X E M (@List.cons.{0} PySem.Expr a (@List.cons.{0} PySem.Expr b (@List.nil.{0} PySem.Expr))) fs) (hc : @Eq.{1} Bool (L2.Cx.calm X) Bool.true := by first | rfl | decide | with_unfolding_all rfl) (hw : @Eq.{1} (PySem.Sem (Option.{0} (List.{0} PySem.Str))) (PySem.swappedStores (@List.cons.{0} PySem.Expr (PySem.Expr.Tuple (@List.cons.{0} PySem.Expr (PySem.Expr.Name x px) (@List.cons.{0} PySem.Expr (PySem.Expr.Name y py) (@List.nil.{0} PySem.Expr))) kt pt) (@List.nil.{0} PySem.Expr)) (PySem.Expr.Tuple (@List.cons.{0} PySem.Expr a (@List.cons.{0} PySem.Expr b (@List.nil.{0} PySem.Expr))) k2 pt2) (L2.Cx.env X)) (@Pure.pure.{0, 0} PySem.Sem (@Applicative.toPure.{0, 0} PySem.Sem (@Monad.toApplicative.{0, 0} PySem.Sem PySem.Sem.instMonad)) (Option.{0} (List.{0} PySem.Str)) (@Option.some.{0} (List.{0} PySem.Str) (@List.cons.{0} PySem.Str x (@List.cons.{0} PySem.Str y (@List.nil.{0} PySem.Str))))) := by first | rfl | decide | with_unfolding_all rfl) (hs : @Eq.{1} (PySem.Sem Bool) (PySem.swapsWithSole (@List.cons.{0} PySem.Expr (PySem.Expr.Tuple (@List.cons.{0} PySem.Expr (PySem.Expr.Name x px) (@List.cons.{0} PySem.Expr (PySem.Expr.Name y py) (@List.nil.{0} PySem.Expr))) kt pt) (@List.nil.{0} PySem.Expr)) (PySem.Expr.Tuple (@List.cons.{0} PySem.Expr a (@List.cons.{0} PySem.Expr b (@List.nil.{0} PySem.Expr))) k2 pt2) (PySem.Pos.line pos) (L2.Cx.env X)) (@Pure.pure.{0, 0} PySem.Sem (@Applicative.toPure.{0, 0} PySem.Sem (@Monad.toApplicative.{0, 0} PySem.Sem PySem.Sem.instMonad)) Bool Bool.false) := by first | rfl | decide | with_unfolding_all rfl) : DL.BS X E M P fr (PySem.Stmt.Assign (@List.cons.{0} PySem.Expr (PySem.Expr.Tuple (@List.cons.{0} PySem.Expr (PySem.Expr.Name x px) (@List.cons.{0} PySem.Expr (PySem.Expr.Name y py) (@List.nil.{0} PySem.Expr))) kt pt) (@List.nil.{0} PySem.Expr)) (PySem.Expr.Tuple (@List.cons.{0} PySem.Expr a (@List.cons.{0} PySem.Expr b (@List.nil.{0} PySem.Expr))) k2 pt2) pos) (DL.sPar i j fs) := ⟨@DL.ds_par X E M P fr pos a b fs i j x y px py pt kt k2 pt2 hN hi hj hx hy hij hM hM' hP hP' ha.h hc hw hs⟩
theorem b_ds_raise {E : L2.XK} {M : List.{0} Nat} {P : List.{0} Nat} {fr : Bool} {pos : PySem.Pos} {cpos : PySem.Pos} {e : PySem.Expr} {fs : DL.AF} {x : PySem.Str} {P0 : PySem.Program} {w : PySem.World} {K : PySem.W.Frag} {mg : PySem.Str → Option.{0} PySem.Value} {base : PySem.Heap} {N : List.{0} PySem.Str} {qual : PySem.Str} {scope : PySem.Scope} {fa : PySem.Addr} {cd : PySem.Value} {A : PySem.Around} {outer : List.{0} PySem.Env} {s0 : PySem.Shared} {H0 : L2.Hp} {C : PySem.Addr} {np : PySem.Pos} (hC : L2.ExcC K C) (hm : @Eq.{1} (Option.{0} PySem.Value) (mg x) (@Option.some.{0} PySem.Value (PySem.Value.ref C))) (hg : L2.Gl (L2.cxOf (L2.CX1 P0 w) P0 w K mg base N qual scope fa cd A outer s0 H0 E) x) (ha : DL.BA (L2.cxOf (L2.CX1 P0 w) P0 w K mg base N qual scope fa cd A outer s0 H0 E) E M (@List.cons.{0} PySem.Expr e (@List.nil.{0} PySem.Expr)) fs) (hd : @Eq.{1} Bool (@BEq.beq.{0} PySem.Str (@instBEqOfDecidableEq.{0} PySem.Str PySem.instDecidableEqStr) x (PySem.Str.ofString "__debug__")) Bool.false := by first | rfl | decide | with_unfolding_all rfl) (he : @Eq.{1} (List.{0} (Prod.{0, 0} Bool (PySem.Sem PySem.Value))) (PySem.starEach (@List.cons.{0} PySem.Expr e (@List.nil.{0} PySem.Expr)) (PyProof.Rows.envOfC qual scope (@Array.size.{0} PySem.Obj (PySem.Heap.objs (PySem.Shared.heap s0))) fa cd)) (@List.cons.{0} (Prod.{0, 0} Bool (PySem.Sem PySem.Value)) (@Prod.mk.{0, 0} Bool (PySem.Sem PySem.Value) Bool.false (PySem.eval e (PyProof.Rows.envOfC qual scope (@Array.size.{0} PySem.Obj (PySem.Heap.objs (PySem.Shared.heap s0))) fa cd))) (@List.nil.{0} (Prod.{0, 0} Bool (PySem.Sem PySem.Value)))) := by rfl) : DL.BS (L2.cxOf (L2.CX1 P0 w) P0 w K mg base N qual scope fa cd A outer s0 H0 E) E M P fr (PySem.Stmt.Raise (@Option.some.{0} PySem.Expr (PySem.Expr.Call (PySem.Expr.Name x np) (@List.cons.{0} PySem.Expr e (@List.nil.{0} PySem.Expr)) (@List.nil.{0} PySem.Keyword) cpos)) (@Option.none.{0} PySem.Expr) pos) (DL.sRaise x fs) := ⟨@DL.ds_raise E M P fr pos cpos e fs x P0 w K mg base N qual scope fa cd A outer s0 H0 C np hC hm hg ha.h hd he⟩
theorem b_ds_ret {X : L2.Cx} {E : L2.XK} {M : List.{0} Nat} {P : List.{0} Nat} {pos : PySem.Pos} {e : PySem.Expr} {fe : DL.EF} (he : DL.BE X E M e fe) : DL.BS X E M P Bool.false (PySem.Stmt.Return (@Option.some.{0} PySem.Expr e) pos) (DL.sRet fe) := ⟨@DL.ds_ret X E M P pos e fe he.h⟩
theorem b_ds_retF {X : L2.Cx} {E : L2.XK} {M : List.{0} Nat} {P : List.{0} Nat} {pos : PySem.Pos} {e : PySem.Expr} {fe : DL.EF} (he : DL.BN X E M e fe) : DL.BS X E M P Bool.true (PySem.Stmt.Return (@Option.some.{0} PySem.Expr e) pos) (DL.sRet fe) := ⟨@DL.ds_retF X E M P pos e fe he.h⟩
theorem b_ds_retOF {X : L2.Cx} {E : L2.XK} {M : List.{0} Nat} {P : List.{0} Nat} {pos : PySem.Pos} {x : PySem.Str} {i : Nat} {p : PySem.Pos} (h : L2.PE X (PySem.Expr.Name x p) (L2.tVar i)) (hi : @Membership.mem.{0, 0} Nat (List.{0} Nat) (@List.instMembership.{0} Nat) M i) : DL.BS X E M P Bool.true (PySem.Stmt.Return (@Option.some.{0} PySem.Expr (PySem.Expr.Name x p)) pos) (DL.sRetO i) := ⟨@DL.ds_retOF X E M P pos x i p h hi⟩
theorem b_ds_set {X : L2.Cx} {E : L2.XK} {M : List.{0} Nat} {P : List.{0} Nat} {fr : Bool} {pos : PySem.Pos} {pos' : PySem.Pos} {e : PySem.Expr} {fe : DL.EF} {i : Nat} {x : PySem.Str} (hN : @List.Nodup.{0} PySem.Str (L2.Cx.N X)) (hi : @Eq.{1} (Option.{0} PySem.Str) (@GetElem?.getElem?.{0, 0, 0} (List.{0} PySem.Str) Nat PySem.Str (fun (as : List.{0} PySem.Str) (i : Nat) => @LT.lt.{0} Nat instLTNat i (@List.length.{0} PySem.Str as)) (@List.instGetElem?NatLtLength.{0} PySem.Str) (L2.Cx.N X) i) (@Option.some.{0} PySem.Str x)) (hx : L2.Loc (PySem.Env.scope (L2.Cx.env X)) x) (hM : Not (@Membership.mem.{0, 0} Nat (List.{0} Nat) (@List.instMembership.{0} Nat) M i)) (hP : Not (@Membership.mem.{0, 0} Nat (List.{0} Nat) (@List.instMembership.{0} Nat) P i)) (he : DL.BE X E M e fe) (hs : @Eq.{1} (PySem.Sem Bool) (PySem.swapsWith e (@Option.some.{0} PySem.Expr (PySem.Expr.Name x pos')) (PySem.Pos.line pos) (L2.Cx.env X)) (@Pure.pure.{0, 0} PySem.Sem (@Applicative.toPure.{0, 0} PySem.Sem (@Monad.toApplicative.{0, 0} PySem.Sem PySem.Sem.instMonad)) Bool Bool.false) := by first | rfl | decide | with_unfolding_all rfl) (hf : Or (@Eq.{1} Bool (L2.Cx.fn X x) Bool.true) (@Eq.{1} (Option.{0} PySem.NameKind) (@List.lookup.{0, 0} PySem.Str PySem.NameKind (@instBEqOfDecidableEq.{0} PySem.Str PySem.instDecidableEqStr) x (PySem.Scope.names (PySem.Env.scope (L2.Cx.env X)))) (@Option.some.{0} PySem.NameKind PySem.NameKind.local)) := by first | exact .inl rfl | exact .inr rfl | assumption) : DL.BS X E M P fr (PySem.Stmt.Assign (@List.cons.{0} PySem.Expr (PySem.Expr.Name x pos') (@List.nil.{0} PySem.Expr)) e pos) (DL.sSet i fe) := ⟨@DL.ds_set X E M P fr pos pos' e fe i x hN hi hx hM hP he.h hs hf⟩
theorem b_ds_setLc2 {X : L2.Cx} {E : L2.XK} {M : List.{0} Nat} {P : List.{0} Nat} {fr : Bool} {elt : PySem.Expr} {tg : PySem.Expr} {iter : PySem.Expr} {tg1 : PySem.Expr} {iter1 : PySem.Expr} {ifs : List.{0} PySem.Expr} {ifs1 : List.{0} PySem.Expr} {scope : PySem.Scope} {own : List.{0} (Prod.{0, 0} PySem.Str Nat)} {pos : PySem.Pos} {spos : PySem.Pos} {py : PySem.Pos} {fi : DL.AF} {fi1 : DL.AF} {g : L2.TG} {g1 : L2.TG} {b : DL.BFn} {b1 : DL.BFn} {ft : DL.BF} {ft1 : DL.BF} {fe : DL.EF} {T : List.{0} Nat} {T1 : List.{0} Nat} {ws1 : List.{0} Nat} {i : Nat} {y : PySem.Str} (hc : @Eq.{1} Bool (L2.Cx.calm X) Bool.true) (hN : @List.Nodup.{0} PySem.Str (L2.Cx.N X)) (hy : @Eq.{1} (Option.{0} PySem.Str) (@GetElem?.getElem?.{0, 0, 0} (List.{0} PySem.Str) Nat PySem.Str (fun (as : List.{0} PySem.Str) (i : Nat) => @LT.lt.{0} Nat instLTNat i (@List.length.{0} PySem.Str as)) (@List.instGetElem?NatLtLength.{0} PySem.Str) (L2.Cx.N X) i) (@Option.some.{0} PySem.Str y)) (hyl : @Eq.{1} (Option.{0} PySem.NameKind) (@List.lookup.{0, 0} PySem.Str PySem.NameKind (@instBEqOfDecidableEq.{0} PySem.Str PySem.instDecidableEqStr) y (PySem.Scope.names (PySem.Env.scope (L2.Cx.env X)))) (@Option.some.{0} PySem.NameKind PySem.NameKind.local)) (hsw : @Eq.{1} (PySem.Sem Bool) (PySem.swapsWith (PySem.Expr.ListComp elt (@List.cons.{0} PySem.Comprehension (PySem.Comprehension.mk tg iter ifs (@OfNat.ofNat.{0} Int (nat_lit 0) (@instOfNat (nat_lit 0)))) (@List.cons.{0} PySem.Comprehension (PySem.Comprehension.mk tg1 iter1 ifs1 (@OfNat.ofNat.{0} Int (nat_lit 0) (@instOfNat (nat_lit 0)))) (@List.nil.{0} PySem.Comprehension))) scope pos) (@Option.some.{0} PySem.Expr (PySem.Expr.Name y py)) (PySem.Pos.line spos) (L2.Cx.env X)) (@Pure.pure.{0, 0} PySem.Sem (@Applicative.toPure.{0, 0} PySem.Sem (@Monad.toApplicative.{0, 0} PySem.Sem PySem.Sem.instMonad)) Bool Bool.true)) (hi : DL.BI X E M tg iter fi) (ok : L2.BlkOk (L2.Cx.N X) (PySem.Env.scope (L2.Cx.env X)) scope own) (hg : ∀ (s : PySem.Shared) (H : L2.Hp) (C : PySem.Addr) (cl : List.{0} (Prod.{0, 0} PySem.Str PySem.Addr)) (fp : List.{0} PySem.Addr), L2.PG (L2.Cx.blk X s H scope (PySem.compEnvC scope cl C (L2.Cx.env X)) fp) tg g) (ht : (s : PySem.Shared) → (H : L2.Hp) → (C : PySem.Addr) → (cl : List.{0} (Prod.{0, 0} PySem.Str PySem.Addr)) → (fp : List.{0} PySem.Addr) → DL.BTs (L2.Cx.blk X s H scope (PySem.compEnvC scope cl C (L2.Cx.env X)) fp) L2.E0 M ifs ft) (hi1 : (s : PySem.Shared) → (H : L2.Hp) → (C : PySem.Addr) → (cl : List.{0} (Prod.{0, 0} PySem.Str PySem.Addr)) → (fp : List.{0} PySem.Addr) → DL.BI (L2.Cx.blk X s H scope (PySem.compEnvC scope cl C (L2.Cx.env X)) fp) L2.E0 M tg1 iter1 fi1) (hg1 : ∀ (s : PySem.Shared) (H : L2.Hp) (C : PySem.Addr) (cl : List.{0} (Prod.{0, 0} PySem.Str PySem.Addr)) (fp : List.{0} PySem.Addr), L2.PG (L2.Cx.blk X s H scope (PySem.compEnvC scope cl C (L2.Cx.env X)) fp) tg1 g1) (ht1 : (s : PySem.Shared) → (H : L2.Hp) → (C : PySem.Addr) → (cl : List.{0} (Prod.{0, 0} PySem.Str PySem.Addr)) → (fp : List.{0} PySem.Addr) → DL.BTs (L2.Cx.blk X s H scope (PySem.compEnvC scope cl C (L2.Cx.env X)) fp) L2.E0 M ifs1 ft1) (he : (s : PySem.Shared) → (H : L2.Hp) → (C : PySem.Addr) → (cl : List.{0} (Prod.{0, 0} PySem.Str PySem.Addr)) → (fp : List.{0} PySem.Addr) → DL.BE (L2.Cx.blk X s H scope (PySem.compEnvC scope cl C (L2.Cx.env X)) fp) L2.E0 M elt fe) (gok : DL.GOk (L2.Cx.K X) (L2.Cx.mg X) M T (@List.length.{0} PySem.Str (L2.Cx.N X)) g b) (gok1 : DL.GOk (L2.Cx.K X) (L2.Cx.mg X) M T1 (@List.length.{0} PySem.Str (L2.Cx.N X)) g1 b1) (hT : ∀ (k : Nat), @Membership.mem.{0, 0} Nat (List.{0} Nat) (@List.instMembership.{0} Nat) T k → @Membership.mem.{0, 0} Nat (List.{0} Nat) (@List.instMembership.{0} Nat) (@List.map.{0, 0} (Prod.{0, 0} PySem.Str Nat) Nat (fun (x : Prod.{0, 0} PySem.Str Nat) => @Prod.snd.{0, 0} PySem.Str Nat x) own) k) (hT1 : ∀ (k : Nat), @Membership.mem.{0, 0} Nat (List.{0} Nat) (@List.instMembership.{0} Nat) T1 k → @Membership.mem.{0, 0} Nat (List.{0} Nat) (@List.instMembership.{0} Nat) ws1 k) (hw : ∀ (k : Nat), @Membership.mem.{0, 0} Nat (List.{0} Nat) (@List.instMembership.{0} Nat) ws1 k → @Membership.mem.{0, 0} Nat (List.{0} Nat) (@List.instMembership.{0} Nat) (@List.map.{0, 0} (Prod.{0, 0} PySem.Str Nat) Nat (fun (x : Prod.{0, 0} PySem.Str Nat) => @Prod.snd.{0, 0} PySem.Str Nat x) own) k) (hM : ∀ (i : Nat), @Membership.mem.{0, 0} Nat (List.{0} Nat) (@List.instMembership.{0} Nat) (@List.map.{0, 0} (Prod.{0, 0} PySem.Str Nat) Nat (fun (x : Prod.{0, 0} PySem.Str Nat) => @Prod.snd.{0, 0} PySem.Str Nat x) own) i → Not (@Membership.mem.{0, 0} Nat (List.{0} Nat) (@List.instMembership.{0} Nat) M i)) (hiM : Not (@Membership.mem.{0, 0} Nat (List.{0} Nat) (@List.instMembership.{0} Nat) M i)) (hP : Not (@Membership.mem.{0, 0} Nat (List.{0} Nat) (@List.instMembership.{0} Nat) P i)) (hs : ∀ (x : PySem.Value), @Eq.{1} (PySem.Sem PySem.Value) (PySem.foldedSetIterable iter (L2.Cx.env X) x) (@Pure.pure.{0, 0} PySem.Sem (@Applicative.toPure.{0, 0} PySem.Sem (@Monad.toApplicative.{0, 0} PySem.Sem PySem.Sem.instMonad)) PySem.Value x) := by intros; rfl) (hs1 : ∀ (env : PySem.Env) (x : PySem.Value), @Eq.{1} (PySem.Sem PySem.Value) (PySem.foldedSetIterable iter1 env x) (@Pure.pure.{0, 0} PySem.Sem (@Applicative.toPure.{0, 0} PySem.Sem (@Monad.toApplicative.{0, 0} PySem.Sem PySem.Sem.instMonad)) PySem.Value x) := by intros; rfl) : DL.BS X E M P fr (PySem.Stmt.Assign (@List.cons.{0} PySem.Expr (PySem.Expr.Name y py) (@List.nil.{0} PySem.Expr)) (PySem.Expr.ListComp elt (@List.cons.{0} PySem.Comprehension (PySem.Comprehension.mk tg iter ifs (@OfNat.ofNat.{0} Int (nat_lit 0) (@instOfNat (nat_lit 0)))) (@List.cons.{0} PySem.Comprehension (PySem.Comprehension.mk tg1 iter1 ifs1 (@OfNat.ofNat.{0} Int (nat_lit 0) (@instOfNat (nat_lit 0)))) (@List.nil.{0} PySem.Comprehension))) scope pos) spos) (DL.sSet i (DL.eLc2 fi b ft fi1 b1 ft1 fe (@List.map.{0, 0} (Prod.{0, 0} PySem.Str Nat) Nat (fun (x : Prod.{0, 0} PySem.Str Nat) => @Prod.snd.{0, 0} PySem.Str Nat x) own) ws1)) := ⟨@DL.ds_setLc2 X E M P fr elt tg iter tg1 iter1 ifs ifs1 scope own pos spos py fi fi1 g g1 b b1 ft ft1 fe T T1 ws1 i y hc hN hy hyl hsw hi.h ok hg (fun y0 y1 y2 y3 y4 => (ht y0 y1 y2 y3 y4).h) (fun y0 y1 y2 y3 y4 => (hi1 y0 y1 y2 y3 y4).h) hg1 (fun y0 y1 y2 y3 y4 => (ht1 y0 y1 y2 y3 y4).h) (fun y0 y1 y2 y3 y4 => (he y0 y1 y2 y3 y4).h) gok gok1 hT hT1 hw hM hiM hP hs hs1⟩
theorem b_ds_setO {X : L2.Cx} {E : L2.XK} {M : List.{0} Nat} {P : List.{0} Nat} {fr : Bool} {pos : PySem.Pos} {pos' : PySem.Pos} {e : PySem.Expr} {fe : DL.EF} {i : Nat} {x : PySem.Str} (hN : @List.Nodup.{0} PySem.Str (L2.Cx.N X)) (hi : @Eq.{1} (Option.{0} PySem.Str) (@GetElem?.getElem?.{0, 0, 0} (List.{0} PySem.Str) Nat PySem.Str (fun (as : List.{0} PySem.Str) (i : Nat) => @LT.lt.{0} Nat instLTNat i (@List.length.{0} PySem.Str as)) (@List.instGetElem?NatLtLength.{0} PySem.Str) (L2.Cx.N X) i) (@Option.some.{0} PySem.Str x)) (hx : L2.Loc (PySem.Env.scope (L2.Cx.env X)) x) (hM : @Membership.mem.{0, 0} Nat (List.{0} Nat) (@List.instMembership.{0} Nat) M i) (hP : Not (@Membership.mem.{0, 0} Nat (List.{0} Nat) (@List.instMembership.{0} Nat) P i)) (he : DL.BN X E M e fe) (hs : @Eq.{1} (PySem.Sem Bool) (PySem.swapsWith e (@Option.some.{0} PySem.Expr (PySem.Expr.Name x pos')) (PySem.Pos.line pos) (L2.Cx.env X)) (@Pure.pure.{0, 0} PySem.Sem (@Applicative.toPure.{0, 0} PySem.Sem (@Monad.toApplicative.{0, 0} PySem.Sem PySem.Sem.instMonad)) Bool Bool.false) := by first | rfl | decide | with_unfolding_all rfl) (hf : Or (@Eq.{1} Bool (L2.Cx.fn X x) Bool.true) (@Eq.{1} (Option.{0} PySem.NameKind) (@List.lookup.{0, 0} PySem.Str PySem.NameKind (@instBEqOfDecidableEq.{0} PySem.Str PySem.instDecidableEqStr) x (PySem.Scope.names (PySem.Env.scope (L2.Cx.env X)))) (@Option.some.{0} PySem.NameKind PySem.NameKind.local)) := by first | exact .inl rfl | exact .inr rfl | assumption) : DL.BS X E M P fr (PySem.Stmt.Assign (@List.cons.{0} PySem.Expr (PySem.Expr.Name x pos') (@List.nil.{0} PySem.Expr)) e pos) (DL.sSetO i fe) := ⟨@DL.ds_setO X E M P fr pos pos' e fe i x hN hi hx hM hP he.h hs hf⟩
theorem b_ds_try {X : L2.Cx} {E : L2.XK} {M : List.{0} Nat} {P : List.{0} Nat} {fr : Bool} {body : List.{0} PySem.Stmt} {suite : List.{0} PySem.Stmt} {b0 : PySem.Stmt} {cf : PySem.Str} {n : PySem.Str} {Cf : PySem.Addr} {i : Nat} {fb : DL.SF} {fh : DL.SF} {cat : PySem.Str → Bool} {np : PySem.Pos} {hpos : PySem.Pos} {pos : PySem.Pos} (hst : @Eq.{1} (List.{0} PySem.Env) (L2.Cx.stack X) (@List.cons.{0} PySem.Env (L2.Cx.env X) (L2.Cx.outer X))) (hf : @Eq.{1} (Option.{0} PySem.Addr) (PySem.Env.frame (L2.Cx.env X)) (@Option.some.{0} PySem.Addr (PySem.Env.locals (L2.Cx.env X)))) (hN : @List.Nodup.{0} PySem.Str (L2.Cx.N X)) (hi : @Eq.{1} (Option.{0} PySem.Str) (@GetElem?.getElem?.{0, 0, 0} (List.{0} PySem.Str) Nat PySem.Str (fun (as : List.{0} PySem.Str) (i : Nat) => @LT.lt.{0} Nat instLTNat i (@List.length.{0} PySem.Str as)) (@List.instGetElem?NatLtLength.{0} PySem.Str) (L2.Cx.N X) i) (@Option.some.{0} PySem.Str n)) (hk : @Eq.{1} (Option.{0} PySem.NameKind) (@List.lookup.{0, 0} PySem.Str PySem.NameKind (@instBEqOfDecidableEq.{0} PySem.Str PySem.instDecidableEqStr) n (PySem.Scope.names (PySem.Env.scope (L2.Cx.env X)))) (@Option.some.{0} PySem.NameKind PySem.NameKind.local)) (hg : L2.Gl X cf) (hm : @Eq.{1} (Option.{0} PySem.Value) (L2.Cx.mg X cf) (@Option.some.{0} PySem.Value (PySem.Value.ref Cf))) (hiM : Not (@Membership.mem.{0, 0} Nat (List.{0} Nat) (@List.instMembership.{0} Nat) M i)) (hiP : Not (@Membership.mem.{0, 0} Nat (List.{0} Nat) (@List.instMembership.{0} Nat) P i)) (hcat : ∀ (c : PySem.Str) (C : PySem.Addr), @Eq.{1} Bool (cat c) Bool.true → @Eq.{1} (Option.{0} PySem.Value) (L2.Cx.mg X c) (@Option.some.{0} PySem.Value (PySem.Value.ref C)) → @Eq.{1} (Option.{0} Bool) (PySem.W.exmOne (L2.Cx.K X) (PySem.Value.ref C) (PySem.Value.ref Cf)) (@Option.some.{0} Bool Bool.true)) (hb : ∀ (E' : L2.XK), DL.DSx X E' M P fr body fb) (hs : (e : PySem.Value) → (xe : PySem.Value → PySem.Shared → Prop) → DL.BSs (L2.Cx.hand X e xe) L2.E0 M P fr (@List.cons.{0} PySem.Stmt b0 suite) fh) (hdb : @Eq.{1} Bool (@BEq.beq.{0} PySem.Str (@instBEqOfDecidableEq.{0} PySem.Str PySem.instDecidableEqStr) cf (PySem.Str.ofString "__debug__")) Bool.false := by first | rfl | decide | with_unfolding_all rfl) : DL.BS X E M P fr (PySem.Stmt.Try body (@List.cons.{0} PySem.ExceptHandler (PySem.ExceptHandler.ExceptHandler (@Option.some.{0} PySem.Expr (PySem.Expr.Name cf np)) (@Option.some.{0} PySem.Str n) (@List.cons.{0} PySem.Stmt b0 suite) hpos) (@List.nil.{0} PySem.ExceptHandler)) (@List.nil.{0} PySem.Stmt) (@List.nil.{0} PySem.Stmt) pos) (DL.sTry M cat i fb fh) := ⟨@DL.ds_try X E M P fr body suite b0 cf n Cf i fb fh cat np hpos pos hst hf hN hi hk hg hm hiM hiP hcat hb (fun y0 y1 => (hs y0 y1).h) hdb⟩
theorem b_dss_cons {X : L2.Cx} {E : L2.XK} {M : List.{0} Nat} {P : List.{0} Nat} {fr : Bool} {st : PySem.Stmt} {rest : List.{0} PySem.Stmt} {f : DL.SF} {g : DL.SF} (h1 : DL.BS X E M P fr st f) (h2 : DL.BSs X E M P fr rest g) : DL.BSs X E M P fr (@List.cons.{0} PySem.Stmt st rest) (DL.sSeq f g) := ⟨@DL.dss_cons X E M P fr st rest f g h1.h h2.h⟩
theorem b_dss_nil {X : L2.Cx} {E : L2.XK} {M : List.{0} Nat} {P : List.{0} Nat} {fr : Bool} : DL.BSs X E M P fr (@List.nil.{0} PySem.Stmt) DL.sNil := ⟨@DL.dss_nil X E M P fr⟩
theorem b_dss_one {X : L2.Cx} {E : L2.XK} {M : List.{0} Nat} {P : List.{0} Nat} {fr : Bool} {st : PySem.Stmt} {f : DL.SF} (h1 : DL.BS X E M P fr st f) : DL.BSs X E M P fr (@List.cons.{0} PySem.Stmt st (@List.nil.{0} PySem.Stmt)) f := ⟨@DL.dss_one X E M P fr st f h1.h⟩
theorem b_dt_cmpR {X : L2.Cx} {E : L2.XK} {M : List.{0} Nat} {pos : PySem.Pos} {a : PySem.Expr} {b : PySem.Expr} {fa : DL.EF} {fb : DL.EF} {op : PySem.CmpOp} {r : L2.R2} {g : DL.D → DL.D → Option.{0} DL.D} (hop : L2.OpR X (PySem.compareOp op) r) (hg : DL.OpD (L2.Cx.K X) (L2.Cx.mg X) r g) (ha : DL.BE X E M a fa) (hb : DL.BE X E M b fb) (hm : @Eq.{1} Bool (PySem.behindInMarks op b) Bool.false) : DL.BT X E M (PySem.Expr.Compare a (@List.cons.{0} PySem.CmpOp op (@List.nil.{0} PySem.CmpOp)) (@List.cons.{0} PySem.Expr b (@List.nil.{0} PySem.Expr)) pos) (DL.bVal (DL.e2 g fa fb)) := ⟨@DL.dt_cmpR X E M pos a b fa fb op r g hop hg ha.h hb.h hm⟩
theorem b_dt_not {X : L2.Cx} {E : L2.XK} {M : List.{0} Nat} {pos : PySem.Pos} {a : PySem.Expr} {ga : DL.BF} (ha : DL.BT X E M a ga) : DL.BT X E M (PySem.Expr.UnaryOp PySem.UnaryOp.Not a pos) (DL.bNot ga) := ⟨@DL.dt_not X E M pos a ga ha.h⟩
theorem b_dt_val {X : L2.Cx} {E : L2.XK} {M : List.{0} Nat} {e : PySem.Expr} {fe : DL.EF} (ha : DL.BE X E M e fe) (hv : ∀ (t : L2.TE), L2.PE X e t → L2.PT X e (L2.tB t)) : DL.BT X E M e (DL.bVal fe) := ⟨@DL.dt_val X E M e fe ha.h hv⟩
theorem b_dts_nil {X : L2.Cx} {E : L2.XK} {M : List.{0} Nat} : DL.BTs X E M (@List.nil.{0} PySem.Expr) DL.bTrue := ⟨@DL.dts_nil X E M⟩
theorem b_dts_one {X : L2.Cx} {E : L2.XK} {M : List.{0} Nat} {c : PySem.Expr} {f : DL.BF} (h : DL.BT X E M c f) : DL.BTs X E M (@List.cons.{0} PySem.Expr c (@List.nil.{0} PySem.Expr)) f := ⟨@DL.dts_one X E M c f h.h⟩
end DL

set_option Elab.async false
set_option linter.all false
set_option maxRecDepth 100000
set_option maxHeartbeats 4000000
namespace G
open PySem L2 DL TL
structure Top (K : PySem.W.Frag) (mg : Str → Option Value) : Prop where
  B : NoB mg
  c_MOST_WAYS : ∃ t, mg "MOST_WAYS" = some (.int 3 t)
  c_MOST_SPAN : ∃ t, mg "MOST_SPAN" = some (.int 3 t)
  x_FallError : ∃ C, ExcC K C ∧ mg "FallError" = some (.ref C)
  x_NoNumber : ∃ C, ExcC K C ∧ mg "NoNumber" = some (.ref C)
  x_CantBe : ∃ C, ExcC K C ∧ mg "CantBe" = some (.ref C)
  x_NoTiming : ∃ C, ExcC K C ∧ mg "NoTiming" = some (.ref C)
  nVE : mg "ValueError" = none
  ex : ExAll K mg exAll
section
variable {P : Program} {w : World} {K : PySem.W.Frag} {mg : Str → Option Value} {base : Heap}
theorem sc_is_whole : FnScope n_is_whole ["thing"] (defScope s_is_whole) := ⟨rfl, rfl, rfl, by decide +kernel, rfl, by decide +kernel, by decide +kernel⟩
theorem ok_is_whole (T : Top K mg) (D : Has K mg "is_whole" s_is_whole ["thing"]) : CalD P w K mg base 1 "is_whole" ["thing"] [] false F_is_whole := by
  refine DL.Has.calD (k := 0) D sc_is_whole [] [] false g_is_whole (by decide) (by decide) (fun fa cdv A outer s H E hr => ?_) (by decide)
  exact BSs.h (b_dss_one (b_ds_ret (b_de_and (b_de_callB cr_isF cd_isinst (by rfl) (T.B _ (by decide)) (by decide +kernel) (b_da_cons (b_de_var (pv 0) (by decide)) (b_da_cons (b_de_c (pe_bltn (v := .ty "int") (by rfl) (T.B _ (by decide)) (by decide +kernel) rfl) (fun _ _ => rfl)) b_da_nil))) (b_de_one (b_de_not (b_de_callB cr_isF cd_isinst (by rfl) (T.B _ (by decide)) (by decide +kernel) (b_da_cons (b_de_var (pv 0) (by decide)) (b_da_cons (b_de_c (pe_bltn (v := .ty "bool") (by rfl) (T.B _ (by decide)) (by decide +kernel) rfl) (fun _ _ => rfl)) b_da_nil))))))))
theorem sc_is_whole_within : FnScope n_is_whole_within ["thing", "least", "most"] (defScope s_is_whole_within) := ⟨rfl, rfl, rfl, by decide +kernel, rfl, by decide +kernel, by decide +kernel⟩
theorem ok_is_whole_within (T : Top K mg) (D : Has K mg "is_whole_within" s_is_whole_within ["thing", "least", "most"]) (C_is_whole : CalD P w K mg base 1 "is_whole" ["thing"] [] false F_is_whole) : CalD P w K mg base 2 "is_whole_within" ["thing", "least", "most"] [] false F_is_whole_within := by
  refine DL.Has.calD (k := 1) D sc_is_whole_within [] [] false g_is_whole_within (by decide) (by decide) (fun fa cdv A outer s H E hr => ?_) (by decide)
  exact BSs.h (b_dss_one (b_ds_ret (b_de_and (b_de_cal C_is_whole (hr.mono (by decide)) (by rfl) pass1 (b_dax_sh (b_de_var (pv 0) (by decide)) b_dax_nil) (ksOk_mk (M := []) (ks := (.sh (eVar 0) :: [])) (by decide) (by decide)) rfl) (b_de_one (b_de_chain op_le op_le od_le od_le (b_de_var (pv 1) (by decide)) (b_de_var (pv 0) (by decide)) (b_de_var (pv 2) (by decide)))))))
theorem sc_refuse_no_span : FnScope n_refuse_no_span ["n", "m"] (defScope s_refuse_no_span) := ⟨rfl, rfl, rfl, by decide +kernel, rfl, by decide +kernel, by decide +kernel⟩
theorem ok_refuse_no_span (T : Top K mg) (D : Has K mg "refuse_no_span" s_refuse_no_span ["n", "m"]) (C_is_whole_within : CalD P w K mg base 2 "is_whole_within" ["thing", "least", "most"] [] false F_is_whole_within) : CalD P w K mg base 3 "refuse_no_span" ["n", "m"] [] false F_refuse_no_span := by
  obtain ⟨cC_NoNumber, hC_NoNumber, hm_NoNumber⟩ := T.x_NoNumber
  refine DL.Has.calD (k := 2) D sc_refuse_no_span [] [] false g_refuse_no_span (by decide) (by decide) (fun fa cdv A outer s H E hr => ?_) (by decide)
  exact BSs.h (b_dss_cons (b_ds_if (b_dt_not (b_dt_val (b_de_cal C_is_whole_within (hr.mono (by decide)) (by rfl) pass1 (b_dax_sh (b_de_var (pv 0) (by decide)) (b_dax_sh b_de_int (b_dax_sh (b_de_gint T.c_MOST_WAYS (by rfl)) b_dax_nil))) (ksOk_mk (M := []) (ks := (.sh (eVar 0) :: (.sh (eC (.int 1)) :: (.sh (eC (.int 3)) :: [])))) (by decide) (by decide)) rfl) (fun _ h => pt_val h))) (b_dss_one (b_ds_raise hC_NoNumber hm_NoNumber (by rfl) (b_da_cons b_de_str b_da_nil))) b_dss_nil) (b_dss_one (b_ds_if (b_dt_not (b_dt_val (b_de_cal C_is_whole_within (hr.mono (by decide)) (by rfl) pass1 (b_dax_sh (b_de_var (pv 1) (by decide)) (b_dax_sh b_de_int (b_dax_sh (b_de_gint T.c_MOST_SPAN (by rfl)) b_dax_nil))) (ksOk_mk (M := []) (ks := (.sh (eVar 1) :: (.sh (eC (.int 0)) :: (.sh (eC (.int 3)) :: [])))) (by decide) (by decide)) rfl) (fun _ h => pt_val h))) (b_dss_one (b_ds_raise hC_NoNumber hm_NoNumber (by rfl) (b_da_cons b_de_str b_da_nil))) b_dss_nil)))
theorem sc_normal_rows : FnScope n_normal_rows ["n", "m"] (defScope s_normal_rows) := ⟨rfl, rfl, rfl, by decide +kernel, rfl, by decide +kernel, by decide +kernel⟩
theorem ok_normal_rows (T : Top K mg) (D : Has K mg "normal_rows" s_normal_rows ["n", "m"]) (C_refuse_no_span : CalD P w K mg base 3 "refuse_no_span" ["n", "m"] [] false F_refuse_no_span) : CalD P w K mg base 4 "normal_rows" ["n", "m"] [] true F_normal_rows := by
  refine DL.Has.calD (k := 3) D sc_normal_rows [] [] true g_normal_rows (by decide) (by decide) (fun fa cdv A outer s H E hr => ?_) (by decide)
  exact BSs.h (b_dss_cons (b_ds_expr (b_de_cal C_refuse_no_span (hr.mono (by decide)) (by rfl) pass1 (b_dax_sh (b_de_var (pv 0) (by decide)) (b_dax_sh (b_de_var (pv 1) (by decide)) b_dax_nil)) (ksOk_mk (M := []) (ks := (.sh (eVar 0) :: (.sh (eVar 1) :: []))) (by decide) (by decide)) rfl)) (b_dss_cons (b_ds_set (i := 2) sc_normal_rows.nd rfl (Or.inr rfl) (by decide) (by decide) (b_de_op op_addD od_add (b_DN_de (b_dn_listRng (by rfl) (by rfl) (T.B _ (by decide)) (by rfl) (T.B _ (by decide)) (b_da_cons (b_de_op op_addD od_add (b_de_var (pv 1) (by decide)) b_de_int) b_da_nil))) (b_de_lst (b_da_cons b_de_non b_da_nil)))) (b_dss_cons (b_ds_set (i := 3) sc_normal_rows.nd rfl (Or.inl rfl) (by decide) (by decide) (b_de_lst (b_da_cons (b_de_tup b_da_nil) b_da_nil))) (b_dss_cons (b_ds_for PassesOwn.leaving rfl (b_di_range1 (by rfl) (T.B _ (by decide)) (b_da_cons (b_de_var (pv 0) (by decide)) b_da_nil)) (pg_name (i := 4) sc_normal_rows.nd rfl (Or.inl rfl)) (go_name (show 4 < 7 by decide) (by decide)) (by decide) (b_dss_one (b_ds_setLc2 (i := 3) (own := [("row", 5), ("thing", 6)]) (ws1 := [6]) (by rfl) sc_normal_rows.nd rfl rfl (sw_true rfl rfl rfl (by decide +kernel)) (b_di_any (b_de_var (pv 3) (by decide))) (blkOk_by (own := [("row", 5), ("thing", 6)]) (N := n_normal_rows) (sc := defScope s_normal_rows) (by decide +kernel)) (fun _ _ _ _ _ => (pg_name (i := 5) sc_normal_rows.nd rfl (Or.inl rfl))) (fun _ _ _ _ _ => b_dts_nil) (fun _ _ _ _ _ => (b_di_any (b_de_var (pv 2) (by decide)))) (fun _ _ _ _ _ => (pg_name (i := 6) sc_normal_rows.nd rfl (Or.inl rfl))) (fun _ _ _ _ _ => b_dts_nil) (fun _ _ _ _ _ => (b_de_tup (b_da_star (b_de_var (pv 5) (by decide)) (b_da_cons (b_de_var (pv 6) (by decide)) b_da_nil)))) (go_name (show 5 < 7 by decide) (by decide)) (go_name (show 6 < 7 by decide) (by decide)) (by decide) (by decide) (by decide) (by decide) (by decide) (by decide)))) (b_dss_one (b_ds_retF (b_dn_lc (own := [("row", 5)]) (by rfl) sc_normal_rows.nd (b_di_any (b_de_var (pv 3) (by decide))) (blkOk_by (own := [("row", 5)]) (N := n_normal_rows) (sc := defScope s_normal_rows) (by decide +kernel)) (fun _ _ _ _ _ => (pg_name (i := 5) sc_normal_rows.nd rfl (Or.inl rfl))) (fun _ _ _ _ _ => (b_dts_one (b_dt_cmpR op_inD od_in b_de_int (b_de_var (pv 5) (by decide)) (by rfl)))) (fun _ _ _ _ _ => (b_de_var (pv 5) (by decide))) (go_name (show 5 < 7 by decide) (by decide)) (by decide) (by decide))))))))
theorem sc_l_cell : FnScope n_l_cell ["_law_script", "_law_k"] (defScope s_l_cell) := ⟨rfl, rfl, rfl, by decide +kernel, rfl, by decide +kernel, by decide +kernel⟩
theorem ok_l_cell (T : Top K mg) (D : Has K mg "_law_cell" s_l_cell ["_law_script", "_law_k"]) : CalD P w K mg base 1 "_law_cell" ["_law_script", "_law_k"] [] false F_l_cell := by
  refine DL.Has.calD (k := 0) D sc_l_cell [] [] false g_l_cell (by decide) (by decide) (fun fa cdv A outer s H E hr => ?_) (by decide)
  exact BSs.h (b_dss_cons (b_ds_if (b_dt_cmpR op_lt od_lt (b_de_var (pv 1) (by decide)) (b_de_callB call_lenA cd_len (by rfl) (T.B _ (by decide)) (by decide +kernel) (b_da_cons (b_de_var (pv 0) (by decide)) b_da_nil)) (nomark _)) (b_dss_one (b_ds_ret (b_de_ix (b_de_var (pv 0) (by decide)) (b_de_var (pv 1) (by decide)) (fun _ _ => rfl)))) b_dss_nil) (b_dss_one (b_ds_ret b_de_int)))
theorem sc_l_pot : FnScope n_l_pot ["_law_script", "_law_k"] (defScope s_l_pot) := ⟨rfl, rfl, rfl, by decide +kernel, rfl, by decide +kernel, by decide +kernel⟩
theorem ok_l_pot (T : Top K mg) (D : Has K mg "_law_pot" s_l_pot ["_law_script", "_law_k"]) (C_l_cell : CalD P w K mg base 1 "_law_cell" ["_law_script", "_law_k"] [] false F_l_cell) : CalD P w K mg base 2 "_law_pot" ["_law_script", "_law_k"] [] true F_l_pot := by
  refine DL.Has.calD (k := 1) D sc_l_pot [] [] true g_l_pot (by decide) (by decide) (fun fa cdv A outer s H E hr => ?_) (by decide)
  exact BSs.h (b_dss_cons (b_ds_set (i := 2) sc_l_pot.nd rfl (Or.inl rfl) (by decide) (by decide) (b_de_cal C_l_cell (hr.mono (by decide)) (by rfl) pass1 (b_dax_sh (b_de_var (pv 0) (by decide)) (b_dax_sh (b_de_var (pv 1) (by decide)) b_dax_nil)) (ksOk_mk (M := []) (ks := (.sh (eVar 0) :: (.sh (eVar 1) :: []))) (by decide) (by decide)) rfl)) (b_dss_one (b_ds_retF (b_dn_lst (b_da_cons (b_de_callB (call_max2 rfl) cd_max2 (by rfl) (T.B _ (by decide)) (by decide +kernel) (b_da_cons b_de_int (b_da_cons (b_de_op op_sub od_sub (b_de_var (pv 2) (by decide)) (b_de_op op_pow od_pow b_de_int b_de_int)) b_da_nil))) (b_da_cons (b_de_op op_addD od_add (b_de_op op_modN od_mod (b_de_op op_pow od_pow (b_de_op op_addD od_add (b_de_op op_addD od_add (b_de_op op_modN od_mod (b_de_callB call_abs cd_abs (by rfl) (T.B _ (by decide)) (by decide +kernel) (b_da_cons (b_de_var (pv 2) (by decide)) b_da_nil)) b_de_int) (b_de_op op_mulD od_mul b_de_int (b_de_var (pv 1) (by decide)))) b_de_int) b_de_int) b_de_int) b_de_int) b_da_nil))))))
theorem sc_l_draw : FnScope n_l_draw ["_law_pot_here", "_law_many"] (defScope s_l_draw) := ⟨rfl, rfl, rfl, by decide +kernel, rfl, by decide +kernel, by decide +kernel⟩
theorem ok_l_draw (T : Top K mg) (D : Has K mg "_law_draw" s_l_draw ["_law_pot_here", "_law_many"]) : CalD P w K mg base 1 "_law_draw" ["_law_pot_here", "_law_many"] [0] false F_l_draw := by
  refine DL.Has.calD (k := 0) D sc_l_draw [0] [0] false g_l_draw (by decide) (by decide) (fun fa cdv A outer s H E hr => ?_) (by decide)
  let X_ := cxOf (CX1 P w) P w K mg base n_l_draw "_law_draw" (defScope s_l_draw) fa cdv A outer s H E
  exact BSs.h (b_dss_cons (b_ds_if (b_dt_cmpR op_gt od_gt (b_de_ixO (pe_ix ix_seq (pv 0) (BE.h b_de_int) (fun _ _ => rfl)) (by decide)) b_de_int (nomark _)) (b_dss_cons (b_ds_asg (b_de_callB call_divmodB cd_divmod (by rfl) (T.B _ (by decide)) (by decide +kernel) (b_da_cons (b_de_ixO (pe_ix ix_seq (pv 0) (BE.h b_de_int) (fun _ _ => rfl)) (by decide)) (b_da_cons (b_de_var (pv 1) (by decide)) b_da_nil))) (pg_seq (by rfl) (pgs_cons (pg_sub (pv 0) (BE.h b_de_int) set_list) (pgs_cons (pg_name (i := 2) sc_l_draw.nd rfl (Or.inl rfl)) pgs_nil))) (go_tup (go_cons (go_sub (X := X_) (E := E) (fi := (eC (.int 0))) (by decide)) (go_cons (go_name (show 2 < 3 by decide) (by decide)) go_nil))) (by decide)) (b_dss_one (b_ds_ret (b_de_var (pv 2) (by decide))))) b_dss_nil) (b_dss_cons (b_ds_asg (b_de_op op_modN od_mod (b_de_op op_addD od_add (b_de_op op_mulD od_mul (b_de_ixO (pe_ix ix_seq (pv 0) (BE.h b_de_int) (fun _ _ => rfl)) (by decide)) b_de_int) b_de_int) b_de_int) (pg_sub (pv 0) (BE.h b_de_int) set_list) (go_sub (X := X_) (E := E) (fi := (eC (.int 1))) (by decide)) (by decide)) (b_dss_one (b_ds_ret (b_de_op op_modN od_mod (b_de_op op_fdivN od_fdiv (b_de_op op_modN od_mod (b_de_op op_mulD od_mul (b_de_ixO (pe_ix ix_seq (pv 0) (BE.h b_de_int) (fun _ _ => rfl)) (by decide)) (b_de_ixO (pe_ix ix_seq (pv 0) (BE.h b_de_int) (fun _ _ => rfl)) (by decide))) b_de_int) b_de_int) (b_de_var (pv 1) (by decide)))))))
theorem sc_l_rows : FnScope n_l_rows ["_law_n", "_law_m"] (defScope s_l_rows) := ⟨rfl, rfl, rfl, by decide +kernel, rfl, by decide +kernel, by decide +kernel⟩
theorem ok_l_rows (T : Top K mg) (D : Has K mg "_law_rows" s_l_rows ["_law_n", "_law_m"]) : CalD P w K mg base 1 "_law_rows" ["_law_n", "_law_m"] [] true F_l_rows := by
  refine DL.Has.calD (k := 0) D sc_l_rows [4] [] true g_l_rows (by decide) (by decide) (fun fa cdv A outer s H E hr => ?_) (by decide)
  exact BSs.h (b_dss_cons (b_ds_set (i := 2) sc_l_rows.nd rfl (Or.inl rfl) (by decide) (by decide) b_de_int) (b_dss_cons (b_ds_for PassesOwn.leaving rfl (b_di_range1 (by rfl) (T.B _ (by decide)) (b_da_cons (b_de_var (pv 0) (by decide)) b_da_nil)) (pg_name (i := 3) sc_l_rows.nd rfl (Or.inl rfl)) (go_name (show 3 < 8 by decide) (by decide)) (by decide) (b_dss_one (b_ds_set (i := 2) sc_l_rows.nd rfl (Or.inl rfl) (by decide) (by decide) (b_de_op op_mulD od_mul (b_de_var (pv 2) (by decide)) (b_de_op op_addD od_add (b_de_var (pv 1) (by decide)) b_de_int))))) (b_dss_cons (b_ds_setO (i := 4) sc_l_rows.nd rfl (Or.inl rfl) (by decide) (by decide) (b_dn_lst b_da_nil)) (b_dss_cons (b_ds_for PassesOwn.leaving rfl (b_di_range1 (by rfl) (T.B _ (by decide)) (b_da_cons (b_de_var (pv 2) (by decide)) b_da_nil)) (pg_name (i := 5) sc_l_rows.nd rfl (Or.inl rfl)) (go_name (show 5 < 8 by decide) (by decide)) (by decide) (b_dss_cons (b_ds_set (i := 6) sc_l_rows.nd rfl (Or.inl rfl) (by decide) (by decide) (b_de_tup b_da_nil)) (b_dss_cons (b_ds_for PassesOwn.leaving rfl (b_di_range1 (by rfl) (T.B _ (by decide)) (b_da_cons (b_de_var (pv 0) (by decide)) b_da_nil)) (pg_name (i := 3) sc_l_rows.nd rfl (Or.inl rfl)) (go_name (show 3 < 8 by decide) (by decide)) (by decide) (b_dss_cons (b_ds_asg (b_de_callB call_divmodB cd_divmod (by rfl) (T.B _ (by decide)) (by decide +kernel) (b_da_cons (b_de_var (pv 5) (by decide)) (b_da_cons (b_de_op op_addD od_add (b_de_var (pv 1) (by decide)) b_de_int) b_da_nil))) (pg_seq (by rfl) (pgs_cons (pg_name (i := 5) sc_l_rows.nd rfl (Or.inl rfl)) (pgs_cons (pg_name (i := 7) sc_l_rows.nd rfl (Or.inl rfl)) pgs_nil))) (go_tup (go_cons (go_name (show 5 < 8 by decide) (by decide)) (go_cons (go_name (show 7 < 8 by decide) (by decide)) go_nil))) (by decide)) (b_dss_one (b_ds_set (i := 6) sc_l_rows.nd rfl (Or.inl rfl) (by decide) (by decide) (b_de_op op_addD od_add (b_de_tup (b_da_cons (b_de_ix (b_de_lst (b_da_cons (b_de_var (pv 7) (by decide)) (b_da_cons b_de_non b_da_nil))) (b_de_callTy call_int1 cd_int (by rfl) (T.B _ (by decide)) (by decide +kernel) (b_da_cons (b_de_cmpR op_gt od_gt (b_de_var (pv 7) (by decide)) (b_de_var (pv 1) (by decide)) (nomark _)) b_da_nil)) (fun _ _ => rfl)) b_da_nil)) (b_de_var (pv 6) (by decide))))))) (b_dss_one (b_ds_if (b_dt_cmpR op_inD od_in b_de_int (b_de_var (pv 6) (by decide)) (by rfl)) (b_dss_one (b_ds_expr (b_de_mut md_append rt_append rt_isL (by decide) ty_list (pe_bm PySem.F.plainAttrs_list PySem.F.slot_list_append PySem.F.type_list_append mt_append (pv 4) (BA.h (b_da_cons (b_de_var (pv 6) (by decide)) b_da_nil)))))) b_dss_nil))))) (b_dss_one (b_ds_retOF (pv 4) (by decide)))))))
theorem sc_l_multiplied : FnScope n_l_multiplied ["_law_number", "_law_many"] (defScope s_l_multiplied) := ⟨rfl, rfl, rfl, by decide +kernel, rfl, by decide +kernel, by decide +kernel⟩
theorem ok_l_multiplied (T : Top K mg) (D : Has K mg "_law_multiplied" s_l_multiplied ["_law_number", "_law_many"]) : CalD P w K mg base 1 "_law_multiplied" ["_law_number", "_law_many"] [] false F_l_multiplied := by
  refine DL.Has.calD (k := 0) D sc_l_multiplied [] [] false g_l_multiplied (by decide) (by decide) (fun fa cdv A outer s H E hr => ?_) (by decide)
  exact BSs.h (b_dss_cons (b_ds_set (i := 2) sc_l_multiplied.nd rfl (Or.inl rfl) (by decide) (by decide) b_de_int) (b_dss_cons (b_ds_for PassesOwn.leaving rfl (b_di_range1 (by rfl) (T.B _ (by decide)) (b_da_cons (b_de_var (pv 1) (by decide)) b_da_nil)) (pg_name (i := 3) sc_l_multiplied.nd rfl (Or.inl rfl)) (go_name (show 3 < 4 by decide) (by decide)) (by decide) (b_dss_one (b_ds_set (i := 2) sc_l_multiplied.nd rfl (Or.inl rfl) (by decide) (by decide) (b_de_op op_mulD od_mul (b_de_var (pv 2) (by decide)) (b_de_var (pv 0) (by decide)))))) (b_dss_one (b_ds_ret (b_de_var (pv 2) (by decide))))))
theorem sc_l_odd : FnScope n_l_odd ["_law_pot_here", "_law_many"] (defScope s_l_odd) := ⟨rfl, rfl, rfl, by decide +kernel, rfl, by decide +kernel, by decide +kernel⟩
theorem ok_l_odd (T : Top K mg) (D : Has K mg "_law_odd" s_l_odd ["_law_pot_here", "_law_many"]) (C_l_draw : CalD P w K mg base 1 "_law_draw" ["_law_pot_here", "_law_many"] [0] false F_l_draw) : CalD P w K mg base 2 "_law_odd" ["_law_pot_here", "_law_many"] [0] false F_l_odd := by
  refine DL.Has.calD (k := 1) D sc_l_odd [0] [0] false g_l_odd (by decide) (by decide) (fun fa cdv A outer s H E hr => ?_) (by decide)
  exact BSs.h (b_dss_cons (b_ds_set (i := 2) sc_l_odd.nd rfl (Or.inl rfl) (by decide) (by decide) (b_de_lst (b_da_cons (b_de_op op_sub od_sub (b_de_neg b_de_int) (b_de_cal C_l_draw (hr.mono (by decide)) (by rfl) pass1 (b_dax_io (pv 0) (by decide) (b_dax_sh b_de_int b_dax_nil)) (ksOk_mk (M := [0]) (ks := (.io 0 :: (.sh (eC (.int 9)) :: []))) (by decide) (by decide)) rfl)) (b_da_cons (b_de_op op_addD od_add b_de_int (b_de_cal C_l_draw (hr.mono (by decide)) (by rfl) pass1 (b_dax_io (pv 0) (by decide) (b_dax_sh b_de_int b_dax_nil)) (ksOk_mk (M := [0]) (ks := (.io 0 :: (.sh (eC (.int 9)) :: []))) (by decide) (by decide)) rfl)) (b_da_cons (b_de_op op_pow od_pow b_de_int b_de_int) (b_da_cons b_de_bl (b_da_cons b_de_bl (b_da_cons b_de_non (b_da_cons b_de_str (b_da_cons (b_de_tup (b_da_cons b_de_int b_da_nil)) (b_da_cons (b_de_lst b_da_nil) (b_da_cons b_de_dnew (b_da_cons b_de_str (b_da_cons (b_de_lst (b_da_cons b_de_int b_da_nil)) b_da_nil)))))))))))))) (b_dss_one (b_ds_ret (b_de_ix (b_de_op op_addD od_add (b_de_var (pv 2) (by decide)) (b_de_op op_mulD od_mul (b_de_lst (b_da_cons b_de_int b_da_nil)) (b_de_var (pv 1) (by decide)))) (b_de_cal C_l_draw (hr.mono (by decide)) (by rfl) pass1 (b_dax_io (pv 0) (by decide) (b_dax_sh (b_de_op op_addD od_add (b_de_callB call_lenA cd_len (by rfl) (T.B _ (by decide)) (by decide +kernel) (b_da_cons (b_de_var (pv 2) (by decide)) b_da_nil)) (b_de_var (pv 1) (by decide))) b_dax_nil)) (ksOk_mk (M := [0]) (ks := (.io 0 :: (.sh (e2 gAdd (eN gLen (aCons (eVar 2) aNil)) (eVar 1)) :: []))) (by decide) (by decide)) rfl) (fun _ _ => rfl)))))
theorem sc_l_told : FnScope n_l_told ["_law_n", "_law_m"] (defScope s_l_told) := ⟨rfl, rfl, rfl, by decide +kernel, rfl, by decide +kernel, by decide +kernel⟩
theorem ok_l_told (T : Top K mg) (D : Has K mg "_law_told" s_l_told ["_law_n", "_law_m"]) (C_normal_rows : CalD P w K mg base 4 "normal_rows" ["n", "m"] [] true F_normal_rows) : CalD P w K mg base 5 "_law_told" ["_law_n", "_law_m"] [] true F_l_told := by
  obtain ⟨cC_FallError, hC_FallError, hm_FallError⟩ := T.x_FallError
  refine DL.Has.calD (k := 4) D sc_l_told [2, 4] [] true g_l_told (by decide) (by decide) (fun fa cdv A outer s H E hr => ?_) (by decide)
  exact BSs.h (b_dss_cons (b_ds_setO (i := 2) sc_l_told.nd rfl (Or.inl rfl) (by decide) (by decide) b_dn_non) (b_dss_cons (b_ds_try (i := 3) rfl rfl sc_l_told.nd rfl rfl (by rfl) hm_FallError (by decide) (by decide) (fun c C z m => T.ex.exm c (of_decide_eq_true z) C _ m hm_FallError) (fun _ => (dsx_setO (i := 2) sc_l_told.nd rfl (Or.inl rfl) (by decide) (by decide) (dnx_tag (dnx_cal C_normal_rows (hr.mono (by decide)) (by rfl) (fun _ => (BAx.h (b_dax_sh (b_de_var (pv 0) (by decide)) (b_dax_sh (b_de_var (pv 1) (by decide)) b_dax_nil)))) (ksOk_mk (M := [2, 4]) (ks := (.sh (eVar 0) :: (.sh (eVar 1) :: []))) (by decide) (by decide)) rfl)))) (fun _ _ => (b_dss_cons (b_ds_setO (i := 4) sc_l_told.nd rfl (Or.inl rfl) (by decide) (by decide) (b_dn_lst (b_da_cons (b_de_callB cr_isX (cd_isX T.ex) (by rfl) (T.B _ (by decide)) (by decide +kernel) (b_da_cons (b_de_var (pv 3) (by decide)) (b_da_cons (b_de_gcls (exc_g T.x_NoNumber) (by rfl)) b_da_nil))) (b_da_cons (b_de_callB cr_isX (cd_isX T.ex) (by rfl) (T.B _ (by decide)) (by decide +kernel) (b_da_cons (b_de_var (pv 3) (by decide)) (b_da_cons (b_de_gcls (exc_g T.x_NoTiming) (by rfl)) b_da_nil))) (b_da_cons (b_de_callB cr_isX (cd_isX T.ex) (by rfl) (T.B _ (by decide)) (by decide +kernel) (b_da_cons (b_de_var (pv 3) (by decide)) (b_da_cons (b_de_gcls (exc_g T.x_CantBe) (by rfl)) b_da_nil))) (b_da_cons (b_de_callB cr_isX (cd_isX T.ex) (by rfl) (T.B _ (by decide)) (by decide +kernel) (b_da_cons (b_de_var (pv 3) (by decide)) (b_da_cons (b_de_c (pe_bltn (v := .ty "ValueError") (by rfl) T.nVE (by decide +kernel) rfl) (fun _ _ => rfl)) b_da_nil))) b_da_nil)))))) (b_dss_one (b_ds_setO (i := 2) sc_l_told.nd rfl (Or.inl rfl) (by decide) (by decide) (b_dn_tupT (b_dax_sh b_de_str (b_dax_io (pv 4) (by decide) b_dax_nil)) (by decide) (by decide))))))) (b_dss_one (b_ds_retOF (pv 2) (by decide)))))
theorem sc_law : FnScope n_law ["_law_script"] (defScope s_law) := ⟨rfl, rfl, rfl, by decide +kernel, rfl, by decide +kernel, by decide +kernel⟩
theorem ok_law (T : Top K mg) (D : Has K mg "law" s_law ["_law_script"]) (C_l_pot : CalD P w K mg base 2 "_law_pot" ["_law_script", "_law_k"] [] true F_l_pot) (C_l_draw : CalD P w K mg base 1 "_law_draw" ["_law_pot_here", "_law_many"] [0] false F_l_draw) (C_l_rows : CalD P w K mg base 1 "_law_rows" ["_law_n", "_law_m"] [] true F_l_rows) (C_l_told : CalD P w K mg base 5 "_law_told" ["_law_n", "_law_m"] [] true F_l_told) (C_l_multiplied : CalD P w K mg base 1 "_law_multiplied" ["_law_number", "_law_many"] [] false F_l_multiplied) (C_l_odd : CalD P w K mg base 2 "_law_odd" ["_law_pot_here", "_law_many"] [0] false F_l_odd) : CalD P w K mg base 6 "law" ["_law_script"] [] false F_law := by
  refine DL.Has.calD (k := 5) D sc_law [2, 9] [] false g_law (by decide) (by decide) (fun fa cdv A outer s H E hr => ?_) (by decide)
  exact BSs.h (b_dss_cons (b_ds_for PassesOwn.leaving rfl (b_di_range1 (by rfl) (T.B _ (by decide)) (b_da_cons (b_de_callB (call_max2 rfl) cd_max2 (by rfl) (T.B _ (by decide)) (by decide +kernel) (b_da_cons b_de_int (b_da_cons (b_de_callB (call_min2 rfl) cd_min2 (by rfl) (T.B _ (by decide)) (by decide +kernel) (b_da_cons (b_de_callB call_lenA cd_len (by rfl) (T.B _ (by decide)) (by decide +kernel) (b_da_cons (b_de_var (pv 0) (by decide)) b_da_nil)) (b_da_cons b_de_int b_da_nil))) b_da_nil))) b_da_nil)) (pg_name (i := 1) sc_law.nd rfl (Or.inl rfl)) (go_name (show 1 < 10 by decide) (by decide)) (by decide) (b_dss_cons (b_ds_setO (i := 2) sc_law.nd rfl (Or.inl rfl) (by decide) (by decide) (b_dn_cal C_l_pot (hr.mono (by decide)) (by rfl) pass1 (b_dax_sh (b_de_var (pv 0) (by decide)) (b_dax_sh (b_de_var (pv 1) (by decide)) b_dax_nil)) (ksOk_mk (M := [2, 9]) (ks := (.sh (eVar 0) :: (.sh (eVar 1) :: []))) (by decide) (by decide)) rfl)) (b_dss_cons (b_ds_set (i := 3) sc_law.nd rfl (Or.inl rfl) (by decide) (by decide) (b_de_cal C_l_draw (hr.mono (by decide)) (by rfl) pass1 (b_dax_io (pv 2) (by decide) (b_dax_sh b_de_int b_dax_nil)) (ksOk_mk (M := [2, 9]) (ks := (.io 2 :: (.sh (eC (.int 3)) :: []))) (by decide) (by decide)) rfl)) (b_dss_cons (b_ds_par (i := 4) (j := 5) sc_law.nd rfl rfl (by rfl) (by rfl) (by decide) (by decide) (by decide) (by decide) (by decide) (b_da_cons (b_de_op op_addD od_add b_de_int (b_de_cal C_l_draw (hr.mono (by decide)) (by rfl) pass1 (b_dax_io (pv 2) (by decide) (b_dax_sh b_de_int b_dax_nil)) (ksOk_mk (M := [2, 9]) (ks := (.io 2 :: (.sh (eC (.int 3)) :: []))) (by decide) (by decide)) rfl)) (b_da_cons (b_de_cal C_l_draw (hr.mono (by decide)) (by rfl) pass1 (b_dax_io (pv 2) (by decide) (b_dax_sh b_de_int b_dax_nil)) (ksOk_mk (M := [2, 9]) (ks := (.io 2 :: (.sh (eC (.int 4)) :: []))) (by decide) (by decide)) rfl) b_da_nil))) (b_dss_cons (b_ds_set (i := 6) sc_law.nd rfl (Or.inl rfl) (by decide) (by decide) (b_de_cal C_l_rows (hr.mono (by decide)) (by rfl) pass1 (b_dax_sh (b_de_var (pv 4) (by decide)) (b_dax_sh (b_de_var (pv 5) (by decide)) b_dax_nil)) (ksOk_mk (M := [2, 9]) (ks := (.sh (eVar 4) :: (.sh (eVar 5) :: []))) (by decide) (by decide)) rfl)) (b_dss_cons (b_ds_if (b_dt_cmpR (op_ne2 hr.units) od_ne (b_de_callB call_lenA cd_len (by rfl) (T.B _ (by decide)) (by decide +kernel) (b_da_cons (b_de_var (pv 6) (by decide)) b_da_nil)) (b_de_op op_sub od_sub (b_de_cal C_l_multiplied (hr.mono (by decide)) (by rfl) pass1 (b_dax_sh (b_de_op op_addD od_add (b_de_var (pv 5) (by decide)) b_de_int) (b_dax_sh (b_de_var (pv 4) (by decide)) b_dax_nil)) (ksOk_mk (M := [2, 9]) (ks := (.sh (e2 gAdd (eVar 5) (eC (.int 2))) :: (.sh (eVar 4) :: []))) (by decide) (by decide)) rfl) (b_de_cal C_l_multiplied (hr.mono (by decide)) (by rfl) pass1 (b_dax_sh (b_de_op op_addD od_add (b_de_var (pv 5) (by decide)) b_de_int) (b_dax_sh (b_de_var (pv 4) (by decide)) b_dax_nil)) (ksOk_mk (M := [2, 9]) (ks := (.sh (e2 gAdd (eVar 5) (eC (.int 1))) :: (.sh (eVar 4) :: []))) (by decide) (by decide)) rfl)) (nomark _)) (b_dss_one (b_ds_ret b_de_bl)) b_dss_nil) (b_dss_cons (b_ds_for PassesOwn.leaving rfl (b_di_range1 (by rfl) (T.B _ (by decide)) (b_da_cons b_de_int b_da_nil)) (pg_name (i := 7) sc_law.nd rfl (Or.inl rfl)) (go_name (show 7 < 10 by decide) (by decide)) (by decide) (b_dss_cons (b_ds_setO (i := 9) sc_law.nd rfl (Or.inl rfl) (by decide) (by decide) (b_dn_cal C_l_told (hr.mono (by decide)) (by rfl) pass1 (b_dax_sh (b_de_var (pv 4) (by decide)) (b_dax_sh (b_de_var (pv 5) (by decide)) b_dax_nil)) (ksOk_mk (M := [2, 9]) (ks := (.sh (eVar 4) :: (.sh (eVar 5) :: []))) (by decide) (by decide)) rfl)) (b_dss_cons (b_ds_if (b_dt_cmpR (op_ne2 hr.units) od_ne (b_de_lend (b_de_callB (cr_reprK hr) cd_repr (by rfl) (T.B _ (by decide)) (by decide +kernel) (b_da_cons (b_de_var (pv 9) (by decide)) b_da_nil))) (b_de_callB (cr_reprK hr) cd_repr (by rfl) (T.B _ (by decide)) (by decide +kernel) (b_da_cons (b_de_tup (b_da_cons b_de_str (b_da_cons (b_de_var (pv 6) (by decide)) b_da_nil))) b_da_nil)) (nomark _)) (b_dss_one (b_ds_ret b_de_bl)) b_dss_nil) (b_dss_cons (b_ds_expr (b_de_mutT0 (k := 1) md_reverse (by decide) (pe_bm0 PySem.F.plainAttrs_list PySem.F.slot_list_reverse PySem.F.type_list_reverse mt_reverse (pe_ix ix_seq (pv 9) pe_int (fun _ _ => rfl))))) (b_dss_one (b_ds_expr (b_de_mutT0 (k := 1) md_pop (by decide) (pe_bm0 PySem.F.plainAttrs_list PySem.F.slot_list_pop PySem.F.type_list_pop mt_pop (pe_ix ix_seq (pv 9) pe_int (fun _ _ => rfl)))))))))) (b_dss_cons (b_ds_set (i := 8) sc_law.nd rfl (Or.inl rfl) (by decide) (by decide) (b_de_ix (b_de_lst (b_da_cons (b_de_tup (b_da_cons (b_de_cal C_l_odd (hr.mono (by decide)) (by rfl) pass1 (b_dax_io (pv 2) (by decide) (b_dax_sh b_de_int b_dax_nil)) (ksOk_mk (M := [2, 9]) (ks := (.io 2 :: (.sh (eC (.int 1)) :: []))) (by decide) (by decide)) rfl) (b_da_cons (b_de_var (pv 5) (by decide)) b_da_nil))) (b_da_cons (b_de_tup (b_da_cons (b_de_var (pv 4) (by decide)) (b_da_cons (b_de_cal C_l_odd (hr.mono (by decide)) (by rfl) pass1 (b_dax_io (pv 2) (by decide) (b_dax_sh b_de_int b_dax_nil)) (ksOk_mk (M := [2, 9]) (ks := (.io 2 :: (.sh (eC (.int 0)) :: []))) (by decide) (by decide)) rfl) b_da_nil))) (b_da_cons (b_de_tup (b_da_cons (b_de_cal C_l_odd (hr.mono (by decide)) (by rfl) pass1 (b_dax_io (pv 2) (by decide) (b_dax_sh b_de_int b_dax_nil)) (ksOk_mk (M := [2, 9]) (ks := (.io 2 :: (.sh (eC (.int 1)) :: []))) (by decide) (by decide)) rfl) (b_da_cons (b_de_cal C_l_odd (hr.mono (by decide)) (by rfl) pass1 (b_dax_io (pv 2) (by decide) (b_dax_sh b_de_int b_dax_nil)) (ksOk_mk (M := [2, 9]) (ks := (.io 2 :: (.sh (eC (.int 0)) :: []))) (by decide) (by decide)) rfl) b_da_nil))) b_da_nil)))) (b_de_var (pv 3) (by decide)) (fun _ _ => rfl))) (b_dss_cons (b_ds_if (b_dt_cmpR (op_ne2 hr.units) od_ne (b_de_cal C_l_told (hr.mono (by decide)) (by rfl) pass1 (b_dax_sh (b_de_ix (b_de_var (pv 8) (by decide)) b_de_int (fun _ _ => rfl)) (b_dax_sh (b_de_ix (b_de_var (pv 8) (by decide)) b_de_int (fun _ _ => rfl)) b_dax_nil)) (ksOk_mk (M := [2, 9]) (ks := (.sh (e2 gIx (eVar 8) (eC (.int 0))) :: (.sh (e2 gIx (eVar 8) (eC (.int 1))) :: []))) (by decide) (by decide)) rfl) (b_de_tup (b_da_cons b_de_str (b_da_cons (b_de_lst (b_da_cons b_de_bl (b_da_cons b_de_bl (b_da_cons b_de_bl (b_da_cons b_de_bl b_da_nil))))) b_da_nil))) (nomark _)) (b_dss_one (b_ds_ret b_de_bl)) b_dss_nil) (b_dss_one (b_ds_if (b_dt_cmpR (op_ne2 hr.units) od_ne (b_de_callB (cr_reprK hr) cd_repr (by rfl) (T.B _ (by decide)) (by decide +kernel) (b_da_cons (b_de_cal C_l_told (hr.mono (by decide)) (by rfl) pass1 (b_dax_sh (b_de_var (pv 4) (by decide)) (b_dax_sh (b_de_var (pv 5) (by decide)) b_dax_nil)) (ksOk_mk (M := [2, 9]) (ks := (.sh (eVar 4) :: (.sh (eVar 5) :: []))) (by decide) (by decide)) rfl) b_da_nil)) (b_de_callB (cr_reprK hr) cd_repr (by rfl) (T.B _ (by decide)) (by decide +kernel) (b_da_cons (b_de_tup (b_da_cons b_de_str (b_da_cons (b_de_var (pv 6) (by decide)) b_da_nil))) b_da_nil)) (nomark _)) (b_dss_one (b_ds_ret b_de_bl)) b_dss_nil))))))))))) (b_dss_one (b_ds_ret b_de_bl)))
end
end G

set_option Elab.async false
set_option linter.all false
set_option maxRecDepth 100000
set_option maxHeartbeats 4000000
namespace DL
open PySem PySem.W PyProof.Rows L2 TL
/-- the built-ins are not hidden -/
theorem noB_mk {K : PySem.W.Frag} {h : Heap} {mg : Str → Option Value} (X : K.In h) (G : h.Ns mainGlobals mg) (h1 : PySem.W.nsIn K mainGlobals "len" = some none) (h2 : PySem.W.nsIn K mainGlobals "abs" = some none) (h3 : PySem.W.nsIn K mainGlobals "max" = some none) (h4 : PySem.W.nsIn K mainGlobals "min" = some none) (h5 : PySem.W.nsIn K mainGlobals "int" = some none) (h6 : PySem.W.nsIn K mainGlobals "bool" = some none) (h7 : PySem.W.nsIn K mainGlobals "str" = some none) (h8 : PySem.W.nsIn K mainGlobals "list" = some none) (h9 : PySem.W.nsIn K mainGlobals "tuple" = some none) (h10 : PySem.W.nsIn K mainGlobals "dict" = some none) (h11 : PySem.W.nsIn K mainGlobals "set" = some none) (h12 : PySem.W.nsIn K mainGlobals "divmod" = some none) (h13 : PySem.W.nsIn K mainGlobals "isinstance" = some none) (h14 : PySem.W.nsIn K mainGlobals "all" = some none) (h15 : PySem.W.nsIn K mainGlobals "any" = some none) (h16 : PySem.W.nsIn K mainGlobals "sum" = some none) (h17 : PySem.W.nsIn K mainGlobals "sorted" = some none) (h18 : PySem.W.nsIn K mainGlobals "repr" = some none) (h19 : PySem.W.nsIn K mainGlobals "range" = some none) (h20 : PySem.W.nsIn K mainGlobals "enumerate" = some none) (h21 : PySem.W.nsIn K mainGlobals "zip" = some none) (h22 : PySem.W.nsIn K mainGlobals "reversed" = some none) : NoB mg := by
  intro x hx
  simp only [bNames, List.mem_cons, List.not_mem_nil, or_false] at hx
  rcases hx with rfl | rfl | rfl | rfl | rfl | rfl | rfl | rfl | rfl | rfl | rfl | rfl | rfl | rfl | rfl | rfl | rfl | rfl | rfl | rfl | rfl | rfl
  · exact PySem.W.mg_none_of X G h1
  · exact PySem.W.mg_none_of X G h2
  · exact PySem.W.mg_none_of X G h3
  · exact PySem.W.mg_none_of X G h4
  · exact PySem.W.mg_none_of X G h5
  · exact PySem.W.mg_none_of X G h6
  · exact PySem.W.mg_none_of X G h7
  · exact PySem.W.mg_none_of X G h8
  · exact PySem.W.mg_none_of X G h9
  · exact PySem.W.mg_none_of X G h10
  · exact PySem.W.mg_none_of X G h11
  · exact PySem.W.mg_none_of X G h12
  · exact PySem.W.mg_none_of X G h13
  · exact PySem.W.mg_none_of X G h14
  · exact PySem.W.mg_none_of X G h15
  · exact PySem.W.mg_none_of X G h16
  · exact PySem.W.mg_none_of X G h17
  · exact PySem.W.mg_none_of X G h18
  · exact PySem.W.mg_none_of X G h19
  · exact PySem.W.mg_none_of X G h20
  · exact PySem.W.mg_none_of X G h21
  · exact PySem.W.mg_none_of X G h22
/-- a class of one's own, under ValueError -/
theorem excC_mk {K : PySem.W.Frag} {h₀ : Heap} {C : Addr} (X₀ : K.In h₀) (q : excIn K C bmV "ValueError.__new__" = true) : ExcC K C := by
  unfold excIn at q
  split at q
  · rename_i dd cd sl ho
    split at q
    · rename_i C' bm k0 k1 k2 k3 n k5 hm hs
      simp only [Bool.and_eq_true, beq_iff_eq, Bool.not_eq_true'] at q
      obtain ⟨⟨⟨⟨⟨rfl, rfl⟩, hdel⟩, ht⟩, hok⟩, hni⟩ := q
      obtain ⟨nm, bs, mro, ns, qn, hd, sn, sub, ab, col, del⟩ := cd
      dsimp only at hm hdel hok hni
      subst hm hdel
      have hsl : sl = #[k0, k1, k2, k3, some (.builtin "ValueError.__new__"), k5] := by
        obtain ⟨l⟩ := sl
        simp only at hs
        rw [hs]
      subst hsl
      refine ⟨nm, qn, ns, bs, bm, hd, sn, sub, ab, col, dd, k0, k1, k2, k3, k5, h₀.nsMap ns, (tail_of_in X₀ ht).hasType (by decide), nsMap_none_of_in X₀ hok hni, fun h X => ⟨X _ _ ho, ?_, tail_of_in X ht⟩⟩
      have e1 : h.Ns ns (h.nsMap ns) := .of_isNs (isNs_of_in X hok)
      have e2 : h.nsMap ns = h₀.nsMap ns := by
        funext x
        unfold nsOkIn at hok
        split at hok
        · rename_i hn
          unfold Heap.nsMap
          rw [X _ _ hn, X₀ _ _ hn]
        · cases hok
      rw [← e2]
      exact e1
    · cases q
  · cases q
/-- the law's promise: the script is handed in, True comes back -/
def spScr (K : PySem.W.Frag) : Sp := fun vs H Q _ => ∃ (a : Addr) (ns : List Int), vs = [.ref a] ∧ ((∃ o, H a = some (.frz o (.lst (ns.map V.int)))) ∨ KLst K a (ns.map V.int)) ∧ ∀ H', Q (.bl true) H'
theorem denL_ints {K : PySem.W.Frag} {mg : Str → Option Value} {F : AS} {H : Hp} : ∀ ns : List Int, DenL K mg F H (ns.map D.int) (ns.map V.int)
  | [] => rfl
  | n :: ns => ⟨_, _, rfl, rfl, denL_ints ns⟩
theorem scr_sp {K : PySem.W.Frag} {mg : Str → Option Value} {f : Fn} (ok : ∀ ns : List Int, f [.scr (ns.map D.int)] = .ok (.bl true, [none])) (vs : List V) (H : Hp) (Q : VK) (E : XK) (h : spScr K vs H Q E) : spD K mg [] 1 false f vs H Q E := by
  obtain ⟨a, ns, rfl, hs, hq⟩ := h
  refine ⟨rfl, fun b => b = a ∧ ∃ o, H a = some o, fun _ => False, [.scr (ns.map D.int)], rfl, ⟨fun _ _ => False, fun i d _ e => ?_, fun i d hi _ => absurd hi (by simp), fun _ _ z => z, fun _ _ _ z => z.elim, fun _ _ z => z, fun b z => ?_, fun _ z => z.elim⟩, ?_⟩
  · cases i with
    | zero =>
      cases e
      refine ⟨_, rfl, a, ns.map V.int, rfl, ?_, denL_ints ns⟩
      rcases hs with ⟨o, hs⟩ | hs
      · exact .inl ⟨⟨rfl, _, hs⟩, o, hs⟩
      · exact .inr hs
    | succ i => simp at e
  · obtain ⟨rfl, o, z⟩ := z
    exact ⟨o, z⟩
  · rw [ok ns]
    intro v N H' F' W' _ r _ _
    have r' : v = .bl true := r
    subst r'
    exact hq H'
theorem law_fdD {P : Program} {w : World} {K : PySem.W.Frag} {mg : Str → Option Value} {x y : Str} {k : Nat} {f : Fn} {fa : Addr} (hmg : mg x = some (.ref fa)) (C : ∀ base : Heap, CalD P w K mg base k x [y] [] false f)
    (ok : ∀ ns : List Int, f [.scr (ns.map D.int)] = .ok (.bl true, [none])) :
    ∃ fd : FuncData, (∀ (s : Shared) (u : Value), BindsTo s fd ⟨[u], []⟩ [(y, u)]) ∧ ∀ base : Heap, K.In base → base.Ns mainGlobals mg → FnOk P w K mg base (CX1 P w) k fa fd [y] (spScr K) := by
  obtain ⟨f1, fd, hm, _, hb, ⟨oc, od, osl, lk⟩, _⟩ := C default
  rw [hmg] at hm
  cases hm
  refine ⟨fd, fun s u => .of_eq (hb [u] rfl), fun base _ _ => ?_⟩
  obtain ⟨f2, fd2, hm2, _, _, ⟨oc2, od2, osl2, lk2⟩, F⟩ := C base
  rw [hmg] at hm2
  cases hm2
  rw [lk] at lk2
  cases lk2
  exact F.imp fun vs H Q E h => scr_sp ok vs H Q E h
theorem hsp_scr {K : PySem.W.Frag} {H : Hp} {a : Addr} {ns : List Int} (hO : Only H) (hS : SqL K H a (ns.map V.int)) : spScr K [.ref a] H (fun v _ => v = .bl true) fun _ _ _ => False := by
  refine ⟨a, ns, rfl, ?_, fun _ => rfl⟩
  rcases hS with (h | ⟨o, h⟩) | h
  · rcases hO a with z | ⟨o, xs, z⟩
    · rw [h] at z; cases z
    · rw [h] at z; cases z
  · exact .inl ⟨o, h⟩
  · exact .inr h
theorem cx_none {P : Program} {w : World} (H : Hp) (s : Shared) (e : Value) (s' : Shared) (h : CX1 P w [] H s (fun _ _ _ => False) e s') : False := by
  obtain ⟨_, _, _, _, _, _, _, _, _, _, _, _, _, _, _, z⟩ := h
  exact z
end DL

set_option Elab.async false
set_option linter.all false
set_option maxRecDepth 100000
set_option maxHeartbeats 4000000
namespace DL
open PySem PySem.Spec PyProof.Rows L2 TL PySem.W
abbrev XRow := Str × Addr × ClassData
def XTab (K : Frag) (mg : Str → Option Value) : List XRow → Prop
  | [] => True
  | (x, a, cd) :: r => (mg x = some (.ref a) ∧ clsIn K a = some cd ∧ typeIn K (.ref a) = some (.type "type") ∧ (findIn K (.ref a) "__getattribute__" = some (some (.builtin "BaseException.__getattribute__")) ∧ findIn K (.ref a) "__getattr__" = some none) ∧ findIn K (.ref a) "__class__" = some (some (.builtin "object.__class__"))) ∧ XTab K mg r
theorem XTab.nil {K : Frag} {mg : Str → Option Value} : XTab K mg [] := trivial
theorem XTab.cons {K : Frag} {mg : Str → Option Value} (x : Str) {a : Addr} {cd : ClassData} {r : List XRow} (h : mg x = some (.ref a)) (hc : clsIn K a = some cd) (ht : typeIn K (.ref a) = some (.type "type"))
    (hp : findIn K (.ref a) "__getattribute__" = some (some (.builtin "BaseException.__getattribute__"))) (hq : findIn K (.ref a) "__getattr__" = some none) (hf : findIn K (.ref a) "__class__" = some (some (.builtin "object.__class__"))) (t : XTab K mg r) : XTab K mg ((x, a, cd) :: r) := ⟨⟨h, hc, ht, ⟨hp, hq⟩, hf⟩, t⟩
theorem XTab.at {K : Frag} {mg : Str → Option Value} : ∀ {l : List XRow}, XTab K mg l → ∀ p ∈ l, mg p.1 = some (.ref p.2.1) ∧ clsIn K p.2.1 = some p.2.2 ∧ typeIn K (.ref p.2.1) = some (.type "type") ∧ (findIn K (.ref p.2.1) "__getattribute__" = some (some (.builtin "BaseException.__getattribute__")) ∧ findIn K (.ref p.2.1) "__getattr__" = some none) ∧ findIn K (.ref p.2.1) "__class__" = some (some (.builtin "object.__class__"))
  | (x, a, cd) :: r, h, p, hp => by
    rcases List.mem_cons.mp hp with rfl | hp
    · exact h.1
    · exact XTab.at h.2 p hp
def xrowB (tab : List XRow) (F : Addr) (p : XRow) : Bool := !p.2.2.mro.isEmpty && p.2.2.mro.contains (.type "object") && p.2.2.mro.contains (.type "ValueError") && p.2.2.mro.contains (.type "BaseException") && p.2.2.mro.contains (.ref F) &&
  tab.all fun q => ((p.2.1 == q.2.1) || p.2.2.mro.contains (.ref q.2.1)) == xSub p.1 q.1
def xtabB (tab : List XRow) (F : Addr) : Bool := tab.all (xrowB tab F)
theorem exall_mk {K : Frag} {mg : Str → Option Value} {F : Addr} {cF : ClassData} {r : List XRow} (hm : XTab K mg ((("FallError" : Str), F, cF) :: r)) (h4 : specialIn K (.builtin "object.__class__") "__get__" = some (some (.builtin "getset_descriptor.__get__")))
    (h5 : takesIn K (.builtin "object.__class__") = some true) (hk : xtabB ((("FallError" : Str), F, cF) :: r) F = true) (hv : kitMeta "ValueError" = true) :
    ExAll K mg (((("FallError" : Str), F, cF) :: r).map fun p => p.1) := by
  have hF : mg "FallError" = some (.ref F) := hm.1.1
  have hFm : ((("FallError" : Str), F, cF) : XRow) ∈ ((("FallError" : Str), F, cF) :: r) := List.mem_cons_self
  generalize ht : (((("FallError" : Str), F, cF)) :: r : List XRow) = tab at hm hk hFm
  have row : ∀ p ∈ tab, (!p.2.2.mro.isEmpty) = true ∧ p.2.2.mro.contains (.type "object") = true ∧ p.2.2.mro.contains (.type "ValueError") = true ∧ p.2.2.mro.contains (.type "BaseException") = true ∧ p.2.2.mro.contains (.ref F) = true ∧
      ∀ q ∈ tab, ((p.2.1 == q.2.1) || p.2.2.mro.contains (.ref q.2.1)) = xSub p.1 q.1 := fun p hp => by
    have h := List.all_eq_true.mp hk p hp
    simp only [xrowB, Bool.and_eq_true, List.all_eq_true, beq_iff_eq] at h
    obtain ⟨⟨⟨⟨⟨a, b⟩, c⟩, d⟩, e⟩, f⟩ := h
    exact ⟨a, b, c, d, e, f⟩
  have mro : ∀ p ∈ tab, ∀ b, mroIn K p.2.1 b = some (p.2.2.mro.contains b) := fun p hp b => by
    have h1 := (hm.at p hp).2.1
    have h2 := (row p hp).1
    unfold mroIn
    rw [h1]
    show (if p.2.2.mro.isEmpty then none else some (p.2.2.mro.contains b)) = _
    rw [if_neg]
    intro h
    rw [h] at h2
    cases h2
  have kc : ∀ p ∈ tab, ∀ q ∈ tab, kitCls K (.ref p.2.1) (.ref q.2.1) = some (p.2.2.mro.contains (.ref q.2.1)) := fun p hp q hq => by
    obtain ⟨_, hc, hty, _, _⟩ := hm.at q hq
    show (if ((clsIn K q.2.1).isSome && typeIn K (.ref q.2.1) == some (.type "type")) = true then subIn K (.ref p.2.1) (.ref q.2.1) else none) = _
    rw [hc, hty, if_pos (by simp)]
    exact mro p hp _
  have at_ : ∀ c ∈ tab.map (fun p => p.1), ∀ C, mg c = some (.ref C) → ∃ p ∈ tab, p.1 = c ∧ p.2.1 = C := fun c hc C mC => by
    obtain ⟨p, hp, rfl⟩ := List.mem_map.mp hc
    have := (hm.at p hp).1
    rw [mC] at this
    cases this
    exact ⟨p, hp, rfl, rfl⟩
  refine ⟨fun c hc => ?_, fun c hc d hd C D mC mD => ?_, fun c hc C mC => ?_, fun c hc C D mC mD => ?_⟩
  · obtain ⟨p, hp, rfl⟩ := List.mem_map.mp hc
    obtain ⟨m, hc', _, hpl, hfi⟩ := hm.at p hp
    refine ⟨p.2.1, m, hpl.1, hpl.2, ?_, by rw [hc']; rfl, hfi, h4, h5, ?_⟩
    · rw [mro p hp, (row p hp).2.2.2.1]
    · rw [mro p hp, (row p hp).2.1]
  · obtain ⟨p, hp, rfl, rfl⟩ := at_ c hc C mC
    obtain ⟨q, hq, rfl, rfl⟩ := at_ d hd D mD
    have h := (row p hp).2.2.2.2.2 q hq
    unfold kitOne
    by_cases e : p.2.1 = q.2.1
    · rw [e] at h ⊢
      rw [if_pos (by simp)]
      simp at h
      rw [h]
    · rw [if_neg (by simpa using e), kc p hp q hq, ← h]
      simp [e]
  · obtain ⟨p, hp, rfl, rfl⟩ := at_ c hc C mC
    unfold kitOne
    rw [if_neg (by simp)]
    show (if kitMeta "ValueError" = true then subIn K (.ref p.2.1) (.type "ValueError") else none) = _
    rw [if_pos hv]
    show mroIn _ _ _ = _
    rw [mro p hp, (row p hp).2.2.1]
  · obtain ⟨p, hp, rfl, rfl⟩ := at_ c hc C mC
    rw [hF] at mD
    cases mD
    unfold exmOne
    have hb : subIn K (.ref F) (.type "BaseException") = some true := by
      show mroIn K F _ = _
      rw [mro _ hFm, (row _ hFm).2.2.2.1]
    rw [if_pos (by rw [hb]; rfl), kc p hp _ hFm, (row p hp).2.2.2.2.1]
end DL

set_option Elab.async false
set_option linter.all false
set_option maxRecDepth 100000
set_option maxHeartbeats 4000000
namespace DL
open PySem L2 TL
/-! ### what operations tell of plain things -/
@[simp] theorem eqB_int (i j : Int) : eqB (.int i) (.int j) = some (decide (i = j)) := by simp [eqB, sc, scal]
@[simp] theorem eqB_str (i j : Str) : eqB (.str i) (.str j) = some (decide (i = j)) := by simp [eqB, sc, scal]
@[simp] theorem eqB_bl (i j : Bool) : eqB (.bl i) (.bl j) = some (decide (i = j)) := by simp [eqB, sc, scal]
@[simp] theorem eqB_non : eqB .non .non = some true := by simp [eqB, sc, scal]
@[simp] theorem eqB_nint (j : Int) : eqB .non (.int j) = some false := by simp [eqB, sc, scal]
@[simp] theorem eqB_intn (j : Int) : eqB (.int j) .non = some false := by simp [eqB, sc, scal]
@[simp] theorem gEq_def (d e : D) : gEq d e = (eqB d e).map D.bl := rfl
@[simp] theorem gNe_def (d e : D) : gNe d e = (eqB d e).map fun b => D.bl (!b) := rfl
@[simp] theorem gAdd_int (i j : Int) : gAdd (.int i) (.int j) = some (.int (i + j)) := rfl
@[simp] theorem gSub_int (i j : Int) : gSub (.int i) (.int j) = some (.int (i - j)) := rfl
@[simp] theorem gLt_int (i j : Int) : gLt (.int i) (.int j) = some (.bl (decide (i < j))) := rfl
@[simp] theorem gLe_int (i j : Int) : gLe (.int i) (.int j) = some (.bl (decide (i ≤ j))) := rfl
@[simp] theorem gGt_int (i j : Int) : gGt (.int i) (.int j) = some (.bl (decide (j < i))) := rfl
@[simp] theorem gGe_int (i j : Int) : gGe (.int i) (.int j) = some (.bl (decide (j ≤ i))) := rfl
@[simp] theorem gBool_bl (b : Bool) : gBool (.bl b) = some b := rfl
@[simp] theorem gTupN_s {ds : List D} (h : ds.length ≤ 16777216) : gTupN ds = some (.tup ds) := by simp [gTupN, szOk, h]
@[simp] theorem gLstN_s {ds : List D} (h : ds.length ≤ 16777216) : gLstN ds = some (.lst ds) := by simp [gLstN, szOk, h]
@[simp] theorem gIs_non (d : D) : gIs d .non = some (.bl (isNon d)) := by cases d <;> rfl
@[simp] theorem gIsNot_non (d : D) : gIsNot d .non = some (.bl (!isNon d)) := by cases d <;> rfl
@[simp] theorem isNon_int (i : Int) : isNon (.int i) = false := rfl
@[simp] theorem isNon_non : isNon .non = true := rfl
@[simp] theorem gLen_lst (ds : List D) : gLen [.lst ds] = some (.int (ds.length : Nat)) := rfl
@[simp] theorem gLen_tup (ds : List D) : gLen [.tup ds] = some (.int (ds.length : Nat)) := rfl
@[simp] theorem gLen_scr (ds : List D) : gLen [.scr ds] = some (.int (ds.length : Nat)) := rfl
@[simp] theorem gIx_lst (ds : List D) (i : Int) : gIx (.lst ds) (.int i) = atI ds i := rfl
@[simp] theorem gIx_tup (ds : List D) (i : Int) : gIx (.tup ds) (.int i) = atI ds i := rfl
@[simp] theorem gIx_scr (ds : List D) (i : Int) : gIx (.scr ds) (.int i) = atI ds i := rfl
theorem atI_n {α : Type} (xs : List α) (k : Nat) : atI xs (k : Int) = xs[k]? := by
  unfold atI ixN
  by_cases h : k < xs.length
  · simp [h]
  · simp [h]
@[simp] theorem atI_0 {α : Type} (x : α) (r : List α) : atI (x :: r) 0 = some x := by
  have := atI_n (x :: r) 0; simpa using this
@[simp] theorem atI_1 {α : Type} (x y : α) (r : List α) : atI (x :: y :: r) 1 = some y := by
  have := atI_n (x :: y :: r) 1; simpa using this
@[simp] theorem atI_2 {α : Type} (x y z : α) (r : List α) : atI (x :: y :: z :: r) 2 = some z := by
  have := atI_n (x :: y :: z :: r) 2; simpa using this
@[simp] theorem atI_3 {α : Type} (x y z u : α) (r : List α) : atI (x :: y :: z :: u :: r) 3 = some u := by
  have := atI_n (x :: y :: z :: u :: r) 3; simpa using this
@[simp] theorem gIsI_def (d : D) (n : String) : gIsI [d, .ty n] = match tyD d with
    | some t => if knownTy n = true then some (.bl (subTy t n)) else none
    | none => none := rfl
@[simp] theorem kn_int : knownTy "int" = true := rfl
@[simp] theorem kn_bool : knownTy "bool" = true := rfl
@[simp] theorem kn_str : knownTy "str" = true := rfl
@[simp] theorem kn_list : knownTy "list" = true := rfl
@[simp] theorem kn_tuple : knownTy "tuple" = true := rfl
@[simp] theorem kn_dict : knownTy "dict" = true := rfl
@[simp] theorem tyD_int (i : Int) : tyD (.int i) = some "int" := rfl
@[simp] theorem tyD_bl (i : Bool) : tyD (.bl i) = some "bool" := rfl
@[simp] theorem tyD_str (i : Str) : tyD (.str i) = some "str" := rfl
@[simp] theorem tyD_lst (i : List D) : tyD (.lst i) = some "list" := rfl
@[simp] theorem tyD_tup (i : List D) : tyD (.tup i) = some "tuple" := rfl
@[simp] theorem tyD_non : tyD .non = some "NoneType" := rfl
@[simp] theorem tyD_dic (t : Bool) (i : List (D × D)) : tyD (.dic t i) = some "dict" := rfl
@[simp] theorem okOut_def {fr : Bool} {ks : List Ak} {d : D} {o : Env} : okOut fr ks d o = (!hasBo ks || ((imm d || (fr && kids d)) && o.all fun x => match x with
  | some d => kids d
  | none => true)) := rfl
@[simp] theorem hasBo_nil : hasBo [] = false := rfl
@[simp] theorem hasBo_sh {f : EF} {r : List Ak} : hasBo (.sh f :: r) = hasBo r := rfl
@[simp] theorem hasBo_io {f : Nat} {r : List Ak} : hasBo (.io f :: r) = hasBo r := rfl
@[simp] theorem hasBo_bo {f : Nat} {r : List Ak} : hasBo (.bo f :: r) = true := rfl
@[simp] theorem axGo_nil {ρ : Env} : axGo [] ρ = .ok ([], ρ) := rfl
@[simp] theorem axGo_sh {f : EF} {r : List Ak} {ρ : Env} : axGo (.sh f :: r) ρ = (f ρ).bind fun p => (axGo r p.2).bind fun q => .ok (some p.1 :: q.1, q.2) := rfl
@[simp] theorem axGo_io {i : Nat} {r : List Ak} {ρ : Env} : axGo (.io i :: r) ρ = if live ρ i = true then (axGo r ρ).bind fun q => .ok (none :: q.1, q.2) else .stuck := rfl
@[simp] theorem axGo_bo {i : Nat} {r : List Ak} {ρ : Env} : axGo (.bo i :: r) ρ = if live ρ i = true then (axGo r ρ).bind fun q => .ok (none :: q.1, q.2) else .stuck := rfl
@[simp] theorem fetch_nil {s : List (Option D)} {ρ : Env} : fetch [] s ρ = some [] := rfl
@[simp] theorem fetch_sh {f : EF} {r : List Ak} {d : D} {s : List (Option D)} {ρ : Env} : fetch (.sh f :: r) (some d :: s) ρ = (fetch r s ρ).map (d :: ·) := rfl
@[simp] theorem fetch_io {i : Nat} {r : List Ak} {s : List (Option D)} {ρ : Env} : fetch (.io i :: r) (none :: s) ρ = match ρ[i]? with
    | some (some d) => (fetch r s ρ).map (d :: ·)
    | _ => none := rfl
@[simp] theorem fetch_bo {i : Nat} {r : List Ak} {s : List (Option D)} {ρ : Env} : fetch (.bo i :: r) (none :: s) ρ = match ρ[i]? with
    | some (some d) => (fetch r s ρ).map (d :: ·)
    | _ => none := rfl
@[simp] theorem backE_nil {k : Nat} {o ρ : Env} : backE [] k o ρ = ρ := rfl
@[simp] theorem backE_sh {f : EF} {r : List Ak} {k : Nat} {o ρ : Env} : backE (.sh f :: r) k o ρ = backE r (k + 1) o ρ := rfl
@[simp] theorem backE_bo {f : Nat} {r : List Ak} {k : Nat} {o ρ : Env} : backE (.bo f :: r) k o ρ = backE r (k + 1) o ρ := rfl
@[simp] theorem backE_io {i : Nat} {r : List Ak} {k : Nat} {o ρ : Env} : backE (.io i :: r) k o ρ = backE r (k + 1) o (ρ.set i (o[k]?).join) := rfl
@[simp] theorem live_def {ρ : Env} {i : Nat} : live ρ i = match ρ[i]? with
  | some (some _) => true
  | _ => false := rfl
@[simp] theorem killE_nil {ρ : Env} : killE [] ρ = ρ := rfl
@[simp] theorem killE_io {i : Nat} {r : List Ak} {ρ : Env} : killE (.io i :: r) ρ = killE r (ρ.set i none) := rfl
@[simp] theorem killE_sh {i : EF} {r : List Ak} {ρ : Env} : killE (.sh i :: r) ρ = killE r ρ := rfl
@[simp] theorem ownable_lst (ds : List D) : ownable (.lst ds) = true := rfl
@[simp] theorem ownable_tup (ds : List D) : ownable (.tup ds) = true := rfl
@[simp] theorem loose_int (i : Int) : loose (.int i) = true := rfl
@[simp] theorem loose_bl (i : Bool) : loose (.bl i) = true := rfl
@[simp] theorem loose_str (i : Str) : loose (.str i) = true := rfl
@[simp] theorem loose_non : loose .non = true := rfl
@[simp] theorem loose_tup (ds : List D) : loose (.tup ds) = looseL ds := by rw [loose]
@[simp] theorem looseL_nil : looseL [] = true := by rw [looseL]
@[simp] theorem looseL_cons (d : D) (ds : List D) : looseL (d :: ds) = (loose d && looseL ds) := by rw [looseL]
@[simp] theorem imm_int (i : Int) : imm (.int i) = true := by rw [imm]
@[simp] theorem imm_bl (i : Bool) : imm (.bl i) = true := by rw [imm]
@[simp] theorem imm_str (i : Str) : imm (.str i) = true := by rw [imm]
@[simp] theorem imm_non : imm .non = true := by rw [imm]
@[simp] theorem imm_tup (ds : List D) : imm (.tup ds) = immL ds := by rw [imm]
@[simp] theorem immL_nil : immL [] = true := by rw [immL]
@[simp] theorem immL_cons (d : D) (ds : List D) : immL (d :: ds) = (imm d && immL ds) := by rw [immL]
@[simp] theorem cutP_nil' (n : Nat) (ρ : Env) : cutP [] n ρ = List.replicate n none := cutP_nil n ρ
@[simp] theorem isL_lst (ds : List D) : isL (.lst ds) = true := rfl
@[simp] theorem gAppend_s {ds : List D} {d : D} (h : ds.length < 16777216) : gAppend (.lst ds) [d] = some (.non, .lst (ds ++ [d])) := by simp [gAppend, h]
@[simp] theorem gItems_lst (ds : List D) : gItems (.lst ds) = some ds := rfl
@[simp] theorem gItems_tup (ds : List D) : gItems (.tup ds) = some ds := rfl
theorem gRange1_s {j : Int} (h : -(2 ^ 62) ≤ j ∧ j < 2 ^ 62) : gRange1 [.int j] = some (rangeD 0 j.toNat) := by
  have : rangeOk j = true := rangeOk_iff.mpr h
  simp [gRange1, this]
/-! ### loops by an invariant -/
/-- each turn goes on -/
theorem loop_inv {b : BFn} {body : SF} (I : Nat → Env → Prop) : ∀ (ds : List D) (n : Nat) (ρ : Env), I n ρ → (∀ i ρ d, ds[i]? = some d → I (n + i) ρ → ∃ ρ1 ρ2, b d ρ = some ρ1 ∧ (body ρ1 = .next ρ2 ∨ body ρ1 = .cont ρ2) ∧ I (n + i + 1) ρ2) → ∃ ρ', loop b body ds ρ = .next ρ' ∧ I (n + ds.length) ρ'
  | [], n, ρ, h, _ => ⟨ρ, rfl, h⟩
  | d :: ds, n, ρ, h, st => by
    obtain ⟨ρ1, ρ2, e1, e2, h2⟩ := st 0 ρ d rfl h
    obtain ⟨ρ', e3, h3⟩ := loop_inv I ds (n + 1) ρ2 h2 fun i ρ d' hd hi => by
      have := st (i + 1) ρ d' (by simpa using hd) (by rw [show n + (i + 1) = n + 1 + i by omega]; exact hi)
      rw [show n + (i + 1) + 1 = n + 1 + i + 1 by omega] at this
      exact this
    refine ⟨ρ', ?_, by rw [List.length_cons, show n + (ds.length + 1) = n + 1 + ds.length by omega]; exact h3⟩
    unfold loop
    rw [e1]
    rcases e2 with e2 | e2 <;> (simp only [e2]; exact e3)
end DL

set_option Elab.async false
set_option linter.all false
set_option maxRecDepth 100000
set_option maxHeartbeats 4000000
namespace DL
open PySem PyProof L2 TL
/-! ### what can be shown: not deep, and not long -/
def FineP (dp b : Nat) (d : PyData) : Prop := d.showable = true ∧ d.depth ≤ dp ∧ d.leavesShort 45 = true ∧ d.bulk ≤ b
theorem depthAll_le' {c : Nat} : ∀ xs : List PyData, (∀ x ∈ xs, x.depth ≤ c) → PyData.depthAll xs ≤ c
  | [], _ => by simp [PyData.depthAll]
  | x :: r, h => by
    have h1 := h x (by simp)
    have h2 := depthAll_le' r fun y hy => h y (by simp [hy])
    simp only [PyData.depthAll]
    omega
theorem shortAll_of' : ∀ xs : List PyData, (∀ x ∈ xs, x.leavesShort 45 = true) → PyData.leavesShortAll 45 xs = true
  | [], _ => by simp [PyData.leavesShortAll]
  | x :: r, h => by
    have h1 := h x (by simp)
    have h2 := shortAll_of' r fun y hy => h y (by simp [hy])
    simp [PyData.leavesShortAll, h1, h2]
theorem bulkAll_le' {c : Nat} : ∀ xs : List PyData, (∀ x ∈ xs, x.bulk ≤ c) → PyData.bulkAll xs ≤ (c + 1) * xs.length
  | [], _ => by simp [PyData.bulkAll]
  | x :: r, h => by
    have h1 := h x (by simp)
    have h2 := bulkAll_le' r fun y hy => h y (by simp [hy])
    simp only [PyData.bulkAll, List.length_cons, Nat.mul_add, Nat.mul_one]
    omega
theorem showAll_of' : ∀ xs : List PyData, (∀ x ∈ xs, x.showable = true) → PyData.showableAll xs = true
  | [], _ => by simp [PyData.showableAll]
  | x :: r, h => by
    have h1 := h x (by simp)
    have h2 := showAll_of' r fun y hy => h y (by simp [hy])
    simp [PyData.showableAll, h1, h2]
/-- data that can be shown -/
def Fine (dp b : Nat) (d : D) : Prop := okR d = true ∧ FineP dp b (toPy d)
theorem toPyL_map : ∀ ds : List D, toPyL ds = ds.map toPy
  | [] => by simp [toPyL]
  | d :: ds => by simp [toPyL, toPyL_map ds]
theorem okRL_all : ∀ {ds : List D}, (∀ d ∈ ds, okR d = true) → okRL ds = true
  | [], _ => by simp [okRL]
  | d :: ds, h => by
    have h2 : okRL ds = true := okRL_all fun e he => h e (List.mem_cons_of_mem _ he)
    simp [okRL, h d (List.mem_cons_self ..), h2]
theorem Fine.lst {dp b : Nat} {ds : List D} (h : ∀ d ∈ ds, Fine dp b d) : Fine (dp + 1) ((b + 1) * ds.length) (.lst ds) := by
  have h' : ∀ x ∈ ds.map toPy, FineP dp b x := fun x hx => by obtain ⟨d, hd, rfl⟩ := List.mem_map.mp hx; exact (h d hd).2
  have l : (ds.map toPy).length = ds.length := List.length_map ..
  refine ⟨by simp only [okR]; exact okRL_all fun d hd => (h d hd).1, ?_, ?_, ?_, ?_⟩
  · simp only [toPy, toPyL_map, PyData.showable]
    exact showAll_of' _ fun x hx => (h' x hx).1
  · simp only [toPy, toPyL_map, PyData.depth]
    have := depthAll_le' _ fun x hx => (h' x hx).2.1
    omega
  · simp only [toPy, toPyL_map, PyData.leavesShort]
    exact shortAll_of' _ fun x hx => (h' x hx).2.2.1
  · simp only [toPy, toPyL_map, PyData.bulk]
    rw [← l]
    exact bulkAll_le' _ fun x hx => (h' x hx).2.2.2
theorem Fine.tup {dp b : Nat} {ds : List D} (h : ∀ d ∈ ds, Fine dp b d) : Fine (dp + 1) ((b + 1) * ds.length) (.tup ds) := by
  have h' : ∀ x ∈ ds.map toPy, FineP dp b x := fun x hx => by obtain ⟨d, hd, rfl⟩ := List.mem_map.mp hx; exact (h d hd).2
  have l : (ds.map toPy).length = ds.length := List.length_map ..
  refine ⟨by simp only [okR]; exact okRL_all fun d hd => (h d hd).1, ?_, ?_, ?_, ?_⟩
  · simp only [toPy, toPyL_map, PyData.showable]
    exact showAll_of' _ fun x hx => (h' x hx).1
  · simp only [toPy, toPyL_map, PyData.depth]
    have := depthAll_le' _ fun x hx => (h' x hx).2.1
    omega
  · simp only [toPy, toPyL_map, PyData.leavesShort]
    exact shortAll_of' _ fun x hx => (h' x hx).2.2.1
  · simp only [toPy, toPyL_map, PyData.bulk]
    rw [← l]
    exact bulkAll_le' _ fun x hx => (h' x hx).2.2.2
theorem Fine.mono {dp b dp' b' : Nat} {d : D} (h : Fine dp b d) (h1 : dp ≤ dp') (h2 : b ≤ b') : Fine dp' b' d := ⟨h.1, h.2.1, Nat.le_trans h.2.2.1 h1, h.2.2.2.1, Nat.le_trans h.2.2.2.2 h2⟩
theorem Fine.nat {n : Nat} (h : n < 10 ^ 44) : Fine 0 10 (.int n) := by
  refine ⟨by simp [okR], ?_, ?_, ?_, ?_⟩
  · simp only [toPy, PyData.showable]
    refine decide_eq_true ?_
    by_cases z : n = 0
    · subst z
      decide
    · have : (n : Int).natAbs.log2 < 200 := (Nat.log2_lt (by omega)).mpr (by
        have : (n : Int).natAbs = n := by omega
        rw [this]
        exact Nat.lt_trans h (by decide))
      omega
  · simp [toPy, PyData.depth]
  · simp only [toPy, PyData.leavesShort]
    refine decide_eq_true ?_
    have e := int_text_length_le10 (k := 44) (a := (n : Int)) (by decide) (by omega)
    show (Str.ofString (toString (n : Int))).length ≤ 45
    rw [ofString_length]
    exact e
  · simp [toPy, PyData.bulk]
theorem Fine.non : Fine 0 10 .non := ⟨by simp [okR], by simp [toPy, PyData.showable], by simp [toPy, PyData.depth], by simp [toPy, PyData.leavesShort], by simp [toPy, PyData.bulk]⟩
theorem Fine.bl (b : Bool) : Fine 0 10 (.bl b) := ⟨by simp [okR], by simp [toPy, PyData.showable], by simp [toPy, PyData.depth], by simp [toPy, PyData.leavesShort], by simp [toPy, PyData.bulk]⟩
theorem Fine.str {x : Str} (h : (x.cps.toList.all fun c => decide (c < 16 ^ 8)) = true) (h2 : x.cps.size ≤ 10) : Fine 0 10 (.str x) :=
  ⟨by simp [okR], by simp [toPy, PyData.showable], by simp [toPy, PyData.depth], by simpa only [toPy, PyData.leavesShort] using h, by simpa only [toPy, PyData.bulk] using h2⟩
theorem Fine.sh {dp b : Nat} {d : D} (h : Fine dp b d) (h1 : dp ≤ 60) (h2 : b ≤ 300000) : shOk d = true := by
  unfold shOk
  have := PyData.shown_le_bulk 45 (by decide) _ h.2.2.2.1
  have h3 := h.2.2.2.2
  have h4 := h.2.2.1
  simp only [Bool.and_eq_true, decide_eq_true_eq]
  exact ⟨⟨⟨h.1, h.2.1⟩, by omega⟩, by omega⟩
@[simp] theorem gRepr_ok {d : D} (h : shOk d = true) : gRepr [d] = some (.str (toPy d).shown) := by simp [gRepr, h]
end DL

set_option Elab.async false
set_option linter.all false
set_option maxRecDepth 100000
set_option maxHeartbeats 4000000
namespace DL
open PySem PyProof L2 TL
/-! ### comprehensions whose turns change what is one's own -/
@[simp] theorem gSlice_to {ds : List D} {k : Nat} (h : k ≤ ds.length) : gSlice (.lst ds) none (some (k : Int)) = some (.lst (ds.take k)) := by
  simp only [gSlice, cutD, HT.sIx_nat, HT.sIx_none]
  rw [Nat.min_eq_left h]
  simp
@[simp] theorem gSlice_from {ds : List D} {k : Nat} (h : k ≤ ds.length) : gSlice (.lst ds) (some (k : Int)) none = some (.lst (ds.drop k)) := by
  simp only [gSlice, cutD, HT.sIx_nat, HT.sIx_none]
  rw [Nat.min_eq_left h, List.take_of_length_le (by simp)]
@[simp] theorem gNeg_int (i : Int) : gNeg (.int i) = some (.int (-i)) := rfl
@[simp] theorem gAdd_lst {xs ys : List D} (h : xs.length + ys.length ≤ 16777216) : gAdd (.lst xs) (.lst ys) = some (.lst (xs ++ ys)) := by simp [gAdd, szOk, h]
end DL

set_option Elab.async false
set_option linter.all false
set_option maxRecDepth 100000
set_option maxHeartbeats 4000000
namespace DL
open PySem L2 TL
/-! ### what all laws begin with: range(max(1, min(N, len(script)))) -/
theorem gRange1_2 : gRange1 [.int 2] = some (rangeD 0 2) := gRange1_s (j := 2) (by decide)
end DL

set_option Elab.async false
set_option linter.all false
set_option maxRecDepth 100000
set_option maxHeartbeats 4000000
namespace DL
open PySem L2 TL
@[simp] theorem ap_eDisp {fs : List (EF × EF)} {ρ : Env} : eDisp fs ρ = (pPairs fs ρ).bind fun p => if p.1.length ≤ 15 then opt ((putsD [] p.1).map (D.dic false)) p.2 else .stuck := rfl
@[simp] theorem ap_eGet2 {fd fk fx : EF} {ρ : Env} : eGet2 fd fk fx ρ = (fd ρ).bind fun p => match p.1 with
  | .dic t kvs => (fk p.2).bind fun q => (fx q.2).bind fun r => match dget t kvs q.1 with
    | some o => .ok (o.getD r.1, r.2)
    | none => .stuck
  | _ => .stuck := rfl
@[simp] theorem pPairs_nil {ρ : Env} : pPairs [] ρ = .ok ([], ρ) := rfl
@[simp] theorem pPairs_cons {fk fv : EF} {r : List (EF × EF)} {ρ : Env} : pPairs ((fk, fv) :: r) ρ = (fk ρ).bind fun p => (fv p.2).bind fun q => (pPairs r q.2).bind fun z => .ok ((p.1, q.1) :: z.1, z.2) := rfl
@[simp] theorem gEqE_lst (xs : List D) : gEqE (.lst xs) (.lst []) = some (.bl xs.isEmpty) := rfl
@[simp] theorem gEqE_tup (xs : List D) : gEqE (.tup xs) (.tup []) = some (.bl xs.isEmpty) := rfl
end DL
namespace DL
open PySem L2 TL
@[simp] theorem ap_eBM {g : D → List D → Option D} {fo : EF} {fs : AF} {ρ : Env} : eBM g fo fs ρ = (fo ρ).bind fun p => if isLst p.1 = true then (fs p.2).bind fun q => opt (g p.1 q.1) q.2 else .stuck := rfl
@[simp] theorem isLst_lst (xs : List D) : isLst (.lst xs) = true := rfl
@[simp] theorem ap_eCallT {fr : Bool} {ks : List Ak} {f : Fn} {ρ : Env} : eCallT fr ks f ρ = match axGo ks ρ with
  | .err _ => .stuck
  | _ => eCall fr ks f ρ := rfl
@[simp] theorem ap_sTry {M : List Nat} {cat : Str → Bool} {i : Nat} {fb fh : SF} {ρ : Env} : sTry M cat i fb fh ρ = match fb ρ with
  | .err c => if cat c = true then (fh ((dropM M ρ).set i (some (excOf c)))).gone i else .stuck
  | r => r := rfl
end DL

set_option Elab.async false
set_option linter.all false
set_option maxRecDepth 100000
set_option maxHeartbeats 4000000
namespace G
open PySem L2 DL
/-! ### ranges that reckon -/
def rgC (i : Int) : Bool := decide (-4611686018427387904 ≤ i) && decide (i < 4611686018427387904)
theorem rangeOk_c (i : Int) : rangeOk i = rgC i := by
  rw [Bool.eq_iff_iff, rangeOk_iff]
  simp [rgC]
def gRange1c : List D → Option (List D)
  | [.int j] => if rgC j = true then some (rangeD 0 j.toNat) else none
  | _ => none
theorem gRange1_c : gRange1 = gRange1c := by
  funext ds
  rcases ds with _ | ⟨d, _ | ⟨e, r⟩⟩
  · rfl
  · cases d with
    | int j =>
      show (if rangeOk j = true then some (rangeD 0 j.toNat) else none) = (if rgC j = true then some (rangeD 0 j.toNat) else none)
      rw [rangeOk_c]
    | _ => rfl
  · cases d <;> rfl
def iRange1c (a : AF) : AF := fun ρ => (a ρ).bind fun p => opt (gRange1c p.1) p.2
theorem iRange1_c : iRange1 = iRange1c := by
  funext a ρ
  unfold iRange1 iRange1c
  rw [gRange1_c]
/-! ### the rows, by figures -/
def thingD (m d : Nat) : D := if d ≤ m then .int (d : Nat) else .non
def rowD (m : Nat) : Nat → Nat → List D
  | 0, _ => []
  | n + 1, k => rowD m n (k / (m + 2)) ++ [thingD m (k % (m + 2))]
def hasZ : List D → Bool
  | [] => false
  | .int i :: r => i == 0 || hasZ r
  | _ :: r => hasZ r
def rowsL (n m : Nat) : List D := ((List.range ((m + 2) ^ n)).map fun k => rowD m n k).filterMap fun r => if hasZ r then some (.tup r) else none
theorem l_rows_12 (n m : Nat) (h1 : 1 ≤ n) (h2 : n ≤ 3) (h3 : m ≤ 3) : F_l_rows [.int (n : Nat), .int (m : Nat)] = .ok (.lst (rowsL n m), [none, none]) := by
  simp only [F_l_rows, g_l_rows, iRange1_c]
  have hn : n = 1 ∨ n = 2 ∨ n = 3 := by omega
  have hm : m = 0 ∨ m = 1 ∨ m = 2 ∨ m = 3 := by omega
  rcases hn with rfl | rfl | rfl <;> rcases hm with rfl | rfl | rfl | rfl <;> kernel_rfl
theorem normal_rows_12 (n m : Nat) (h1 : 1 ≤ n) (h2 : n ≤ 3) (h3 : m ≤ 3) : F_normal_rows [.int (n : Nat), .int (m : Nat)] = .ok (.lst (rowsL n m), [none, none]) := by
  simp only [F_normal_rows, g_normal_rows, iRange1_c]
  have hn : n = 1 ∨ n = 2 ∨ n = 3 := by omega
  have hm : m = 0 ∨ m = 1 ∨ m = 2 ∨ m = 3 := by omega
  rcases hn with rfl | rfl | rfl <;> rcases hm with rfl | rfl | rfl | rfl <;> kernel_rfl
end G

set_option Elab.async false
set_option linter.all false
set_option maxRecDepth 100000
set_option maxHeartbeats 4000000
namespace G
open PySem L2 DL
/-! ### the pot -/
def Pot (P : D) : Prop := ∃ p q : Int, P = .lst [.int p, .int q] ∧ 0 ≤ p ∧ 0 ≤ q ∧ q < 2 ^ 40
theorem Pot.own {P : D} (h : Pot P) : ownable P = true := by obtain ⟨p, q, rfl, _⟩ := h; rfl
theorem in64_of {i : Int} (h : 0 ≤ i ∧ i < 2 ^ 64) : in64 i = true := decide_eq_true ⟨by omega, h.2⟩
theorem F_l_cell_eq (ns : List Int) (k : Nat) : ∃ c : Int, F_l_cell [.scr (ns.map .int), .int (k : Nat)] = .ok (.int c, [none, none]) := by
  by_cases h : k < ns.length
  · obtain ⟨c, hc⟩ : ∃ c, ns[k]? = some c := ⟨_, List.getElem?_eq_getElem h⟩
    have ha : atI (ns.map D.int) (k : Int) = some (.int c) := by rw [atI_n, List.getElem?_map, hc]; rfl
    exact ⟨c, by simp [F_l_cell, run_eq, g_l_cell, startE, h, ha]⟩
  · exact ⟨0, by simp [F_l_cell, run_eq, g_l_cell, startE, h]⟩
theorem p18 : gPow (.int 10) (.int 18) = some (.int (10 ^ 18)) := rfl
theorem gPow3 {i : Int} (h1 : 0 ≤ i) (h : i < 2 ^ 60) : gPow (.int i) (.int 3) = some (.int (i ^ 3)) := by
  have : i.natAbs < 2 ^ 64 := by omega
  simp only [gPow]
  rw [if_pos ⟨by decide, by decide, this⟩]
  rfl
theorem F_l_pot_eq (ns : List Int) (k : Nat) (hk : k ≤ 1000) : ∃ P, Pot P ∧ F_l_pot [.scr (ns.map .int), .int (k : Nat)] = .ok (P, [none, none]) := by
  obtain ⟨c, hc⟩ := F_l_cell_eq ns k
  have m1 : in64 104729 = true := by decide
  have a1 := Int.fmod_nonneg_of_pos (if c < 0 then -c else c) (show (0 : Int) < 2147483629 by decide)
  have a2 := Int.fmod_lt_of_pos (if c < 0 then -c else c) (show (0 : Int) < 2147483629 by decide)
  generalize hx : (if c < 0 then -c else c).fmod 2147483629 = x at a1 a2
  have e := gPow3 (i := x + 104729 * (k : Int) + 31) (by omega) (by omega)
  have b1 := Int.fmod_nonneg_of_pos ((x + 104729 * (k : Int) + 31) ^ 3) (show (0 : Int) < 2147483587 by decide)
  have b2 := Int.fmod_lt_of_pos ((x + 104729 * (k : Int) + 31) ^ 3) (show (0 : Int) < 2147483587 by decide)
  refine ⟨.lst [.int (if c - 10 ^ 18 > 0 then c - 10 ^ 18 else 0), .int (((x + 104729 * (k : Int) + 31) ^ 3).fmod 2147483587 + 1)], ⟨_, _, rfl, by split <;> omega, by omega, by omega⟩, ?_⟩
  simp [F_l_pot, run_eq, g_l_pot, startE, hc, gMax2, gAbs, p18, gMod, gMul, m1, hx, e]
theorem F_l_draw_eq {P : D} (h : Pot P) (m : Nat) (hm : 0 < m) (hm2 : m ≤ 10 ^ 30) : ∃ (d : Nat) (P' : D), d < m ∧ Pot P' ∧ F_l_draw [P, .int (m : Nat)] = .ok (.int (d : Nat), [some P', none]) := by
  obtain ⟨p, q, rfl, h1, h2, h3⟩ := h
  have hm' : (m : Int) ≠ 0 := by omega
  by_cases hp : 0 < p
  · have l1 : (m : Int).natAbs.log2 < 9000 := by
      have : (m : Int).natAbs = m := by omega
      rw [this]
      have : m.log2 < 200 := (Nat.log2_lt (by omega)).mpr (Nat.lt_of_le_of_lt hm2 (by decide))
      omega
    have e1 : 0 ≤ p / (m : Int) := Int.ediv_nonneg h1 (by omega)
    have e2 := Int.emod_nonneg p hm'
    have e3 := Int.emod_lt_of_pos p (show (0 : Int) < (m : Int) by omega)
    refine ⟨(p % (m : Int)).toNat, .lst [.int (p / (m : Int)), .int q], by omega, ⟨_, _, rfl, e1, h2, h3⟩, ?_⟩
    have e4 : ((p % (m : Int)).toNat : Int) = p % (m : Int) := by omega
    rw [e4]
    have l2 : m.log2 < 9000 := by simpa using l1
    simp (decide := true) [F_l_draw, run_eq, g_l_draw, startE, hp, gDivmod, hm, l2, gSetL, ixN]
    rfl
  · have i1 := in64_of (show 0 ≤ q ∧ q < 2 ^ 64 by omega)
    have e1 := Int.fmod_nonneg_of_pos (q * 48271 + 11) (show (0 : Int) < 2147483647 by decide)
    have e2 := Int.fmod_lt_of_pos (q * 48271 + 11) (show (0 : Int) < 2147483647 by decide)
    have i2 := in64_of (show 0 ≤ (q * 48271 + 11).fmod 2147483647 ∧ (q * 48271 + 11).fmod 2147483647 < 2 ^ 64 by omega)
    have e3 := Int.fmod_nonneg_of_pos (((((q * 48271 + 11).fmod 2147483647) * ((q * 48271 + 11).fmod 2147483647)).fmod 2147483629).fdiv 5) (show (0 : Int) < (m : Int) by omega)
    have e4 := Int.fmod_lt_of_pos (((((q * 48271 + 11).fmod 2147483647) * ((q * 48271 + 11).fmod 2147483647)).fmod 2147483629).fdiv 5) (show (0 : Int) < (m : Int) by omega)
    refine ⟨((((((q * 48271 + 11).fmod 2147483647) * ((q * 48271 + 11).fmod 2147483647)).fmod 2147483629).fdiv 5).fmod (m : Int)).toNat, .lst [.int p, .int ((q * 48271 + 11).fmod 2147483647)], by omega, ⟨_, _, rfl, h1, e1, by omega⟩, ?_⟩
    rw [show ((((((((q * 48271 + 11).fmod 2147483647) * ((q * 48271 + 11).fmod 2147483647)).fmod 2147483629).fdiv 5).fmod (m : Int)).toNat : Nat) : Int) = (((((q * 48271 + 11).fmod 2147483647) * ((q * 48271 + 11).fmod 2147483647)).fmod 2147483629).fdiv 5).fmod (m : Int) by omega]
    have m0 : ¬ m = 0 := by omega
    simp (decide := true) [F_l_draw, run_eq, g_l_draw, startE, hp, gMod, gMul, gFdiv, i1, i2, gSetL, ixN, m0]
    rfl
end G

set_option Elab.async false
set_option linter.all false
set_option maxRecDepth 100000
set_option maxHeartbeats 4000000
namespace G
open PySem L2 DL
/-! ### odd things -/
def isWh (a b : Int) : D → Bool
  | .int i => decide (a ≤ i) && decide (i ≤ b)
  | _ => false
def Ty (d : D) : Prop := ∃ t, tyD d = some t
theorem F_within_any {x : D} (h : Ty x) (a b : Int) : F_is_whole_within [x, .int a, .int b] = .ok (.bl (isWh a b x), [none, none, none]) := by
  obtain ⟨t, h⟩ := h
  cases x <;> simp [tyD] at h <;> simp [F_is_whole_within, run_eq, g_is_whole_within, startE, F_is_whole, g_is_whole, subTy, isWh]
  rename_i i
  by_cases c : a ≤ i <;> simp [c]
/-- an odd thing: neither a number of ways in nor a span; or 0, where that is let -/
structure Odd (a b : Int) (x : D) : Prop where
  ty : Ty x
  no : isWh a b x = false
def oddL (a b : Nat) : List D := [.int (-1 - (a : Int)), .int (4 + (b : Int)), .int 100000000000000000000000000000, .bl true, .bl false, .non, .str "1", .tup [.int 1], .lst [], .dic false [], .str "", .lst [.int 2]]
theorem oddL_ok (a b : Nat) : ∀ x ∈ oddL a b, Odd 0 3 x := by
  intro x hx
  simp only [oddL, List.mem_cons, List.not_mem_nil, or_false] at hx
  rcases hx with rfl | rfl | rfl | rfl | rfl | rfl | rfl | rfl | rfl | rfl | rfl | rfl
  · exact ⟨⟨_, rfl⟩, by simp [isWh]; omega⟩
  · exact ⟨⟨_, rfl⟩, by simp [isWh]; omega⟩
  · exact ⟨⟨_, rfl⟩, by simp [isWh]⟩
  all_goals exact ⟨⟨_, rfl⟩, rfl⟩
theorem Odd.up {x : D} (h : Odd 0 3 x) : Odd 1 3 x := by
  refine ⟨h.ty, ?_⟩
  have n := h.no
  cases x <;> simp [isWh] at n ⊢
  omega
theorem p29 : gPow (.int 10) (.int 29) = some (.int 100000000000000000000000000000) := by rfl
theorem F_l_odd0 {P : D} (h : Pot P) : ∃ (x : D) (P' : D), Odd 0 3 x ∧ Pot P' ∧ F_l_odd [P, .int 0] = .ok (x, [some P', none]) := by
  obtain ⟨a, P1, la, h1, e1⟩ := F_l_draw_eq h 9 (by decide) (by decide)
  obtain ⟨b, P2, lb, h2, e2⟩ := F_l_draw_eq h1 9 (by decide) (by decide)
  obtain ⟨d, P3, ld, h3, e3⟩ := F_l_draw_eq h2 12 (by decide) (by decide)
  have hd : d < (oddL a b).length := ld
  refine ⟨(oddL a b)[d], P3, oddL_ok a b _ (List.getElem_mem hd), h3, ?_⟩
  have ix : atI (oddL a b) (d : Int) = some (oddL a b)[d] := by rw [atI_n, List.getElem?_eq_getElem hd]
  simp only [oddL] at ix
  simp at e1 e2 e3
  simp [F_l_odd, run_eq, g_l_odd, startE, e1, e2, p29, gNeg, gMul, szOk, gAdd, e3, ix, List.replicate]
  exact ⟨rfl, rfl⟩
theorem F_l_odd1 {P : D} (h : Pot P) : ∃ (x : D) (P' : D), Odd 1 3 x ∧ Pot P' ∧ F_l_odd [P, .int 1] = .ok (x, [some P', none]) := by
  obtain ⟨a, P1, la, h1, e1⟩ := F_l_draw_eq h 9 (by decide) (by decide)
  obtain ⟨b, P2, lb, h2, e2⟩ := F_l_draw_eq h1 9 (by decide) (by decide)
  obtain ⟨d, P3, ld, h3, e3⟩ := F_l_draw_eq h2 13 (by decide) (by decide)
  have hd : d < (oddL a b ++ [D.int 0]).length := ld
  have ok : Odd 1 3 (oddL a b ++ [D.int 0])[d] := by
    have := List.getElem_mem hd
    rcases List.mem_append.mp this with z | z
    · exact (oddL_ok a b _ z).up
    · rw [List.mem_singleton.mp z]; exact ⟨⟨_, rfl⟩, rfl⟩
  refine ⟨(oddL a b ++ [D.int 0])[d], P3, ok, h3, ?_⟩
  have ix : atI (oddL a b ++ [D.int 0]) (d : Int) = some (oddL a b ++ [D.int 0])[d] := by rw [atI_n, List.getElem?_eq_getElem hd]
  simp only [oddL, List.cons_append, List.nil_append] at ix
  simp at e1 e2 e3
  simp [F_l_odd, run_eq, g_l_odd, startE, e1, e2, p29, gNeg, gMul, szOk, gAdd, e3, ix, List.replicate]
  exact ⟨rfl, rfl⟩
/-! ### what is told -/
theorem rows_err {x y : D} (h : Odd 1 3 x ∨ ((∃ n : Nat, 1 ≤ n ∧ n ≤ 3 ∧ x = .int (n : Nat)) ∧ Odd 0 3 y)) : F_normal_rows [x, y] = .err "NoNumber" := by
  have r : F_refuse_no_span [x, y] = .err "NoNumber" := by
    rcases h with h | ⟨⟨n, h1, h2, rfl⟩, h⟩
    · have e := F_within_any h.ty 1 3
      rw [h.no] at e
      simp [F_refuse_no_span, run_eq, g_refuse_no_span, startE, e]
    · have e := F_within_any h.ty 0 3
      rw [h.no] at e
      have e0 := F_within_any (x := .int (n : Nat)) ⟨_, rfl⟩ 1 3
      have : isWh 1 3 (.int (n : Nat)) = true := by simp [isWh]; omega
      rw [this] at e0
      simp [F_refuse_no_span, run_eq, g_refuse_no_span, startE, e, e0]
  simp [F_normal_rows, run_eq, g_normal_rows, startE, r]
abbrev refD : D := .tup [.str "refused", .lst [.bl true, .bl false, .bl false, .bl true]]
theorem isx_exc {c d : Str} (hc : c ∈ exAll) (hd : d ∈ exAll) : gIsX exAll [excOf c, .cls d] = some (.bl (xSub c d)) := by
  simp [gIsX, excOf, excD, hc, hd]
theorem isx_val {c : Str} (hc : c ∈ exAll) : gIsX exAll [excOf c, .ty "ValueError"] = some (.bl true) := by
  simp [gIsX, excOf, excD, hc]
theorem told_err {x y : D} (h : F_normal_rows [x, y] = .err "NoNumber") : F_l_told [x, y] = .ok (refD, [none, none]) := by
  have m : ("NoNumber" : Str) ∈ exAll := by decide +kernel
  have m2 : ("NoTiming" : Str) ∈ exAll := by decide +kernel
  have m3 : ("CantBe" : Str) ∈ exAll := by decide +kernel
  have x1 := isx_exc m m
  have x2 := isx_exc m m2
  have x3 := isx_exc m m3
  have x4 := isx_val m
  rw [show xSub "NoNumber" "NoNumber" = true by decide +kernel] at x1
  rw [show xSub "NoNumber" "NoTiming" = false by decide +kernel] at x2
  rw [show xSub "NoNumber" "CantBe" = false by decide +kernel] at x3
  simp [F_l_told, run_eq, g_l_told, startE, h, m, S.gone, dropM, x1, x2, x3, x4, ap_eTupT, osLoose, szOk, ownable]
theorem told_ok (n m : Nat) (h1 : 1 ≤ n) (h2 : n ≤ 3) (h3 : m ≤ 3) : F_l_told [.int (n : Nat), .int (m : Nat)] = .ok (.tup [.str "rows", .lst (rowsL n m)], [none, none]) := by
  have e := normal_rows_12 n m h1 h2 h3
  simp [F_l_told, run_eq, g_l_told, startE, e, ownable]
theorem mul_12 (n m : Nat) (h1 : 1 ≤ n) (h2 : n ≤ 3) (h3 : m ≤ 5) : F_l_multiplied [.int (m : Nat), .int (n : Nat)] = .ok (.int ((m ^ n : Nat) : Int), [none, none]) := by
  simp only [F_l_multiplied, g_l_multiplied, iRange1_c]
  have hn : n = 1 ∨ n = 2 ∨ n = 3 := by omega
  have hm : m = 0 ∨ m = 1 ∨ m = 2 ∨ m = 3 ∨ m = 4 ∨ m = 5 := by omega
  rcases hn with rfl | rfl | rfl <;> rcases hm with rfl | rfl | rfl | rfl | rfl | rfl <;> kernel_rfl
theorem rowsL_len (n m : Nat) (h1 : 1 ≤ n) (h2 : n ≤ 3) (h3 : m ≤ 3) : (rowsL n m).length + (m + 1) ^ n = (m + 2) ^ n := by
  have hn : n = 1 ∨ n = 2 ∨ n = 3 := by omega
  have hm : m = 0 ∨ m = 1 ∨ m = 2 ∨ m = 3 := by omega
  rcases hn with rfl | rfl | rfl <;> rcases hm with rfl | rfl | rfl | rfl <;> decide +kernel
theorem rowD_fine (m : Nat) (h : m ≤ 3) : ∀ n k, ∀ d ∈ rowD m n k, Fine 0 10 d
  | 0, _, d, hd => by simp [rowD] at hd
  | n + 1, k, d, hd => by
    simp only [rowD, List.mem_append, List.mem_singleton] at hd
    rcases hd with hd | rfl
    · exact rowD_fine m h n _ d hd
    · unfold thingD
      split
      · exact Fine.nat (by omega)
      · exact Fine.non
theorem rowD_len (m : Nat) : ∀ n k, (rowD m n k).length = n
  | 0, _ => rfl
  | n + 1, k => by simp [rowD, rowD_len m n]
theorem rowsL_sh (n m : Nat) (h1 : 1 ≤ n) (h2 : n ≤ 3) (h3 : m ≤ 3) : shOk (.tup [.str "rows", .lst (rowsL n m)]) = true := by
  have fr : ∀ d ∈ rowsL n m, Fine 1 33 d := by
    intro d hd
    simp only [rowsL, List.mem_filterMap, List.mem_map] at hd
    obtain ⟨r, ⟨k, _, rfl⟩, hr⟩ := hd
    split at hr
    · cases hr
      exact (Fine.tup (rowD_fine m h3 n k)).mono (by decide) (by rw [rowD_len]; omega)
    · cases hr
  have len : (rowsL n m).length ≤ 125 := by
    have := rowsL_len n m h1 h2 h3
    have : (m + 2) ^ n ≤ 5 ^ n := Nat.pow_le_pow_left (by omega) n
    have : 5 ^ n ≤ 5 ^ 3 := Nat.pow_le_pow_right (by omega) h2
    omega
  have f1 : Fine 2 5000 (.lst (rowsL n m)) := (Fine.lst fr).mono (by decide) (by omega)
  have f0 : Fine 2 5000 (.str "rows") := (Fine.str (by decide +kernel) (by decide +kernel)).mono (by decide) (by decide)
  have : ∀ x ∈ [D.str "rows", .lst (rowsL n m)], Fine 2 5000 x := fun x hx => by
    rcases List.mem_cons.mp hx with rfl | hx
    · exact f0
    · rw [List.mem_singleton.mp hx]; exact f1
  exact (Fine.tup this).sh (by decide) (by simp)
end G

set_option Elab.async false
set_option linter.all false
set_option maxRecDepth 100000
set_option maxHeartbeats 4000000
namespace DL
open PySem L2 TL
/-! ### range(max(1, min(len(script), N))) -/
theorem law_rngB (ns : List Int) (N : Nat) (hN : 1 ≤ N ∧ N ≤ 1000) (r : Env) : ∃ m : Nat, (iRange1 (aCons (eN gMax2 (aCons (eC (.int 1)) (aCons (eN gMin2 (aCons (eN gLen (aCons (eVar 0) aNil)) (aCons (eC (.int (N : Nat))) aNil))) aNil))) aNil)) (some (.scr (ns.map .int)) :: r) = .ok (rangeD 0 m, some (.scr (ns.map .int)) :: r) ∧ m ≤ N := by
  let j : Int := if (if ((N : Nat) : Int) < (ns.length : Nat) then ((N : Nat) : Int) else (ns.length : Nat)) > 1 then (if ((N : Nat) : Int) < (ns.length : Nat) then ((N : Nat) : Int) else (ns.length : Nat)) else 1
  have hj : 1 ≤ j ∧ j ≤ N := by
    simp only [j]
    split <;> split at * <;> omega
  refine ⟨j.toNat, ?_, by omega⟩
  have r1 := gRange1_s (j := j) (by omega)
  simp [gMax2, gMin2]
  have : (if (1 : Int) < (if N < ns.length then ((N : Nat) : Int) else (ns.length : Nat)) then (if N < ns.length then ((N : Nat) : Int) else (ns.length : Nat)) else 1) = j := by
    simp only [j, gt_iff_lt, Int.ofNat_lt]
  rw [this, r1]
  rfl
theorem rangeD_get {n i : Nat} {d : D} (h : (rangeD 0 n)[i]? = some d) : d = .int (i : Nat) ∧ i < n := by
  unfold rangeD at h
  rw [List.getElem?_map] at h
  obtain ⟨k, hk, rfl⟩ := Option.map_eq_some_iff.mp h
  obtain ⟨hl, hk⟩ := List.getElem?_eq_some_iff.mp hk
  simp at hk hl
  subst hk
  exact ⟨by simp, hl⟩
end DL

set_option Elab.async false
set_option linter.all false
set_option maxRecDepth 100000
set_option maxHeartbeats 4000000
namespace G
open PySem L2 DL
noncomputable abbrev turnB : SF := (sSeq (sSetO 9 (eCall true (.sh (eVar 4) :: (.sh (eVar 5) :: [])) F_l_told))
    (sSeq (sIf (bVal (e2 gNe (eLend (eN gRepr (aCons (eVar 9) aNil))) (eN gRepr (aCons (eN gTupN (aCons (eC (.str "rows")) (aCons (eVar 6) aNil))) aNil)))) (sRet (eC (.bl false))) sNil)
    (sSeq (sDrop (eMutT 9 1 gReverse aNil))
    (sDrop (eMutT 9 1 gPop aNil)))))
noncomputable abbrev t2 : SF := (sSetO 2 (eCall true (.sh (eVar 0) :: (.sh (eVar 1) :: [])) F_l_pot))
noncomputable abbrev t3 : SF := (sSet 3 (eCall false (.io 2 :: (.sh (eC (.int 3)) :: [])) F_l_draw))
noncomputable abbrev t4 : SF := (sPar 4 5 (aCons (e2 gAdd (eC (.int 1)) (eCall false (.io 2 :: (.sh (eC (.int 3)) :: [])) F_l_draw)) (aCons (eCall false (.io 2 :: (.sh (eC (.int 4)) :: [])) F_l_draw) aNil)))
noncomputable abbrev t5 : SF := (sSet 6 (eCall true (.sh (eVar 4) :: (.sh (eVar 5) :: [])) F_l_rows))
noncomputable abbrev t6 : SF := (sIf (bVal (e2 gNe (eN gLen (aCons (eVar 6) aNil)) (e2 gSub (eCall false (.sh (e2 gAdd (eVar 5) (eC (.int 2))) :: (.sh (eVar 4) :: [])) F_l_multiplied) (eCall false (.sh (e2 gAdd (eVar 5) (eC (.int 1))) :: (.sh (eVar 4) :: [])) F_l_multiplied)))) (sRet (eC (.bl false))) sNil)
noncomputable abbrev t7 : SF := (sFor (iRange1 (aCons (eC (.int 2)) aNil)) (bName 7) turnB)
noncomputable abbrev t8 : SF := (sSet 8 (e2 gIx (eN gLstN (aCons (eN gTupN (aCons (eCall false (.io 2 :: (.sh (eC (.int 1)) :: [])) F_l_odd) (aCons (eVar 5) aNil))) (aCons (eN gTupN (aCons (eVar 4) (aCons (eCall false (.io 2 :: (.sh (eC (.int 0)) :: [])) F_l_odd) aNil))) (aCons (eN gTupN (aCons (eCall false (.io 2 :: (.sh (eC (.int 1)) :: [])) F_l_odd) (aCons (eCall false (.io 2 :: (.sh (eC (.int 0)) :: [])) F_l_odd) aNil))) aNil)))) (eVar 3)))
noncomputable abbrev t9 : SF := (sIf (bVal (e2 gNe (eCall true (.sh (e2 gIx (eVar 8) (eC (.int 0))) :: (.sh (e2 gIx (eVar 8) (eC (.int 1))) :: [])) F_l_told) (eN gTupN (aCons (eC (.str "refused")) (aCons (eN gLstN (aCons (eC (.bl true)) (aCons (eC (.bl false)) (aCons (eC (.bl false)) (aCons (eC (.bl true)) aNil))))) aNil))))) (sRet (eC (.bl false))) sNil)
noncomputable abbrev t10 : SF := (sIf (bVal (e2 gNe (eN gRepr (aCons (eCall true (.sh (eVar 4) :: (.sh (eVar 5) :: [])) F_l_told) aNil)) (eN gRepr (aCons (eN gTupN (aCons (eC (.str "rows")) (aCons (eVar 6) aNil))) aNil)))) (sRet (eC (.bl false))) sNil)
noncomputable abbrev roundB : SF := sSeq t2 (sSeq t3 (sSeq t4 (sSeq t5 (sSeq t6 (sSeq t7 (sSeq t8 (sSeq t9 t10)))))))
theorem g_law_eq : g_law = sSeq (sFor (iRange1 (aCons (eN gMax2 (aCons (eC (.int 1)) (aCons (eN gMin2 (aCons (eN gLen (aCons (eVar 0) aNil)) (aCons (eC (.int 8)) aNil))) aNil))) aNil)) (bName 1) roundB) (sRet (eC (.bl true))) := rfl
theorem round_ok (ns : List Int) (i : Nat) (hi : i ≤ 1000) (r : Fin 9 → Option D) : ∃ r' : Fin 9 → Option D, roundB [some (.scr (ns.map .int)), some (.int (i : Nat)), r 1, r 2, r 3, r 4, r 5, r 6, r 7, r 8] = .next [some (.scr (ns.map .int)), r' 0, r' 1, r' 2, r' 3, r' 4, r' 5, r' 6, r' 7, r' 8] := by
  obtain ⟨P, hP, e2⟩ := F_l_pot_eq ns i hi
  obtain ⟨way, P3, lw, hP3, e3⟩ := F_l_draw_eq hP 3 (by decide) (by decide)
  obtain ⟨n0, P4, ln, hP4, e4⟩ := F_l_draw_eq hP3 3 (by decide) (by decide)
  obtain ⟨m, P5, lm, hP5, e5⟩ := F_l_draw_eq hP4 4 (by decide) (by decide)
  obtain ⟨n, rfl⟩ : ∃ n, n = 1 + n0 := ⟨_, rfl⟩
  have e6 := l_rows_12 (1 + n0) m (by omega) (by omega) (by omega)
  have sh := rowsL_sh (1 + n0) m (by omega) (by omega) (by omega)
  have tok := told_ok (1 + n0) m (by omega) (by omega) (by omega)
  have len := rowsL_len (1 + n0) m (by omega) (by omega) (by omega)
  have mu2 := mul_12 (1 + n0) (m + 2) (by omega) (by omega) (by omega)
  have mu1 := mul_12 (1 + n0) (m + 1) (by omega) (by omega) (by omega)
  obtain ⟨x1, P6, o1, hP6, q1⟩ := F_l_odd1 hP5
  obtain ⟨x2, P7, o2, hP7, q2⟩ := F_l_odd0 hP6
  obtain ⟨x3, P8, o3, hP8, q3⟩ := F_l_odd1 hP7
  obtain ⟨x4, P9, o4, hP9, q4⟩ := F_l_odd0 hP8
  generalize hR : rowsL (1 + n0) m = Rw at *
  have own := hP.own
  have k2 : ∀ KK : SF, (sSeq t2 KK) [some (.scr (ns.map .int)), some (.int (i : Nat)), r 1, r 2, r 3, r 4, r 5, r 6, r 7, r 8] = KK [some (.scr (ns.map .int)), some (.int (i : Nat)), some P, r 2, r 3, r 4, r 5, r 6, r 7, r 8] := fun KK => by simp [e2, own]
  have k3 : ∀ KK : SF, (sSeq t3 KK) [some (.scr (ns.map .int)), some (.int (i : Nat)), some P, r 2, r 3, r 4, r 5, r 6, r 7, r 8] = KK [some (.scr (ns.map .int)), some (.int (i : Nat)), some P3, some (.int (way : Nat)), r 3, r 4, r 5, r 6, r 7, r 8] := fun KK => by simp at e3; simp [e3]
  have k4 : ∀ KK : SF, (sSeq t4 KK) [some (.scr (ns.map .int)), some (.int (i : Nat)), some P3, some (.int (way : Nat)), r 3, r 4, r 5, r 6, r 7, r 8] = KK [some (.scr (ns.map .int)), some (.int (i : Nat)), some P5, some (.int (way : Nat)), some (.int ((1 + n0 : Nat) : Int)), some (.int (m : Nat)), r 5, r 6, r 7, r 8] := fun KK => by simp at e4 e5; simp [e4, e5]
  have k5 : ∀ KK : SF, (sSeq t5 KK) [some (.scr (ns.map .int)), some (.int (i : Nat)), some P5, some (.int (way : Nat)), some (.int ((1 + n0 : Nat) : Int)), some (.int (m : Nat)), r 5, r 6, r 7, r 8] = KK [some (.scr (ns.map .int)), some (.int (i : Nat)), some P5, some (.int (way : Nat)), some (.int ((1 + n0 : Nat) : Int)), some (.int (m : Nat)), some (.lst Rw), r 6, r 7, r 8] := fun KK => by simp only [ap_sSeq, t5, ap_sSet, ap_eCall]; simp [-Int.natCast_add, e6]
  have k6 : ∀ KK : SF, (sSeq t6 KK) [some (.scr (ns.map .int)), some (.int (i : Nat)), some P5, some (.int (way : Nat)), some (.int ((1 + n0 : Nat) : Int)), some (.int (m : Nat)), some (.lst Rw), r 6, r 7, r 8] = KK [some (.scr (ns.map .int)), some (.int (i : Nat)), some P5, some (.int (way : Nat)), some (.int ((1 + n0 : Nat) : Int)), some (.int (m : Nat)), some (.lst Rw), r 6, r 7, r 8] := fun KK => by
    have a2 : (m : Int) + 2 = ((m + 2 : Nat) : Int) := by omega
    have a1 : (m : Int) + 1 = ((m + 1 : Nat) : Int) := by omega
    have eq : (Rw.length : Int) = (((m + 2) ^ (1 + n0) : Nat) : Int) - (((m + 1) ^ (1 + n0) : Nat) : Int) := by omega
    simp [-Int.natCast_add, -Int.natCast_pow, a2, a1, mu2, mu1, ← eq]
  have k8 : ∀ (v : D) (KK : SF), ∃ x y : D, F_normal_rows [x, y] = .err "NoNumber" ∧ (sSeq t8 KK) [some (.scr (ns.map .int)), some (.int (i : Nat)), some P5, some (.int (way : Nat)), some (.int ((1 + n0 : Nat) : Int)), some (.int (m : Nat)), some (.lst Rw), some (.int 1), r 7, some v] = KK [some (.scr (ns.map .int)), some (.int (i : Nat)), some P9, some (.int (way : Nat)), some (.int ((1 + n0 : Nat) : Int)), some (.int (m : Nat)), some (.lst Rw), some (.int 1), some (.tup [x, y]), some v] := fun v KK => by
    have : way = 0 ∨ way = 1 ∨ way = 2 := by omega
    rcases this with rfl | rfl | rfl
    · exact ⟨x1, .int (m : Nat), rows_err (.inl o1), by simp [-Int.natCast_add, q1, q2, q3, q4]⟩
    · exact ⟨.int ((1 + n0 : Nat) : Int), x2, rows_err (.inr ⟨⟨_, by omega, by omega, rfl⟩, o2⟩), by simp [-Int.natCast_add, q1, q2, q3, q4]⟩
    · exact ⟨x3, x4, rows_err (.inl o3), by simp [-Int.natCast_add, q1, q2, q3, q4]⟩
  have len0 : Rw ≠ [] := by
    have : (m + 1) ^ (1 + n0) < (m + 2) ^ (1 + n0) := Nat.pow_lt_pow_left (by omega) (by omega)
    intro z; rw [z] at len; simp at len; omega
  have k7 : ∃ v, ∀ KK : SF, (sSeq t7 KK) [some (.scr (ns.map .int)), some (.int (i : Nat)), some P5, some (.int (way : Nat)), some (.int ((1 + n0 : Nat) : Int)), some (.int (m : Nat)), some (.lst Rw), r 6, r 7, r 8] = KK [some (.scr (ns.map .int)), some (.int (i : Nat)), some P5, some (.int (way : Nat)), some (.int ((1 + n0 : Nat) : Int)), some (.int (m : Nat)), some (.lst Rw), some (.int 1), r 7, some v] := by
    have rng : gRange1 [.int 2] = some [.int 0, .int 1] := gRange1_2
    have pop : Rw.reverse[Rw.length - 1]? = some (Rw.head len0) := by
      rw [List.getElem?_reverse (by have := List.length_pos_iff.mpr len0; omega)]
      have : Rw.length - 1 - (Rw.length - 1) = 0 := by omega
      rw [this]
      cases Rw with
      | nil => exact absurd rfl len0
      | cons a l => rfl
    refine ⟨.tup [.str "rows", .lst Rw.reverse.dropLast], fun KK => ?_⟩
    have one : ∀ (v6 v8 : Option D), turnB [some (.scr (ns.map .int)), some (.int (i : Nat)), some P5, some (.int (way : Nat)), some (.int ((1 + n0 : Nat) : Int)), some (.int (m : Nat)), some (.lst Rw), v6, r 7, v8] = .next [some (.scr (ns.map .int)), some (.int (i : Nat)), some P5, some (.int (way : Nat)), some (.int ((1 + n0 : Nat) : Int)), some (.int (m : Nat)), some (.lst Rw), v6, r 7, some (.tup [.str "rows", .lst Rw.reverse.dropLast])] := fun v6 v8 => by
      simp [-Int.natCast_add, tok, gRepr, sh, gReverse, gPop, pop]
    rw [ap_sSeq, t7, ap_sFor]
    simp only [ap_iRange1, ap_aCons, ap_eC, ap_aNil, R.bind_ok, rng, opt, R.toS_ok]
    unfold loop
    simp only [ap_bName, List.set_cons_succ, List.set_cons_zero]
    rw [one]
    unfold loop
    simp only [ap_bName, List.set_cons_succ, List.set_cons_zero]
    rw [one]
    rfl
  obtain ⟨v, k7⟩ := k7
  obtain ⟨x, y, ex, k8⟩ := k8 v (sSeq t9 t10)
  have te := told_err ex
  refine ⟨fun k => [some (.int (i : Nat)), some P9, some (.int (way : Nat)), some (.int ((1 + n0 : Nat) : Int)), some (.int (m : Nat)), some (.lst Rw), some (.int 1), some (.tup [x, y]), some v].getD k.1 none, ?_⟩
  rw [roundB, k2, k3, k4, k5, k6, k7, k8]
  have eqr : eqB refD refD = some true := by decide +kernel
  simp [-Int.natCast_add, te, tok, gRepr, sh, eqr]
  exact ⟨rfl, rfl, rfl, rfl, rfl, rfl⟩
theorem F_law_ok (ns : List Int) : F_law [.scr (ns.map .int)] = .ok (.bl true, [none]) := by
  obtain ⟨m, hm, hm8⟩ := law_rngB ns 8 (by decide) (List.replicate 9 none)
  have hm' : (iRange1 (aCons (eN gMax2 (aCons (eC (.int 1)) (aCons (eN gMin2 (aCons (eN gLen (aCons (eVar 0) aNil)) (aCons (eC (.int 8)) aNil))) aNil))) aNil)) (startE 10 [.scr (ns.map .int)]) = .ok (rangeD 0 m, startE 10 [.scr (ns.map .int)]) := hm
  obtain ⟨ρ', e, r, rfl⟩ := loop_inv (b := bName 1) (body := roundB) (fun i ρ => ∃ r : Fin 9 → Option D, ρ = [some (.scr (ns.map .int)), r 0, r 1, r 2, r 3, r 4, r 5, r 6, r 7, r 8]) (rangeD 0 m) 0 (startE 10 [.scr (ns.map .int)]) ⟨fun _ => none, rfl⟩ (by
      rintro i ρ t hd ⟨r, rfl⟩
      obtain ⟨rfl, hi⟩ := rangeD_get hd
      obtain ⟨r', e⟩ := round_ok ns i (by omega) r
      exact ⟨_, _, rfl, .inl e, r', rfl⟩)
  rw [F_law, run_eq, g_law_eq, ap_sSeq, ap_sFor, hm']
  simp [e]
end G

set_option Elab.async false
set_option linter.all false
set_option maxRecDepth 100000
set_option maxHeartbeats 4000000
namespace G
open PySem L2 DL TL
structure Defs (K : PySem.W.Frag) (mg : Str → Option Value) : Prop where
  D_is_whole : Has K mg "is_whole" s_is_whole ["thing"]
  D_is_whole_within : Has K mg "is_whole_within" s_is_whole_within ["thing", "least", "most"]
  D_refuse_no_span : Has K mg "refuse_no_span" s_refuse_no_span ["n", "m"]
  D_normal_rows : Has K mg "normal_rows" s_normal_rows ["n", "m"]
  D_l_cell : Has K mg "_law_cell" s_l_cell ["_law_script", "_law_k"]
  D_l_pot : Has K mg "_law_pot" s_l_pot ["_law_script", "_law_k"]
  D_l_draw : Has K mg "_law_draw" s_l_draw ["_law_pot_here", "_law_many"]
  D_l_rows : Has K mg "_law_rows" s_l_rows ["_law_n", "_law_m"]
  D_l_multiplied : Has K mg "_law_multiplied" s_l_multiplied ["_law_number", "_law_many"]
  D_l_odd : Has K mg "_law_odd" s_l_odd ["_law_pot_here", "_law_many"]
  D_l_told : Has K mg "_law_told" s_l_told ["_law_n", "_law_m"]
  D_law : Has K mg "law" s_law ["_law_script"]
theorem all_law {P : Program} {w : World} {K : PySem.W.Frag} {mg : Str → Option Value} {base : Heap} (T : Top K mg) (D : Defs K mg) : CalD P w K mg base 6 "law" ["_law_script"] [] false F_law := by
  have c_is_whole := ok_is_whole (P := P) (w := w) (base := base) T D.D_is_whole
  have c_is_whole_within := ok_is_whole_within (P := P) (w := w) (base := base) T D.D_is_whole_within c_is_whole
  have c_refuse_no_span := ok_refuse_no_span (P := P) (w := w) (base := base) T D.D_refuse_no_span c_is_whole_within
  have c_normal_rows := ok_normal_rows (P := P) (w := w) (base := base) T D.D_normal_rows c_refuse_no_span
  have c_l_cell := ok_l_cell (P := P) (w := w) (base := base) T D.D_l_cell
  have c_l_pot := ok_l_pot (P := P) (w := w) (base := base) T D.D_l_pot c_l_cell
  have c_l_draw := ok_l_draw (P := P) (w := w) (base := base) T D.D_l_draw
  have c_l_rows := ok_l_rows (P := P) (w := w) (base := base) T D.D_l_rows
  have c_l_multiplied := ok_l_multiplied (P := P) (w := w) (base := base) T D.D_l_multiplied
  have c_l_odd := ok_l_odd (P := P) (w := w) (base := base) T D.D_l_odd c_l_draw
  have c_l_told := ok_l_told (P := P) (w := w) (base := base) T D.D_l_told c_normal_rows
  exact ok_law (P := P) (w := w) (base := base) T D.D_law c_l_pot c_l_draw c_l_rows c_l_told c_l_multiplied c_l_odd
end G
open PySem PySem.W PyProof.Rows
set_option maxRecDepth 100000 in
set_option maxHeartbeats 0 in
theorem PySem.Challenge.cw_fallstones_k81_normal_rows_holds : PySem.Challenge.rw_fallstones_k81_normal_rows.Holds := by
  w_on; o_law; k_head; (case hw => w_witness2)
  k_fill
  refine L2.walk_of (l := PySem.Challenge.rw_fallstones_k81_normal_rows) (n := 63) (k := 6) (x := "_law_script") (CX := fun w => L2.CX1 (PySem.Challenge.rw_fallstones_k81_normal_rows).prog w) (sp := fun w => DL.spScr _) rfl (by decide) rfl ⟨rfl, by decide, by decide, rfl⟩ (fun w h Y => PySem.W.kIn_of Y) ?F
    (fun w H a ns _ hO hS => DL.hsp_scr hO hS) (fun w H s e s' z => DL.cx_none H s e s' z)
  case F =>
    intro w mg fa h KX GX hmg
    have hB : DL.NoB mg := by
      refine' DL.noB_mk KX GX ?h1 ?h2 ?h3 ?h4 ?h5 ?h6 ?h7 ?h8 ?h9 ?h10 ?h11 ?h12 ?h13 ?h14 ?h15 ?h16 ?h17 ?h18 ?h19 ?h20 ?h21 ?h22
      all_goals k_is
    have h_is_whole : L2.Has (L2.KOf KX) mg "is_whole" G.s_is_whole ["thing"] := by
      dsimp only [L2.KOf]
      refine' L2.has_mk KX GX ?a ?l ?c ?k ?b
      (case a => k_is); (case l => k_is); (case c => k_is); (case k => k_is)
      (case b => exact fun _ _ _ _ _ _ us hl => match us, hl with | [_], _ => rfl)
    have h_is_whole_within : L2.Has (L2.KOf KX) mg "is_whole_within" G.s_is_whole_within ["thing", "least", "most"] := by
      dsimp only [L2.KOf]
      refine' L2.has_mk KX GX ?a ?l ?c ?k ?b
      (case a => k_is); (case l => k_is); (case c => k_is); (case k => k_is)
      (case b => exact fun _ _ _ _ _ _ us hl => match us, hl with | [_, _, _], _ => rfl)
    have h_refuse_no_span : L2.Has (L2.KOf KX) mg "refuse_no_span" G.s_refuse_no_span ["n", "m"] := by
      dsimp only [L2.KOf]
      refine' L2.has_mk KX GX ?a ?l ?c ?k ?b
      (case a => k_is); (case l => k_is); (case c => k_is); (case k => k_is)
      (case b => exact fun _ _ _ _ _ _ us hl => match us, hl with | [_, _], _ => rfl)
    have h_normal_rows : L2.Has (L2.KOf KX) mg "normal_rows" G.s_normal_rows ["n", "m"] := by
      dsimp only [L2.KOf]
      refine' L2.has_mk KX GX ?a ?l ?c ?k ?b
      (case a => k_is); (case l => k_is); (case c => k_is); (case k => k_is)
      (case b => exact fun _ _ _ _ _ _ us hl => match us, hl with | [_, _], _ => rfl)
    have h_l_cell : L2.Has (L2.KOf KX) mg "_law_cell" G.s_l_cell ["_law_script", "_law_k"] := by
      dsimp only [L2.KOf]
      refine' L2.has_mk KX GX ?a ?l ?c ?k ?b
      (case a => k_is); (case l => k_is); (case c => k_is); (case k => k_is)
      (case b => exact fun _ _ _ _ _ _ us hl => match us, hl with | [_, _], _ => rfl)
    have h_l_pot : L2.Has (L2.KOf KX) mg "_law_pot" G.s_l_pot ["_law_script", "_law_k"] := by
      dsimp only [L2.KOf]
      refine' L2.has_mk KX GX ?a ?l ?c ?k ?b
      (case a => k_is); (case l => k_is); (case c => k_is); (case k => k_is)
      (case b => exact fun _ _ _ _ _ _ us hl => match us, hl with | [_, _], _ => rfl)
    have h_l_draw : L2.Has (L2.KOf KX) mg "_law_draw" G.s_l_draw ["_law_pot_here", "_law_many"] := by
      dsimp only [L2.KOf]
      refine' L2.has_mk KX GX ?a ?l ?c ?k ?b
      (case a => k_is); (case l => k_is); (case c => k_is); (case k => k_is)
      (case b => exact fun _ _ _ _ _ _ us hl => match us, hl with | [_, _], _ => rfl)
    have h_l_rows : L2.Has (L2.KOf KX) mg "_law_rows" G.s_l_rows ["_law_n", "_law_m"] := by
      dsimp only [L2.KOf]
      refine' L2.has_mk KX GX ?a ?l ?c ?k ?b
      (case a => k_is); (case l => k_is); (case c => k_is); (case k => k_is)
      (case b => exact fun _ _ _ _ _ _ us hl => match us, hl with | [_, _], _ => rfl)
    have h_l_multiplied : L2.Has (L2.KOf KX) mg "_law_multiplied" G.s_l_multiplied ["_law_number", "_law_many"] := by
      dsimp only [L2.KOf]
      refine' L2.has_mk KX GX ?a ?l ?c ?k ?b
      (case a => k_is); (case l => k_is); (case c => k_is); (case k => k_is)
      (case b => exact fun _ _ _ _ _ _ us hl => match us, hl with | [_, _], _ => rfl)
    have h_l_odd : L2.Has (L2.KOf KX) mg "_law_odd" G.s_l_odd ["_law_pot_here", "_law_many"] := by
      dsimp only [L2.KOf]
      refine' L2.has_mk KX GX ?a ?l ?c ?k ?b
      (case a => k_is); (case l => k_is); (case c => k_is); (case k => k_is)
      (case b => exact fun _ _ _ _ _ _ us hl => match us, hl with | [_, _], _ => rfl)
    have h_l_told : L2.Has (L2.KOf KX) mg "_law_told" G.s_l_told ["_law_n", "_law_m"] := by
      dsimp only [L2.KOf]
      refine' L2.has_mk KX GX ?a ?l ?c ?k ?b
      (case a => k_is); (case l => k_is); (case c => k_is); (case k => k_is)
      (case b => exact fun _ _ _ _ _ _ us hl => match us, hl with | [_, _], _ => rfl)
    have h_law : L2.Has (L2.KOf KX) mg "law" G.s_law ["_law_script"] := by
      dsimp only [L2.KOf]
      refine' L2.has_mk KX GX ?a ?l ?c ?k ?b
      (case a => k_is); (case l => k_is); (case c => k_is); (case k => k_is)
      (case b => exact fun _ _ _ _ _ _ us hl => match us, hl with | [_], _ => rfl)
    have k_MOST_WAYS : ∃ t, mg "MOST_WAYS" = some (.int 3 t) := by
      have e : ∃ u z t, mg "MOST_WAYS" = some u ∧ u = Value.int z t ∧ z = 3 := by
        refine' ⟨_, _, _, PySem.W.mg_of KX GX ?a, ?b, ?c⟩
        (case a => k_is); (case b => rfl); (case c => decide +kernel)
      obtain ⟨u, z, t, h, rfl, rfl⟩ := e
      exact ⟨t, h⟩
    have k_MOST_SPAN : ∃ t, mg "MOST_SPAN" = some (.int 3 t) := by
      have e : ∃ u z t, mg "MOST_SPAN" = some u ∧ u = Value.int z t ∧ z = 3 := by
        refine' ⟨_, _, _, PySem.W.mg_of KX GX ?a, ?b, ?c⟩
        (case a => k_is); (case b => rfl); (case c => decide +kernel)
      obtain ⟨u, z, t, h, rfl, rfl⟩ := e
      exact ⟨t, h⟩
    have x_FallError : ∃ C, L2.ExcC (L2.KOf KX) C ∧ mg "FallError" = some (.ref C) := by
      dsimp only [L2.KOf]
      refine' ⟨_, DL.excC_mk KX ?exq, PySem.W.mg_of KX GX ?a⟩
      (case a => k_is); (case exq => k_exc)
    have x_NoNumber : ∃ C, L2.ExcC (L2.KOf KX) C ∧ mg "NoNumber" = some (.ref C) := by
      dsimp only [L2.KOf]
      refine' ⟨_, DL.excC_mk KX ?exq, PySem.W.mg_of KX GX ?a⟩
      (case a => k_is); (case exq => k_exc)
    have x_CantBe : ∃ C, L2.ExcC (L2.KOf KX) C ∧ mg "CantBe" = some (.ref C) := by
      dsimp only [L2.KOf]
      refine' ⟨_, DL.excC_mk KX ?exq, PySem.W.mg_of KX GX ?a⟩
      (case a => k_is); (case exq => k_exc)
    have x_NoTiming : ∃ C, L2.ExcC (L2.KOf KX) C ∧ mg "NoTiming" = some (.ref C) := by
      dsimp only [L2.KOf]
      refine' ⟨_, DL.excC_mk KX ?exq, PySem.W.mg_of KX GX ?a⟩
      (case a => k_is); (case exq => k_exc)
    have nVE : mg "ValueError" = none := by
      refine' PySem.W.mg_none_of KX GX ?a
      (case a => k_is)
    have ex : DL.ExAll (L2.KOf KX) mg G.exAll := by
      dsimp only [L2.KOf]
      refine' DL.exall_mk (DL.XTab.cons "FallError" (PySem.W.mg_of KX GX ?xm0) ?xc0 ?xt0 ?xp0 ?xq0 ?xf0 (DL.XTab.cons "NoNumber" (PySem.W.mg_of KX GX ?xm1) ?xc1 ?xt1 ?xp1 ?xq1 ?xf1 (DL.XTab.cons "CantBe" (PySem.W.mg_of KX GX ?xm2) ?xc2 ?xt2 ?xp2 ?xq2 ?xf2 (DL.XTab.cons "NoTiming" (PySem.W.mg_of KX GX ?xm3) ?xc3 ?xt3 ?xp3 ?xq3 ?xf3 DL.XTab.nil)))) ?xh4 ?xh5 ?xhk ?xhv
      (case xm0 => k_is); (case xc0 => k_is); (case xt0 => k_is); (case xp0 => k_is); (case xq0 => k_is); (case xf0 => k_is)
      (case xm1 => k_is); (case xc1 => k_is); (case xt1 => k_is); (case xp1 => k_is); (case xq1 => k_is); (case xf1 => k_is)
      (case xm2 => k_is); (case xc2 => k_is); (case xt2 => k_is); (case xp2 => k_is); (case xq2 => k_is); (case xf2 => k_is)
      (case xm3 => k_is); (case xc3 => k_is); (case xt3 => k_is); (case xp3 => k_is); (case xq3 => k_is); (case xf3 => k_is)
      (case xh4 => k_is); (case xh5 => k_is)
      (case xhv => decide +kernel)
      (case xhk => decide +kernel)
    exact DL.law_fdD hmg (fun base => G.all_law ⟨hB, k_MOST_WAYS, k_MOST_SPAN, x_FallError, x_NoNumber, x_CantBe, x_NoTiming, nVE, ex⟩ ⟨h_is_whole, h_is_whole_within, h_refuse_no_span, h_normal_rows, h_l_cell, h_l_pot, h_l_draw, h_l_rows, h_l_multiplied, h_l_odd, h_l_told, h_law⟩) G.F_law_ok
