import PyProof.Rows.All
import Wide.All
import OpenK.AllK
import Wide.FinOn
import PyProof.EqAt
import PyProof.EqKinds
import PyProof.TupleCall
import KE.BitLaws
import KE.OsGo
import Open.SpecLaws
import PySem.Challenge.RW_fourhands_s05_best
set_option maxHeartbeats 2000000
-- CHANGE: your row's module here, as the last of these rows
set_option Elab.async false
set_option linter.all false
set_option maxRecDepth 100000
/-! THE HAND LAYER, for ints, bools, texts, own classes, lists, tuples, dicts, comprehensions, walks over dicts, enumerate, zip, reversed, texts, calls, loops. Paste it whole ahead of your own text; what your proof does not reach may be deleted. -/
namespace L2
open PySem PySem.Spec PyProof.Rows

/-- a key: an int or a str -/
abbrev Key := Sum Int Str
def keyIs : Key → Value → Bool
  | .inl k, v => Value.isInt k v
  | .inr x, v => Value.isStrOf x v
def keyH (w : World) : Key → Int
  | .inl k => hashInt k
  | .inr x => hashStr w x
theorem keyIs_shape : ∀ {k : Key} {v : Value}, keyIs k v = true → (∃ i t, k = Sum.inl i ∧ v = Value.int i t) ∨ (∃ x t, k = Sum.inr x ∧ v = Value.str x t)
  | .inl i, v, h => by
    obtain ⟨t, e⟩ := Value.isInt_shape (k := i) (v := v) h
    exact .inl ⟨i, t, rfl, e⟩
  | .inr x, v, h => by
    obtain ⟨t, e⟩ := Value.isStrOf_shape (x := x) (v := v) h
    exact .inr ⟨x, t, rfl, e⟩
theorem keyIs_int (i : Int) (t : Tok) : keyIs (.inl i) (.int i t) = true := by simp [keyIs, Value.isInt]
theorem keyIs_str (x : Str) (t : Tok) : keyIs (.inr x) (.str x t) = true := by simp [keyIs, Value.isStrOf]
theorem key_ll (a b : Int) : decide ((Sum.inl a : Key) = Sum.inl b) = (a == b) := by
  by_cases e : a = b
  · subst e; simp
  · have h : ¬ (Sum.inl a : Key) = Sum.inl b := fun q => e (Sum.inl.inj q)
    rw [decide_eq_false h]
    exact (beq_eq_false_iff_ne.mpr e).symm
theorem key_rr (a b : Str) : decide ((Sum.inr a : Key) = Sum.inr b) = decide (a = b) := by
  by_cases e : a = b
  · subst e; simp
  · have h : ¬ (Sum.inr a : Key) = Sum.inr b := fun q => e (Sum.inr.inj q)
    rw [decide_eq_false h, decide_eq_false e]
theorem key_lr (a : Int) (b : Str) : decide ((Sum.inl a : Key) = Sum.inr b) = false := decide_eq_false (fun q => nomatch q)
theorem key_rl (a : Str) (b : Int) : decide ((Sum.inr a : Key) = Sum.inl b) = false := decide_eq_false (fun q => nomatch q)

def mixKind (prog : Program) (w : World) : PySem.KeyKind prog w Key where
  is := keyIs
  hash := keyH w
  inj := fun v a b ha hb => by
    rcases keyIs_shape ha with ⟨i, t, rfl, rfl⟩ | ⟨x, t, rfl, rfl⟩
    · rcases keyIs_shape hb with ⟨j, u, rfl, e⟩ | ⟨y, u, rfl, e⟩
      · injection e with e1 _; rw [e1]
      · exact nomatch e
    · rcases keyIs_shape hb with ⟨j, u, rfl, e⟩ | ⟨y, u, rfl, e⟩
      · exact nomatch e
      · injection e with e1 _; rw [e1]
  byValue := fun k v h => by
    rcases keyIs_shape h with ⟨i, t, rfl, rfl⟩ | ⟨x, t, rfl, rfl⟩ <;> rfl
  pyHash := fun hv h => by
    rcases keyIs_shape hv with ⟨i, t, rfl, rfl⟩ | ⟨x, t, rfl, rfl⟩
    · exact wpAny_pyHash_int h
    · exact wpAny_pyHash_str h
  eqBool := fun hu hv h => by
    rcases keyIs_shape hu with ⟨i, t, rfl, rfl⟩ | ⟨x, t, rfl, rfl⟩
    · rcases keyIs_shape hv with ⟨j, u, rfl, rfl⟩ | ⟨y, u, rfl, rfl⟩
      · rw [key_ll] at h; exact wpAny_eqBool_int h
      · rw [key_lr] at h; exact SeqAt.EqAt.int_str i t y u _ _ _ _ h
    · rcases keyIs_shape hv with ⟨j, u, rfl, rfl⟩ | ⟨y, u, rfl, rfl⟩
      · rw [key_rl] at h; exact SeqAt.EqAt.str_int x t j u _ _ _ _ h
      · rw [key_rr] at h; exact wpAny_eqBool_str h
  «strs» := fun k x t v h => by
    rcases keyIs_shape h with ⟨i, u, rfl, e⟩ | ⟨y, u, rfl, e⟩
    · exact nomatch e
    · injection e with e1 _
      subst e1
      cases v <;> rfl

theorem mixKind_int (prog : Program) (w : World) (i : Int) (t : Tok) : (mixKind prog w).is (.inl i) (.int i t) = true := keyIs_int i t
theorem mixKind_str (prog : Program) (w : World) (x : Str) (t : Tok) : (mixKind prog w).is (.inr x) (.str x t) = true := keyIs_str x t
end L2

namespace L2
open PySem PySem.Spec PyProof.Rows

/-- a value, without the heap -/
inductive V where
  | non | bl (b : Bool) | int (i : Int) | str (x : Str) | byt (b : Array UInt8) | flt (b : UInt64) | ref (a : Addr) | ty (n : String)
  deriving DecidableEq

def RelV : V → Value → Prop
  | .non, u => u = Value.none
  | .bl b, u => u = Value.bool b
  | .int i, u => ∃ t, u = Value.int i t
  | .str x, u => ∃ t, u = Value.str x t
  | .byt b, u => ∃ t, u = Value.bytes b t
  | .flt b, u => ∃ t, u = Value.float b t
  | .ref a, u => u = Value.ref a
  | .ty n, u => u = Value.type n

abbrev Vals : List V → List Value → Prop := Paired RelV
theorem Vals.length {xs : List V} {us : List Value} (r : Vals xs us) : xs.length = us.length := Paired.length r
theorem Vals.get : ∀ {xs : List V} {us : List Value} {i : Nat} {x : V}, Vals xs us → xs[i]? = some x → ∃ u, us[i]? = some u ∧ RelV x u
  | _, _, _, _, .nil, e => by simp at e
  | _, _, 0, _, .cons r _, e => by simp at e; subst e; exact ⟨_, rfl, r⟩
  | _, _, i + 1, x, .cons _ t, e => by
    obtain ⟨u, h1, h2⟩ := Vals.get (i := i) (x := x) t (by simpa using e)
    exact ⟨u, by simpa using h1, h2⟩
theorem Vals.set {x : V} {u : Value} (r : RelV x u) : ∀ {xs : List V} {us : List Value} (i : Nat), Vals xs us → Vals (xs.set i x) (us.set i u)
  | _, _, _, .nil => .nil
  | _, _, 0, .cons _ t => .cons r t
  | _, _, i + 1, .cons q t => .cons q (Vals.set r i t)
theorem Vals.append : ∀ {xs ys : List V} {us ws : List Value}, Vals xs us → Vals ys ws → Vals (xs ++ ys) (us ++ ws)
  | _, _, _, _, .nil, s => s
  | _, _, _, _, .cons r t, s => .cons r (Vals.append t s)
theorem Vals.take : ∀ {xs : List V} {us : List Value} (n : Nat), Vals xs us → Vals (xs.take n) (us.take n)
  | _, _, 0, _ => .nil
  | _, _, _ + 1, .nil => .nil
  | _, _, n + 1, .cons r t => .cons r (Vals.take n t)
theorem Vals.drop : ∀ {xs : List V} {us : List Value} (n : Nat), Vals xs us → Vals (xs.drop n) (us.drop n)
  | _, _, 0, r => r
  | _, _, _ + 1, .nil => .nil
  | _, _, n + 1, .cons _ t => Vals.drop n t
theorem Vals.none_of : ∀ {xs : List V} {us : List Value} {i : Nat}, Vals xs us → xs[i]? = none → us[i]? = none := fun {xs us i} r e => by
  have h1 := r.length
  have h2 : xs.length ≤ i := List.getElem?_eq_none_iff.mp e
  exact List.getElem?_eq_none_iff.mpr (by omega)

def RelO : Option V → Option Value → Prop
  | some v, some u => RelV v u
  | none, none => True
  | _, _ => False
def KV {κ : Type} : List (κ × V) → List (κ × Value) → Prop := Paired fun (p : κ × V) (q : κ × Value) => p.1 = q.1 ∧ RelV p.2 q.2

/-- a key of a dict (00_mix): an int or a text -/
def kV : Key → V
  | .inl i => .int i
  | .inr x => .str x

/-- what stands at a tracked address -/
inductive HO where
  /-- a list -/
  | lst (xs : List V)
  /-- a tuple (never changes) -/
  | tup (xs : List V)
  /-- a dict whose keys are ints and texts; one whose keys are tuples of ints and texts (the empty one is both) -/
  | dK (kvs : List (Key × V)) | dT (kvs : List (List Key × V))
  /-- a set of ints: its members, its size -/
  | set (S : Int → Bool) (n : Nat)
  /-- an instance of the class at C, its dict at dx, its attributes -/
  | ins (C dx : Addr) (fs : List (Str × V))
  /-- the dict of the instance at x -/
  | own (x : Addr)
  /-- the dict of an exception -/
  | xd (fs : List (Str × V))
  /-- a bound method, f of x -/
  | met (f x : Addr)
  /-- a range object lo, lo + 1, .. below hi -/
  | rng (lo hi : Int)
  /-- a thing that is known to the object (the script; a dict while a loop walks it): read, never written while it is so -/
  | frz (o : Obj) (u : HO)
  /-- a code object's table -/
  | tbl (ps : Array Value)
  /-- any other thing, by what is true of its one object (a def of one's own: SetO a S n := HO.ext fun h => ..) -/
  | ext (φ : Heap → Prop)

abbrev Hp := Addr → Option HO
def upd (H : Hp) (a : Addr) (o : HO) : Hp := fun b => if b = a then some o else H b
theorem upd_same {H : Hp} {a : Addr} {o : HO} : upd H a o a = some o := by unfold upd; rw [if_pos rfl]
theorem upd_ne {H : Hp} {a b : Addr} {o : HO} (h : b ≠ a) : upd H a o b = H b := by unfold upd; rw [if_neg h]
/-- two objects of different content stand apart -/
theorem ne_of {H : Hp} {a b : Addr} {o u : HO} (h : H a = some o) (h' : H b = some u) (d : o ≠ u) : a ≠ b := by
  intro e; subst e; rw [h] at h'; exact d (Option.some.inj h')
theorem ne_of_none {H : Hp} {a b : Addr} {o : HO} (h : H a = some o) (h' : H b = none) : a ≠ b := by
  intro e; subst e; rw [h] at h'; cases h'

section
variable (P : Program) (w : World)
def ObjOk (H : Hp) (h : Heap) (a : Addr) : HO → Prop
  | .lst xs => xs.length ≤ sizeLine ∧ ∃ (its : List Value) (n : Nat), Vals xs its ∧ h.get? a = some { cls := .type "list", data := .seq its.toArray n }
  | .tup xs => xs.length ≤ sizeLine ∧ ∃ its : List Value, Vals xs its ∧ IsTup h a its.toArray
  | .dK kvs => kvs.length ≤ sizeLine ∧ (a == sysModules) = false ∧ ∃ vs, KV kvs vs ∧ h.DictOf (mixKind P w) a vs
  | .dT kvs => kvs.length ≤ sizeLine ∧ (a == sysModules) = false ∧ ∃ xs : List (List Key × Addr × Value),
      Paired (fun (p : List Key × V) (q : List Key × Addr × Value) => p.1 = q.1 ∧ H q.2.1 = some (.tup (p.1.map kV)) ∧ RelV p.2 q.2.2) kvs xs ∧
      ∃ o es ep, h.get? a = some o ∧ o.ExactDict ∧ o.data = .dict es ep ∧ es.toList = xs.map (entryOfKey (tupleKind (mixKind P w))) ∧ (xs.map (·.1)).Nodup
  | .set S n => h.SetOf (intKind P w) a S n
  | .ins C dx fs => H dx = some (.own a) ∧ fs.length ≤ 1000 ∧ dx ≠ a ∧ h.get? a = some (PySem.W.instObj C dx) ∧
      ∃ mA, h.Ns1 dx mA ∧ (∀ f, RelO (fs.lookup f) (mA f)) ∧ PySem.Within mA (fs.map (·.1))
  | .own _ => ∃ o, h.get? a = some o
  | .xd fs => ∃ mA, h.Ns1 a mA ∧ ∀ f, RelO (fs.lookup f) (mA f)
  | .rng lo hi => ∃ t u v, h.get? a = some { cls := .type "range", data := .fields #[.int lo t, .int hi u, .int 1 v] }
  | .frz o u => h.get? a = some o ∧ ObjOk H h a u
  | .tbl ps => h.get? a = some { cls := .none, data := .fields ps }
  | .met f x => h.get? a = some (PySem.W.methodObj (.ref f) (.ref x))
  | .ext φ => φ h ∧ (∃ o, h.get? a = some o) ∧ ∀ h1 h2 : Heap, φ h1 → (∀ o, h1.get? a = some o → h2.get? a = some o) → φ h2
/-- the abstract heap is held -/
def HOk (H : Hp) (h : Heap) : Prop := ∀ a o, H a = some o → ObjOk P w H h a o
end

section
variable {P : Program} {w : World} {H H' : Hp} {h h' : Heap} {a : Addr} {o : HO}
theorem ObjOk.lt (x : ObjOk P w H h a o) : a < h.objs.size := by
  cases o with
  | lst xs => obtain ⟨_, _, _, _, e⟩ := x; exact Heap.lt_size e
  | tup xs => obtain ⟨_, _, _, p⟩ := x; exact p.lt
  | dK kvs => obtain ⟨_, _, _, _, o, _, _, e, _⟩ := x; exact Heap.lt_size e
  | dT kvs => obtain ⟨_, _, _, _, o, _, _, e, _⟩ := x; exact Heap.lt_size e
  | set S n => obtain ⟨o, _, _, _, e, _⟩ := x; exact Heap.lt_size e
  | ins C dx fs => obtain ⟨_, _, _, e, _⟩ := x; exact Heap.lt_size e
  | own y => obtain ⟨_, e⟩ := x; exact Heap.lt_size e
  | xd fs => obtain ⟨_, ⟨_, _, _, e, _⟩, _⟩ := x; exact Heap.lt_size e
  | rng lo hi => obtain ⟨_, _, _, e⟩ := x; exact Heap.lt_size e
  | frz ob u => obtain ⟨e, _⟩ := x; exact Heap.lt_size e
  | tbl ps => exact Heap.lt_size (show h.get? a = some _ from x)
  | met f y => exact Heap.lt_size (show h.get? a = some _ from x)
  | ext φ => obtain ⟨_, ⟨_, e⟩, _⟩ := x; exact Heap.lt_size e
theorem Paired.mapP {α β : Type} {F G : α → β → Prop} : ∀ {l₁ : List α} {l₂ : List β}, Paired F l₁ l₂ → (∀ a b, F a b → G a b) → Paired G l₁ l₂
  | _, _, .nil, _ => .nil
  | _, _, .cons r t, f => .cons (f _ _ r) (Paired.mapP t f)
/-- what an object's description leans on: its own object, its own dict, the tuples -/
theorem ObjOk.stay (x : ObjOk P w H h a o) (k : ∀ b u, (b = a ∨ H b = some (.own a)) → h.get? b = some u → h'.get? b = some u)
    (ho : ∀ b, H b = some (.own a) → H' b = some (.own a)) (ht : ∀ b xs, H b = some (.tup xs) → H' b = some (.tup xs)) : ObjOk P w H' h' a o := by
  induction o with
  | lst xs => obtain ⟨z, its, n, r, e⟩ := x; exact ⟨z, its, n, r, k _ _ (.inl rfl) e⟩
  | tup xs => obtain ⟨z, its, r, ob, e, c⟩ := x; exact ⟨z, its, r, ob, k _ _ (.inl rfl) e, c⟩
  | dK kvs => obtain ⟨z, y, vs, r, ob, es, ep, e, c⟩ := x; exact ⟨z, y, vs, r, ob, es, ep, k _ _ (.inl rfl) e, c⟩
  | dT kvs =>
    obtain ⟨z, y, xs, r, ob, es, ep, e, c⟩ := x
    exact ⟨z, y, xs, Paired.mapP r fun p q z => ⟨z.1, ht _ _ z.2.1, z.2.2⟩, ob, es, ep, k _ _ (.inl rfl) e, c⟩
  | set S n => obtain ⟨ob, es, ep, t, e, c⟩ := x; exact ⟨ob, es, ep, t, k _ _ (.inl rfl) e, c⟩
  | ins C dx fs =>
    obtain ⟨d, z, ne, e, mA, ⟨od, es, ep, e2, c⟩, r⟩ := x
    exact ⟨ho _ d, z, ne, k _ _ (.inl rfl) e, mA, ⟨od, es, ep, k _ _ (.inr d) e2, c⟩, r⟩
  | own y => obtain ⟨ob, e⟩ := x; exact ⟨ob, k _ _ (.inl rfl) e⟩
  | xd fs => obtain ⟨mA, ⟨od, es, ep, e, c⟩, r⟩ := x; exact ⟨mA, ⟨od, es, ep, k _ _ (.inl rfl) e, c⟩, r⟩
  | rng lo hi => obtain ⟨t, u, v, e⟩ := x; exact ⟨t, u, v, k _ _ (.inl rfl) e⟩
  | frz ob u ih => obtain ⟨e, q⟩ := x; exact ⟨k _ _ (.inl rfl) e, ih q⟩
  | tbl ps =>
    have e : h.get? a = some { cls := .none, data := .fields ps } := x
    show h'.get? a = some { cls := .none, data := .fields ps }
    exact k a _ (.inl rfl) e
  | met f y =>
    have e : h.get? a = some (PySem.W.methodObj (.ref f) (.ref y)) := x
    show h'.get? a = some (PySem.W.methodObj (.ref f) (.ref y))
    exact k a _ (.inl rfl) e
  | ext φ => obtain ⟨p, ⟨o, e⟩, st⟩ := x; exact ⟨st _ _ p fun o q => k _ _ (.inl rfl) q, ⟨o, k _ _ (.inl rfl) e⟩, st⟩
theorem HOk.lt (x : HOk P w H h) (e : H a = some o) : a < h.objs.size := (x a o e).lt
theorem HOk.fresh (x : HOk P w H h) (e : h.objs.size ≤ a) : H a = none := by
  cases q : H a with
  | none => rfl
  | some u => exact absurd (Nat.lt_of_lt_of_le (x.lt q) e) (Nat.lt_irrefl _)
/-- every object of the heap is kept -/
theorem HOk.kept (x : HOk P w H h) (k : ∀ b u, h.get? b = some u → h'.get? b = some u) : HOk P w H h' := fun a o e =>
  (x a o e).stay (fun b u _ q => k b u q) (fun _ q => q) fun _ _ q => q
/-- a new object is laid and tracked -/
theorem HOk.laid (x : HOk P w H h) (k : ∀ b u, h.get? b = some u → h'.get? b = some u) (hp : h.objs.size ≤ a) (new : ObjOk P w (upd H a o) h' a o) : HOk P w (upd H a o) h' := fun b u e => by
  have hn := x.fresh hp
  by_cases hb : b = a
  · subst hb; rw [upd_same] at e; cases e; exact new
  · rw [upd_ne hb] at e
    exact (x b u e).stay (fun c v _ q => k c v q) (fun c q => by rw [upd_ne (ne_of_none q hn)]; exact q) fun c xs q => by rw [upd_ne (ne_of_none q hn)]; exact q
end

/-- what may be read as u: it is u, or a known u -/
def Rd (H : Hp) (a : Addr) (u : HO) : Prop := H a = some u ∨ ∃ o, H a = some (.frz o u)
theorem Rd.of {H : Hp} {a : Addr} {u : HO} (h : H a = some u) : Rd H a u := .inl h
theorem Rd.ok {P : Program} {w : World} {H : Hp} {h : Heap} {a : Addr} {u : HO} (r : Rd H a u) (x : HOk P w H h) : ObjOk P w H h a u := by
  rcases r with r | ⟨o, r⟩
  · exact x a u r
  · obtain ⟨_, q⟩ := x a _ r
    exact q
/-- what may be written -/
def Mut : Option HO → Prop
  | some (.lst _) => True
  | some (.dK _) => True
  | some (.dT _) => True
  | some (.set _ _) => True
  | some (.ins _ _ _) => True
  | some (.ext _) => True
  | _ => False
section
variable {P : Program} {w : World} {H : Hp} {h h' : Heap} {x e : Addr} {o' : HO}
/-- the object at e is changed: x itself, or the dict of the instance x -/
theorem HOk.write (ok : HOk P w H h) (mu : Mut (H x)) (he : e = x ∨ H e = some (.own x)) (k : ∀ b u, b ≠ e → h.get? b = some u → h'.get? b = some u) (heo : ∃ u, h'.get? e = some u)
    (new : ObjOk P w (upd H x o') h' x o') : HOk P w (upd H x o') h' := fun b u q => by
  have nown : ∀ c y, H c = some (.own y) → c ≠ x := fun c y r z => by subst z; rw [r] at mu; exact mu
  have ntup : ∀ c xs, H c = some (.tup xs) → c ≠ x := fun c xs r z => by subst z; rw [r] at mu; exact mu
  by_cases hb : b = x
  · subst hb; rw [upd_same] at q; cases q; exact new
  · rw [upd_ne hb] at q
    by_cases hbe : b = e
    · have q' : H b = some (.own x) := by
        rcases he with z | z
        · exact absurd (hbe.trans z) hb
        · rw [hbe]; exact z
      rw [q] at q'; cases q'
      obtain ⟨v, hv⟩ := heo
      exact ⟨v, by rw [hbe]; exact hv⟩
    · refine (ok b u q).stay (fun c v hc r => k c v ?_ r) (fun c r => by rw [upd_ne (nown c b r)]; exact r) fun c xs r => by rw [upd_ne (ntup c xs r)]; exact r
      rcases hc with rfl | hc
      · exact hbe
      · rintro rfl
        rcases he with z | z
        · exact nown c b hc z
        · rw [hc] at z; cases z; exact hb rfl
end

/-! ### kept unless tracked; of the frames at fs (the callers') the slots may change (an exception that passes writes there); of the records at ex (iterators) nothing is said -/
structure Un (fs ex : List Addr) (H H' : Hp) (h h' : Heap) : Prop where
  keep : ∀ b o, h.get? b = some o → H b = none → b ∉ fs → b ∉ ex → h'.get? b = some o
  slot : ∀ b o, h.get? b = some o → H b = none → b ∈ fs → b ∉ ex → ∃ sl, h'.get? b = some { o with slots := sl }
  free : ∀ b o, h.get? b = some o → H b = none → b ∉ ex → H' b = none
  there : ∀ b o, h.get? b = some o → b ∉ ex → ∃ o', h'.get? b = some o'
  tups : ∀ b xs, H b = some (.tup xs) → H' b = some (.tup xs)
  frzs : ∀ b o u, H b = some (.frz o u) → H' b = some (.frz o u)
  tbls : ∀ b ps, H b = some (.tbl ps) → ∃ more, H' b = some (.tbl (ps ++ more))
section
variable {fs fs' ex ex' : List Addr} {H H1 H2 : Hp} {h h1 h2 h' : Heap} {a x e : Addr} {o : HO}
theorem Un.any (u : Un fs ex H H1 h h1) {b : Addr} {ob : Obj} (q : h.get? b = some ob) (n : H b = none) (hx : b ∉ ex) : ∃ sl, h1.get? b = some { ob with slots := sl } := by
  by_cases hb : b ∈ fs
  · exact u.slot b ob q n hb hx
  · exact ⟨ob.slots, u.keep b ob q n hb hx⟩
theorem Un.trans (a : Un fs ex H H1 h h1) (b : Un fs ex H1 H2 h1 h2) : Un fs ex H H2 h h2 where
  keep := fun c ob q n hc hx => b.keep c ob (a.keep c ob q n hc hx) (a.free c ob q n hx) hc hx
  slot := fun c ob q n hc hx => by
    obtain ⟨sl, e1⟩ := a.slot c ob q n hc hx
    obtain ⟨sl', e2⟩ := b.slot c _ e1 (a.free c ob q n hx) hc hx
    exact ⟨sl', e2⟩
  free := fun c ob q n hx => by
    obtain ⟨o', e1⟩ := a.there c ob q hx
    exact b.free c o' e1 (a.free c ob q n hx) hx
  there := fun c ob q hx => by
    obtain ⟨o', e1⟩ := a.there c ob q hx
    exact b.there c o' e1 hx
  tups := fun c xs q => b.tups c xs (a.tups c xs q)
  frzs := fun c ob xs q => b.frzs c ob xs (a.frzs c ob xs q)
  tbls := fun c ps q => by
    obtain ⟨m1, e1⟩ := a.tbls c ps q
    obtain ⟨m2, e2⟩ := b.tbls c _ e1
    exact ⟨m1 ++ m2, by rw [e2, Array.append_assoc]⟩
theorem Un.kept (k : ∀ b u, h.get? b = some u → h'.get? b = some u) : Un fs ex H H h h' :=
  ⟨fun b ob q _ _ _ => k b ob q, fun b ob q _ _ _ => ⟨ob.slots, k b ob q⟩, fun _ _ _ n _ => n, fun b ob q _ => ⟨ob, k b ob q⟩, fun _ _ q => q, fun _ _ _ q => q, fun _ ps q => ⟨#[], by rw [q]; simp⟩⟩
theorem Un.refl : Un fs ex H H h h := Un.kept fun _ _ q => q
theorem Un.laid (k : ∀ b u, h.get? b = some u → h'.get? b = some u) (hp : h.objs.size ≤ a) (hn : H a = none) : Un fs ex H (upd H a o) h h' where
  keep := fun b u q _ _ _ => k b u q
  slot := fun b u q _ _ _ => ⟨u.slots, k b u q⟩
  free := fun b u q n _ => by rw [upd_ne (Nat.ne_of_lt (Nat.lt_of_lt_of_le (Heap.lt_size q) hp))]; exact n
  there := fun b u q _ => ⟨u, k b u q⟩
  tups := fun b xs q => by rw [upd_ne (ne_of_none q hn)]; exact q
  frzs := fun b u xs q => by rw [upd_ne (ne_of_none q hn)]; exact q
  tbls := fun b ps q => ⟨#[], by rw [upd_ne (ne_of_none q hn), q]; simp⟩
theorem Un.write (mu : Mut (H x)) (he : e = x ∨ H e = some (.own x)) (k : ∀ b u, b ≠ e → h.get? b = some u → h'.get? b = some u) (heo : ∃ u, h'.get? e = some u) : Un fs ex H (upd H x o) h h' := by
  have hx : ∀ b, H b = none → b ≠ x := fun b n z => by subst z; rw [n] at mu; exact mu
  have hb : ∀ b, H b = none → b ≠ e := fun b n z => by
    subst z
    rcases he with r | r
    · exact hx b n r
    · rw [n] at r; cases r
  have hm : ∀ b u, H b = some u → ¬ Mut (some u) → b ≠ x := fun b u q nm z => by subst z; rw [q] at mu; exact nm mu
  refine ⟨fun b u q n _ _ => k b u (hb b n) q, fun b u q n _ _ => ⟨u.slots, k b u (hb b n) q⟩, fun b u q n _ => by rw [upd_ne (hx b n)]; exact n, fun b u q _ => ?_,
    fun b xs q => by rw [upd_ne (hm b _ q fun z => z)]; exact q, fun b u xs q => by rw [upd_ne (hm b _ q fun z => z)]; exact q, fun b ps q => ⟨#[], by rw [upd_ne (hm b _ q fun z => z), q]; simp⟩⟩
  by_cases hbe : b = e
  · subst hbe; exact heo
  · exact ⟨u, k b u hbe q⟩
theorem Un.mono (u : Un fs ex H H1 h h1) (hs : ∀ b ∈ fs, b ∈ fs') (hx : ∀ b ∈ ex, b ∈ ex') : Un fs' ex' H H1 h h1 :=
  ⟨fun b ob q n hb he => u.keep b ob q n (fun z => hb (hs b z)) fun z => he (hx b z), fun _ _ q n _ he => u.any q n fun z => he (hx _ z), fun b ob q n he => u.free b ob q n fun z => he (hx b z), fun b ob q he => u.there b ob q fun z => he (hx b z), u.tups, u.frzs, u.tbls⟩
end

/-! ### the heap without what is tracked -/
def trk (h : Heap) (H : Hp) : List Addr := (List.range h.objs.size).filter fun a => (H a).isSome
def hidT (h : Heap) (H : Hp) : Heap := PySem.W.hideAll h (trk h H)
theorem hidT_size (h : Heap) (H : Hp) : (hidT h H).objs.size = h.objs.size := PySem.W.hideAll_size _ _
theorem hidT_get {h : Heap} {H : Hp} {b : Addr} {o : Obj} (e : h.get? b = some o) (n : H b = none) : (hidT h H).get? b = some o :=
  PySem.W.hideAll_get _ e fun hm => by
    have q : (H b).isSome = true := (List.mem_filter.mp hm).2
    rw [n] at q; simp at q
theorem of_hidT {h : Heap} {H : Hp} {b : Addr} {o : Obj} (e : (hidT h H).get? b = some o) : h.get? b = some o ∧ H b = none := by
  have e' : h.get? b = some o := PySem.W.of_hideAll (trk h H) e
  refine ⟨e', ?_⟩
  cases q : H b with
  | none => rfl
  | some x =>
    have hm : b ∈ trk h H := List.mem_filter.mpr ⟨List.mem_range.mpr (Heap.lt_size e'), by simp [q]⟩
    have z : (hidT h H).get? b = none := PySem.W.hideAll_none (trk h H) hm
    rw [z] at e; cases e

/-! ### OpenK's ledger, filled with every new object but one -/
def allNews (g h : Heap) (L : Addr) : List (Addr × Obj) := (List.range h.objs.size).filterMap fun a => if a = L ∨ (g.get? a).isSome = true then none else (h.get? a).map fun o => (a, o)
def rest (g h : Heap) (L d : Addr) : List (Addr × Obj) := (allNews g h L).filter fun p => decide (p.1 ≠ d)
end L2

namespace L2
open PySem PySem.Spec PyProof.Rows

/-- the module's facts, over the base: the heap at the law's entry without what is tracked there -/
structure Mod (K : PySem.W.Frag) (mg : Str → Option Value) (base : Heap) : Prop where
  kin : K.In base
  glob : base.Ns mainGlobals mg
  blt : ∃ mb, base.Ns builtinsNs mb ∧ ∀ x : Str, x ≠ "__name__" → mb x = bootBuiltins x
  nolimit : base.NoLimit

/-- the context: a def's body (or a comprehension's block) running. base: fixed through the whole law; s₀, H₀: the entry; outer: the frames whose slots others may change (a def's callers); stack: all frames that run;
   ex: iterators that were made ahead of the entry and are walked here (a comprehension's); fn: the names whose cells were made at the entry (a def: all; a comprehension's block: its own); calm: not within an except suite; pn: pins that every state bears; xe: what is wanted of an exception that leaves the code -/
structure Cx where
  prog : Program
  w : World
  K : PySem.W.Frag
  mg : Str → Option Value
  base : Heap
  A : Around
  N : List Str
  s₀ : Shared
  H₀ : Hp
  env : Env
  outer : List Env
  stack : List Env
  ex : List Addr
  fn : Str → Bool
  calm : Bool
  pn : List (Addr × Obj)
  xe : Value → Shared → Prop
/-- the callers' frames -/
def frs (l : List Env) : List Addr := l.filterMap (·.frame)
abbrev Cx.fs (X : Cx) : List Addr := frs X.outer

def Vis (sc : Scope) (x : Str) : Prop := sc.names.lookup x = some .local ∨ sc.names.lookup x = some .cell ∨ sc.names.lookup x = some .free
def Loc (sc : Scope) (x : Str) : Prop := sc.names.lookup x = some .local ∨ sc.names.lookup x = some .cell
def Look (env : Env) (h : Heap) (m : Str → Option Value) (x : Str) (u : Value) : Prop :=
  (env.kindOf x = some .local ∧ m x = some u) ∨ ((env.kindOf x = some .cell ∨ env.kindOf x = some .free) ∧ ∃ c, env.cells.lookup x = some c ∧ h.IsCell c (some u))

structure Cx.Ok (X : Cx) : Prop where
  mod : Mod X.K X.mg X.base
  kind : X.env.scope.kind = .function
  glob : X.env.globals = mainGlobals
  blt : X.env.builtins = builtinsNs
  above : X.s₀.heap.objs.size ≤ X.env.locals
  inj : ∀ x y c, X.env.cells.lookup x = some c → X.env.cells.lookup y = some c → x = y
  has : ∀ x, (X.env.kindOf x = some .cell ∨ X.env.kindOf x = some .free) → ∃ c, X.env.cells.lookup x = some c
  cab : ∀ x c, X.fn x = true → X.env.cells.lookup x = some c → X.s₀.heap.objs.size ≤ c
  hd : X.calm = true → X.A.handled = none
  frames : X.A.frames = some X.stack
  stk : X.stack = X.outer ∨ (X.stack = X.env :: X.outer ∧ X.env.frame = some X.env.locals)
  exf : ∀ b ∈ X.ex, b ≠ X.env.locals ∧ ∀ x c, X.env.cells.lookup x = some c → c ≠ b
  bs : ∀ b o, X.base.get? b = some o → X.s₀.heap.get? b = some o ∧ X.H₀ b = none
  bsz : X.base.objs.size ≤ X.s₀.heap.objs.size
  noex : ∀ b o, X.base.get? b = some o → b ∉ X.ex
  exfs : ∀ b ∈ X.ex, b ∉ X.fs
  funs : X.s₀.heap.FunFrames X.base X.outer
  frf : ∀ b ∈ X.fs, X.H₀ b = none

structure Inv (X : Cx) (pins : List (Addr × Obj)) (σ : List (Option V)) (H : Hp) (s : Shared) : Prop where
  ok : X.Ok
  os : s.os = X.s₀.os
  bare : AllBare s.gens
  base : Un X.fs X.ex X.H₀ H X.s₀.heap s.heap
  loc : ∃ m, s.heap.Ns X.env.locals m ∧ ∀ (i : Nat) (x : Str) (v : V), X.N[i]? = some x → σ[i]? = some (some v) → Vis X.env.scope x → ∃ u, RelV v u ∧ Look X.env s.heap m x u
  cell : ∀ x c, X.env.cells.lookup x = some c → ∃ v, s.heap.IsCell c v
  free : H X.env.locals = none
  freeC : ∀ x c, X.env.cells.lookup x = some c → H c = none
  pin : ∀ p ∈ X.pn ++ pins, s.heap.get? p.1 = some p.2 ∧ H p.1 = none ∧ p.1 ≠ X.env.locals ∧ p.1 ∉ X.fs ∧ ∀ v, p.2.data ≠ .cell v
  hok : HOk X.prog X.w H s.heap
  len : σ.length = X.N.length

section
variable {X : Cx} {pins : List (Addr × Obj)} {σ : List (Option V)} {H H' : Hp} {s : Shared} {h' : Heap}

theorem Cx.Ok.nofr (ok : X.Ok) {b : Addr} {o : Obj} (e : X.base.get? b = some o) : b ∉ X.fs := fun hb => by
  have := (ok.funs.mem hb).1
  rw [e] at this; cases this
theorem Inv.bs (I : Inv X pins σ H s) : ∀ b o, X.base.get? b = some o → s.heap.get? b = some o ∧ H b = none := fun b o e =>
  ⟨I.base.keep b o (I.ok.bs b o e).1 (I.ok.bs b o e).2 (I.ok.nofr e) (I.ok.noex b o e), I.base.free b o (I.ok.bs b o e).1 (I.ok.bs b o e).2 (I.ok.noex b o e)⟩
theorem Inv.bk (I : Inv X pins σ H s) : ∀ b o, X.base.get? b = some o → s.heap.get? b = some o := fun b o e => (I.bs b o e).1
theorem Inv.mod (I : Inv X pins σ H s) : Mod X.K X.mg X.base := I.ok.mod
theorem Inv.kIn (I : Inv X pins σ H s) : X.K.In s.heap := I.ok.mod.kin.keeps I.bk
theorem Inv.nolimit (I : Inv X pins σ H s) : s.heap.NoLimit := I.ok.mod.nolimit.keeps I.bk
/-- the frame over the base: for OpenK's rules (K.In X.base is I.mod.kin) -/
theorem Inv.fr (I : Inv X pins σ H s) : ∃ m, Fr X.base X.env.locals s.heap m :=
  let ⟨m, hn, _⟩ := I.loc
  ⟨m, hn, I.bk, Nat.le_trans I.ok.bsz I.ok.above⟩
theorem Inv.lt (I : Inv X pins σ H s) : X.env.locals < s.heap.objs.size := let ⟨_, hn, _⟩ := I.loc; hn.lt
theorem Inv.sz (I : Inv X pins σ H s) : X.s₀.heap.objs.size ≤ s.heap.objs.size := Nat.le_trans I.ok.above (Nat.le_of_lt I.lt)
theorem Inv.nofs (I : Inv X pins σ H s) {a : Addr} (h : s.heap.objs.size ≤ a) : a ∉ X.fs := fun hb => by
  obtain ⟨_, o, ho, _⟩ := I.ok.funs.mem hb
  exact absurd (Nat.lt_of_lt_of_le (Heap.lt_size ho) (Nat.le_trans I.sz h)) (Nat.lt_irrefl _)
theorem Inv.cne (I : Inv X pins σ H s) : ∀ x c, X.env.cells.lookup x = some c → c ≠ X.env.locals := fun x c e z => by
  obtain ⟨v, o, ho, hd⟩ := I.cell x c e
  obtain ⟨m, ⟨o', es, ep, ho', hd', _⟩, _⟩ := I.loc
  rw [z, ho'] at ho; cases ho; rw [hd'] at hd; cases hd
theorem Inv.funs (I : Inv X pins σ H s) : s.heap.FunFrames X.base X.outer := by
  have all : ∀ (l : List Env), (∀ b ∈ frs l, b ∈ X.fs) → X.s₀.heap.FunFrames X.base l → s.heap.FunFrames X.base l := by
    intro l
    induction l with
    | nil => intro _ _; trivial
    | cons env r ih =>
      intro hs hl
      obtain ⟨hk, ⟨L, o, hf, hn, ho, hd⟩, hr⟩ := hl
      have hL : L ∈ X.fs := hs L (by unfold frs; rw [List.filterMap_cons, hf]; exact List.mem_cons_self)
      obtain ⟨sl, e⟩ := I.base.slot L o ho (I.ok.frf L hL) hL fun z => I.ok.exfs L z hL
      exact ⟨hk, ⟨L, _, hf, hn, e, hd⟩, ih (fun b hb => hs b (by unfold frs; rw [List.filterMap_cons, hf]; exact List.mem_cons_of_mem _ hb)) hr⟩
  exact all X.outer (fun _ hb => hb) I.ok.funs

/-- the frames that run, for a call -/
theorem Inv.stack (I : Inv X pins σ H s) : s.heap.FunFrames X.base X.stack := by
  rcases I.ok.stk with e | ⟨e, hf⟩
  · rw [e]; exact I.funs
  · rw [e]
    obtain ⟨m, hn, _⟩ := I.loc
    refine .cons (by rw [I.ok.kind]; decide) hf hn ?_ I.funs
    exact Heap.get?_none_of_le (Nat.le_trans I.ok.bsz I.ok.above)
theorem Inv.stkSub (I : Inv X pins σ H s) : ∀ b ∈ frs X.stack, b ∈ X.env.locals :: X.fs := fun b hb => by
  rcases I.ok.stk with e | ⟨e, hf⟩
  · rw [e] at hb; exact List.mem_cons_of_mem _ hb
  · rw [e] at hb
    unfold frs at hb
    rw [List.filterMap_cons, hf] at hb
    exact hb
theorem Inv.stkFree (I : Inv X pins σ H s) : ∀ b ∈ frs X.stack, H b = none := fun b hb => by
  rcases List.mem_cons.mp (I.stkSub b hb) with e | hb
  · rw [e]; exact I.free
  · obtain ⟨_, o, ho, _⟩ := I.ok.funs.mem hb
    exact I.base.free b o ho (I.ok.frf b hb) fun z => I.ok.exfs b z hb

/-- THE STEP: the untracked objects but the frame and the records at ch are kept (the callers' frames up to slots), the frame's map is kept, the new abstract heap is held -/
theorem Inv.step {g' : Array GenState} {t' : Nat} {d' : Drawn} {ch : List Addr} (I : Inv X pins σ H s)
    (hch : ∀ b ∈ ch, (b ∈ X.ex ∨ X.s₀.heap.objs.size ≤ b) ∧ b ≠ X.env.locals ∧ (∀ x c, X.env.cells.lookup x = some c → c ≠ b) ∧ ∀ p ∈ X.pn ++ pins, p.1 ≠ b)
    (keep : ∀ b o, b ≠ X.env.locals → b ∉ X.fs → b ∉ ch → s.heap.get? b = some o → H b = none → h'.get? b = some o)
    (slot : ∀ b o, b ≠ X.env.locals → b ∈ X.fs → b ∉ ch → s.heap.get? b = some o → H b = none → ∃ sl, h'.get? b = some { o with slots := sl }) (free : ∀ b o, b ∉ ch → s.heap.get? b = some o → H b = none → H' b = none)
    (there : ∀ b o, b ∉ ch → s.heap.get? b = some o → ∃ o', h'.get? b = some o')
    (tups : ∀ b xs, H b = some (.tup xs) → H' b = some (.tup xs)) (frzs : ∀ b o u, H b = some (.frz o u) → H' b = some (.frz o u)) (tbls : ∀ b ps, H b = some (.tbl ps) → ∃ more, H' b = some (.tbl (ps ++ more)))
    (ns : ∀ m, s.heap.Ns X.env.locals m → h'.Ns X.env.locals m) (hok : HOk X.prog X.w H' h') (hg : AllBare g') :
    Inv X pins σ H' { s with heap := h', gens := g', drawn := d', toks := t' } := by
  have neL : ∀ b o, X.s₀.heap.get? b = some o → b ≠ X.env.locals := fun b o e => Nat.ne_of_lt (Nat.lt_of_lt_of_le (Heap.lt_size e) I.ok.above)
  have neC : ∀ b o, X.s₀.heap.get? b = some o → b ∉ X.ex → b ∉ ch := fun b o e hx hb => by
    rcases (hch b hb).1 with z | z
    · exact hx z
    · exact absurd (Nat.lt_of_lt_of_le (Heap.lt_size e) z) (Nat.lt_irrefl _)
  have cellK : ∀ x c, X.env.cells.lookup x = some c → ∀ v, s.heap.IsCell c v → h'.IsCell c v := fun x c e v ⟨o, ho, hd⟩ => by
    have nch : c ∉ ch := fun z => (hch c z).2.2.1 x c e rfl
    by_cases hc : c ∈ X.fs
    · obtain ⟨sl, q⟩ := slot c o (I.cne x c e) hc nch ho (I.freeC x c e)
      exact ⟨_, q, hd⟩
    · exact ⟨o, keep c o (I.cne x c e) hc nch ho (I.freeC x c e), hd⟩
  refine ⟨I.ok, I.os, hg, ⟨fun b o e n hb hx => ?_, fun b o e n hb hx => ?_, fun b o e n hx => ?_, fun b o e hx => ?_, fun b xs e => tups b xs (I.base.tups b xs e), fun b o xs e => frzs b o xs (I.base.frzs b o xs e), fun b ps e => ?_⟩, ?_, fun x c e => ?_, ?_, fun x c e => ?_, fun p hp => ?_, hok, I.len⟩
  · exact keep b o (neL b o e) hb (neC b o e hx) (I.base.keep b o e n hb hx) (I.base.free b o e n hx)
  · obtain ⟨sl, e1⟩ := I.base.slot b o e n hb hx
    obtain ⟨sl', e2⟩ := slot b _ (neL b o e) hb (neC b o e hx) e1 (I.base.free b o e n hx)
    exact ⟨sl', e2⟩
  · obtain ⟨o', e1⟩ := I.base.there b o e hx
    exact free b o' (neC b o e hx) e1 (I.base.free b o e n hx)
  · obtain ⟨o', e1⟩ := I.base.there b o e hx
    exact there b o' (neC b o e hx) e1
  · obtain ⟨m1, e1⟩ := I.base.tbls b ps e
    obtain ⟨m2, e2⟩ := tbls b _ e1
    exact ⟨m1 ++ m2, by rw [e2, Array.append_assoc]⟩
  · obtain ⟨m, hn, hl⟩ := I.loc
    refine ⟨m, ns m hn, fun i x v e1 e2 e3 => ?_⟩
    obtain ⟨u, r, l⟩ := hl i x v e1 e2 e3
    refine ⟨u, r, ?_⟩
    rcases l with l | ⟨k, c, e, z⟩
    · exact .inl l
    · exact .inr ⟨k, c, e, cellK x c e _ z⟩
  · obtain ⟨v, z⟩ := I.cell x c e
    exact ⟨v, cellK x c e v z⟩
  · obtain ⟨m, ⟨o, _, _, ho, _⟩, _⟩ := I.loc
    exact free _ o (fun z => (hch _ z).2.1 rfl) ho I.free
  · obtain ⟨v, o, ho, hd⟩ := I.cell x c e
    exact free c o (fun z => (hch c z).2.2.1 x c e rfl) ho (I.freeC x c e)
  · obtain ⟨e, n, ne, nf, d⟩ := I.pin p hp
    have nch : p.1 ∉ ch := fun z => (hch p.1 z).2.2.2 p hp rfl
    exact ⟨keep p.1 p.2 ne nf nch e n, free p.1 p.2 nch e n, ne, nf, d⟩
/-- .. where the frame's own object is kept too -/
theorem Inv.un {t' : Nat} (I : Inv X pins σ H s) (u : Un X.fs [] H H' s.heap h') (hok : HOk X.prog X.w H' h') : Inv X pins σ H' { s with heap := h', toks := t' } := by
  obtain ⟨m, ⟨o, es, ep, ho, r⟩, _⟩ := id I.loc
  obtain ⟨sl, hL⟩ := u.any ho I.free (by simp)
  exact I.step (g' := s.gens) (d' := s.drawn) (ch := []) (fun _ z => nomatch z) (fun b o _ hb _ e n => u.keep b o e n hb (by simp)) (fun b o _ hb _ e n => u.slot b o e n hb (by simp)) (fun b o _ e n => u.free b o e n (by simp)) (fun b o _ e => u.there b o e (by simp)) u.tups u.frzs u.tbls (fun m' hm => by
    obtain ⟨o', es', ep', ho', r'⟩ := hm
    rw [ho] at ho'; cases ho'
    exact ⟨_, es', ep', hL, r'⟩) hok I.bare
/-- behind a call (or a comprehension's block): the slots of this frame may have changed too, the records at ch may have turned -/
theorem Inv.call {g' : Array GenState} {t' : Nat} {d' : Drawn} {ch : List Addr} (I : Inv X pins σ H s) (u : Un (frs X.stack) ch H H' s.heap h') (hok : HOk X.prog X.w H' h') (hg : AllBare g')
    (hch : ∀ b ∈ ch, (b ∈ X.ex ∨ X.s₀.heap.objs.size ≤ b) ∧ b ≠ X.env.locals ∧ (∀ x c, X.env.cells.lookup x = some c → c ≠ b) ∧ ∀ p ∈ X.pn ++ pins, p.1 ≠ b) :
    Inv X pins σ H' { s with heap := h', gens := g', drawn := d', toks := t' } := by
  obtain ⟨m, ⟨o, es, ep, ho, r⟩, _⟩ := id I.loc
  obtain ⟨sl, hL⟩ := u.any ho I.free fun z => (hch _ z).2.1 rfl
  exact I.step (ch := ch) hch (fun b o hL hb hc e n => u.keep b o e n (fun z => (List.mem_cons.mp (I.stkSub b z)).elim hL hb) hc) (fun b o _ _ hc e n => u.any e n hc) (fun b o hc e n => u.free b o e n hc) (fun b o hc e => u.there b o e hc) u.tups u.frzs u.tbls (fun m' hm => by
    obtain ⟨o', es', ep', ho', r'⟩ := hm
    rw [ho] at ho'; cases ho'
    exact ⟨_, es', ep', hL, r'⟩) hok hg
/-- an untracked record of ours (an iterator) has turned -/
theorem Inv.turned {t' : Nat} {it : Addr} (I : Inv X pins σ H s) (k : ∀ b o, b ≠ it → s.heap.get? b = some o → h'.get? b = some o) (hn : H it = none) (hL : it ≠ X.env.locals)
    (h1 : it ∈ X.ex ∨ X.s₀.heap.objs.size ≤ it) (h2 : ∀ x c, X.env.cells.lookup x = some c → c ≠ it) (h3 : ∀ p ∈ X.pn ++ pins, p.1 ≠ it) : Inv X pins σ H { s with heap := h', toks := t' } := by
  have nit : ∀ b u, H b = some u → b ≠ it := fun b u e z => by rw [z, hn] at e; cases e
  refine I.step (g' := s.gens) (d' := s.drawn) (ch := [it]) (fun b hb => ?_) (fun b o _ _ hc e _ => k b o (fun z => hc (by simp [z])) e) (fun b o _ _ hc e _ => ⟨o.slots, k b o (fun z => hc (by simp [z])) e⟩) (fun _ _ _ _ n => n)
    (fun b o hc e => ⟨o, k b o (fun z => hc (by simp [z])) e⟩) (fun _ _ e => e) (fun _ _ _ e => e) (fun b ps e => ⟨#[], by rw [e]; simp⟩) (fun m hm => ?_) (fun b u e => ?_) I.bare
  · have e : b = it := by simpa using hb
    subst e
    exact ⟨h1, hL, h2, h3⟩
  · obtain ⟨o, es, ep, ho, r⟩ := hm
    exact ⟨o, es, ep, k _ o (Ne.symm hL) ho, r⟩
  · refine (I.hok b u e).stay (fun c v hc q => k c v ?_ q) (fun _ q => q) fun _ _ q => q
    rcases hc with z | z
    · rw [z]; exact nit b u e
    · exact nit c _ z
theorem Inv.tok (I : Inv X pins σ H s) (t : Nat) : Inv X pins σ H { s with toks := t } := I.un (h' := s.heap) (t' := t) Un.refl I.hok
/-- all objects kept -/
theorem Inv.kept {t' : Nat} (I : Inv X pins σ H s) (k : ∀ b u, s.heap.get? b = some u → h'.get? b = some u) : Inv X pins σ H { s with heap := h', toks := t' } := I.un (Un.kept k) (I.hok.kept k)
/-- a new object laid and tracked -/
theorem Inv.laid {a : Addr} {o : HO} {t' : Nat} (I : Inv X pins σ H s) (k : ∀ b u, s.heap.get? b = some u → h'.get? b = some u) (hp : s.heap.objs.size ≤ a) (new : ObjOk X.prog X.w (upd H a o) h' a o) :
    Inv X pins σ (upd H a o) { s with heap := h', toks := t' } := I.un (Un.laid k hp (I.hok.fresh hp)) (I.hok.laid k hp new)
/-- an object written -/
theorem Inv.write {x e : Addr} {o : HO} {t' : Nat} (I : Inv X pins σ H s) (mu : Mut (H x)) (he : e = x ∨ H e = some (.own x)) (k : ∀ b u, b ≠ e → s.heap.get? b = some u → h'.get? b = some u) (heo : ∃ u, h'.get? e = some u)
    (new : ObjOk X.prog X.w (upd H x o) h' x o) : Inv X pins σ (upd H x o) { s with heap := h', toks := t' } := I.un (Un.write mu he k heo) (I.hok.write mu he k heo new)
/-- forgetting slots, pins -/
theorem Inv.weak {σ' : List (Option V)} (I : Inv X pins σ H s) (hl : σ'.length = σ.length) (w : ∀ (i : Nat) v, σ'[i]? = some (some v) → σ[i]? = some (some v)) : Inv X pins σ' H s :=
  ⟨I.ok, I.os, I.bare, I.base, let ⟨m, hn, hl'⟩ := I.loc; ⟨m, hn, fun i x v e1 e2 e3 => hl' i x v e1 (w i v e2) e3⟩, I.cell, I.free, I.freeC, I.pin, I.hok, hl.trans I.len⟩
theorem Inv.pins_of {pins' : List (Addr × Obj)} (I : Inv X pins σ H s) (h : ∀ p ∈ pins', s.heap.get? p.1 = some p.2 ∧ H p.1 = none ∧ p.1 ≠ X.env.locals ∧ p.1 ∉ X.fs ∧ ∀ v, p.2.data ≠ .cell v) : Inv X pins' σ H s :=
  ⟨I.ok, I.os, I.bare, I.base, I.loc, I.cell, I.free, I.freeC, fun p hp => (List.mem_append.mp hp).elim (fun z => I.pin p (List.mem_append_left _ z)) (h p), I.hok, I.len⟩

theorem nodup_ix {N : List Str} (hN : N.Nodup) {i j : Nat} {x : Str} (a : N[i]? = some x) (b : N[j]? = some x) : i = j := by
  obtain ⟨h1, e1⟩ := List.getElem?_eq_some_iff.mp a
  obtain ⟨h2, e2⟩ := List.getElem?_eq_some_iff.mp b
  exact (List.getElem_inj hN).mp (e1.trans e2.symm)

/-- a name is stored; what changed -/
theorem store_ok2 {M : Model} {A : Around} {E : Value → Shared → Prop} {i : Nat} {x : Str} {v : V} {u : Value} {Q : Unit → Shared → Prop} (I : Inv X pins σ H s) (hN : X.N.Nodup) (hi : X.N[i]? = some x) (hx : Loc X.env.scope x) (r : RelV v u)
    (h : ∀ s', Inv X pins (σ.set i (some v)) H s' → (∃ a, Heap.SameBut a s.heap s'.heap ∧ (a = X.env.locals ∨ X.env.cells.lookup x = some a)) → Q () s') (hf : X.fn x = true ∨ X.env.scope.names.lookup x = some .local := by first | exact .inl rfl | exact .inr rfl | assumption) : wpAny M A (storeName X.env x u) Q E s := by
  obtain ⟨m, hn, hl⟩ := id I.loc
  have hcls : (X.env.scope.kind == .class || (X.env.scope.kind == .module && X.env.locals != X.env.globals)) = false := by rw [I.ok.kind]; rfl
  have hiσ : i < σ.length := by rw [I.len]; exact (List.getElem?_eq_some_iff.mp hi).1
  have cne := I.cne
  have tracked : ∀ {a : Addr} {h' : Heap}, (∃ o, s.heap.get? a = some o ∧ H a = none) → Heap.SameBut a s.heap h' → HOk X.prog X.w H h' := fun {a h'} ha hs b ob e => by
    obtain ⟨_, _, hfree⟩ := ha
    refine (I.hok b ob e).stay (fun c w' hc q => (hs.2 c ?_).trans q) (fun _ q => q) fun _ _ q => q
    rintro rfl
    rcases hc with rfl | hc
    · rw [hfree] at e; cases e
    · rw [hfree] at hc; cases hc
  rcases hx with hk | hk
  · refine wpAny_storeName_local hk hn (fun h' hn' hs => ?_) hcls
    obtain ⟨oL, _, _, hoL, _⟩ := id hn
    refine h _ ⟨I.ok, I.os, I.bare, ⟨fun b o e n hb hx => ?_, fun b o e n hb hx => ?_, I.base.free, fun b o e hx => ?_, I.base.tups, I.base.frzs, I.base.tbls⟩, ⟨_, hn', fun j y v' e1 e2 e3 => ?_⟩, fun y c e => ?_, I.free, I.freeC, fun p hp => ?_, tracked ⟨oL, hoL, I.free⟩ hs, by simpa using I.len⟩ ⟨_, hs, .inl rfl⟩
    · exact (hs.2 b (Nat.ne_of_lt (Nat.lt_of_lt_of_le (Heap.lt_size e) I.ok.above))).trans (I.base.keep b o e n hb hx)
    · obtain ⟨sl, e1⟩ := I.base.slot b o e n hb hx
      exact ⟨sl, (hs.2 b (Nat.ne_of_lt (Nat.lt_of_lt_of_le (Heap.lt_size e) I.ok.above))).trans e1⟩
    · obtain ⟨o', e1⟩ := I.base.there b o e hx
      exact ⟨o', (hs.2 b (Nat.ne_of_lt (Nat.lt_of_lt_of_le (Heap.lt_size e) I.ok.above))).trans e1⟩
    · by_cases hj : j = i
      · subst hj
        rw [hi] at e1; cases e1
        rw [List.getElem?_set_self hiσ] at e2
        cases e2
        exact ⟨u, r, .inl ⟨hk, by simp⟩⟩
      · rw [List.getElem?_set_ne (Ne.symm hj)] at e2
        obtain ⟨u', r', q⟩ := hl j y v' e1 e2 e3
        refine ⟨u', r', ?_⟩
        rcases q with ⟨k, e⟩ | ⟨k, c, e, z⟩
        · refine .inl ⟨k, ?_⟩
          have : y ≠ x := fun e => hj (nodup_ix hN e1 (e ▸ hi))
          simp [this, e]
        · exact .inr ⟨k, c, e, z.sameBut hs (cne y c e)⟩
    · obtain ⟨w', z⟩ := I.cell y c e
      exact ⟨w', z.sameBut hs (cne y c e)⟩
    · obtain ⟨e, n, ne, nf, d⟩ := I.pin p hp
      exact ⟨(hs.2 p.1 ne).trans e, n, ne, nf, d⟩
  · have hfn : X.fn x = true := by
      rcases hf with z | z
      · exact z
      · rw [z] at hk; cases hk
    obtain ⟨c, hc⟩ := I.ok.has x (.inl hk)
    obtain ⟨w', z⟩ := I.cell x c hc
    refine wpAny_storeName_cell I.ok.kind hk hc z (fun h' hc' hs => ?_)
    obtain ⟨oc, hoc, hocd⟩ := id z
    refine h { s with heap := h' } ⟨I.ok, I.os, I.bare, ⟨fun b o e n hb hx => ?_, fun b o e n hb hx => ?_, I.base.free, fun b o e hx => ?_, I.base.tups, I.base.frzs, I.base.tbls⟩, ⟨m, hn.sameBut hs (Ne.symm (cne x c hc)), fun j y v' e1 e2 e3 => ?_⟩, fun y c' e => ?_, I.free, I.freeC, fun p hp => ?_, tracked ⟨oc, hoc, I.freeC x c hc⟩ hs, by simpa using I.len⟩ ⟨c, hs, .inr hc⟩
    · exact (hs.2 b (Nat.ne_of_lt (Nat.lt_of_lt_of_le (Heap.lt_size e) (I.ok.cab x c hfn hc)))).trans (I.base.keep b o e n hb hx)
    · obtain ⟨sl, e1⟩ := I.base.slot b o e n hb hx
      exact ⟨sl, (hs.2 b (Nat.ne_of_lt (Nat.lt_of_lt_of_le (Heap.lt_size e) (I.ok.cab x c hfn hc)))).trans e1⟩
    · obtain ⟨o', e1⟩ := I.base.there b o e hx
      exact ⟨o', (hs.2 b (Nat.ne_of_lt (Nat.lt_of_lt_of_le (Heap.lt_size e) (I.ok.cab x c hfn hc)))).trans e1⟩
    · by_cases hj : j = i
      · subst hj
        rw [hi] at e1; cases e1
        rw [List.getElem?_set_self hiσ] at e2
        cases e2
        exact ⟨u, r, .inr ⟨.inl hk, c, hc, hc'⟩⟩
      · rw [List.getElem?_set_ne (Ne.symm hj)] at e2
        obtain ⟨u', r', q⟩ := hl j y v' e1 e2 e3
        refine ⟨u', r', ?_⟩
        rcases q with q | ⟨k, c', e, z'⟩
        · exact .inl q
        · refine .inr ⟨k, c', e, z'.sameBut hs ?_⟩
          rintro rfl
          exact hj (nodup_ix hN e1 (I.ok.inj _ _ _ e hc ▸ hi))
    · by_cases hcc : c' = c
      · subst hcc; exact ⟨_, hc'⟩
      · obtain ⟨w2, z2⟩ := I.cell y c' e
        exact ⟨w2, z2.sameBut hs hcc⟩
    · obtain ⟨e, n, ne, nf, d⟩ := I.pin p hp
      refine ⟨(hs.2 p.1 ?_).trans e, n, ne, nf, d⟩
      intro q
      rw [q, hoc] at e
      have q' : oc = p.2 := Option.some.inj e
      exact d w' (by rw [← q']; exact hocd)
theorem store_ok {M : Model} {A : Around} {E : Value → Shared → Prop} {i : Nat} {x : Str} {v : V} {u : Value} {Q : Unit → Shared → Prop} (I : Inv X pins σ H s) (hN : X.N.Nodup) (hi : X.N[i]? = some x) (hx : Loc X.env.scope x) (r : RelV v u)
    (h : ∀ s', Inv X pins (σ.set i (some v)) H s' → Q () s') (hf : X.fn x = true ∨ X.env.scope.names.lookup x = some .local := by first | exact .inl rfl | exact .inr rfl | assumption) : wpAny M A (storeName X.env x u) Q E s :=
  store_ok2 I hN hi hx r (fun s' I' _ => h s' I') hf
/-- behind a call or a block, the state as it is -/
theorem Inv.call' {s' : Shared} {ch : List Addr} (I : Inv X pins σ H s) (ho : s'.os = s.os) (u : Un (frs X.stack) ch H H' s.heap s'.heap) (hok : HOk X.prog X.w H' s'.heap) (hg : AllBare s'.gens)
    (hch : ∀ b ∈ ch, (b ∈ X.ex ∨ X.s₀.heap.objs.size ≤ b) ∧ b ≠ X.env.locals ∧ (∀ x c, X.env.cells.lookup x = some c → c ≠ b) ∧ ∀ p ∈ X.pn ++ pins, p.1 ≠ b) : Inv X pins σ H' s' := by
  obtain ⟨h', g', d', t', o'⟩ := s'
  have e : o' = s.os := ho
  subst e
  exact I.call (g' := g') (t' := t') (d' := d') u hok hg hch
end

/-! ### the judgements -/
/-- an exception: its class, its own dict's address (where it has one), the abstract heap behind it -/
abbrev XK := Value → Option Addr → Hp → Prop
abbrev St := List (Option V)
abbrev VK := V → Hp → Prop
/-- an expression's reading; a test's; an argument list's -/
abbrev TE := St → Hp → VK → Prop
abbrev TT := St → Hp → (Bool → Hp → Prop) → Prop
abbrev TA := St → Hp → (List V → Hp → Prop) → Prop
/-- what is wanted behind a statement -/
structure Ends where
  nx : St → Hp → Prop
  rt : VK
  bk : St → Hp → Prop := fun _ _ => False
  ct : St → Hp → Prop := fun _ _ => False
abbrev TS := Ends → St → Hp → Prop

def EP (X : Cx) (pins : List (Addr × Obj)) (σ : St) (Q : VK) (u : Value) (s' : Shared) : Prop := ∃ v H', Inv X pins σ H' s' ∧ RelV v u ∧ Q v H'
def TP (X : Cx) (pins : List (Addr × Obj)) (σ : St) (Q : Bool → Hp → Prop) (b : Bool) (s' : Shared) : Prop := ∃ H', Inv X pins σ H' s' ∧ Q b H'
def AP (X : Cx) (pins : List (Addr × Obj)) (σ : St) (Q : List V → Hp → Prop) (us : List Value) (s' : Shared) : Prop := ∃ vs H', Inv X pins σ H' s' ∧ Vals vs us ∧ Q vs H'
def SP (X : Cx) (pins : List (Addr × Obj)) (D : Ends) (f : Flow) (s' : Shared) : Prop :=
  match f with
  | .next => ∃ σ' H', Inv X pins σ' H' s' ∧ D.nx σ' H'
  | .brk => ∃ σ' H', Inv X pins σ' H' s' ∧ D.bk σ' H'
  | .cont => ∃ σ' H', Inv X pins σ' H' s' ∧ D.ct σ' H'
  | .ret u => ∃ v σ' H', Inv X pins σ' H' s' ∧ RelV v u ∧ D.rt v H'

def PE (X : Cx) (e : Expr) (t : TE) : Prop :=
  ∀ (pins : List (Addr × Obj)) (s : Shared) (σ : St) (H : Hp) (Q : VK), Inv X pins σ H s → t σ H Q → wpAny (model X.prog X.w) X.A (eval e X.env) (EP X pins σ Q) X.xe s
def PT (X : Cx) (e : Expr) (t : TT) : Prop :=
  ∀ (pins : List (Addr × Obj)) (s : Shared) (σ : St) (H : Hp) (Q : Bool → Hp → Prop), Inv X pins σ H s → t σ H Q → wpAny (model X.prog X.w) X.A (isTrue e X.env (eval e X.env)) (TP X pins σ Q) X.xe s
/-- a test whatever its 'whole' is (and, or) -/
def PW (X : Cx) (e : Expr) (t : TT) : Prop :=
  ∀ (whole : Sem Value) (pins : List (Addr × Obj)) (s : Shared) (σ : St) (H : Hp) (Q : Bool → Hp → Prop), Inv X pins σ H s → t σ H Q → wpAny (model X.prog X.w) X.A (isTrue e X.env whole) (TP X pins σ Q) X.xe s
theorem PW.pt {X : Cx} {e : Expr} {t : TT} (h : PW X e t) : PT X e t := h _
/-- an argument list (no star), from the left -/
def PA (X : Cx) (es : List Expr) (t : TA) : Prop :=
  ∀ (pos : Pos) (pins : List (Addr × Obj)) (s : Shared) (σ : St) (H : Hp) (Q : List V → Hp → Prop), Inv X pins σ H s → t σ H Q → wpAny (model X.prog X.w) X.A (spliced (backTo pos (starEach es X.env))) (AP X pins σ Q) X.xe s
def PS (X : Cx) (st : Stmt) (t : TS) : Prop :=
  ∀ (pins : List (Addr × Obj)) (s : Shared) (σ : St) (H : Hp) (D : Ends), Inv X pins σ H s → t D σ H → wpAny (model X.prog X.w) X.A (exec st X.env) (SP X pins D) X.xe s
def PSs (X : Cx) (st : List Stmt) (t : TS) : Prop :=
  ∀ (pins : List (Addr × Obj)) (s : Shared) (σ : St) (H : Hp) (D : Ends), Inv X pins σ H s → t D σ H → wpAny (model X.prog X.w) X.A (execs st X.env) (SP X pins D) X.xe s
/-- weaken the end -/
theorem thn {α : Type} {t : Sem α} {Q Q' : α → Shared → Prop} {M : Model} {A : Around} {E : Value → Shared → Prop} {s : Shared} (h : wpAny M A t Q E s) (hQ : ∀ a s, Q a s → Q' a s) : wpAny M A t Q' E s := wpAny_mono h hQ fun _ _ x => x
end L2

namespace L2
open PySem PySem.Spec PyProof.Rows
section
variable {X : Cx}

/-! ### names and constants -/
def tVar (i : Nat) : TE := fun σ H Q => ∃ v, σ[i]? = some (some v) ∧ Q v H
def tC (v : V) : TE := fun _ H Q => Q v H
theorem pe_var {i : Nat} {x : Str} {pos : Pos} (hN : X.N[i]? = some x) (hv : Vis X.env.scope x) (hd : (x == ("__debug__" : Str)) = false := by decide) (hcd : (x == ("__classdict__" : Str)) = false := by decide) : PE X (.Name x pos) (tVar i) := by
  intro pins s σ H Q I h
  obtain ⟨v, e, h⟩ := h
  obtain ⟨m, hn, hl⟩ := I.loc
  obtain ⟨u, r, l⟩ := hl i x v hN e hv
  have fin : EP X pins σ Q u s := ⟨v, H, I, r, h⟩
  rcases l with ⟨hk, hm⟩ | ⟨hk, c, hc, hcell⟩
  · exact wpAny_Name (wpAny_loadName_local I.ok.kind hk hn hm fin) hd
  · rcases hk with hk | hk
    · exact wpAny_Name (wpAny_loadName_cell I.ok.kind hk hc hcell fin) hd
    · exact wpAny_Name (wpAny_loadName_free I.ok.kind hk hc hcell fin hcd) hd
theorem pe_int {i j pos} : PE X (.Constant (.int i) j pos) (tC (.int i)) := fun _ _ _ H _ I h => wpAny_Constant_int ⟨.int i, H, I.tok _, ⟨_, rfl⟩, h⟩
theorem pe_bl {b j pos} : PE X (.Constant (.bool b) j pos) (tC (.bl b)) := fun _ _ _ H _ I h => Constant_bool ⟨.bl b, H, I, rfl, h⟩
theorem pe_non {j pos} : PE X (.Constant .none j pos) (tC .non) := fun _ _ _ H _ I h => Constant_none ⟨.non, H, I, rfl, h⟩
/-- a global name of the def -/
def Gl (X : Cx) (x : Str) : Prop := X.env.kindOf x = some .globalImplicit
theorem ld_glob {E : Value → Shared → Prop} {pins : List (Addr × Obj)} {s : Shared} {σ : St} {H : Hp} {x : Str} {u : Value} {pos : Pos} {Q : Value → Shared → Prop} (I : Inv X pins σ H s) (hg : Gl X x) (hm : X.mg x = some u) (h : Q u s)
    (hd : (x == ("__debug__" : Str)) = false := by decide) : wpAny (model X.prog X.w) X.A (eval (.Name x pos) X.env) Q E s :=
  Calls.Name_function_global I.ok.kind hg (Calls.loadGlobal_global (by rw [I.ok.glob]; exact I.mod.glob.keeps I.bk) hm h) hd
theorem ld_blt {E : Value → Shared → Prop} {pins : List (Addr × Obj)} {s : Shared} {σ : St} {H : Hp} {x : Str} {u : Value} {pos : Pos} {Q : Value → Shared → Prop} (I : Inv X pins σ H s) (hg : Gl X x) (hm : X.mg x = none) (hv : bootBuiltins x = some u) (h : Q u s)
    (hn : x ≠ "__name__" := by decide) (hd : (x == ("__debug__" : Str)) = false := by decide) : wpAny (model X.prog X.w) X.A (eval (.Name x pos) X.env) Q E s := by
  obtain ⟨mb, h1, h2⟩ := I.mod.blt
  exact Calls.Name_function_global I.ok.kind hg (Calls.loadGlobal_builtin (by rw [I.ok.glob]; exact I.mod.glob.keeps I.bk) hm (by rw [I.ok.blt]; exact h1.keeps I.bk) ((h2 x hn).trans hv) h) hd
/-- a module's constant, a class, a function, as a value -/
theorem pe_glob {x : Str} {v : V} {u : Value} {pos : Pos} (hg : Gl X x) (hm : X.mg x = some u) (r : RelV v u) (hd : (x == ("__debug__" : Str)) = false := by decide) : PE X (.Name x pos) (tC v) :=
  fun _ _ _ H _ I h => ld_glob I hg hm ⟨v, H, I, r, h⟩ hd
/-! ### arithmetic -/
variable {a b : Expr} {ta tb : TE} {pos : Pos}
/-! ### comparisons -/
def PC (X : Cx) (op : CmpOp) (a b : Expr) (t : TE) : Prop :=
  ∀ (pins : List (Addr × Obj)) (s : Shared) (σ : St) (H : Hp) (Q : VK), Inv X pins σ H s → t σ H Q →
    wpAny (model X.prog X.w) X.A (eval a X.env) (fun v s₁ => wpAny (model X.prog X.w) X.A (eval b X.env) (fun u s₂ => wpAny (model X.prog X.w) X.A (compareOp op v u) (EP X pins σ Q) X.xe s₂) X.xe s₁) X.xe s
theorem nobehind (b : Expr) {op : CmpOp} (h : op ≠ .In) (h2 : op ≠ .NotIn) : behindInMarks op b = false := by
  have e1 : (op == CmpOp.In) = false := by cases op <;> first | rfl | exact absurd rfl h
  have e2 : (op == CmpOp.NotIn) = false := by cases op <;> first | rfl | exact absurd rfl h2
  cases b <;> simp [behindInMarks, e1, e2]
/-- is None -/
def tIsN (ta : TE) : TE := fun σ H Q => ta σ H fun x H1 => Q (.bl (decide (x = .non))) H1
theorem RelV.none_iff {x : V} {v : Value} (r : RelV x v) : (v == Value.none) = decide (x = .non) := by
  cases x with
  | non => cases r; rfl
  | bl _ => cases r; rfl
  | int _ => obtain ⟨t, rfl⟩ := r; rfl
  | str _ => obtain ⟨t, rfl⟩ := r; rfl
  | byt _ => obtain ⟨t, rfl⟩ := r; rfl
  | flt _ => obtain ⟨t, rfl⟩ := r; rfl
  | ref _ => cases r; rfl
  | ty _ => cases r; rfl
theorem pc_isN {j pos'} (ha : PE X a ta) : PC X .Is a (.Constant .none j pos') (tIsN ta) := by
  intro pins s σ H Q I h
  refine thn (ha pins s σ H _ I h) fun v s1 ⟨x, H1, I1, r1, q1⟩ => ?_
  exact Constant_none (is_none_gen ⟨.bl _, H1, I1, by rw [r1.none_iff]; rfl, q1⟩)
/-- a comparison as a value, as a test -/
def tB (t : TE) : TT := fun σ H Q => t σ H fun x H1 => ∃ c, x = .bl c ∧ Q c H1
theorem pt_cmp {op : CmpOp} {t : TE} (h : PC X op a b t) (h1 : behindInMarks op b = false := by first | exact nobehind _ (by decide) (by decide) | rfl) : PT X (.Compare a [op] [b] pos) (tB t) := by
  intro pins s σ H Q I hw
  refine wpAny_isTrue_Compare1 (thn (h pins s σ H _ I hw) fun v s1 h1 => thn h1 fun u s2 h2 => thn h2 fun c s3 ⟨x, H1, I1, r1, q1⟩ => ?_) h1
  obtain ⟨d, rfl, q⟩ := q1
  cases r1
  exact wpAny_truthy_bool ⟨H1, I1, q⟩
/-- an expression whose value is a bool, as a test -/
theorem pt_val {e : Expr} {t : TE} (h : PE X e t) (he : ∀ whole, isTrue e X.env whole = (do let v ← whole; standAt e.pos; holding [v] (truthy v)) := by intro _; rfl) : PT X e (tB t) := by
  intro pins s σ H Q I hw
  refine isTrue_plain (thn (h pins s σ H _ I hw) fun v s1 ⟨x, H1, I1, r1, q1⟩ => ?_) (he _)
  obtain ⟨d, rfl, q⟩ := q1
  cases r1
  exact wpAny_truthy_bool ⟨H1, I1, q⟩

/-! ### and, or, not -/
variable {tA tB' : TT} {rest : List Expr}
def tAnd (t u : TT) : TT := fun σ H Q => t σ H fun c H1 => if c = true then u σ H1 Q else Q false H1
def tOr (t u : TT) : TT := fun σ H Q => t σ H fun c H1 => if c = true then Q true H1 else u σ H1 Q
def tNot (t : TT) : TT := fun σ H Q => t σ H fun c H1 => Q (!c) H1
theorem pw_and1 (ha : PT X a tA) : PW X (.BoolOp .And [a] pos) tA := by
  intro wh pins s σ H Q I h
  refine isTrue_and (thn (ha pins s σ H Q I h) fun c s1 e => ?_)
  cases c with
  | true => exact isTrue_and_nil e
  | false => exact e
theorem pw_or1 (ha : PT X a tA) : PW X (.BoolOp .Or [a] pos) tA := by
  intro wh pins s σ H Q I h
  refine isTrue_or (thn (ha pins s σ H Q I h) fun c s1 e => ?_)
  cases c with
  | false => exact isTrue_or_nil e
  | true => exact e
theorem pw_and (ha : PT X a tA) (hb : PW X (.BoolOp .And (b :: rest) pos) tB') : PW X (.BoolOp .And (a :: b :: rest) pos) (tAnd tA tB') := by
  intro wh pins s σ H Q I h
  refine isTrue_and (thn (ha pins s σ H _ I h) fun c s1 ⟨H1, I1, q1⟩ => ?_)
  cases c with
  | true => exact hb wh pins s1 σ H1 Q I1 q1
  | false => exact ⟨H1, I1, q1⟩
theorem pw_or (ha : PT X a tA) (hb : PW X (.BoolOp .Or (b :: rest) pos) tB') : PW X (.BoolOp .Or (a :: b :: rest) pos) (tOr tA tB') := by
  intro wh pins s σ H Q I h
  refine isTrue_or (thn (ha pins s σ H _ I h) fun c s1 ⟨H1, I1, q1⟩ => ?_)
  cases c with
  | true => exact ⟨H1, I1, q1⟩
  | false => exact hb wh pins s1 σ H1 Q I1 q1
theorem pt_not (ha : PT X a tA) : PT X (.UnaryOp .Not a pos) (tNot tA) := by
  intro pins s σ H Q I h
  exact isTrue_not (ha pins s σ H (fun c H1 => Q (!c) H1) I h)
/-- .. as values (bools) -/
def tAndV (ta tb : TE) : TE := fun σ H Q => ta σ H fun x H1 => ∃ c, x = .bl c ∧ if c = true then tb σ H1 Q else Q (.bl false) H1
def tOrV (ta tb : TE) : TE := fun σ H Q => ta σ H fun x H1 => ∃ c, x = .bl c ∧ if c = true then Q (.bl true) H1 else tb σ H1 Q
theorem pe_one {op} {t : TE} (h : PE X a t) : PE X (.BoolOp op [a] pos) t := fun pins s σ H Q I hw => BoolOp_one (h pins s σ H Q I hw)
theorem pe_and (ha : PE X a ta) (hb : PE X (.BoolOp .And (b :: rest) pos) tb) : PE X (.BoolOp .And (a :: b :: rest) pos) (tAndV ta tb) := by
  intro pins s σ H Q I h
  refine BoolOp_and (thn (ha pins s σ H _ I h) fun v s1 ⟨x, H1, I1, r1, q1⟩ => ?_)
  obtain ⟨c, rfl, q1⟩ := q1
  cases r1
  refine wpAny_truthy_bool ?_
  cases c with
  | true => exact hb pins s1 σ H1 Q I1 q1
  | false => exact ⟨.bl false, H1, I1, rfl, q1⟩
theorem pe_or (ha : PE X a ta) (hb : PE X (.BoolOp .Or (b :: rest) pos) tb) : PE X (.BoolOp .Or (a :: b :: rest) pos) (tOrV ta tb) := by
  intro pins s σ H Q I h
  refine BoolOp_or (thn (ha pins s σ H _ I h) fun v s1 ⟨x, H1, I1, r1, q1⟩ => ?_)
  obtain ⟨c, rfl, q1⟩ := q1
  cases r1
  refine wpAny_truthy_bool ?_
  cases c with
  | false => exact hb pins s1 σ H1 Q I1 q1
  | true => exact ⟨.bl true, H1, I1, rfl, q1⟩
/-- a if t else b -/
def tIf (t : TT) (ta tb : TE) : TE := fun σ H Q => t σ H fun c H1 => if c = true then ta σ H1 Q else tb σ H1 Q
theorem pe_ifExp {c : Expr} (hc : PT X c tA) (ha : PE X a ta) (hb : PE X b tb) : PE X (.IfExp c a b pos) (tIf tA ta tb) := by
  intro pins s σ H Q I h
  refine wpAny_IfExp (thn (hc pins s σ H _ I h) fun d s1 ⟨H1, I1, q1⟩ => ?_)
  cases d with
  | true => exact ha pins s1 σ H1 Q I1 q1
  | false => exact hb pins s1 σ H1 Q I1 q1
end
end L2

namespace L2
open PySem PySem.Spec PyProof.Rows

/-! ### a list, a tuple that is read: tracked, frozen, or an object of the module -/
def SqL (K : PySem.W.Frag) (H : Hp) (a : Addr) (xs : List V) : Prop :=
  Rd H a (.lst xs) ∨
    ∃ (o : Obj) (its : Array Value) (n : Nat), K.lookup a = some o ∧ o.cls = .type "list" ∧ o.dict = none ∧ o.data = .seq its n ∧ its.size ≤ sizeLine ∧ Vals xs its.toList
def SqT (K : PySem.W.Frag) (H : Hp) (a : Addr) (xs : List V) : Prop :=
  Rd H a (.tup xs) ∨
    ∃ (o : Obj) (its : Array Value) (n : Nat), K.lookup a = some o ∧ o.cls = .type "tuple" ∧ o.data = .seq its n ∧ its.size ≤ sizeLine ∧ Vals xs its.toList
def absV : Value → Option V
  | .none => some .non
  | .bool b => some (.bl b)
  | .int i _ => some (.int i)
  | .str x _ => some (.str x)
  | .bytes b _ => some (.byt b)
  | .float b _ => some (.flt b)
  | .ref a => some (.ref a)
  | .type n => some (.ty n)
  | _ => none
theorem RelV.abs {x : V} {u : Value} (r : RelV x u) : absV u = some x := by
  cases x with
  | non => cases r; rfl
  | bl _ => cases r; rfl
  | int _ => obtain ⟨t, rfl⟩ := r; rfl
  | str _ => obtain ⟨t, rfl⟩ := r; rfl
  | byt _ => obtain ⟨t, rfl⟩ := r; rfl
  | flt _ => obtain ⟨t, rfl⟩ := r; rfl
  | ref _ => cases r; rfl
  | ty _ => cases r; rfl
theorem RelV.inj {x y : V} {u : Value} (r : RelV x u) (q : RelV y u) : x = y := Option.some.inj (r.abs.symm.trans q.abs)
theorem Vals.inj : ∀ {xs ys : List V} {us : List Value}, Vals xs us → Vals ys us → xs = ys
  | _, _, _, .nil, .nil => rfl
  | _, _, _, .cons r t, .cons r' t' => by rw [r.inj r', Vals.inj t t']
section
variable {X : Cx} {pins : List (Addr × Obj)} {σ : St} {H : Hp} {s : Shared} {a : Addr} {xs ys : List V}
theorem SqL.of {K : PySem.W.Frag} (h : H a = some (.lst xs)) : SqL K H a xs := .inl (.inl h)
theorem SqT.of {K : PySem.W.Frag} (h : H a = some (.tup xs)) : SqT K H a xs := .inl (.inl h)
theorem Inv.list (I : Inv X pins σ H s) (h : SqL X.K H a xs) : ∃ its : List Value, Vals xs its ∧ PlainL s.heap a its.toArray ∧ xs.length ≤ sizeLine := by
  rcases h with h | ⟨o, its, n, hk, hc, hd, hs, hz, r⟩
  · obtain ⟨z, its, n, r, e⟩ := h.ok I.hok
    exact ⟨its, r, ⟨_, n, e, rfl, rfl, rfl⟩, z⟩
  · refine ⟨its.toList, r, ⟨o, n, I.kIn a o hk, hc, hd, by simpa using hs⟩, ?_⟩
    have e := r.length
    simp only [Array.length_toList] at e
    omega
theorem Inv.tuple (I : Inv X pins σ H s) (h : SqT X.K H a xs) : ∃ its : List Value, Vals xs its ∧ IsTup s.heap a its.toArray ∧ xs.length ≤ sizeLine := by
  rcases h with h | ⟨o, its, n, hk, hc, hs, hz, r⟩
  · obtain ⟨z, its, r, p⟩ := h.ok I.hok
    exact ⟨its, r, p, z⟩
  · refine ⟨its.toList, r, ⟨o, I.kIn a o hk, hc, n, by simpa using hs⟩, ?_⟩
    have e := r.length
    simp only [Array.length_toList] at e
    omega
theorem Inv.list_inj (I : Inv X pins σ H s) (h : SqL X.K H a xs) (h' : SqL X.K H a ys) : xs = ys := by
  obtain ⟨its, r, ⟨o, n, e, _, _, d⟩, _⟩ := I.list h
  obtain ⟨its', r', ⟨o', n', e', _, _, d'⟩, _⟩ := I.list h'
  rw [e] at e'; cases e'
  rw [d] at d'
  injection d' with d1 _
  have : its = its' := by simpa using congrArg Array.toList d1
  subst this
  exact r.inj r'
theorem Inv.tuple_inj (I : Inv X pins σ H s) (h : SqT X.K H a xs) (h' : SqT X.K H a ys) : xs = ys := by
  obtain ⟨its, r, ⟨o, e, _, n, d⟩, _⟩ := I.tuple h
  obtain ⟨its', r', ⟨o', e', _, n', d'⟩, _⟩ := I.tuple h'
  rw [e] at e'; cases e'
  rw [d] at d'
  injection d' with d1 _
  have : its = its' := by simpa using congrArg Array.toList d1
  subst this
  exact r.inj r'
end

/-! ### another wish about exceptions -/
abbrev Cx.wish (X : Cx) (E : Value → Shared → Prop) : Cx := { X with xe := E }
/-- no exception leaves -/
abbrev Cx.nox (X : Cx) : Cx := X.wish fun _ _ => False
theorem Cx.Ok.wish {X : Cx} (ok : X.Ok) (E : Value → Shared → Prop) : (X.wish E).Ok :=
  ⟨ok.mod, ok.kind, ok.glob, ok.blt, ok.above, ok.inj, ok.has, ok.cab, ok.hd, ok.frames, ok.stk, ok.exf, ok.bs, ok.bsz, ok.noex, ok.exfs, ok.funs, ok.frf⟩
theorem Cx.Ok.unwish {X : Cx} {E : Value → Shared → Prop} (ok : (X.wish E).Ok) : X.Ok :=
  ⟨ok.mod, ok.kind, ok.glob, ok.blt, ok.above, ok.inj, ok.has, ok.cab, ok.hd, ok.frames, ok.stk, ok.exf, ok.bs, ok.bsz, ok.noex, ok.exfs, ok.funs, ok.frf⟩
section
variable {X : Cx} {pins : List (Addr × Obj)} {σ : St} {H : Hp} {s : Shared} {E : Value → Shared → Prop}
theorem Inv.wish (I : Inv X pins σ H s) (E : Value → Shared → Prop) : Inv (X.wish E) pins σ H s := ⟨I.ok.wish E, I.os, I.bare, I.base, I.loc, I.cell, I.free, I.freeC, I.pin, I.hok, I.len⟩
theorem Inv.unwish (I : Inv (X.wish E) pins σ H s) : Inv X pins σ H s := ⟨I.ok.unwish, I.os, I.bare, I.base, I.loc, I.cell, I.free, I.freeC, I.pin, I.hok, I.len⟩
theorem SP.unwish {D : Ends} {f : Flow} {s' : Shared} (h : SP (X.wish E) pins D f s') : SP X pins D f s' := by
  cases f with
  | next => obtain ⟨σ', H', I, q⟩ := h; exact ⟨σ', H', I.unwish, q⟩
  | brk => obtain ⟨σ', H', I, q⟩ := h; exact ⟨σ', H', I.unwish, q⟩
  | cont => obtain ⟨σ', H', I, q⟩ := h; exact ⟨σ', H', I.unwish, q⟩
  | ret u => obtain ⟨v, σ', H', I, r, q⟩ := h; exact ⟨v, σ', H', I.unwish, r, q⟩
theorem PE.nox {e : Expr} {t : TE} (h : PE X.nox e t) : PE X e t := fun pins s σ H Q I hw =>
  wpAny_mono (h pins s σ H Q (I.wish _) hw) (fun _ _ ⟨v, H', I', r, q⟩ => ⟨v, H', I'.unwish, r, q⟩) fun _ _ z => False.elim z
theorem PT.nox {e : Expr} {t : TT} (h : PT X.nox e t) : PT X e t := fun pins s σ H Q I hw =>
  wpAny_mono (h pins s σ H Q (I.wish _) hw) (fun _ _ ⟨H', I', q⟩ => ⟨H', I'.unwish, q⟩) fun _ _ z => False.elim z
theorem PSs.nox {st : List Stmt} {t : TS} (h : PSs X.nox st t) : PSs X st t := fun pins s σ H D I hw =>
  wpAny_mono (h pins s σ H D (I.wish _) hw) (fun _ _ q => q.unwish) fun _ _ z => False.elim z
end

/-! ### blocks and small statements -/
section
variable {X : Cx} {st : Stmt} {rest : List Stmt} {t u : TS} {e : Expr} {te : TE} {pos : Pos}
def tNext : TS := fun D σ H => D.nx σ H
def tSeq (t u : TS) : TS := fun D σ H => t { D with nx := u D } σ H
theorem pss_nil : PSs X [] tNext := fun _ _ σ H _ I h => wpAny_execs_nil ⟨σ, H, I, h⟩
theorem pss_cons (h1 : PS X st t) (h2 : PSs X rest u) : PSs X (st :: rest) (tSeq t u) := by
  intro pins s σ H D I h
  refine wpAny_execs_cons (thn (h1 pins s σ H { D with nx := u D } I h) fun f s1 q => ?_)
  cases f with
  | next =>
    obtain ⟨σ', H', I', q⟩ := q
    exact h2 pins s1 σ' H' D I' q
  | ret v => exact q
  | brk => exact q
  | cont => exact q
theorem pss_one (h1 : PS X st t) : PSs X [st] t := by
  intro pins s σ H D I h
  refine wpAny_execs_cons (thn (h1 pins s σ H D I h) fun f s1 q => ?_)
  cases f with
  | next => exact wpAny_execs_nil q
  | ret v => exact q
  | brk => exact q
  | cont => exact q
/-- in a def's body nothing is shown -/
theorem Inv.quiet {pins : List (Addr × Obj)} {σ : St} {H : Hp} {s : Shared} (I : Inv X pins σ H s) : interactive X.env = false := by simp [interactive, I.ok.kind]
/-- an expression whose value is dropped -/
def tDrop (te : TE) : TS := fun D σ H => te σ H fun _ H1 => D.nx σ H1
theorem ps_expr (he : PE X e te) (hs : swapsWith e none pos.line X.env = pure false := by rfl) : PS X (.Expr e pos) (tDrop te) := by
  intro pins s σ H D I h
  exact wpAny_Expr_any (thn (he pins s σ H _ I h) fun v s1 ⟨x, H1, I1, r1, q1⟩ => ⟨σ, H1, I1, q1⟩) I.quiet hs
def tRet (te : TE) : TS := fun D σ H => te σ H D.rt
theorem ps_ret (he : PE X e te) : PS X (.Return (some e) pos) (tRet te) := by
  intro pins s σ H D I h
  exact wpAny_Return_some (thn (he pins s σ H _ I h) fun v s1 ⟨x, H1, I1, r1, q1⟩ => ⟨x, σ, H1, I1, r1, q1⟩)
def tIfS (c : TT) (t u : TS) : TS := fun D σ H => c σ H fun b H1 => if b = true then t D σ H1 else u D σ H1
theorem ps_if {c : Expr} {a b : List Stmt} {tc : TT} (hc : PT X c tc) (ha : PSs X a t) (hb : PSs X b u) : PS X (.If c a b pos) (tIfS tc t u) := by
  intro pins s σ H D I h
  refine wpAny_If (thn (hc pins s σ H _ I h) fun d s1 ⟨H1, I1, q1⟩ => ?_)
  cases d with
  | true => exact ha pins s1 σ H1 D I1 q1
  | false => exact hb pins s1 σ H1 D I1 q1
end

/-! ### targets -/
abbrev TG := V → St → Hp → (St → Hp → Prop) → Prop
abbrev TGs := List V → St → Hp → (St → Hp → Prop) → Prop
def PG (X : Cx) (target : Expr) (t : TG) : Prop :=
  ∀ (pins : List (Addr × Obj)) (s : Shared) (σ : St) (H : Hp) (v : V) (u : Value) (Q : St → Hp → Prop), Inv X pins σ H s → RelV v u → t v σ H Q →
    wpAny (model X.prog X.w) X.A (assign target X.env u) (fun _ s' => ∃ σ' H', Inv X pins σ' H' s' ∧ Q σ' H') X.xe s
/-- several targets, one after another -/
def PGs (X : Cx) (ts : List Expr) (t : TGs) : Prop :=
  ∀ (pins : List (Addr × Obj)) (s : Shared) (σ : St) (H : Hp) (vs : List V) (us : List Value) (Q : St → Hp → Prop), Inv X pins σ H s → Vals vs us → t vs σ H Q →
    wpAny (model X.prog X.w) X.A (assignInOrder ((assignEach ts X.env).map (·.2)) us) (fun _ s' => ∃ σ' H', Inv X pins σ' H' s' ∧ Q σ' H') X.xe s
/-- o[i] = v, by values -/
abbrev TSet := V → V → V → Hp → (Hp → Prop) → Prop
def PSet (X : Cx) (t : TSet) : Prop :=
  ∀ (pins : List (Addr × Obj)) (s : Shared) (σ : St) (H : Hp) (o i v : V) (ov iv u : Value) (Q : Hp → Prop), Inv X pins σ H s → RelV o ov → RelV i iv → RelV v u → t o i v H Q →
    wpAny (model X.prog X.w) X.A (setItem ov iv u) (fun _ s' => ∃ H', Inv X pins σ H' s' ∧ Q H') X.xe s
/-- a op= b, by values -/
abbrev TIp := V → V → Hp → VK → Prop
def PIp (X : Cx) (op : Operator) (t : TIp) : Prop :=
  ∀ (pins : List (Addr × Obj)) (s : Shared) (σ : St) (H : Hp) (x y : V) (v u : Value) (Q : VK), Inv X pins σ H s → RelV x v → RelV y u → t x y H Q →
    wpAny (model X.prog X.w) X.A (inplaceOp op v u) (EP X pins σ Q) X.xe s
section
variable {X : Cx} {pos : Pos}
def gName (i : Nat) : TG := fun v σ H Q => Q (σ.set i (some v)) H
theorem pg_name {i : Nat} {x : Str} (hN : X.N.Nodup) (hi : X.N[i]? = some x) (hx : Loc X.env.scope x) (hf : X.fn x = true ∨ X.env.scope.names.lookup x = some .local := by first | exact .inl rfl | exact .inr rfl | assumption) : PG X (.Name x pos) (gName i) := by
  intro pins s σ H v u Q I r h
  exact wpAny_assign_Name (store_ok I hN hi hx r (fun s' I' => ⟨_, H, I', h⟩) hf)
def gNil : TGs := fun vs σ H Q => vs = [] ∧ Q σ H
def gCons (t : TG) (u : TGs) : TGs := fun vs σ H Q => ∃ v r, vs = v :: r ∧ t v σ H fun σ' H' => u r σ' H' Q
theorem pgs_nil : PGs X [] gNil := by
  intro pins s σ H vs us Q I r h
  obtain ⟨e, h⟩ := h
  subst e
  cases r
  exact assignInOrder_nil ⟨σ, H, I, h⟩
theorem pgs_cons {e : Expr} {es : List Expr} {t : TG} {u : TGs} (h1 : PG X e t) (h2 : PGs X es u)
    (hs : (assignEach (e :: es) X.env).map (·.2) = assign e X.env :: (assignEach es X.env).map (·.2) := by rfl) : PGs X (e :: es) (gCons t u) := by
  intro pins s σ H vs us Q I r h
  obtain ⟨v, vr, e1, h⟩ := h
  subst e1
  cases r with
  | cons r rr =>
    rw [hs]
    refine assignInOrder_cons (thn (h1 pins s σ H _ _ _ I r h) fun _ s1 ⟨σ1, H1, I1, q1⟩ => ?_)
    exact h2 pins s1 σ1 H1 _ _ Q I1 rr q1
/-- (a, b, ..) = a tuple of that length -/
def gTup (K : PySem.W.Frag) (n : Nat) (t : TGs) : TG := fun v σ H Q => ∃ a xs, v = .ref a ∧ SqT K H a xs ∧ xs.length = n ∧ t xs σ H Q
theorem pg_tup {es : List Expr} {k : Nat} {t : TGs} {n : Nat} (hc : X.calm = true) (h : PGs X es t)
    (hn : (assignEach es X.env).length = n := by rfl) (hst : (assignEach es X.env).findIdx? (·.1) = none := by rfl) : PG X (.Tuple es k pos) (gTup X.K n t) := by
  intro pins s σ H v u Q I r hw
  obtain ⟨a, xs, e1, hq, hl, hw⟩ := hw
  subst e1
  cases r
  obtain ⟨its, rv, ht, hz⟩ := I.tuple hq
  refine assign_Tuple_tuple (I.ok.hd hc) ht (by simp [hn, ← hl, rv.length]) hst fun h' hx => ?_
  have I1 : Inv X pins σ H { s with heap := h' } := I.kept (t' := s.toks) fun b o e => hx b o (Nat.ne_of_lt (Heap.lt_size e)) e
  exact h pins _ σ H xs _ Q I1 (by simpa using rv) hw
/-- o[i] = .. -/
def gSub (to ti : TE) (t : TSet) : TG := fun v σ H Q => to σ H fun o H1 => ti σ H1 fun i H2 => t o i v H2 fun H3 => Q σ H3
theorem pg_sub {o i : Expr} {to ti : TE} {t : TSet} (ho : PE X o to) (hi : PE X i ti) (hs : PSet X t)
    (ha : ∀ v, assign (.Subscript o i pos) X.env v = (do
      let ov ← holding [v] (eval o X.env)
      let iv ← holding [v, ov] (eval i X.env)
      standAt pos
      holding [v, ov, iv] (setItem ov iv v)
      release [v, ov, iv] []) := by intro _; rfl) : PG X (.Subscript o i pos) (gSub to ti t) := by
  intro pins s σ H v u Q I r h
  rw [ha]
  refine wpAny_bind (wpAny_holding (thn (ho pins s σ H _ I h) fun ov s1 ⟨x, H1, I1, r1, q1⟩ => ?_))
  refine wpAny_bind (wpAny_holding (thn (hi pins s1 σ H1 _ I1 q1) fun iv s2 ⟨y, H2, I2, r2, q2⟩ => ?_))
  refine wpAny_bind (wpAny_standAt (wpAny_bind (wpAny_holding (thn (hs pins s2 σ H2 x y v ov iv u _ I2 r1 r2 r q2) fun _ s3 ⟨H3, I3, q3⟩ => ?_))))
  exact wpAny_release ⟨σ, H3, I3, q3⟩
/-- target = value -/
def tAsg (te : TE) (g : TG) : TS := fun D σ H => te σ H fun x H1 => g x σ H1 D.nx
theorem ps_asg {tg e : Expr} {te : TE} {g : TG} (he : PE X e te) (hg : PG X tg g) (hs : swapsWithSole [tg] e pos.line X.env = pure false := by rfl) (hw : swappedStores [tg] e X.env = pure none := by rfl)
    (h1 : (assignEach [tg] X.env).map (·.2) = [assign tg X.env] := by rfl) : PS X (.Assign [tg] e pos) (tAsg te g) := by
  intro pins s σ H D I h
  refine wpAny_Assign_stores (thn (he pins s σ H _ I h) fun v s1 ⟨x, H1, I1, r1, q1⟩ => ?_) hs hw
  rw [h1]
  exact thn (hg pins s1 σ H1 x v _ I1 r1 q1) fun _ s2 q => q
/-- name = value -/
theorem ps_set {i : Nat} {x : Str} {e : Expr} {te : TE} {pos' : Pos} (hN : X.N.Nodup) (hi : X.N[i]? = some x) (hx : Loc X.env.scope x) (he : PE X e te) (hs : swapsWith e (some (.Name x pos')) pos.line X.env = pure false := by rfl) (hf : X.fn x = true ∨ X.env.scope.names.lookup x = some .local := by first | exact .inl rfl | exact .inr rfl | assumption) :
    PS X (.Assign [.Name x pos'] e pos) (tAsg te (gName i)) := by
  intro pins s σ H D I h
  refine wpAny_Assign_Name (thn (he pins s σ H _ I h) fun v s1 ⟨y, H1, I1, r1, q1⟩ => ?_) hs
  exact store_ok I1 hN hi hx r1 (fun s2 I2 => ⟨_, H1, I2, q1⟩) hf
/-- name op= e -/
def tAug (i : Nat) (te : TE) (ti : TIp) : TS := fun D σ H => ∃ x, σ[i]? = some (some x) ∧ te σ H fun y H1 => ti x y H1 fun z H2 => D.nx (σ.set i (some z)) H2
theorem ps_aug {i : Nat} {x : Str} {e : Expr} {te : TE} {op : Operator} {ti : TIp} {pos' : Pos} (hN : X.N.Nodup) (hi : X.N[i]? = some x) (hx : Loc X.env.scope x) (he : PE X e te) (ho : PIp X op ti) (hf : X.fn x = true ∨ X.env.scope.names.lookup x = some .local := by first | exact .inl rfl | exact .inr rfl | assumption) :
    PS X (.AugAssign (.Name x pos') op e pos) (tAug i te ti) := by
  intro pins s σ H D I h
  obtain ⟨v, e1, h⟩ := h
  obtain ⟨m, hn, hl⟩ := I.loc
  have vis : Vis X.env.scope x := by rcases hx with k | k; exact .inl k; exact .inr (.inl k)
  obtain ⟨u, r, l⟩ := hl i x v hi e1 vis
  refine wpAny_AugAssign_Name ?_
  have go : wpAny (model X.prog X.w) X.A (eval e X.env) (fun w s₂ => wpAny (model X.prog X.w) X.A (inplaceOp op u w) (fun r s₃ => wpAny (model X.prog X.w) X.A (storeName X.env x r) (fun _ => SP X pins D .next) X.xe s₃) X.xe s₂) X.xe s := by
    refine thn (he pins s σ H _ I h) fun w s1 ⟨y, H1, I1, r1, q1⟩ => ?_
    refine thn (ho pins s1 σ H1 v y u w _ I1 r r1 q1) fun z s2 ⟨zv, H2, I2, r2, q2⟩ => ?_
    exact store_ok I2 hN hi hx r2 (fun s3 I3 => ⟨_, H2, I3, q2⟩) hf
  rcases l with ⟨hk, hm⟩ | ⟨hk, c, hc, hcell⟩
  · exact wpAny_loadName_local I.ok.kind hk hn hm go
  · rcases hk with hk | hk
    · exact wpAny_loadName_cell I.ok.kind hk hc hcell go
    · rcases hx with k | k
      · have : X.env.scope.names.lookup x = some .free := hk
        rw [k] at this; cases this
      · have : X.env.scope.names.lookup x = some .free := hk
        rw [k] at this; cases this
/-- ints -/
def ipI (f : Int → Int → Int) : TIp := fun x y H Q => ∃ i j, x = .int i ∧ y = .int j ∧ Q (.int (f i j)) H
theorem ip_add : PIp X .Add (ipI fun i j => i + j) := by
  intro pins s σ H x y v u Q I r1 r2 h
  obtain ⟨i, j, e1, e2, q⟩ := h
  subst e1; subst e2
  obtain ⟨t, rfl⟩ := r1
  obtain ⟨t', rfl⟩ := r2
  exact iadd_int ⟨.int _, H, I.tok _, ⟨_, rfl⟩, q⟩
end

/-! ### while -/
section
variable {X : Cx} {pos : Pos}
/-- the invariant W with its measure -/
def tWhile (c : TT) (tb : TS) : TS := fun D σ H => ∃ W : Nat → St → Hp → Prop, (∃ m, W m σ H) ∧ ∀ m σ H, W m σ H →
  c σ H fun b H1 => if b = true then ∃ N : St → Hp → Prop, (∀ σ' H', N σ' H' → ∃ m', m' < m ∧ W m' σ' H') ∧ tb { D with nx := N, ct := N, bk := D.nx } σ H1 else D.nx σ H1
theorem ps_while {c : Expr} {body : List Stmt} {tc : TT} {tb : TS} (hp : PassesOwn (model X.prog X.w) X.A X.env X.xe) (hc : PT X c tc) (hb : PSs X body tb) : PS X (.While c body [] pos) (tWhile tc tb) := by
  intro pins s σ H D I h
  obtain ⟨W, ⟨m0, w0⟩, turn⟩ := h
  refine wpAny_While (codeAny_whileLoop (fun n s' => ∃ σ' H', Inv X pins σ' H' s' ∧ W n σ' H') ?_ m0 ⟨σ, H, I, w0⟩)
  rintro n s1 ⟨σ1, H1, I1, w1⟩
  refine wpAny_passesOwn hp (thn (hc pins s1 σ1 H1 _ I1 (turn n σ1 H1 w1)) fun b s2 ⟨H2, I2, q2⟩ => ?_)
  cases b with
  | true =>
    obtain ⟨N, hN, q2⟩ := q2
    rw [if_pos rfl]
    refine wpAny_passesOwn hp (thn (hb pins s2 σ1 H2 _ I2 q2) fun f s3 q3 => ?_)
    cases f with
    | next =>
      obtain ⟨σ3, H3, I3, n3⟩ := q3
      obtain ⟨m', hm, w3⟩ := hN σ3 H3 n3
      exact ⟨m', hm, σ3, H3, I3, w3⟩
    | cont =>
      obtain ⟨σ3, H3, I3, n3⟩ := q3
      obtain ⟨m', hm, w3⟩ := hN σ3 H3 n3
      exact ⟨m', hm, σ3, H3, I3, w3⟩
    | brk => exact q3
    | ret v => exact q3
  | false =>
    rw [if_neg Bool.false_ne_true]
    exact wpAny_execs_nil ⟨σ1, H2, I2, q2⟩
end

/-! ### what a loop or a comprehension walks -/
/-- at turn i: it yields x (the heap may grow), or it stops -/
structure It where
  go : Nat → Hp → Prop
  yld : Nat → Hp → V → Hp → Prop
  stop : Nat → Hp → Prop
/-- the iterator's own objects may turn: they are not the frame's, not pinned, younger than the entry (or a comprehension's own) -/
def FpOk (X : Cx) (pins : List (Addr × Obj)) (H : Hp) (b : Addr) : Prop :=
  H b = none ∧ b ≠ X.env.locals ∧ b ∉ X.fs ∧ (b ∈ X.ex ∨ X.s₀.heap.objs.size ≤ b) ∧ (∀ x c, X.env.cells.lookup x = some c → c ≠ b) ∧ ∀ p ∈ X.pn ++ pins, p.1 ≠ b
theorem Inv.fpOk {X : Cx} {pins : List (Addr × Obj)} {σ : St} {H H' : Hp} {s : Shared} {b : Addr} (I : Inv X pins σ H s) (hb : s.heap.objs.size ≤ b) (hn : H' b = none) : FpOk X pins H' b := by
  refine ⟨hn, Nat.ne_of_gt (Nat.lt_of_lt_of_le I.lt hb), I.nofs hb, .inr (Nat.le_trans I.sz hb), fun x c e z => ?_, fun p hp z => ?_⟩
  · obtain ⟨v, q⟩ := I.cell x c e
    exact absurd (Nat.lt_of_lt_of_le q.lt (by rw [z]; exact hb)) (Nat.lt_irrefl _)
  · exact absurd (Nat.lt_of_lt_of_le (Heap.lt_size (I.pin p hp).1) (by rw [z]; exact hb)) (Nat.lt_irrefl _)
structure Turn (P : Program) (w : World) (K : PySem.W.Frag) (tg : Expr) (J : It) (fp : List Addr) (it : Addr) (tn : Nat → Heap → Prop) : Prop where
  mem : it ∈ fp
  obj : ∀ i h, tn i h → ∀ b ∈ fp, ∃ o, h.get? b = some o ∧ ∀ v, o.data ≠ .cell v
  keep : ∀ i h h', tn i h → (∀ b ∈ fp, ∀ o, h.get? b = some o → h'.get? b = some o) → tn i h'
  item : ∀ (X : Cx), X.prog = P → X.w = w → X.K = K → X.calm = true → ∀ (i : Nat) (pins : List (Addr × Obj)) (s : Shared) (σ : St) (H : Hp) (E : Value → Shared → Prop), Inv X pins σ H s → (∀ b ∈ fp, FpOk X pins H b) → tn i s.heap → J.go i H →
    wpAny (model P w) X.A (pyNext (.ref it)) (fun r s1 => ∃ u, r = some u ∧
      wpAny (model P w) X.A (letOwnedTupleGo tg (.ref it) u) (fun _ s2 => ∃ x H', Inv X pins σ H' s2 ∧ RelV x u ∧ J.yld i H x H' ∧ tn (i + 1) s2.heap ∧ ∀ b ∈ fp, H' b = none) E s1) E s
  done : ∀ (X : Cx), X.prog = P → X.w = w → X.K = K → X.calm = true → ∀ (i : Nat) (pins : List (Addr × Obj)) (s : Shared) (σ : St) (H : Hp) (E : Value → Shared → Prop), Inv X pins σ H s → (∀ b ∈ fp, FpOk X pins H b) → tn i s.heap → J.stop i H →
    wpAny (model P w) X.A (pyNext (.ref it)) (fun r s1 => r = none ∧ Inv X pins σ H s1) E s
  self : ∀ (A : Around) (i : Nat) (s : Shared) (Q : Value → Shared → Prop) (E : Value → Shared → Prop), tn i s.heap → Q (.ref it) s → wpAny (model P w) A (pyIter (.ref it)) Q E s
abbrev TI := St → Hp → (It → Hp → Prop) → Prop
/-- an iterator has come -/
def PIE (X : Cx) (pins : List (Addr × Obj)) (σ : St) (tg : Expr) (R : It → Hp → Prop) (itv : Value) (s2 : Shared) : Prop :=
  ∃ (it : Addr) (fp : List Addr) (tn : Nat → Heap → Prop) (J : It) (H' : Hp), itv = .ref it ∧ Inv X pins σ H' s2 ∧ Turn X.prog X.w X.K tg J fp it tn ∧ tn 0 s2.heap ∧ (∀ b ∈ fp, FpOk X pins H' b) ∧ R J H'
def PI (X : Cx) (tg iter : Expr) (wi : TI) : Prop :=
  ∀ (pins : List (Addr × Obj)) (s : Shared) (σ : St) (H : Hp) (R : It → Hp → Prop), Inv X pins σ H s → wi σ H R →
    wpAny (model X.prog X.w) X.A (eval iter X.env) (fun v s1 => wpAny (model X.prog X.w) X.A (pyIter v) (PIE X pins σ tg R) X.xe s1) X.xe s

/-- the step ahead of the store is nothing for an iterator that keeps no tuple -/
theorem go_of {M : Model} {A : Around} {E : Value → Shared → Prop} {s : Shared} {tg : Expr} {it : Addr} {u : Value} {o : Obj} {n : String} {vs : Array Value} {Q : Unit → Shared → Prop} (ho : s.heap.get? it = some o) (hc : o.cls = .type n) (hd : o.data = .fields vs)
    (hn : ["enumerate", "zip", "dict_itemiterator", "dict_reverseitemiterator", "odict_iterator", "itertools.zip_longest", "itertools.pairwise"].contains n = false) (hQ : Q () s) : wpAny M A (letOwnedTupleGo tg (.ref it) u) Q E s := by
  unfold letOwnedTupleGo
  cases tg <;> first
    | exact wpAny_pure hQ
    | (cases u <;> first
        | exact wpAny_pure hQ
        | (refine wpAny_bind (wpAny_load ho ?_)
           rw [hc, hd]
           show wpAny M A (if (["enumerate", "zip", "dict_itemiterator", "dict_reverseitemiterator", "odict_iterator", "itertools.zip_longest", "itertools.pairwise"].contains n && vs[0]? == some (rawInt _)) = true then _ else _) Q E s
           rw [if_neg (by intro h; rw [hn, Bool.false_and] at h; cases h)]
           exact wpAny_pure hQ))

/-- the list at a, as it stands at each turn (a loop may append to it) -/
def Itl (K : PySem.W.Frag) (a : Addr) : It :=
  ⟨fun i H => ∃ xs x, SqL K H a xs ∧ xs[i]? = some x, fun i H x H' => H' = H ∧ ∀ xs, SqL K H a xs → xs[i]? = some x, fun i H => ∃ xs, SqL K H a xs ∧ xs.length ≤ i⟩
def Itt (K : PySem.W.Frag) (a : Addr) : It :=
  ⟨fun i H => ∃ xs x, SqT K H a xs ∧ xs[i]? = some x, fun i H x H' => H' = H ∧ ∀ xs, SqT K H a xs → xs[i]? = some x, fun i H => ∃ xs, SqT K H a xs ∧ xs.length ≤ i⟩
theorem turn_list {P : Program} {w : World} {K : PySem.W.Frag} {tg : Expr} (a it : Addr) : Turn P w K tg (Itl K a) [it] it (fun i h => h.IsListIter it a i) where
  mem := by simp
  obj := fun i h st b hb => by
    have e : b = it := by simpa using hb
    subst e
    obtain ⟨o, e, c, d⟩ := st
    exact ⟨o, e, fun v z => by rw [d] at z; cases z⟩
  keep := fun i h h' st k => st.at fun o e => k it (by simp) o e
  item := by
    intro X hP hw hK hc i pins s σ H E I hf st hg
    subst hP hw hK
    obtain ⟨xs, x, hq, hx⟩ := hg
    obtain ⟨its, rv, p, hz⟩ := I.list hq
    obtain ⟨u, hu, ru⟩ := rv.get hx
    obtain ⟨f0, f1, f2, f3, f4, f5⟩ := hf it (by simp)
    refine wpAny_pyNext_list_item st p.isList (x := u) (by simpa using hu) fun h' st' sb => ?_
    have I1 : Inv X pins σ H { s with heap := h' } := I.turned (t' := s.toks) (fun b o hb e => (sb.2 b hb).trans e) f0 f1 f3 f4 f5
    obtain ⟨o, e, c, d⟩ := id st'
    exact ⟨u, rfl, go_of (s := { s with heap := h' }) e c d (by decide) ⟨x, H, I1, ru, ⟨rfl, fun ys hy => by rw [I.list_inj hy hq]; exact hx⟩, st', fun b hb => (hf b hb).1⟩⟩
  done := by
    intro X hP hw hK hc i pins s σ H E I hf st hg
    subst hP hw hK
    obtain ⟨xs, hq, hx⟩ := hg
    obtain ⟨its, rv, p, hz⟩ := I.list hq
    obtain ⟨f0, f1, f2, f3, f4, f5⟩ := hf it (by simp)
    have hl := rv.length
    exact wpAny_pyNext_list_end (I.ok.hd hc) st p.isList (by simp; omega) fun h' eb => ⟨rfl, I.turned (t' := s.toks) (fun b o hb e => eb b o hb e) f0 f1 f3 f4 f5⟩
  self := fun _ _ _ _ _ st h => wpAny_pyIter_listiter st h
theorem turn_tuple {P : Program} {w : World} {K : PySem.W.Frag} {tg : Expr} (a it : Addr) : Turn P w K tg (Itt K a) [it] it (fun i h => h.IsTupleIter it a i) where
  mem := by simp
  obj := fun i h st b hb => by
    have e : b = it := by simpa using hb
    subst e
    obtain ⟨o, e, c, d⟩ := st
    exact ⟨o, e, fun v z => by rw [d] at z; cases z⟩
  keep := fun i h h' st k => st.at fun o e => k it (by simp) o e
  item := by
    intro X hP hw hK hc i pins s σ H E I hf st hg
    subst hP hw hK
    obtain ⟨xs, x, hq, hx⟩ := hg
    obtain ⟨its, rv, p, hz⟩ := I.tuple hq
    obtain ⟨u, hu, ru⟩ := rv.get hx
    obtain ⟨f0, f1, f2, f3, f4, f5⟩ := hf it (by simp)
    refine wpAny_pyNext_tuple_item st (show s.heap.IsTuple a its.toArray from p) (x := u) (by simpa using hu) fun h' st' sb => ?_
    have I1 : Inv X pins σ H { s with heap := h' } := I.turned (t' := s.toks) (fun b o hb e => (sb.2 b hb).trans e) f0 f1 f3 f4 f5
    obtain ⟨o, e, c, d⟩ := id st'
    exact ⟨u, rfl, go_of (s := { s with heap := h' }) e c d (by decide) ⟨x, H, I1, ru, ⟨rfl, fun ys hy => by rw [I.tuple_inj hy hq]; exact hx⟩, st', fun b hb => (hf b hb).1⟩⟩
  done := by
    intro X hP hw hK hc i pins s σ H E I hf st hg
    subst hP hw hK
    obtain ⟨xs, hq, hx⟩ := hg
    obtain ⟨its, rv, p, hz⟩ := I.tuple hq
    obtain ⟨f0, f1, f2, f3, f4, f5⟩ := hf it (by simp)
    have hl := rv.length
    exact wpAny_pyNext_tuple_end (I.ok.hd hc) st (show s.heap.IsTuple a its.toArray from p) (by simp; omega) fun h' eb => ⟨rfl, I.turned (t' := s.toks) (fun b o hb e => eb b o hb e) f0 f1 f3 f4 f5⟩
  self := fun _ _ _ _ _ st h => wpAny_pyIter_tupleiter st h
end L2

namespace L2
open PySem PySem.Spec PyProof.Rows
section
variable {X : Cx} {tg : Expr}
def iList (K : PySem.W.Frag) (tl : TE) : TI := fun σ H R => tl σ H fun x H1 => ∃ a, x = .ref a ∧ (∃ xs, SqL K H1 a xs) ∧ R (Itl K a) H1
def iTup (K : PySem.W.Frag) (tl : TE) : TI := fun σ H R => tl σ H fun x H1 => ∃ a, x = .ref a ∧ (∃ xs, SqT K H1 a xs) ∧ R (Itt K a) H1
theorem pi_list {l : Expr} {tl : TE} (hl : PE X l tl) : PI X tg l (iList X.K tl) := by
  intro pins s σ H R I h
  refine thn (hl pins s σ H _ I h) fun v s1 ⟨x, H1, I1, r1, q1⟩ => ?_
  obtain ⟨a, e, ⟨xs, hq⟩, q⟩ := q1
  subst e
  cases r1
  obtain ⟨its, rv, p, hz⟩ := I1.list hq
  refine wpAny_pyIter_list p.isList ?_
  refine ⟨s1.heap.objs.size, [s1.heap.objs.size], _, _, H1, rfl, I1.kept (t' := s1.toks) fun b o e => Heap.get?_push_of_some _ e, turn_list a _, ⟨_, Heap.get?_push_size _ rfl, rfl, rfl⟩, fun b hb => ?_, q⟩
  have e : b = s1.heap.objs.size := by simpa using hb
  subst e
  exact I1.fpOk (Nat.le_refl _) (I1.hok.fresh (Nat.le_refl _))
theorem pi_tup {l : Expr} {tl : TE} (hl : PE X l tl) : PI X tg l (iTup X.K tl) := by
  intro pins s σ H R I h
  refine thn (hl pins s σ H _ I h) fun v s1 ⟨x, H1, I1, r1, q1⟩ => ?_
  obtain ⟨a, e, ⟨xs, hq⟩, q⟩ := q1
  subst e
  cases r1
  obtain ⟨its, rv, p, hz⟩ := I1.tuple hq
  refine wpAny_pyIter_tuple (show s1.heap.IsTuple a its.toArray from p) ?_
  refine ⟨s1.heap.objs.size, [s1.heap.objs.size], _, _, H1, rfl, I1.kept (t' := s1.toks) fun b o e => Heap.get?_push_of_some _ e, turn_tuple a _, ⟨_, Heap.get?_push_size _ rfl, rfl, rfl⟩, fun b hb => ?_, q⟩
  have e : b = s1.heap.objs.size := by simpa using hb
  subst e
  exact I1.fpOk (Nat.le_refl _) (I1.hok.fresh (Nat.le_refl _))
/-! ### for -/
/-- W: the invariant by the turn and a measure; N: what the body is to reach -/
def tFor (wi : TI) (g : TG) (tb : TS) : TS := fun D σ H => wi σ H fun J H1 => ∃ W : Nat → Nat → St → Hp → Prop, (∃ m, W 0 m σ H1) ∧ ∀ i m σ H, W i m σ H →
  (J.stop i H ∧ D.nx σ H) ∨ (J.go i H ∧ ∃ N : St → Hp → Prop, (∀ σ' H', N σ' H' → ∃ m', m' < m ∧ W (i + 1) m' σ' H') ∧ ∀ x H', J.yld i H x H' → g x σ H' fun σ2 H2 => tb { D with nx := N, ct := N, bk := D.nx } σ2 H2)
/-- the records at fp as they stand -/
def pinsAt (fp : List Addr) (h : Heap) : List (Addr × Obj) := fp.filterMap fun b => (h.get? b).map fun o => (b, o)
theorem mem_pinsAt {fp : List Addr} {h : Heap} {b : Addr} {o : Obj} (hb : b ∈ fp) (e : h.get? b = some o) : (b, o) ∈ pinsAt fp h := List.mem_filterMap.mpr ⟨b, hb, by rw [e]; rfl⟩
theorem of_pinsAt {fp : List Addr} {h : Heap} {p : Addr × Obj} (hp : p ∈ pinsAt fp h) : p.1 ∈ fp ∧ h.get? p.1 = some p.2 := by
  obtain ⟨b, hb, e⟩ := List.mem_filterMap.mp hp
  cases q : h.get? b with
  | none => rw [q] at e; cases e
  | some o =>
    rw [q] at e
    have e' : (b, o) = p := Option.some.inj e
    subst e'
    exact ⟨hb, q⟩
theorem Inv.pinned {pins : List (Addr × Obj)} {σ : St} {H : Hp} {s : Shared} {fp : List Addr} (I : Inv X pins σ H s) (hf : ∀ b ∈ fp, FpOk X pins H b) (ho : ∀ b ∈ fp, ∃ o, s.heap.get? b = some o ∧ ∀ v, o.data ≠ .cell v) : Inv X (pins ++ pinsAt fp s.heap) σ H s :=
  I.pins_of fun p hp => (List.mem_append.mp hp).elim (fun z => I.pin p (List.mem_append_right _ z)) fun z => by
    obtain ⟨hb, e⟩ := of_pinsAt z
    obtain ⟨f0, f1, f2, _⟩ := hf p.1 hb
    obtain ⟨o, e', d⟩ := ho p.1 hb
    rw [e] at e'; cases e'
    exact ⟨e, f0, f1, f2, d⟩
theorem Inv.unpinned {pins pl : List (Addr × Obj)} {σ : St} {H : Hp} {s : Shared} (I : Inv X (pins ++ pl) σ H s) : Inv X pins σ H s := I.pins_of fun p hp => I.pin p (List.mem_append_right _ (List.mem_append_left _ hp))
theorem ps_for {iter : Expr} {body : List Stmt} {wi : TI} {g : TG} {tb : TS} {pos : Pos} (hp : PassesOwn (model X.prog X.w) X.A X.env X.xe) (hc : X.calm = true) (hi : PI X tg iter wi) (hg : PG X tg g) (hb : PSs X body tb)
    (hs : ∀ x, foldedSetIterable iter X.env x = pure x := by intro _; rfl) : PS X (.For tg iter body [] pos) (tFor wi g tb) := by
  intro pins s σ H D I h
  refine wpAny_For (thn (hi pins s σ H _ I h) fun v s1 h1 => thn h1 fun itv s2 h2 => ?_) hs
  obtain ⟨it, fp, tn, J, H2, e, I2, T, st2, f2, W, ⟨m0, w0⟩, turn⟩ := h2
  subst e
  -- what stays true of the iterator's objects through the loop
  have stat : ∀ {H' : Hp}, (∀ b ∈ fp, H' b = none) → ∀ b ∈ fp, FpOk X pins H' b := fun hn b hb => ⟨hn b hb, (f2 b hb).2⟩
  refine codeAny_forLoop_any (fun n s' => ∃ i σ' H', Inv X pins σ' H' s' ∧ tn i s'.heap ∧ (∀ b ∈ fp, H' b = none) ∧ W i n σ' H') ?_ m0 ⟨0, σ, H2, I2, st2, fun b hb => (f2 b hb).1, w0⟩
  rintro n s3 ⟨i, σ3, H3, I3, st3, fr3, w3⟩
  rcases turn i n σ3 H3 w3 with ⟨stop, qn⟩ | ⟨go, N, hN, step⟩
  · refine wpAny_passesOwn hp (thn (T.done X rfl rfl rfl hc i pins s3 σ3 H3 X.xe I3 (stat fr3) st3 stop) fun r s4 ⟨hr, I4⟩ => ?_)
    subst hr
    exact wpAny_execs_nil ⟨σ3, H3, I4, qn⟩
  · refine wpAny_passesOwn hp (thn (T.item X rfl rfl rfl hc i pins s3 σ3 H3 X.xe I3 (stat fr3) st3 go) fun r s4 ⟨u, hr, h4⟩ => ?_)
    subst hr
    refine wpAny_passesOwn hp (thn h4 fun _ s5 ⟨x, H5, I5, r5, y5, st5, fr5⟩ => ?_)
    have I5' := I5.pinned (stat fr5) (T.obj _ _ st5)
    refine wpAny_passesOwn hp (thn (hg _ s5 σ3 H5 x u _ I5' r5 (step x H5 y5)) fun _ s6 ⟨σ6, H6, I6, q6⟩ => ?_)
    refine wpAny_passesOwn hp (thn (hb _ s6 σ6 H6 _ I6 q6) fun f s7 q7 => ?_)
    have again : ∀ {σ7 : St} {H7 : Hp}, Inv X (pins ++ pinsAt fp s5.heap) σ7 H7 s7 → N σ7 H7 → ∃ m, m < n ∧ ∃ i σ' H', Inv X pins σ' H' s7 ∧ tn i s7.heap ∧ (∀ b ∈ fp, H' b = none) ∧ W i m σ' H' := fun {σ7 H7} I7 n7 => by
      obtain ⟨m', hm, w7⟩ := hN σ7 H7 n7
      refine ⟨m', hm, i + 1, σ7, H7, I7.unpinned, T.keep _ _ _ st5 fun b hb o e => (I7.pin (b, o) (List.mem_append_right _ (List.mem_append_right _ (mem_pinsAt hb e)))).1, fun b hb => ?_, w7⟩
      obtain ⟨o, e, d⟩ := T.obj _ _ st5 b hb
      exact (I7.pin (b, o) (List.mem_append_right _ (List.mem_append_right _ (mem_pinsAt hb e)))).2.1
    cases f with
    | next => obtain ⟨σ7, H7, I7, n7⟩ := q7; exact again I7 n7
    | cont => obtain ⟨σ7, H7, I7, n7⟩ := q7; exact again I7 n7
    | brk => obtain ⟨σ7, H7, I7, q7⟩ := q7; exact ⟨σ7, H7, I7.unpinned, q7⟩
    | ret v => obtain ⟨x7, σ7, H7, I7, r7, q7⟩ := q7; exact ⟨x7, σ7, H7, I7.unpinned, r7, q7⟩
end

/-! ### the forms one uses -/
/-- over a list that the body leaves as it is -/
theorem for_list {K : PySem.W.Frag} {a : Addr} {xs : List V} {g : TG} {tb : TS} {D : Ends} {σ : St} {H : Hp} (Pv : Nat → St → Hp → Prop) (h0 : Pv 0 σ H) (hl : ∀ i σ H, i ≤ xs.length → Pv i σ H → SqL K H a xs)
    (hs : ∀ i x σ H, xs[i]? = some x → Pv i σ H → g x σ H fun σ2 H2 => tb { D with nx := Pv (i + 1), ct := Pv (i + 1), bk := D.nx } σ2 H2) (hd : ∀ σ H, Pv xs.length σ H → D.nx σ H) :
    ∃ W : Nat → Nat → St → Hp → Prop, (∃ m, W 0 m σ H) ∧ ∀ i m σ H, W i m σ H →
      ((Itl K a).stop i H ∧ D.nx σ H) ∨ ((Itl K a).go i H ∧ ∃ N : St → Hp → Prop, (∀ σ' H', N σ' H' → ∃ m', m' < m ∧ W (i + 1) m' σ' H') ∧ ∀ x H', (Itl K a).yld i H x H' → g x σ H' fun σ2 H2 => tb { D with nx := N, ct := N, bk := D.nx } σ2 H2) := by
  refine ⟨fun i m σ H => m = xs.length - i ∧ i ≤ xs.length ∧ Pv i σ H, ⟨xs.length, by simp, Nat.zero_le _, h0⟩, ?_⟩
  rintro i m σ H ⟨rfl, hi, p⟩
  have q := hl i σ H hi p
  by_cases hlt : i < xs.length
  · refine .inr ⟨⟨xs, xs[i], q, by simp [hlt]⟩, Pv (i + 1), fun σ' H' p' => ⟨xs.length - (i + 1), by omega, rfl, hlt, p'⟩, fun x H' y => ?_⟩
    obtain ⟨e, y⟩ := y
    subst e
    exact hs i x σ _ (y xs q) p
  · have e : i = xs.length := by omega
    subst e
    exact .inl ⟨⟨xs, q, Nat.le_refl _⟩, hd σ H p⟩
end L2

namespace L2
open PySem PySem.Spec PyProof.Rows

abbrev R2 := V → V → Hp → VK → Prop
/-- a two-place operation on values: f is binaryOp op, inplaceOp op or compareOp op -/
def OpR (X : Cx) (f : Value → Value → Sem Value) (r : R2) : Prop :=
  ∀ (pins : List (Addr × Obj)) (s : Shared) (σ : St) (H : Hp) (x y : V) (v u : Value) (Q : VK), Inv X pins σ H s → RelV x v → RelV y u → r x y H Q →
    wpAny (model X.prog X.w) X.A (f v u) (EP X pins σ Q) X.xe s
/-- a one-place operation -/
def UnR (X : Cx) (f : Value → Sem Value) (r : V → Hp → VK → Prop) : Prop :=
  ∀ (pins : List (Addr × Obj)) (s : Shared) (σ : St) (H : Hp) (x : V) (v : Value) (Q : VK), Inv X pins σ H s → RelV x v → r x H Q →
    wpAny (model X.prog X.w) X.A (f v) (EP X pins σ Q) X.xe s
/-- a call of a value that is known (a builtin, a type) with values -/
def CallR (X : Cx) (f : Value) (r : List V → Hp → VK → Prop) : Prop :=
  ∀ (pins : List (Addr × Obj)) (s : Shared) (σ : St) (H : Hp) (xs : List V) (us : List Value) (Q : VK), Inv X pins σ H s → Vals xs us → r xs H Q →
    wpAny (model X.prog X.w) X.A (call f us) (EP X pins σ Q) X.xe s
def tOp (r : R2) (ta tb : TE) : TE := fun σ H Q => ta σ H fun x H1 => tb σ H1 fun y H2 => r x y H2 Q
def tUn (r : V → Hp → VK → Prop) (ta : TE) : TE := fun σ H Q => ta σ H fun x H1 => r x H1 Q
/-- ints in, under C, and a value out -/
def rI (C : Int → Int → Prop) (g : Int → Int → V) : R2 := fun x y H Q => ∃ i j, x = .int i ∧ y = .int j ∧ C i j ∧ Q (g i j) H
def rI0 (g : Int → Int → V) : R2 := fun x y H Q => ∃ i j, x = .int i ∧ y = .int j ∧ Q (g i j) H
def rU (g : Int → V) : V → Hp → VK → Prop := fun x H Q => ∃ i, x = .int i ∧ Q (g i) H

section
variable {X : Cx} {a b c : Expr} {ta tb tc : TE} {pos : Pos}

theorem binT (ha : PE X a ta) (hb : PE X b tb) {pins : List (Addr × Obj)} {s : Shared} {σ : St} {H : Hp} {R : V → V → Hp → Prop} (I : Inv X pins σ H s)
    (h : ta σ H fun x H1 => tb σ H1 fun y H2 => R x y H2) {Q : Value → Shared → Prop} {f : Value → Value → Sem Value}
    (hf : ∀ v u s2 x y H2, Inv X pins σ H2 s2 → RelV x v → RelV y u → R x y H2 → wpAny (model X.prog X.w) X.A (f v u) Q X.xe s2) :
    wpAny (model X.prog X.w) X.A (eval a X.env) (fun v s₁ => wpAny (model X.prog X.w) X.A (eval b X.env) (fun u s₂ => wpAny (model X.prog X.w) X.A (f v u) Q X.xe s₂) X.xe s₁) X.xe s := by
  refine thn (ha pins s σ H _ I h) fun v s1 ⟨x, H1, I1, r1, q1⟩ => ?_
  refine thn (hb pins s1 σ H1 _ I1 q1) fun u s2 ⟨y, H2, I2, r2, q2⟩ => ?_
  exact hf v u s2 x y H2 I2 r1 r2 q2

theorem pe_op {op : Operator} {r : R2} (ho : OpR X (binaryOp op) r) (ha : PE X a ta) (hb : PE X b tb) : PE X (.BinOp a op b pos) (tOp r ta tb) := by
  intro pins s σ H Q I h
  exact wpAny_BinOp (binT ha hb I h fun v u s2 x y H2 I2 rx ry q => ho pins s2 σ H2 x y v u Q I2 rx ry q)
theorem pe_un {op : UnaryOp} {r : V → Hp → VK → Prop} (ho : UnR X (unaryOp op) r) (ha : PE X a ta) : PE X (.UnaryOp op a pos) (tUn r ta) := by
  intro pins s σ H Q I h
  exact UnaryOp_ (thn (ha pins s σ H _ I h) fun v s1 ⟨x, H1, I1, r1, q1⟩ => ho pins s1 σ H1 x v Q I1 r1 q1)
/-! ### ints -/
theorem opI {f : Value → Value → Sem Value} {C : Int → Int → Prop} {g : Int → Int → Int}
    (rule : ∀ (i j : Int) (t u : Tok) (s : Shared) (Q : Value → Shared → Prop) (E : Value → Shared → Prop), C i j → Q (.int (g i j) s.toks) { s with toks := s.toks + 1 } → wpAny (model X.prog X.w) X.A (f (.int i t) (.int j u)) Q E s) :
    OpR X f (rI C fun i j => .int (g i j)) := by
  intro pins s σ H x y v u Q I rx ry h
  obtain ⟨i, j, rfl, rfl, hc, q⟩ := h
  obtain ⟨t, rfl⟩ := rx
  obtain ⟨t', rfl⟩ := ry
  exact rule i j t t' s _ _ hc ⟨.int (g i j), H, I.tok _, ⟨_, rfl⟩, q⟩
theorem opI0 {f : Value → Value → Sem Value} {g : Int → Int → Int}
    (rule : ∀ (i j : Int) (t u : Tok) (s : Shared) (Q : Value → Shared → Prop) (E : Value → Shared → Prop), Q (.int (g i j) s.toks) { s with toks := s.toks + 1 } → wpAny (model X.prog X.w) X.A (f (.int i t) (.int j u)) Q E s) :
    OpR X f (rI0 fun i j => .int (g i j)) := by
  intro pins s σ H x y v u Q I rx ry h
  obtain ⟨i, j, rfl, rfl, q⟩ := h
  obtain ⟨t, rfl⟩ := rx
  obtain ⟨t', rfl⟩ := ry
  exact rule i j t t' s _ _ ⟨.int (g i j), H, I.tok _, ⟨_, rfl⟩, q⟩
theorem opB0 {f : Value → Value → Sem Value} {g : Int → Int → Bool}
    (rule : ∀ (i j : Int) (t u : Tok) (s : Shared) (Q : Value → Shared → Prop) (E : Value → Shared → Prop), Q (.bool (g i j)) s → wpAny (model X.prog X.w) X.A (f (.int i t) (.int j u)) Q E s) :
    OpR X f (rI0 fun i j => .bl (g i j)) := by
  intro pins s σ H x y v u Q I rx ry h
  obtain ⟨i, j, rfl, rfl, q⟩ := h
  obtain ⟨t, rfl⟩ := rx
  obtain ⟨t', rfl⟩ := ry
  exact rule i j t t' s _ _ ⟨.bl (g i j), H, I, rfl, q⟩

def CDiv (i j : Int) : Prop := 0 < j ∧ j < 1073741824
def CMul (i j : Int) : Prop := (-(2 ^ 64) < i ∧ i < 2 ^ 64) ∨ (-(2 ^ 64) < j ∧ j < 2 ^ 64)
theorem CMul.ok {i j : Int} (h : CMul i j) : IntMulOk i j := by
  rcases h with ⟨h1, h2⟩ | ⟨h1, h2⟩
  · exact .of_left (intBits_le_64 h1 h2)
  · exact .of_right (intBits_le_64 h1 h2)
theorem op_add : OpR X (binaryOp .Add) (rI0 fun i j => .int (i + j)) := opI0 fun _ _ _ _ _ _ _ q => add_int q
theorem op_sub : OpR X (binaryOp .Sub) (rI0 fun i j => .int (i - j)) := opI0 fun _ _ _ _ _ _ _ q => sub_int q
theorem op_mul : OpR X (binaryOp .Mult) (rI CMul fun i j => .int (i * j)) := opI fun _ _ _ _ _ _ _ hc q => mul_int q hc.ok
/-- // by a positive divisor -/
theorem op_fdiv : OpR X (binaryOp .FloorDiv) (rI CDiv fun i j => .int (i / j)) := opI fun i j _ _ _ _ _ hc q => by
  have h1 : (0 : Int) < j := hc.1
  have h2 : j < 1073741824 := hc.2
  exact floordiv_int (by omega) (by rw [Int.fdiv_eq_ediv_of_nonneg i (by omega)]; exact q) (.inl (PyProof.noPylong_small (by omega)))
/-- % by a positive divisor of any size -/
theorem op_mod : OpR X (binaryOp .Mod) (rI (fun _ j => 0 < j) fun i j => .int (i % j)) := opI fun i j _ _ _ _ _ hc q => by
  have h1 : (0 : Int) < j := hc
  exact mod_int' (by omega) (by rw [Int.fmod_eq_emod_of_nonneg i (by omega)]; exact q)
theorem unI {f : Value → Sem Value} {g : Int → Int}
    (rule : ∀ (i : Int) (t : Tok) (s : Shared) (Q : Value → Shared → Prop) (E : Value → Shared → Prop), Q (.int (g i) s.toks) { s with toks := s.toks + 1 } → wpAny (model X.prog X.w) X.A (f (.int i t)) Q E s) :
    UnR X f (rU fun i => .int (g i)) := by
  intro pins s σ H x v Q I rx h
  obtain ⟨i, rfl, q⟩ := h
  obtain ⟨t, rfl⟩ := rx
  exact rule i t s _ _ ⟨.int (g i), H, I.tok _, ⟨_, rfl⟩, q⟩
theorem un_neg : UnR X (unaryOp .USub) (rU fun i => .int (-i)) := unI fun _ _ _ _ _ q => neg_int q
/-! ### bools among ints: n += (a < b) -/
end

/-! ### comparisons -/
/-- the scalars that == tells apart as data does -/
def scal : V → V → Bool
  | .non, .non => true | .non, .int _ => true | .int _, .non => true | .non, .bl _ => true | .bl _, .non => true | .non, .str _ => true | .str _, .non => true
  | .int _, .int _ => true | .bl _, .bl _ => true | .str _, .str _ => true | .byt _, .byt _ => true
  | .int _, .str _ => true | .str _, .int _ => true | .bl _, .str _ => true | .str _, .bl _ => true
  | _, _ => false
def rEq : R2 := fun x y H Q => scal x y = true ∧ Q (.bl (decide (x = y))) H
def rNe : R2 := fun x y H Q => scal x y = true ∧ Q (.bl (!decide (x = y))) H

theorem dec_int {i j : Int} : decide (V.int i = V.int j) = (i == j) := by
  rw [Bool.eq_iff_iff]
  simp
theorem dec_bl {i j : Bool} : decide (V.bl i = V.bl j) = (i == j) := by
  rw [Bool.eq_iff_iff]
  simp
theorem dec_str {i j : Str} : decide (V.str i = V.str j) = (i == j) := by
  rw [Bool.eq_iff_iff]
  simp
theorem dec_byt {i j : Array UInt8} : decide (V.byt i = V.byt j) = (i.toList == j.toList) := by
  rw [Bool.eq_iff_iff]
  cases i
  cases j
  simp

section
variable {X : Cx} {a b c : Expr} {ta tb tc : TE} {pos : Pos}
theorem fin_bl {pins : List (Addr × Obj)} {σ : St} {H : Hp} {s : Shared} {Q : VK} {k k' : Bool} (I : Inv X pins σ H s) (q : Q (.bl k) H) (e : k = k') : EP X pins σ Q (.bool k') s := by
  subst e
  exact ⟨.bl k, H, I, rfl, q⟩
theorem op_eq : OpR X (compareOp .Eq) rEq := by
  intro pins s σ H x y v u Q I rx ry h
  obtain ⟨hs, q⟩ := h
  cases x with
  | non =>
    cases rx
    cases y with
    | non => cases ry; exact PySem.EqNone.eq_none_none (fin_bl I q (by simp))
    | bl j => cases ry; exact PySem.EqNone.eq_none_bool (fin_bl I q (by simp))
    | int j => obtain ⟨t', rfl⟩ := ry; exact PySem.EqNone.eq_none_int (fin_bl I q (by simp))
    | str j => obtain ⟨t', rfl⟩ := ry; exact PySem.EqNone.eq_none_str (fin_bl I q (by simp))
    | _ => exact absurd (show false = true from hs) Bool.false_ne_true
  | bl i =>
    cases rx
    cases y with
    | non => cases ry; exact PySem.EqNone.eq_bool_none (fin_bl I q (by simp))
    | bl j => cases ry; exact eq_bool (fin_bl I q dec_bl)
    | str j => obtain ⟨t', rfl⟩ := ry; exact PySem.EqMixed.eq_bool_str (fin_bl I q (by simp))
    | _ => exact absurd (show false = true from hs) Bool.false_ne_true
  | int i =>
    obtain ⟨t, rfl⟩ := rx
    cases y with
    | non => cases ry; exact PySem.EqNone.eq_int_none (fin_bl I q (by simp))
    | int j => obtain ⟨t', rfl⟩ := ry; exact eq_int (fin_bl I q dec_int)
    | str j => obtain ⟨t', rfl⟩ := ry; exact PySem.EqMixed.eq_int_str (fin_bl I q (by simp))
    | _ => exact absurd (show false = true from hs) Bool.false_ne_true
  | str i =>
    obtain ⟨t, rfl⟩ := rx
    cases y with
    | non => cases ry; exact PySem.EqNone.eq_str_none (fin_bl I q (by simp))
    | bl j => cases ry; exact PySem.EqMixed.eq_str_bool (fin_bl I q (by simp))
    | int j => obtain ⟨t', rfl⟩ := ry; exact PySem.EqMixed.eq_str_int (fin_bl I q (by simp))
    | str j => obtain ⟨t', rfl⟩ := ry; exact eq_str (fin_bl I q dec_str)
    | _ => exact absurd (show false = true from hs) Bool.false_ne_true
  | byt i =>
    obtain ⟨t, rfl⟩ := rx
    cases y with
    | byt j => obtain ⟨t', rfl⟩ := ry; exact PySem.W.eq_bytes (fin_bl I q dec_byt)
    | _ => exact absurd (show false = true from hs) Bool.false_ne_true
  | _ => cases y <;> exact absurd (show false = true from hs) Bool.false_ne_true
theorem op_ne : OpR X (compareOp .NotEq) rNe := by
  intro pins s σ H x y v u Q I rx ry h
  obtain ⟨hs, q⟩ := h
  cases x with
  | non =>
    cases rx
    cases y with
    | non => cases ry; exact PySem.EqNone.ne_none_none (fin_bl I q (by simp))
    | bl j => cases ry; exact PySem.EqNone.ne_none_bool (fin_bl I q (by simp))
    | int j => obtain ⟨t', rfl⟩ := ry; exact PySem.EqNone.ne_none_int (fin_bl I q (by simp))
    | str j => obtain ⟨t', rfl⟩ := ry; exact PySem.EqNone.ne_none_str (fin_bl I q (by simp))
    | _ => exact absurd (show false = true from hs) Bool.false_ne_true
  | bl i =>
    cases rx
    cases y with
    | non => cases ry; exact PySem.EqNone.ne_bool_none (fin_bl I q (by simp))
    | bl j => cases ry; exact ne_bool (fin_bl I q (congrArg not dec_bl))
    | str j => obtain ⟨t', rfl⟩ := ry; exact PySem.EqMixed.ne_bool_str (fin_bl I q (by simp))
    | _ => exact absurd (show false = true from hs) Bool.false_ne_true
  | int i =>
    obtain ⟨t, rfl⟩ := rx
    cases y with
    | non => cases ry; exact PySem.EqNone.ne_int_none (fin_bl I q (by simp))
    | int j => obtain ⟨t', rfl⟩ := ry; exact ne_int (fin_bl I q (congrArg not dec_int))
    | str j => obtain ⟨t', rfl⟩ := ry; exact PySem.EqMixed.ne_int_str (fin_bl I q (by simp))
    | _ => exact absurd (show false = true from hs) Bool.false_ne_true
  | str i =>
    obtain ⟨t, rfl⟩ := rx
    cases y with
    | non => cases ry; exact PySem.EqNone.ne_str_none (fin_bl I q (by simp))
    | bl j => cases ry; exact PySem.EqMixed.ne_str_bool (fin_bl I q (by simp))
    | int j => obtain ⟨t', rfl⟩ := ry; exact PySem.EqMixed.ne_str_int (fin_bl I q (by simp))
    | str j => obtain ⟨t', rfl⟩ := ry; exact ne_str (fin_bl I q (congrArg not dec_str))
    | _ => exact absurd (show false = true from hs) Bool.false_ne_true
  | byt i =>
    obtain ⟨t, rfl⟩ := rx
    cases y with
    | byt j => obtain ⟨t', rfl⟩ := ry; exact PySem.W.ne_bytes (fin_bl I q (congrArg not dec_byt))
    | _ => exact absurd (show false = true from hs) Bool.false_ne_true
  | _ => cases y <;> exact absurd (show false = true from hs) Bool.false_ne_true

theorem op_lt : OpR X (compareOp .Lt) (rI0 fun i j => .bl (decide (i < j))) := opB0 fun _ _ _ _ _ _ _ q => lt_int q
theorem op_le : OpR X (compareOp .LtE) (rI0 fun i j => .bl (decide (i ≤ j))) := opB0 fun _ _ _ _ _ _ _ q => le_int q
theorem op_gt : OpR X (compareOp .Gt) (rI0 fun i j => .bl (decide (j < i))) := opB0 fun _ _ _ _ _ _ _ q => gt_int q
theorem op_ge : OpR X (compareOp .GtE) (rI0 fun i j => .bl (decide (j ≤ i))) := opB0 fun _ _ _ _ _ _ _ q => ge_int q
/-- two rules for one operation: by cases -/
theorem OpR.or {f : Value → Value → Sem Value} {r r' : R2} (h : OpR X f r) (h' : OpR X f r') : OpR X f (fun x y H Q => r x y H Q ∨ r' x y H Q) := by
  intro pins s σ H x y v u Q I rx ry q
  rcases q with q | q
  · exact h pins s σ H x y v u Q I rx ry q
  · exact h' pins s σ H x y v u Q I rx ry q

theorem nomark (b : Expr) {op : CmpOp} (h : op ≠ .In := by decide) (h2 : op ≠ .NotIn := by decide) : behindInMarks op b = false := by
  have e1 : (op == CmpOp.In) = false := by cases op <;> first | rfl | exact absurd rfl h
  have e2 : (op == CmpOp.NotIn) = false := by cases op <;> first | rfl | exact absurd rfl h2
  cases b <;> simp [behindInMarks, e1, e2]
/-- a comparison as a value; hm: nomark b, or (for in, not in) by with_unfolding_all rfl -/
theorem pe_cmpR {op : CmpOp} {r : R2} (ho : OpR X (compareOp op) r) (ha : PE X a ta) (hb : PE X b tb) (hm : behindInMarks op b = false) : PE X (.Compare a [op] [b] pos) (tOp r ta tb) := by
  intro pins s σ H Q I h
  exact wpAny_Compare1 (binT ha hb I h fun v u s2 x y H2 I2 rx ry q => ho pins s2 σ H2 x y v u Q I2 rx ry q) hm
/-- a reading of a value as a test -/
def tTest (t : TE) : TT := fun σ H Q => t σ H fun x H' => ∃ k, x = .bl k ∧ Q k H'
theorem pt_cmpR {op : CmpOp} {r : R2} (ho : OpR X (compareOp op) r) (ha : PE X a ta) (hb : PE X b tb) (hm : behindInMarks op b = false) : PT X (.Compare a [op] [b] pos) (tTest (tOp r ta tb)) := by
  intro pins s σ H Q I h
  refine wpAny_isTrue_Compare1 (thn (ha pins s σ H _ I h) fun v s1 ⟨x, H1, I1, r1, q1⟩ => thn (hb pins s1 σ H1 _ I1 q1) fun u s2 ⟨y, H2, I2, r2, q2⟩ =>
    thn (ho pins s2 σ H2 x y v u _ I2 r1 r2 q2) fun c s3 ⟨z, H3, I3, r3, k, e, q3⟩ => ?_) hm
  subst e
  cases r3
  exact wpAny_truthy_bool ⟨H3, I3, q3⟩
/-- a op1 b op2 c -/
def tChain (r r' : R2) (ta tb tc : TE) : TE := fun σ H Q => ta σ H fun x H1 => tb σ H1 fun y H2 => r x y H2 fun z H3 => ∃ k, z = .bl k ∧
  (if k = true then tc σ H3 fun w' H4 => r' y w' H4 Q else Q (.bl false) H3)
theorem pe_chain {op op' : CmpOp} {r r' : R2} (ho : OpR X (compareOp op) r) (ho' : OpR X (compareOp op') r') (ha : PE X a ta) (hb : PE X b tb) (hc : PE X c tc)
    (hm : lastMarks [op, op'] [b, c] = false := by with_unfolding_all rfl) : PE X (.Compare a [op, op'] [b, c] pos) (tChain r r' ta tb tc) := by
  intro pins s σ H Q I h
  refine Compare_chain (thn (ha pins s σ H _ I h) fun v s1 ⟨x, H1, I1, r1, q1⟩ => chain_link (thn (hb pins s1 σ H1 _ I1 q1) fun u s2 ⟨y, H2, I2, r2, q2⟩ =>
    thn (ho pins s2 σ H2 x y v u _ I2 r1 r2 q2) fun d s3 ⟨z, H3, I3, r3, k, e, q3⟩ => ?_)) hm
  subst e
  cases r3
  refine wpAny_truthy_bool ?_
  cases k with
  | false => exact ite_ff ⟨.bl false, H3, I3, rfl, q3⟩
  | true => exact ite_tt (chain_last (thn (hc pins s3 σ H3 _ I3 q3) fun w' s4 ⟨z', H4, I4, r4, q4⟩ => ho' pins s4 σ H4 y z' u w' Q I4 r2 r4 q4))
/-! ### truth -/
theorem line63 : (sizeLine : Nat) < 2 ^ 63 := by rw [sizeLine_eq]; decide
/-! ### strs and bytes -/
/-! ### scalar builtins, by CallR -/
theorem vals1 {x : V} {us : List Value} (r : Vals [x] us) : ∃ u, us = [u] ∧ RelV x u := by
  cases r with
  | cons r1 r2 => cases r2; exact ⟨_, rfl, r1⟩
end
end L2

namespace L2
open PySem PySem.Spec PyProof.Rows

/-! ### an instance, its attributes a map -/
structure ObjM (h : Heap) (x dx C : Addr) (mA : Str → Option Value) : Prop where
  obj : h.get? x = some (PySem.W.instObj C dx)
  ns : h.Ns1 dx mA
  ne : dx ≠ x

theorem lookIn_ns {h : Heap} {dx : Addr} {mA : Str → Option Value} (n : h.Ns1 dx mA) : ∃ od, h.get? dx = some od ∧ ∀ name, PySem.W.lookIn name od = some (mA name) := by
  obtain ⟨o, es, ep, ho, hd, hk, _, hm⟩ := n
  refine ⟨o, ho, fun name => ?_⟩
  have e := hm name
  unfold nsFind findBy at e
  rw [← Array.find?_toList] at e
  unfold PySem.W.lookIn
  rw [hd]
  dsimp only
  split
  · rename_i y q
    rw [q] at e
    exact congrArg some e
  · rename_i q
    rw [q] at e
    have a : es.toList.any (·.refKey) = false := by
      rw [List.any_eq_false]
      intro y hy
      obtain ⟨z, t, hkey⟩ := hk y (Array.mem_toList_iff.mp hy)
      simp [DictEntry.refKey, hkey]
    have a' : ¬ es.toList.any (·.refKey) = true := by rw [a]; exact Bool.false_ne_true
    rw [if_neg a']
    exact congrArg some e

theorem ObjM.look {h : Heap} {x dx C : Addr} {mA : Str → Option Value} (I : ObjM h x dx C mA) : ∃ od, PySem.W.InstAt h x (PySem.W.instObj C dx) C (some od) ∧ ∀ name, PySem.W.lookIn name od = some (mA name) :=
  let ⟨od, ho, hl⟩ := lookIn_ns I.ns
  ⟨od, ⟨I.obj, rfl, rfl, ho⟩, hl⟩

section
variable {prog : Program} {w : World} {A : Around} {E : Value → Shared → Prop} {s : Shared} {K : PySem.W.Frag} {x dx C f : Addr} {mA : Str → Option Value} {name : Str} {v : Value}

theorem get_map {expr : Bool} {Q : Value → Shared → Prop} (X : K.In s.heap) (I : ObjM s.heap x dx C mA) (hg : PySem.W.plainGet K C name = true) (hh : PySem.W.hasDictIn K C = true)
    (ha : PySem.W.findIn K (.ref C) name = some none) (hv : mA name = some v) (hv' : PySem.W.handedIn v = true) (h : Q v { s with toks := s.toks + 1 }) :
    wpAny (model prog w) A (getAttr (.ref x) name expr) Q E s := by
  obtain ⟨od, J, hl⟩ := I.look
  exact PySem.W.get_value X J (PySem.W.plainGet_of hg).1 (PySem.W.findObj_own hh ha rfl (by rw [hl, hv])) hv' h

theorem get_meth {pl : Sem Bool} {Q : Value × List Value → Shared → Prop} (X : K.In s.heap) (I : ObjM s.heap x dx C mA) (hg : PySem.W.plainGet K C name = true)
    (hf : PySem.W.findIn K (.ref C) name = some (some (.ref f))) (ht : PySem.W.isFn K (.ref f) = true) (hv : mA name = none) (h : Q (.ref f, [.ref x]) s) :
    wpAny (model prog w) A (getMethod (.ref x) name pl) Q E s := by
  obtain ⟨od, J, hl⟩ := I.look
  exact PySem.W.method_fn X J (PySem.W.plainGet_of hg).1 (PySem.W.plainGet_of hg).2 hf (beq_iff_eq.mp ht) (by show (PySem.W.lookIn name od).map (·.isSome) = some false; rw [hl, hv]; rfl) h

theorem set_map {ns : List Str} {Q : Unit → Shared → Prop} (X : K.In s.heap) (I : ObjM s.heap x dx C mA)
    (hs : PySem.W.findIn K (.ref C) "__setattr__" = some (some (.builtin "object.__setattr__"))) (hp : PySem.W.plainOver K C = true) (ht : PySem.W.takerIn K C name = some none) (hh : PySem.W.hasDictIn K C = true)
    (hw : PySem.Within mA ns) (hsz : ns.length ≤ sizeLine)
    (h : ∀ h', ObjM h' x dx C (fun y => if y = name then some v else mA y) → Heap.SameBut dx s.heap h' → Q () { s with heap := h', toks := s.toks + 2 }) :
    wpAny (model prog w) A (setAttr (.ref x) name v) Q E s := by
  obtain ⟨od, J, hl⟩ := I.look
  refine PySem.W.set_plain X J hs (PySem.W.osa_open (s := { s with toks := s.toks + 1 }) (r := none) X J hp ht fun b => ?_)
  obtain ⟨cd, hc, hd'⟩ := PySem.W.any_some hh
  have hx : s.heap.get? x = some ⟨.ref C, some dx, .plain, #[]⟩ := I.obj
  refine wpAny_bind (wpAny_pure (wpAny_bind (wpAny_bind (wpAny_loadPart hx (wpAny_bind (PySem.W.Looks.here (s := { s with toks := s.toks + 1 }) (PySem.W.looks_clsIn X hc) ?_))))))
  rw [hd']
  refine wpAny_pure (a := some dx) (wpAny_bind (wpAny_pure (wpAny_bind ?_)))
  refine wpAny_nsSet1 (s := { s with toks := s.toks + 1 }) I.ns fun h' hn2 hs2 => ?_
  obtain ⟨oD, esD, epD, hoD, hdD, hcD⟩ := hn2.count (PySem.Within.cons name v hw)
  refine wpAny_bind (wpAny_lookBehind hoD (by rw [hdD]; exact pastItsLine_dict (Nat.le_trans hcD (by rw [List.length_cons]; omega))) ?_)
  exact wpAny_pure (h _ ⟨(hs2.2 _ (Ne.symm I.ne)).trans I.obj, hn2, I.ne⟩ hs2)

/-- C(..): the dict at the heap's end, the instance behind it; then its __init__ -/
theorem make_map {R : Result → Shared → Prop} {vs : List Value} {kw : List (Str × Value)} (X : K.In s.heap) (hm : PySem.W.makesIn K C = true)
    (hi : PySem.W.findIn K (.ref C) "__init__" = some (some (.ref f))) (hf : PySem.W.typeIn K (.ref f) = some (.type "function"))
    (h : codeAny (model prog w) (A.under (.builtin "type.__call__" ⟨.ref C :: vs, kw⟩)) (.call (.ref f) ⟨.ref (s.heap.objs.size + 1) :: vs, kw⟩) (PySem.W.InitBack (s.heap.objs.size + 1) R)
      { s with heap := (s.heap.push PySem.W.emptyDict).push (PySem.W.instObj C s.heap.objs.size) }) :
    codeAny (model prog w) A (.call (.ref C) ⟨vs, kw⟩) R s := by
  obtain ⟨hh, g, d, t, os⟩ := s
  exact PySem.W.make_core (PySem.W.makes_of X hm) (PySem.W.looks_findIn X hi) (fun self => PySem.W.bind_fn X self hf) (.inl rfl) h
end

/-! ### the attributes as a list of pairs -/
def putF (f : Str) (v : V) : List (Str × V) → List (Str × V)
  | [] => [(f, v)]
  | (g, x) :: r => if g = f then (g, v) :: r else (g, x) :: putF f v r
theorem lookup_putF (f g : Str) (v : V) : ∀ fs : List (Str × V), (putF f v fs).lookup g = if g = f then some v else fs.lookup g
  | [] => by
    show List.lookup g [(f, v)] = _
    by_cases h : g = f
    · have hb : (g == f) = true := beq_iff_eq.mpr h
      simp only [List.lookup, hb, if_pos h]
    · have hb : (g == f) = false := beq_eq_false_iff_ne.mpr h
      simp only [List.lookup, hb, if_neg h]
  | (k, x) :: r => by
    have ih := lookup_putF f g v r
    rw [show putF f v ((k, x) :: r) = (if k = f then (k, v) :: r else (k, x) :: putF f v r) from rfl]
    by_cases hk : k = f
    · rw [if_pos hk]
      by_cases h : g = k
      · have hb : (g == k) = true := beq_iff_eq.mpr h
        simp only [List.lookup, hb, if_pos (h.trans hk)]
      · have hb : (g == k) = false := beq_eq_false_iff_ne.mpr h
        simp only [List.lookup, hb, if_neg (fun e : g = f => h (e.trans hk.symm))]
    · rw [if_neg hk]
      by_cases h : g = k
      · have hb : (g == k) = true := beq_iff_eq.mpr h
        simp only [List.lookup, hb, if_neg (fun e : g = f => hk (h.symm.trans e))]
      · have hb : (g == k) = false := beq_eq_false_iff_ne.mpr h
        simp only [List.lookup, hb]
        exact ih
theorem keys_putF (f : Str) (v : V) : ∀ fs : List (Str × V), f ∈ (putF f v fs).map (·.1) ∧ ∀ g, g ∈ fs.map (·.1) → g ∈ (putF f v fs).map (·.1)
  | [] => ⟨by simp [putF], fun g h => by simp at h⟩
  | (k, x) :: r => by
    obtain ⟨i1, i2⟩ := keys_putF f v r
    rw [show putF f v ((k, x) :: r) = (if k = f then (k, v) :: r else (k, x) :: putF f v r) from rfl]
    by_cases hk : k = f
    · rw [if_pos hk]
      subst hk
      exact ⟨by simp, fun g h => by simpa using h⟩
    · rw [if_neg hk]
      refine ⟨?_, fun g h => ?_⟩
      · rw [List.map_cons]
        exact List.mem_cons_of_mem _ i1
      · rw [List.map_cons] at h ⊢
        rcases List.mem_cons.mp h with e | e
        · exact List.mem_cons.mpr (.inl e)
        · exact List.mem_cons_of_mem _ (i2 g e)
theorem length_putF (f : Str) (v : V) : ∀ fs : List (Str × V), (putF f v fs).length ≤ fs.length + 1
  | [] => by simp [putF]
  | (k, x) :: r => by
    have ih := length_putF f v r
    rw [show putF f v ((k, x) :: r) = (if k = f then (k, v) :: r else (k, x) :: putF f v r) from rfl]
    by_cases hk : k = f
    · rw [if_pos hk, List.length_cons, List.length_cons]; omega
    · rw [if_neg hk, List.length_cons, List.length_cons]; omega

theorem RelO.some_of {v : V} {o : Option Value} (r : RelO (some v) o) : ∃ u, o = some u ∧ RelV v u := by
  cases o with
  | none => exact (show False from r).elim
  | some u => exact ⟨u, rfl, r⟩
theorem RelO.none_of {o : Option Value} (r : RelO none o) : o = none := by
  cases o with
  | none => rfl
  | some u => exact (show False from r).elim
theorem handed_of {v : V} {u : Value} (r : RelV v u) : PySem.W.handedIn u = true := by
  cases v with
  | non => cases (show u = Value.none from r); rfl
  | bl b => cases (show u = Value.bool b from r); rfl
  | int i => obtain ⟨t, e⟩ := (show ∃ t, u = Value.int i t from r); cases e; rfl
  | str x => obtain ⟨t, e⟩ := (show ∃ t, u = Value.str x t from r); cases e; rfl
  | byt b => obtain ⟨t, e⟩ := (show ∃ t, u = Value.bytes b t from r); cases e; rfl
  | flt b => obtain ⟨t, e⟩ := (show ∃ t, u = Value.float b t from r); cases e; rfl
  | ref a => cases (show u = Value.ref a from r); rfl
  | ty n => cases (show u = Value.type n from r); rfl

section
variable {P : Program} {w : World} {H H' : Hp} {h h' : Heap} {a C dx : Addr} {fs fs' : List (Str × V)}
theorem ins_get (hok : HOk P w H h) (e : H a = some (.ins C dx fs)) : ∃ mA, ObjM h a dx C mA ∧ (∀ f, RelO (fs.lookup f) (mA f)) ∧ PySem.Within mA (fs.map (·.1)) ∧ fs.length ≤ 1000 ∧ H dx = some (.own a) := by
  obtain ⟨d, z, ne, ob, mA, n, r, q⟩ := (show ObjOk P w H h a (.ins C dx fs) from hok a _ e)
  exact ⟨mA, ⟨ob, n, ne⟩, r, q, z, d⟩
end

/-! ### what of the text a class must have -/
structure Cls (K : PySem.W.Frag) (C : Addr) : Prop where
  pg : PySem.W.plainGet K C Str.empty = true
  hd : PySem.W.hasDictIn K C = true
  po : PySem.W.plainOver K C = true
  sa : PySem.W.findIn K (.ref C) "__setattr__" = some (some (.builtin "object.__setattr__"))
theorem Cls.get {K : PySem.W.Frag} {C : Addr} (c : Cls K C) (f : Str) : PySem.W.plainGet K C f = true := c.pg
/-- no class of it has the name -/
def NoAttr (K : PySem.W.Frag) (C : Addr) (f : Str) : Prop := PySem.W.findIn K (.ref C) f = some none
theorem NoAttr.taker {K : PySem.W.Frag} {C : Addr} {f : Str} (n : NoAttr K C f) : PySem.W.takerIn K C f = some none := by
  unfold PySem.W.takerIn
  rw [show PySem.W.findIn K (.ref C) f = some none from n]
  rfl
/-- a method: a plain def of the class or of one above it -/
structure Meth (K : PySem.W.Frag) (C : Addr) (m : Str) (f : Addr) : Prop where
  at_ : PySem.W.findIn K (.ref C) m = some (some (.ref f))
  fn : PySem.W.isFn K (.ref f) = true
  kp : PySem.W.keepIn K (.ref f) = true

section
variable {X : Cx} {pins : List (Addr × Obj)} {σ : St} {H : Hp} {s : Shared} {a C dx : Addr} {fs : List (Str × V)} {f : Str} {v : V} {A : Around} {E : Value → Shared → Prop}

theorem getattr_ok {b : Bool} {Q : Value → Shared → Prop} (I : Inv X pins σ H s) (e : H a = some (.ins C dx fs)) (c : Cls X.K C) (n : NoAttr X.K C f) (l : fs.lookup f = some v)
    (h : ∀ u s', Inv X pins σ H s' → RelV v u → Q u s') : wpAny (model X.prog X.w) A (getAttr (.ref a) f b) Q E s := by
  obtain ⟨mA, O, r, _, _, _⟩ := ins_get I.hok e
  obtain ⟨u, hu, ru⟩ := RelO.some_of (v := v) (o := mA f) (by rw [← l]; exact r f)
  exact get_map I.kIn O (c.get f) c.hd n hu (handed_of ru) (h u _ (I.tok _) ru)

theorem getmeth_ok {m : Str} {g : Addr} {pl : Sem Bool} {Q : Value × List Value → Shared → Prop} (I : Inv X pins σ H s) (e : H a = some (.ins C dx fs)) (c : Cls X.K C) (k : Meth X.K C m g) (l : fs.lookup m = none)
    (h : Q (.ref g, [.ref a]) s) : wpAny (model X.prog X.w) A (getMethod (.ref a) m pl) Q E s := by
  obtain ⟨mA, O, r, _, _, _⟩ := ins_get I.hok e
  have hn : mA m = none := RelO.none_of (by rw [← l]; exact r m)
  exact get_meth I.kIn O (c.get m) k.at_ k.fn hn h

theorem setattr_ok {y : V} {u : Value} {Q : Unit → Shared → Prop} (I : Inv X pins σ H s) (e : H a = some (.ins C dx fs)) (c : Cls X.K C) (n : NoAttr X.K C f) (hl : fs.length < 1000) (ry : RelV y u)
    (h : ∀ s', Inv X pins σ (upd H a (.ins C dx (putF f y fs))) s' → Q () s') : wpAny (model X.prog X.w) A (setAttr (.ref a) f u) Q E s := by
  obtain ⟨mA, O, r, wi, _, ho⟩ := ins_get I.hok e
  have hz : (fs.map (·.1)).length ≤ sizeLine := by rw [List.length_map, sizeLine_eq]; omega
  refine set_map I.kIn O c.sa c.po n.taker c.hd wi hz fun h' O' sb => h _ ?_
  have hd : ∃ o, h'.get? dx = some o := let ⟨o, _, _, e', _⟩ := O'.ns; ⟨o, e'⟩
  refine I.write (x := a) (e := dx) (by rw [e]; exact True.intro) (.inr ho) (fun b q hb z => (sb.2 b hb).trans z) hd ?_
  refine ⟨by rw [upd_ne O.ne]; exact ho, ?_, O.ne, O'.obj, _, O'.ns, fun g => ?_, fun g hg => ?_⟩
  · have := length_putF f y fs; omega
  · show RelO ((putF f y fs).lookup g) (if g = f then some u else mA g)
    rw [lookup_putF]
    by_cases q : g = f
    · rw [if_pos q, if_pos q]; exact ry
    · rw [if_neg q, if_neg q]; exact r g
  · by_cases q : g = f
    · rw [q]; exact (keys_putF f y fs).1
    · refine (keys_putF f y fs).2 g (wi g fun z => hg ?_)
      show (if g = f then some u else mA g) = none
      rw [if_neg q]; exact z

/-- a new instance, tracked, without attributes -/
theorem Inv.made (I : Inv X pins σ H s) : Inv X pins σ (upd (upd H s.heap.objs.size (.own (s.heap.objs.size + 1))) (s.heap.objs.size + 1) (.ins C s.heap.objs.size []))
    { s with heap := (s.heap.push PySem.W.emptyDict).push (PySem.W.instObj C s.heap.objs.size) } := by
  have e1 : (s.heap.push PySem.W.emptyDict).get? s.heap.objs.size = some PySem.W.emptyDict := Heap.get?_push_size s.heap rfl
  have e2 : ((s.heap.push PySem.W.emptyDict).push (PySem.W.instObj C s.heap.objs.size)).get? (s.heap.objs.size + 1) = some (PySem.W.instObj C s.heap.objs.size) := by
    have := Heap.get?_push_size (s.heap.push PySem.W.emptyDict) (o := PySem.W.instObj C s.heap.objs.size) rfl
    rwa [Heap.size_push] at this
  have e3 : (s.heap.push PySem.W.emptyDict).Ns s.heap.objs.size (fun _ => none) := ⟨PySem.W.emptyDict, #[], _, e1, rfl, (fun e he => absurd he (by simp)), fun _ => rfl⟩
  have I1 := I.laid (a := s.heap.objs.size) (o := .own (s.heap.objs.size + 1)) (h' := s.heap.push PySem.W.emptyDict) (t' := s.toks) (fun b u q => Heap.get?_push_of_some _ q) (Nat.le_refl _) ⟨_, e1⟩
  refine I1.laid (a := s.heap.objs.size + 1) (o := .ins C s.heap.objs.size []) (t' := s.toks) (fun b u q => Heap.get?_push_of_some _ q) (Nat.le_of_eq (Heap.size_push _ _)) ?_
  have ne : s.heap.objs.size ≠ s.heap.objs.size + 1 := Nat.ne_of_lt (Nat.lt_succ_self _)
  refine ⟨by rw [upd_ne ne, upd_same], Nat.zero_le _, ne, e2, fun _ => none, (Heap.Ns1.of_empty e3).at fun o q => Heap.get?_push_of_some _ q, fun _ => True.intro, fun y hy => absurd rfl hy⟩

/-- e.f where nothing but the object is asked: through attributeBase (super) and the last hold -/
theorem attr_of {prog : Program} {w : World} {env : Env} {e : Expr} {f : Str} {pos : Pos} {s : Shared} {Q : Value → Shared → Prop} (hb : attributeBase e f env (eval e env) = eval e env)
    (h : wpAny (model prog w) A (eval e env) (fun o s₁ => wpAny (model prog w) A (getAttr o f true) Q E s₁) E s) : wpAny (model prog w) A (eval (.Attribute e f pos) env) Q E s :=
  Attribute_any_ h (by rw [arm_eval_Attribute, hb])
end

/-! ### readings and rules -/
/-- e.f, an attribute of the instance -/
def tFld (K : PySem.W.Frag) (ta : TE) (f : Str) : TE := fun σ H Q => ta σ H fun x H1 => ∃ a C dx fs v, x = .ref a ∧ H1 a = some (.ins C dx fs) ∧ Cls K C ∧ NoAttr K C f ∧ fs.lookup f = some v ∧ Q v H1
/-- e.f = value -/
def sFld (K : PySem.W.Frag) (ta tv : TE) (f : Str) : TS := fun D σ H => tv σ H fun y H1 => ta σ H1 fun x H2 => ∃ a C dx fs, x = .ref a ∧ H2 a = some (.ins C dx fs) ∧ Cls K C ∧ NoAttr K C f ∧ fs.length < 1000 ∧
  D.nx σ (upd H2 a (.ins C dx (putF f y fs)))
section
variable {X : Cx} {o e value : Expr} {f : Str} {pos pos' tpos : Pos} {ta tv : TE}
theorem pe_fld (he : PE X e ta) (hb : attributeBase e f X.env (eval e X.env) = eval e X.env) : PE X (.Attribute e f pos) (tFld X.K ta f) := by
  intro pins s σ H Q I h
  refine attr_of hb (thn (he pins s σ H _ I h) fun u s1 ⟨x, H1, I1, rx, a, C, dx, fs, v, ex, ea, c, n, l, q⟩ => ?_)
  subst ex
  obtain rfl : u = Value.ref a := rx
  exact getattr_ok I1 ea c n l fun u' s2 I2 ru => ⟨v, H1, I2, ru, q⟩
theorem ps_fld (ha : PE X o ta) (hv : PE X value tv) (hs : swapsWith value (some (.Attribute o f pos')) pos.line X.env = pure false) : PS X (.Assign [.Attribute o f pos'] value pos) (sFld X.K ta tv f) := by
  intro pins s σ H D I h
  refine plainObj_wpAny_Assign_Attribute (thn (hv pins s σ H _ I h) fun u s1 ⟨y, H1, I1, ry, q⟩ => thn (ha pins s1 σ H1 _ I1 q) fun ov s2 ⟨x, H2, I2, rx, a, C, dx, fs, ex, ea, c, n, l, q2⟩ => ?_) hs
  subst ex
  obtain rfl : ov = Value.ref a := rx
  exact setattr_ok I2 ea c n l ry fun s3 I3 => ⟨σ, _, I3, q2⟩
end

/-! ### isinstance -/
section
variable {X : Cx} {pins : List (Addr × Obj)} {σ : St} {H : Hp} {s : Shared} {A : Around} {E : Value → Shared → Prop} {Q : Value → Shared → Prop} {c : Value} {b : Bool}
end
end L2

namespace L2
open PySem PySem.Spec PyProof.Rows

/-! ### room -/
structure Room (k : Nat) (A : Around) : Prop where
  hd : A.handled = none
  dp : A.depth + 3 * k + 5 < recursionLimit
  un : A.units + 16 * k + 200 < cLine
theorem Room.mono {j k : Nat} {A : Around} (r : Room k A) (h : j ≤ k) : Room j A := ⟨r.hd, by have := r.dp; omega, by have := r.un; omega⟩
theorem Room.deeper {k : Nat} {A : Around} (r : Room (k + 1) A) (env : Env) : Room k (A.deeper env) :=
  ⟨r.hd, by have := r.dp; show A.depth + 1 + 3 * k + 5 < _; omega, by have := r.un; show A.units + 3 + 16 * k + 200 < _; omega⟩
theorem Room.in1 {k : Nat} {A : Around} (r : Room (k + 1) A) : Room k A.in1 :=
  ⟨r.hd, by have := r.dp; show A.depth + 3 * k + 5 < _; omega, by have := r.un; show A.units + 1 + 16 * k + 200 < _; omega⟩
theorem make_depth {A : Around} {C : Addr} {us : List Value} {kw : List (Str × Value)} : (A.under (.builtin "type.__call__" ⟨.ref C :: us, kw⟩)).depth = A.depth + 1 := by
  first | rfl | simp [Around.under, Code.weight, Code.isCreation, Code.isGuard, Code.isCaller, Code.frames, Code.isFrame, guardIds]
theorem make_units {A : Around} {C : Addr} {us : List Value} {kw : List (Str × Value)} : (A.under (.builtin "type.__call__" ⟨.ref C :: us, kw⟩)).units = A.units + 1 := by
  first | rfl | simp [Around.under, Code.cUnits, Code.frames, Code.isFrame]
theorem Room.make {k : Nat} {A : Around} (r : Room (k + 1) A) (C : Addr) (us : List Value) (kw : List (Str × Value)) : Room k (A.under (.builtin "type.__call__" ⟨.ref C :: us, kw⟩)) :=
  ⟨r.hd, by have := r.dp; rw [make_depth]; omega, by have := r.un; rw [make_units]; omega⟩
theorem Room.depth {k : Nat} {A : Around} (r : Room k A) : A.depth < recursionLimit := by have := r.dp; omega
theorem Room.units {k : Nat} {A : Around} (r : Room k A) : A.units + 64 < cLine := by have := r.un; omega
/-! ### argument lists and displays -/
def tNil : TA := fun _ H Q => Q [] H
def tCons (ta : TE) (tr : TA) : TA := fun σ H Q => ta σ H fun x H1 => tr σ H1 fun xs H2 => Q (x :: xs) H2
section
variable {X : Cx} {e : Expr} {es : List Expr} {te : TE} {t : TA} {pos : Pos}
theorem pa_nil : PA X [] tNil := fun _ _ _ _ H Q I h => Calls.spliced_nil ⟨[], H, I, .nil, h⟩
theorem pa_cons (ha : PE X e te) (hr : PA X es t) (hs : starEach (e :: es) X.env = (false, eval e X.env) :: starEach es X.env := by rfl) : PA X (e :: es) (tCons te t) := by
  intro pos pins s σ H Q I h
  rw [hs]
  show wpAny _ _ (spliced ((false, eval e X.env) :: backTo pos (starEach es X.env))) _ _ s
  refine Calls.spliced_cons (thn (ha pins s σ H _ I h) fun u s1 ⟨x, H1, I1, r1, q1⟩ => ?_)
  exact thn (hr pos pins s1 σ H1 _ I1 q1) fun us s2 ⟨xs, H2, I2, r2, q2⟩ => ⟨x :: xs, H2, I2, .cons r1 r2, q2⟩

/-- a tuple, a list of written items -/
def tTup (t : TA) : TE := fun σ H Q => t σ H fun xs H1 => xs.length ≤ sizeLine ∧ ∀ p, H1 p = none → Q (.ref p) (upd H1 p (.tup xs))
def tLst (t : TA) : TE := fun σ H Q => t σ H fun xs H1 => xs.length ≤ sizeLine ∧ ∀ p, H1 p = none → Q (.ref p) (upd H1 p (.lst xs))
theorem pe_tup {x1} (h : PA X es t) : PE X (.Tuple es x1 pos) (tTup t) := by
  intro pins s σ H Q I hq
  refine wpAny_Tuple_spliced (thn (h pos pins s σ H _ I hq) fun us s1 ⟨xs, H1, I1, r, z, q⟩ => ⟨by rw [← r.length]; exact z, ?_⟩)
  have hf : H1 s1.heap.objs.size = none := I1.hok.fresh (Nat.le_refl _)
  refine ⟨.ref s1.heap.objs.size, upd H1 s1.heap.objs.size (.tup xs), I1.laid (t' := s1.toks) (fun b u e => Heap.get?_push_of_some _ e) (Nat.le_refl _) ?_, rfl, q _ hf⟩
  exact ⟨z, us, r, ⟨_, Heap.get?_push_size _ rfl, rfl, _, rfl⟩⟩
theorem pe_lst (h : PA X es t) : PE X (.List es pos) (tLst t) := by
  intro pins s σ H Q I hq
  refine wpAny_List_spliced (thn (h pos pins s σ H _ I hq) fun us s1 ⟨xs, H1, I1, r, z, q⟩ => ⟨by rw [← r.length]; exact z, ?_⟩)
  have hf : H1 s1.heap.objs.size = none := I1.hok.fresh (Nat.le_refl _)
  refine ⟨.ref s1.heap.objs.size, upd H1 s1.heap.objs.size (.lst xs), I1.laid (t' := s1.toks) (fun b u e => Heap.get?_push_of_some _ e) (Nat.le_refl _) ?_, rfl, q _ hf⟩
  exact ⟨z, us, 0, r, Heap.get?_push_size _ rfl⟩
end

/-! ### what a def promises -/
/-- a def's promise: the bound arguments in the parameters' order, the heap, the wanted end, the wanted exception -/
abbrev Sp := List V → Hp → VK → XK → Prop
/-- how an exception lies behind a call (file 08 gives it): the callers' frames, abstract heap and state ahead of the call, the wish, the exception, the state -/
abbrev CXT := List Env → Hp → Shared → XK → Value → Shared → Prop

/-- the state at a call -/
structure Env0 (P : Program) (w : World) (K : PySem.W.Frag) (mg : Str → Option Value) (base : Heap) (A : Around) (outer : List Env) (s : Shared) (H : Hp) : Prop where
  frames : A.frames = some outer
  mod : Mod K mg base
  bs : ∀ b o, base.get? b = some o → s.heap.get? b = some o ∧ H b = none
  bsz : base.objs.size ≤ s.heap.objs.size
  funs : s.heap.FunFrames base outer
  frf : ∀ b ∈ frs outer, H b = none
  hok : HOk P w H s.heap
  bare : AllBare s.gens
/-- a call's end -/
def CE (outer : List Env) (P : Program) (w : World) (H : Hp) (s : Shared) (Q : VK) (u : Value) (s' : Shared) : Prop :=
  ∃ v H', s'.os = s.os ∧ AllBare s'.gens ∧ Un (frs outer) [] H H' s.heap s'.heap ∧ HOk P w H' s'.heap ∧ RelV v u ∧ Q v H'
def CR (CX : CXT) (outer : List Env) (P : Program) (w : World) (H : Hp) (s : Shared) (Q : VK) (E : XK) (r : Result) (s' : Shared) : Prop :=
  match r with
  | .ok (.ret u) => CE outer P w H s Q u s'
  | .ok _ => False
  | .error e => CX outer H s E e s'
structure FnOk (P : Program) (w : World) (K : PySem.W.Frag) (mg : Str → Option Value) (base : Heap) (CX : CXT) (k : Nat) (f : Addr) (fd : FuncData) (ps : List Str) (sp : Sp) : Prop where
  len : ∀ vs H Q E, sp vs H Q E → vs.length = ps.length
  run : ∀ (A : Around) (outer : List Env) (s : Shared) (H : Hp) (args : Args) (us : List Value) (vs : List V) (Q : VK) (E : XK), Room k A → Env0 P w K mg base A outer s H → BindsTo s fd args (ps.zip us) → Vals vs us → sp vs H Q E →
    codeAny (model P w) A (.call (.ref f) args) (CR CX outer P w H s Q E) s
theorem FnOk.mono {P : Program} {w : World} {K : PySem.W.Frag} {mg : Str → Option Value} {base : Heap} {CX : CXT} {j k : Nat} {f : Addr} {fd : FuncData} {ps : List Str} {sp : Sp} (F : FnOk P w K mg base CX j f fd ps sp) (h : j ≤ k) :
    FnOk P w K mg base CX k f fd ps sp := ⟨F.len, fun A outer s H args us vs Q E hr => F.run A outer s H args us vs Q E (hr.mono h)⟩
theorem Env0.make {P : Program} {w : World} {K : PySem.W.Frag} {mg : Str → Option Value} {base : Heap} {A : Around} {outer : List Env} {s : Shared} {H : Hp} (e : Env0 P w K mg base A outer s H) (C : Addr) (us : List Value) (kw : List (Str × Value)) :
    Env0 P w K mg base (A.under (.builtin "type.__call__" ⟨.ref C :: us, kw⟩)) outer s H := ⟨by first | exact e.frames | (simpa [Around.under, Code.envs, Code.isFrame, pushEnvs] using e.frames), e.mod, e.bs, e.bsz, e.funs, e.frf, e.hok, e.bare⟩
theorem Env0.in1 {P : Program} {w : World} {K : PySem.W.Frag} {mg : Str → Option Value} {base : Heap} {A : Around} {outer : List Env} {s : Shared} {H : Hp} (e : Env0 P w K mg base A outer s H) :
    Env0 P w K mg base A.in1 outer s H := ⟨e.frames, e.mod, e.bs, e.bsz, e.funs, e.frf, e.hok, e.bare⟩

section
variable {X : Cx} {pins : List (Addr × Obj)} {σ : St} {H : Hp} {s s' : Shared}
/-- from a body: what a callee wants -/
theorem Inv.env0 (I : Inv X pins σ H s) : Env0 X.prog X.w X.K X.mg X.base X.A X.stack s H :=
  ⟨I.ok.frames, I.ok.mod, I.bs, Nat.le_trans I.ok.bsz I.sz, I.stack, I.stkFree, I.hok, I.bare⟩
/-- behind a call -/
theorem Inv.after {Q : VK} {u : Value} (I : Inv X pins σ H s) (h : CE X.stack X.prog X.w H s Q u s') : EP X pins σ Q u s' := by
  obtain ⟨v, H', os, bare, un, hok, r, q⟩ := h
  obtain ⟨hh, g, d, t, os'⟩ := s'
  obtain rfl : os' = s.os := os
  exact ⟨v, H', I.call (h' := hh) (g' := g) (d' := d) (t' := t) (ch := []) un hok bare (fun b z => absurd z (by simp)), r, q⟩
end

/-! ### calls -/
/-- f(..): the written arguments, then the defaults dvs; E: what is wanted of an exception -/
def tCall (sp : Sp) (dvs : List V) (E : XK) (t : TA) : TE := fun σ H Q => t σ H fun vs H1 => sp (vs ++ dvs) H1 Q E
/-- o.m(..) of an instance of the class at C -/
def tMeth (C : Addr) (m : Str) (sp : Sp) (dvs : List V) (E : XK) (ta : TE) (t : TA) : TE := fun σ H Q => ta σ H fun x H1 => ∃ a dx fs, x = .ref a ∧ H1 a = some (.ins C dx fs) ∧ fs.lookup m = none ∧
  t σ H1 fun vs H2 => sp (x :: (vs ++ dvs)) H2 Q E
/-- C(..): a new instance and its dict, then __init__ -/
def tMake (C : Addr) (sp : Sp) (dvs : List V) (E : XK) (t : TA) : TE := fun σ H Q => t σ H fun vs H1 => ∀ x dx, H1 x = none → H1 dx = none → dx ≠ x →
  sp (.ref x :: (vs ++ dvs)) (upd (upd H1 dx (.own x)) x (.ins C dx [])) (fun v H2 => v = .non ∧ Q (.ref x) H2) E

/-- how the parameters are bound: us the positional arguments, kw the keywords' values by name, ds the defaults that fill up -/
def Binds (K : PySem.W.Frag) (fd : FuncData) (ps : List Str) (ds : List Value) : Prop :=
  ∀ (s : Shared) (us : List Value), K.In s.heap → (us ++ ds).length = ps.length → BindsTo s fd ⟨us, []⟩ (ps.zip (us ++ ds))
/-- every parameter is given -/
theorem Binds.all {K : PySem.W.Frag} {fd : FuncData} {ps : List Str} (h : ∀ us : List Value, us.length = ps.length → bindArgs fd ⟨us, []⟩ = pure (ps.zip us)) : Binds K fd ps [] := fun s us _ hl => by
  rw [List.append_nil] at hl ⊢
  exact .of_eq (h us hl)

/-- an exception of a callee reaches what this body wants of exceptions -/
def Passes (CX : CXT) (X : Cx) (E : XK) : Prop := ∀ (pins : List (Addr × Obj)) (σ : St) (H : Hp) (s : Shared) (e : Value) (s' : Shared), Inv X pins σ H s → CX X.stack H s E e s' → X.xe e s'

section
variable {X : Cx} {CX : CXT} {k : Nat} {f C : Addr} {fd : FuncData} {ps : List Str} {sp : Sp} {dvs : List V} {ds : List Value} {E : XK} {x m : Str} {p pos apos : Pos} {e o : Expr} {es : List Expr} {ta : TE} {t : TA}

/-- the callee runs -/
theorem run_fn {pins : List (Addr × Obj)} {σ : St} {H : Hp} {s : Shared} {Q : VK} {us : List Value} {vs : List V} (F : FnOk X.prog X.w X.K X.mg X.base CX k f fd ps sp) (hr : Room k X.A) (hb : Binds X.K fd ps ds) (hd : Vals dvs ds) (hx : Passes CX X E)
    (I : Inv X pins σ H s) (r : Vals vs us) (h : sp (vs ++ dvs) H Q E) : wpAny (model X.prog X.w) X.A (call (.ref f) us) (EP X pins σ Q) X.xe s := by
  have r2 : Vals (vs ++ dvs) (us ++ ds) := r.append hd
  have hl : (us ++ ds).length = ps.length := by rw [← r2.length]; exact F.len _ _ _ _ h
  refine wpAny_call (codeAny_mono (F.run X.A X.stack s H ⟨us, []⟩ (us ++ ds) (vs ++ dvs) Q E hr I.env0 (hb s us I.kIn hl) r2 h) fun r s' hq => ?_)
  cases r with
  | error e => exact hx pins σ H s e s' I hq
  | ok fl =>
    cases fl with
    | ret u => exact I.after hq
    | next => exact False.elim hq
    | brk => exact False.elim hq
    | cont => exact False.elim hq

theorem pe_call (F : FnOk X.prog X.w X.K X.mg X.base CX k f fd ps sp) (hr : Room k X.A) (hg : Gl X x) (hm : X.mg x = some (.ref f)) (hk : PySem.W.keepIn X.K (.ref f) = true) (hb : Binds X.K fd ps ds) (hd : Vals dvs ds) (hx : Passes CX X E)
    (ha : PA X (e :: es) t) (hdb : (x == ("__debug__" : Str)) = false := by decide) (he : starEach (e :: es) X.env = (false, eval e X.env) :: starEach es X.env := by rfl) (hpl : (backTo pos (starEach es X.env)).any (·.1) = false := by rfl) :
    PE X (.Call (.Name x p) (e :: es) [] pos) (tCall sp dvs E t) := by
  intro pins s σ H Q I h
  refine wpAny_Call_Name_kw (ld_glob I hg hm ?_ hdb)
  refine PySem.W.callWith_K (h₀ := X.base) I.ok.mod.kin hk (thn (ha pos pins s σ H _ I h) fun us s1 ⟨vs, H1, I1, r, q⟩ => ⟨I1.kIn, ?_⟩) he hpl
  exact run_fn F hr hb hd hx I1 r q
/-- o.m(e, ..) -/
theorem pe_meth {pl : Sem Bool} (he : PE X o ta) (c : Cls X.K C) (hm : Meth X.K C m f) (F : FnOk X.prog X.w X.K X.mg X.base CX k f fd ps sp) (hr : Room k X.A) (hb : Binds X.K fd ps ds) (hd : Vals dvs ds) (hx : Passes CX X E) (ha : PA X (e :: es) t)
    (hst : starEach (e :: es) X.env = (false, eval e X.env) :: starEach es X.env := by rfl) (hpl : (backTo pos (starEach es X.env)).any (·.1) = false := by rfl)
    (ht : eval (.Call (.Attribute o m apos) (e :: es) [] pos) X.env = (do
      let ov ← eval o X.env
      standAt apos.atName
      let (f, first) ← holding [ov] (getMethod ov m pl)
      callWith pos f first (backTo pos (starEach (e :: es) X.env)) (backToKw pos (keywordEach [] X.env))) := by rfl) :
    PE X (.Call (.Attribute o m apos) (e :: es) [] pos) (tMeth C m sp dvs E ta t) := by
  intro pins s σ H Q I h
  refine PySem.W.methodCall_KW (pl := pl) (thn (he pins s σ H _ I h) fun u s1 ⟨x, H1, I1, rx, a, dx, fs, ex, ea, l, q⟩ => ?_) ht
  subst ex
  obtain rfl : u = Value.ref a := rx
  refine getmeth_ok I1 ea c hm l ?_
  refine PySem.W.callWith_K (first := [.ref a]) (h₀ := X.base) I.ok.mod.kin hm.kp (thn (ha pos pins s1 σ H1 _ I1 q) fun us s2 ⟨vs, H2, I2, r, q2⟩ => ⟨I2.kIn, ?_⟩) hst hpl
  exact run_fn (us := .ref a :: us) (vs := .ref a :: vs) F hr hb hd hx I2 (.cons rfl r) q2
/-- o.m() -/
theorem pe_meth0 {pl : Sem Bool} (he : PE X o ta) (c : Cls X.K C) (hm : Meth X.K C m f) (F : FnOk X.prog X.w X.K X.mg X.base CX k f fd ps sp) (hr : Room k X.A) (hb : Binds X.K fd ps ds) (hd : Vals dvs ds) (hx : Passes CX X E)
    (ht : eval (.Call (.Attribute o m apos) [] [] pos) X.env = (do
      let ov ← eval o X.env
      standAt apos.atName
      let (f, first) ← holding [ov] (getMethod ov m pl)
      callWith pos f first (backTo pos (starEach [] X.env)) (backToKw pos (keywordEach [] X.env))) := by rfl) :
    PE X (.Call (.Attribute o m apos) [] [] pos) (tMeth C m sp dvs E ta tNil) := by
  intro pins s σ H Q I h
  refine PySem.W.methodCall_KW (pl := pl) (thn (he pins s σ H _ I h) fun u s1 ⟨x, H1, I1, rx, a, dx, fs, ex, ea, l, q⟩ => ?_) ht
  subst ex
  obtain rfl : u = Value.ref a := rx
  refine getmeth_ok I1 ea c hm l ?_
  exact PySem.W.callWith_K0 (first := [.ref a]) I1.kIn hm.kp (run_fn (us := [.ref a]) (vs := [.ref a]) F hr hb hd hx I1 (.cons rfl .nil) q)

/-- what a class must have to be made -/
structure Mk (K : PySem.W.Frag) (C f : Addr) : Prop where
  makes : PySem.W.makesIn K C = true
  init : PySem.W.findIn K (.ref C) "__init__" = some (some (.ref f))
  fn : PySem.W.isFn K (.ref f) = true
  kp : PySem.W.keepIn K (.ref C) = true

theorem run_make {pins : List (Addr × Obj)} {σ : St} {H : Hp} {s : Shared} {Q : VK} {us : List Value} {vs : List V} (M : Mk X.K C f) (F : FnOk X.prog X.w X.K X.mg X.base CX k f fd ps sp) (hr : Room (k + 1) X.A) (hb : Binds X.K fd ps ds) (hd : Vals dvs ds)
    (hx : Passes CX X E) (I : Inv X pins σ H s) (r : Vals vs us)
    (h : ∀ x dx, H x = none → H dx = none → dx ≠ x → sp (.ref x :: (vs ++ dvs)) (upd (upd H dx (.own x)) x (.ins C dx [])) (fun v H2 => v = .non ∧ Q (.ref x) H2) E) :
    wpAny (model X.prog X.w) X.A (call (.ref C) us) (EP X pins σ Q) X.xe s := by
  have hq := h (s.heap.objs.size + 1) s.heap.objs.size (I.hok.fresh (Nat.le_succ _)) (I.hok.fresh (Nat.le_refl _)) (Nat.ne_of_lt (Nat.lt_succ_self _))
  have I2 := Inv.made (C := C) I
  have r2 : Vals (V.ref (s.heap.objs.size + 1) :: (vs ++ dvs)) (Value.ref (s.heap.objs.size + 1) :: (us ++ ds)) := .cons rfl (r.append hd)
  have hl : (Value.ref (s.heap.objs.size + 1) :: us ++ ds).length = ps.length := by
    have e := r2.length
    rw [F.len _ _ _ _ hq] at e
    exact e.symm
  refine wpAny_call (make_map (f := f) I.kIn M.makes M.init (beq_iff_eq.mp M.fn) (codeAny_mono (F.run _ X.stack _ _ ⟨Value.ref (s.heap.objs.size + 1) :: us, []⟩ (Value.ref (s.heap.objs.size + 1) :: (us ++ ds)) _ _ E (hr.make C us [])
    (I2.env0.make C us []) (hb _ (Value.ref (s.heap.objs.size + 1) :: us) I2.kIn hl) r2 hq) fun r s' hq' => ?_))
  cases r with
  | error e => exact hx pins σ _ _ e s' I2 hq'
  | ok fl =>
    cases fl with
    | ret u =>
      obtain ⟨v, H', I3, rv, ev, q3⟩ := I2.after hq'
      subst ev
      exact ⟨rv, ⟨V.ref (s.heap.objs.size + 1), H', I3, rfl, q3⟩⟩
    | next => exact False.elim hq'
    | brk => exact False.elim hq'
    | cont => exact False.elim hq'
theorem pe_make (M : Mk X.K C f) (F : FnOk X.prog X.w X.K X.mg X.base CX k f fd ps sp) (hr : Room (k + 1) X.A) (hg : Gl X x) (hm : X.mg x = some (.ref C)) (hb : Binds X.K fd ps ds) (hd : Vals dvs ds) (hx : Passes CX X E)
    (ha : PA X (e :: es) t) (hdb : (x == ("__debug__" : Str)) = false := by decide) (he : starEach (e :: es) X.env = (false, eval e X.env) :: starEach es X.env := by rfl) (hpl : (backTo pos (starEach es X.env)).any (·.1) = false := by rfl) :
    PE X (.Call (.Name x p) (e :: es) [] pos) (tMake C sp dvs E t) := by
  intro pins s σ H Q I h
  refine wpAny_Call_Name_kw (ld_glob I hg hm ?_ hdb)
  refine PySem.W.callWith_K (h₀ := X.base) I.ok.mod.kin M.kp (thn (ha pos pins s σ H _ I h) fun us s1 ⟨vs, H1, I1, r, q⟩ => ⟨I1.kIn, ?_⟩) he hpl
  exact run_make M F hr hb hd hx I1 r q
theorem pe_make0 (M : Mk X.K C f) (F : FnOk X.prog X.w X.K X.mg X.base CX k f fd ps sp) (hr : Room (k + 1) X.A) (hg : Gl X x) (hm : X.mg x = some (.ref C)) (hb : Binds X.K fd ps ds) (hd : Vals dvs ds) (hx : Passes CX X E)
    (hdb : (x == ("__debug__" : Str)) = false := by decide) : PE X (.Call (.Name x p) [] [] pos) (tMake C sp dvs E tNil) := by
  intro pins s σ H Q I h
  refine wpAny_Call_Name_kw (ld_glob I hg hm ?_ hdb)
  exact PySem.W.callWith_K0 I.kIn M.kp (run_make (us := []) M F hr hb hd hx I .nil h)
end

/-! ### keywords -/
section
variable {X : Cx} {CX : CXT} {k : Nat} {f C : Addr} {fd : FuncData} {ps ks : List Str} {sp : Sp} {E : XK} {x m : Str} {p pos apos kpos : Pos} {e o : Expr} {es : List Expr} {kws : List Keyword} {te ta : TE} {t tk : TA} {nm : Option Str}
variable {g : List Value → List Value → List Value} {gV : List V → List V → List V}
end

/-! ### a def's body keeps its promise -/
/-- names: the parameters first -/
structure FnScope (N P : List Str) (sc : Scope) : Prop where
  kind : sc.kind = .function
  co : sc.isCoroutine = false
  gen : sc.isGenerator = false
  nd : N.Nodup
  pre : N.take P.length = P
  par : ∀ x ∈ P, sc.names.lookup x = some .local ∨ sc.names.lookup x = some .cell
  nofree : ∀ y ∈ sc.names, y.2 ≠ .free

theorem bindL_out {kindOf : Str → Option NameKind} {x : Str} : ∀ {binds : List (Str × Value)} {m : Str → Option Value}, (∀ v, (x, v) ∉ binds) → bindL kindOf binds m x = m x
  | [], _, _ => rfl
  | (n, v) :: r, m, h => by
    unfold bindL
    rw [bindL_out fun w hw => h w (List.mem_cons_of_mem _ hw)]
    split
    · have : x ≠ n := by rintro rfl; exact h v List.mem_cons_self
      simp [this]
    · rfl
theorem bindC_out {kindOf : Str → Option NameKind} {x : Str} : ∀ {binds : List (Str × Value)} {m : Str → Option Value}, (∀ v, (x, v) ∉ binds) → bindC kindOf binds m x = m x
  | [], _, _ => rfl
  | (n, v) :: r, m, h => by
    unfold bindC
    rw [bindC_out fun w hw => h w (List.mem_cons_of_mem _ hw)]
    split
    · rfl
    · have : x ≠ n := by rintro rfl; exact h v List.mem_cons_self
      simp [this]
theorem bindL_get {kindOf : Str → Option NameKind} {x : Str} {v : Value} : ∀ {P : List Str} {vs : List Value} {i : Nat} {m : Str → Option Value}, P.Nodup → P[i]? = some x → vs[i]? = some v → kindOf x = some .local →
    bindL kindOf (P.zip vs) m x = some v
  | [], _, _, _, _, h, _, _ => by simp at h
  | _ :: _, [], _, _, _, _, h, _ => by simp at h
  | p :: P, w :: vs, 0, m, nd, h1, h2, hk => by
    simp at h1 h2; subst h1; subst h2
    show bindL kindOf ((p, w) :: P.zip vs) m p = _
    unfold bindL
    rw [bindL_out fun v hv => (List.nodup_cons.mp nd).1 (List.of_mem_zip hv).1, if_pos hk]
    simp
  | p :: P, w :: vs, i + 1, m, nd, h1, h2, hk => by
    show bindL kindOf ((p, w) :: P.zip vs) m x = _
    unfold bindL
    exact bindL_get (i := i) (List.nodup_cons.mp nd).2 (by simpa using h1) (by simpa using h2) hk
theorem bindC_get {kindOf : Str → Option NameKind} {x : Str} {v : Value} : ∀ {P : List Str} {vs : List Value} {i : Nat} {m : Str → Option Value}, P.Nodup → P[i]? = some x → vs[i]? = some v → kindOf x ≠ some .local →
    bindC kindOf (P.zip vs) m x = some v
  | [], _, _, _, _, h, _, _ => by simp at h
  | _ :: _, [], _, _, _, _, h, _ => by simp at h
  | p :: P, w :: vs, 0, m, nd, h1, h2, hk => by
    simp at h1 h2; subst h1; subst h2
    show bindC kindOf ((p, w) :: P.zip vs) m p = _
    unfold bindC
    rw [bindC_out fun v hv => (List.nodup_cons.mp nd).1 (List.of_mem_zip hv).1, if_neg hk]
    simp
  | p :: P, w :: vs, i + 1, m, nd, h1, h2, hk => by
    show bindC kindOf ((p, w) :: P.zip vs) m x = _
    unfold bindC
    exact bindC_get (i := i) (List.nodup_cons.mp nd).2 (by simpa using h1) (by simpa using h2) hk

/-- the names' values at the entry -/
def start (N : List Str) (vs : List V) : St := vs.map some ++ List.replicate (N.length - vs.length) none

/-- the context of a def's body, at its entry; an exception leaves the frame, then lies as CX says -/
def cxOf (CX : CXT) (P : Program) (w : World) (K : PySem.W.Frag) (mg : Str → Option Value) (base : Heap) (N : List Str) (qual : Str) (scope : Scope) (f : Addr) (cd : Value) (A : Around) (outer : List Env) (s : Shared) (H : Hp) (E : XK) : Cx where
  prog := P
  w := w
  K := K
  mg := mg
  base := base
  A := A.deeper (envOfC qual scope s.heap.objs.size f cd)
  N := N
  s₀ := s
  H₀ := H
  env := envOfC qual scope s.heap.objs.size f cd
  outer := outer
  stack := envOfC qual scope s.heap.objs.size f cd :: outer
  ex := []
  calm := true
  fn := fun _ => true
  pn := []
  xe := fun e s' => wpAny (model P w) (A.deeper (envOfC qual scope s.heap.objs.size f cd)) (leaving (envOfC qual scope s.heap.objs.size f cd) e) (fun _ s'' => CX outer H s E e s'') (fun e' s'' => CX outer H s E e' s'') s'

theorem cell_has {sc : Scope} {n : Nat} {x : Str} (h : sc.names.lookup x = some .cell) : ∃ c, (cellsFrom n sc.names []).lookup x = some c := by
  have q := PySem.W.cellsFrom_some sc.names n [] (.inl h)
  exact Option.isSome_iff_exists.mp q

theorem inv_start {CX : CXT} {P : Program} {w : World} {K : PySem.W.Frag} {mg : Str → Option Value} {base : Heap} {N ps : List Str} {qual : Str} {scope : Scope} {f : Addr} {cd : Value} {A : Around} {outer : List Env} {s s1 : Shared} {H : Hp} {E : XK} {us : List Value} {vs : List V}
    (S : FnScope N ps scope) (hd : A.handled = none) (e0 : Env0 P w K mg base A outer s H) (hl : vs.length = ps.length) (r : Vals vs us)
    (x : InCallC s s.heap.objs.size (bindL (envOfC qual scope s.heap.objs.size f cd).kindOf (ps.zip us) fun _ => none) (cellsFrom (s.heap.objs.size + 1) scope.names []) (bindC (envOfC qual scope s.heap.objs.size f cd).kindOf (ps.zip us) fun _ => none) s1) :
    Inv (cxOf CX P w K mg base N qual scope f cd A outer s H E) [] (start N vs) H s1 := by
  have hpl : ps.length ≤ N.length := by have := congrArg List.length S.pre; rw [List.length_take] at this; omega
  obtain ⟨h1, tk, rfl, hk⟩ := x.done
  have noA : ∀ b : Addr, b ∉ (cxOf CX P w K mg base N qual scope f cd A outer s H E).ex := fun b z => absurd (show b ∈ ([] : List Addr) from z) (by simp)
  refine ⟨⟨e0.mod, S.kind, rfl, rfl, Nat.le_refl _, fun y z c h1 h2 => ?_, fun y hy => ?_, fun y c _ h => ?_, fun _ => hd, Around.frames_deeper e0.frames, .inr ⟨rfl, rfl⟩, fun b z => absurd z (noA b), e0.bs, e0.bsz, fun b _ _ => noA b, fun b z => absurd z (noA b), e0.funs, e0.frf⟩,
    rfl, e0.bare, Un.kept hk, ⟨_, x.toInCall.ns, fun i y v h1 h2 h3 => ?_⟩, fun y c h => ⟨_, x.cell y c h⟩, e0.hok.fresh (Nat.le_refl _), fun y c h => ?_, fun p hp => absurd (show p ∈ ([] : List (Addr × Obj)) from hp) (by simp), e0.hok.kept hk, ?_⟩
  · exact name_of_addr x.apart (PySem.mem_of_lookup h1) (PySem.mem_of_lookup h2)
  · have hy : scope.names.lookup y = some .cell ∨ scope.names.lookup y = some .free := hy
    rcases hy with hy | hy
    · exact cell_has hy
    · exact absurd rfl (S.nofree _ (PySem.mem_of_lookup hy))
  · exact Nat.le_of_lt (x.above y c (PySem.mem_of_lookup h))
  · have hi : i < vs.length := by
      unfold start at h2
      by_cases hi : i < vs.length
      · exact hi
      · rw [List.getElem?_append_right (by simpa using hi)] at h2
        rw [List.getElem?_replicate] at h2
        split at h2 <;> cases h2
    have ha : vs[i]? = some v := by
      unfold start at h2
      rw [List.getElem?_append_left (by simpa using hi), List.getElem?_map] at h2
      cases e : vs[i]? with
      | none => rw [e] at h2; cases h2
      | some a => rw [e] at h2; cases h2; rfl
    obtain ⟨u, hu, rv⟩ := r.get ha
    have hp : ps[i]? = some y := by
      rw [← S.pre, List.getElem?_take_of_lt (by omega)]; exact h1
    have ndP : ps.Nodup := by rw [← S.pre]; exact S.nd.sublist (List.take_sublist _ _)
    refine ⟨u, rv, ?_⟩
    rcases S.par y (List.mem_of_getElem? hp) with k | k
    · exact .inl ⟨k, bindL_get ndP hp hu k⟩
    · obtain ⟨c, e⟩ := cell_has (n := s.heap.objs.size + 1) k
      refine .inr ⟨.inl k, c, e, ?_⟩
      have q := x.cell y c e
      rw [bindC_get ndP hp hu (by show scope.names.lookup y ≠ _; rw [k]; decide)] at q
      exact q
  · exact e0.hok.fresh (Nat.le_of_lt (x.above y c (PySem.mem_of_lookup h)))
  · unfold start
    show _ = N.length
    rw [List.length_append, List.length_map, List.length_replicate]
    omega

/-- THE RULE: a def (or a method) of the text, by its body. The body's reading t is chosen for each entry; it is run at the parameters' values -/
theorem fn_of {CX : CXT} {P : Program} {w : World} {K : PySem.W.Frag} {mg : Str → Option Value} {base : Heap} {k : Nat} {f : Addr} {name qual : Str} {params : Arguments} {body : List Stmt} {scope : Scope} {dV kV doc pm cdv ct oc : Value} {an od : Option Addr}
    {osl : Array (Option Value)} {N ps : List Str} {sp : Sp} (lk : K.lookup f = some ⟨oc, od, .func (PySem.W.fnOf name qual params body scope dV kV doc pm an cdv ct), osl⟩) (hcd : PySem.W.codeIn K cdv qual = true) (S : FnScope N ps scope)
    (len : ∀ vs H Q E, sp vs H Q E → vs.length = ps.length)
    (hbody : ∀ (A : Around) (outer : List Env) (s : Shared) (H : Hp) (vs : List V) (Q : VK) (E : XK), Room k (A.deeper (envOfC qual scope s.heap.objs.size f cdv)) → sp vs H Q E →
      ∃ t, PSs (cxOf CX P w K mg base N qual scope f cdv A outer s H E) body t ∧ t { nx := fun _ H' => Q .non H', rt := Q } (start N vs) H) :
    FnOk P w K mg base CX (k + 1) f (PySem.W.fnOf name qual params body scope dV kV doc pm an cdv ct) ps sp := by
  refine ⟨len, fun A outer s H args us vs Q E hr e0 hb r hsp => ?_⟩
  have hl := len _ _ _ _ hsp
  have KX : K.In s.heap := e0.mod.kin.keeps fun b o e => (e0.bs b o e).1
  have lim : s.heap.NoLimit := e0.mod.nolimit.keeps fun b o e => (e0.bs b o e).1
  have hkind : ∀ y ∈ ps.zip us, scope.names.lookup y.1 = some .local ∨ (scope.names.lookup y.1 = some .cell ∧ ((cellsFrom (s.heap.objs.size + 1) scope.names []).lookup y.1).isSome = true) := fun ⟨n, v⟩ hy => by
    rcases S.par n (List.of_mem_zip hy).1 with q | q
    · exact .inl q
    · exact .inr ⟨q, PySem.W.cellsFrom_some _ _ _ (.inl q)⟩
  refine codeAny_call_function hr.depth (KX _ _ lk) rfl S.co S.gen rfl (PySem.W.codeRec_of KX hcd) (hb _ _ _ _ ?_)
  refine wpAny_newFunctionEnv_cells S.kind hkind fun env he s1 x => ?_
  subst he
  refine ⟨lim.keeps x.toInCall.keep, codeAny_func ?_⟩
  obtain ⟨t, ht, hq⟩ := hbody A outer s H vs Q E (hr.deeper _) hsp
  have I : Inv (cxOf CX P w K mg base N qual scope f cdv A outer s H E) [] (start N vs) H s1 := inv_start S hr.hd e0 hl r x
  refine wpAny_mono (ht [] s1 (start N vs) H _ I hq) (fun fl s' hs => ?_) fun e s' hs => hs
  have fin : ∀ {σ' : St} {H' : Hp} {v : V} {u : Value}, Inv (cxOf CX P w K mg base N qual scope f cdv A outer s H E) [] σ' H' s' → RelV v u → Q v H' → CE outer P w H s Q u s' :=
    fun {σ' H' v u} J rv q => ⟨v, H', J.os, J.bare, J.base, J.hok, rv, q⟩
  cases fl with
  | ret u =>
    obtain ⟨v, σ', H', J, rv, q⟩ := hs
    exact fin J rv q
  | next =>
    obtain ⟨σ', H', J, q⟩ := hs
    exact fin (v := V.non) (u := Value.none) J rfl q
  | brk =>
    obtain ⟨_, _, _, q⟩ := hs
    exact False.elim q
  | cont =>
    obtain ⟨_, _, _, q⟩ := hs
    exact False.elim q
end L2

namespace L2
open PySem PySem.Spec PyProof.Rows
section
variable {X : Cx} {x : Str} {p pos : Pos} {e : Expr} {es : List Expr} {t : TA} {id T : String} {r : List V → Hp → VK → Prop}

def tCB (r : List V → Hp → VK → Prop) (t : TA) : TE := fun σ H Q => t σ H fun vs H1 => r vs H1 Q
/-- f(e, ..), f a built-in function -/
theorem pe_callB (hc : CallR X (.builtin id) r) (hg : Gl X x) (hm : X.mg x = none) (hv : bootBuiltins x = some (.builtin id)) (ha : PA X (e :: es) t) (hn : x ≠ "__name__" := by decide) (hdb : (x == ("__debug__" : Str)) = false := by decide)
    (he : starEach (e :: es) X.env = (false, eval e X.env) :: starEach es X.env := by rfl) (hpl : (backTo pos (starEach es X.env)).any (·.1) = false := by rfl) : PE X (.Call (.Name x p) (e :: es) [] pos) (tCB r t) := by
  intro pins s σ H Q I h
  refine wpAny_Call_Name_kw (ld_blt I hg hm hv ?_ hn hdb)
  exact PyProof.Rows.callWith_builtin1 (thn (ha pos pins s σ H _ I h) fun us s1 ⟨vs, H1, I1, r1, q1⟩ => hc pins s1 σ H1 vs us Q I1 r1 q1) he hpl
/-- T(e, ..), T a built-in type -/
theorem pe_callTy (hc : CallR X (.type T) r) (hg : Gl X x) (hm : X.mg x = none) (hv : bootBuiltins x = some (.type T)) (ha : PA X (e :: es) t) (hn : x ≠ "__name__" := by decide) (hdb : (x == ("__debug__" : Str)) = false := by decide)
    (he : starEach (e :: es) X.env = (false, eval e X.env) :: starEach es X.env := by rfl) (hpl : (backTo pos (starEach es X.env)).any (·.1) = false := by rfl) : PE X (.Call (.Name x p) (e :: es) [] pos) (tCB r t) := by
  intro pins s σ H Q I h
  refine wpAny_Call_Name_kw (ld_blt I hg hm hv ?_ hn hdb)
  exact PyProof.Rows.callWith_type1 (thn (ha pos pins s σ H _ I h) fun us s1 ⟨vs, H1, I1, r1, q1⟩ => hc pins s1 σ H1 vs us Q I1 r1 q1) he hpl
end
end L2

namespace HT
open PySem PyProof.Rows

section
open PySem.SeqAt
open PySem.AutoSeq1 (wpAny_loadPart')
open PySem.MeetsSeq PySem.MeetsSeq2 PySem.MeetsSeq3

end

section
variable {prog : Program} {w : World} {A : Around} {E : Value → Shared → Prop} {s : Shared}

/-! ### t[a:b], not the whole -/
/-- a slice's bound as a place among n (d where it is left out) -/
def sIx (n d : Nat) : Option Int → Nat
  | none => d
  | some v => if v < 0 then (v + (n : Int)).toNat else min v.toNat n
theorem sIx_le (n d : Nat) (hd : d ≤ n) (o : Option Int) : sIx n d o ≤ n := by
  cases o with
  | none => exact hd
  | some v =>
    show (if v < 0 then (v + (n : Int)).toNat else min v.toNat n) ≤ n
    by_cases hv : v < 0
    · rw [if_pos hv]; omega
    · rw [if_neg hv]; exact Nat.min_le_right _ _
theorem clip_eq (v : Int) (n d : Nat) : (if v < 0 then max (v + (n : Int)) 0 else min v (n : Int)) = ((sIx n d (some v) : Nat) : Int) := by
  show (if v < 0 then max (v + (n : Int)) 0 else min v (n : Int)) = (((if v < 0 then (v + (n : Int)).toNat else min v.toNat n) : Nat) : Int)
  by_cases hv : v < 0
  · simp only [if_pos hv]; omega
  · simp only [if_neg hv]; omega
theorem adjust_gen (lo hi : Option Int) (n : Nat) : Builtin.Slice.sliceAdjust lo hi 1 (n : Int) = (((sIx n 0 lo : Nat) : Int), ((sIx n n hi : Nat) : Int)) := by
  have h1 : ¬ ((1 : Int) < 0) := by omega
  unfold Builtin.Slice.sliceAdjust
  simp only [h1, if_false]
  refine Prod.ext ?_ ?_
  · cases lo with
    | none => rfl
    | some v => exact clip_eq v n 0
  · cases hi with
    | none => rfl
    | some v => exact clip_eq v n n
theorem places_gen (i j : Nat) : Builtin.Slice.slicePlaces (i : Int) (j : Int) 1 = j - i := by
  unfold Builtin.Slice.slicePlaces
  have h1 : (1 : Int) > 0 := by omega
  simp only [h1, if_true, Int.ediv_one]
  split <;> omega
theorem slicePart_ {v : Value} {o : Option Int} {Q : Option Int → Shared → Prop} (p : IsPart v o) (h : Q o s) : wpAny (model prog w) A (Builtin.Slice.slicePartIndex v) Q E s := by
  cases p with
  | none => exact slicePart_none h
  | int i t => exact slicePart_int h
theorem sliceApplied_gen {sl : Addr} {vl vu : Value} {lo hi : Option Int} {n : Nat} {Q : Int × Int × Nat → Shared → Prop} (hs : s.heap.IsSliceOf sl vl vu .none) (pl : IsPart vl lo) (pu : IsPart vu hi)
    (h : Q (((sIx n 0 lo : Nat) : Int), 1, sIx n n hi - sIx n 0 lo) s) : wpAny (model prog w) A (Builtin.Slice.sliceApplied (.ref sl) (pure (n : Int))) Q E s := by
  obtain ⟨os, hos, hcs, hds⟩ := id hs
  unfold Builtin.Slice.sliceApplied Builtin.Slice.sliceFields
  refine wpAny_bind (wpAny_bind (wpAny_field hos hds (x := vl) rfl (wpAny_bind (wpAny_field hos hds (x := vu) rfl (wpAny_bind (wpAny_field hos hds (x := .none) rfl (wpAny_pure ?_)))))))
  refine wpAny_bind (slicePart_none ?_)
  show wpAny _ _ (if ((1 : Int) == 0) = true then _ else _) _ _ s
  rw [if_neg (by decide)]
  refine wpAny_bind (slicePart_ pl (wpAny_bind (slicePart_ pu (wpAny_bind (wpAny_pure ?_)))))
  show wpAny _ _ (match Builtin.Slice.sliceAdjust lo hi 1 (n : Int) with | (lo, hi) => pure (lo, (1 : Int), Builtin.Slice.slicePlaces lo hi 1)) _ _ s
  rw [adjust_gen lo hi n]
  show wpAny _ _ (pure (((sIx n 0 lo : Nat) : Int), (1 : Int), Builtin.Slice.slicePlaces ((sIx n 0 lo : Nat) : Int) ((sIx n n hi : Nat) : Int) 1)) _ _ s
  rw [places_gen]
  exact wpAny_pure h
theorem pick_gen (xs : Array Value) (i k : Nat) : ((List.range k).filterMap fun (m : Nat) => xs[((i : Int) + (m : Int) * 1).toNat]?).toArray = ((xs.toList.drop i).take k).toArray := by
  have e : (fun (m : Nat) => xs[((i : Int) + (m : Int) * 1).toNat]?) = fun m => xs[i + m]? := by
    funext m
    have : ((i : Int) + (m : Int) * 1).toNat = i + m := by omega
    rw [this]
  rw [e]
  have := pick_run xs i k
  rw [List.filterMap_map] at this
  have e2 : ((fun x => xs[x]?) ∘ fun x => i + x) = fun m => xs[i + m]? := rfl
  rw [e2] at this
  rw [this]

theorem getItem_tuple_cut {t sl : Addr} {items : Array Value} {vl vu : Value} {lo hi : Option Int} {Q : Value → Shared → Prop} (ht : IsTup s.heap t items) (hs : s.heap.IsSliceOf sl vl vu .none) (pl : IsPart vl lo) (pu : IsPart vu hi)
    (hw : ¬ (sIx items.size 0 lo = 0 ∧ sIx items.size items.size hi = items.size))
    (h : Q (.ref s.heap.objs.size) { s with heap := s.heap.push { cls := .type "tuple", data := .seq ((items.toList.drop (sIx items.size 0 lo)).take (sIx items.size items.size hi - sIx items.size 0 lo)).toArray } })
    (hsz : items.size ≤ sizeLine) : wpAny (model prog w) A (getItem (.ref t) (.ref sl)) Q E s := by
  have htake : sizeOk (.seq ((items.toList.drop (sIx items.size 0 lo)).take (sIx items.size items.size hi - sIx items.size 0 lo)).toArray) := by
    show ((items.toList.drop (sIx items.size 0 lo)).take (sIx items.size items.size hi - sIx items.size 0 lo)).toArray.size ≤ sizeLine
    rw [List.size_toArray, List.length_take, List.length_drop, Array.length_toList]
    omega
  have hj : sIx items.size items.size hi ≤ items.size := sIx_le _ _ (Nat.le_refl _) hi
  obtain ⟨os, hos, hcs, hds⟩ := id hs
  have hTs : s.TypeIs (.ref sl) "slice" := ⟨os, hos, hcs⟩
  unfold getItem
  try with_reducible refine wpAny_holding ?_
  first | refine wpAny_bind (wpAny_pure ?_) | skip
  refine wpAny_bind (wpAny_sequenceKey ht.typeIs (by decide) ?_)
  refine wpAny_bind (wpAny_callSpecial?_slot (name := Str.ofString "__getitem__") ht.typeIs PyProof.Rows.slot_tuple_getitem
    (wpAny_call_entry PyProof.Rows.slot_tuple_getitem ht.typeIs entry_tuple_getitem ?_ (args_tuple_getitem _ _)))
  show wpAny _ _ (Builtin.Tuple.tupleItemsOf (.ref t) >>= _) _ _ s
  refine wpAny_bind (tupleItemsOf_ ht ?_)
  refine wpAny_bind (wpAny_typeOf hTs ?_)
  rw [if_pos (by decide)]
  refine wpAny_bind (sliceApplied_gen hs pl pu ?_)
  have hno : ¬ ((((sIx items.size 0 lo : Nat) : Int) == 0 && (1 : Int) == 1 && (sIx items.size items.size hi - sIx items.size 0 lo) == items.size) = true) := by
    intro q
    rw [Bool.and_eq_true, Bool.and_eq_true] at q
    have q1 : ((sIx items.size 0 lo : Nat) : Int) = 0 := eq_of_beq q.1.1
    have q2 : sIx items.size items.size hi - sIx items.size 0 lo = items.size := eq_of_beq q.2
    exact hw ⟨by omega, by omega⟩
  show wpAny _ _ (if (((sIx items.size 0 lo : Nat) : Int) == 0 && (1 : Int) == 1 && (sIx items.size items.size hi - sIx items.size 0 lo) == items.size) = true then _ else _) _ _ s
  rw [if_neg hno, pick_gen]
  first
    | exact wpAny_bind (m := Builtin.Tuple.tupleExact _) (wpAny_newObj_type (wpAny_pure ⟨_, rfl, wpAny_pure h⟩) htake)
    | exact wpAny_bind (m := Builtin.Tuple.tupleExact _) (wpAny_newObj_type (wpAny_bind (wpAny_pure (wpAny_pure ⟨_, rfl, wpAny_pure h⟩))) htake)
    | exact wpAny_bind (wpAny_bind (m := Builtin.Tuple.tupleExact _) (wpAny_newObj_type (wpAny_pure (wpAny_pure ⟨_, rfl, wpAny_pure h⟩)) htake))
    | exact wpAny_bind (wpAny_bind (m := Builtin.Tuple.tupleExact _) (wpAny_newObj_type (wpAny_pure ⟨_, rfl, wpAny_pure h⟩) htake))
end
end HT

namespace L2
open PySem PySem.Spec PyProof.Rows

/-! ### the parts of a slice -/
abbrev TO := St → Hp → (Option Int → Hp → Prop) → Prop
theorem intsAre_of {ns : List Int} : ∀ {us : List Value}, Vals (ns.map V.int) us → IntsAre us ns := by
  induction ns with
  | nil => intro us r; rw [List.map_nil] at r; cases r; exact .nil
  | cons n ns ih =>
    intro us r
    rw [List.map_cons] at r
    cases r with
    | cons r1 r2 =>
      obtain ⟨t, e⟩ := r1
      subst e
      exact .cons n t (ih r2)

section
variable {X : Cx} {e : Expr} {te : TE} {lo hi : Option Expr} {tl th : TO} {pos p2 : Pos}

/-- what a slice of a value is, by values: the slice object stands at sl -/
def SlR (X : Cx) (r : V → Option Int → Option Int → Hp → VK → Prop) : Prop :=
  ∀ (pins : List (Addr × Obj)) (s : Shared) (σ : St) (H : Hp) (x : V) (v vl vu : Value) (lo hi : Option Int) (sl : Addr) (Q : VK), Inv X pins σ H s → RelV x v → s.heap.IsSliceOf sl vl vu .none → IsPart vl lo → IsPart vu hi → r x lo hi H Q →
    ∃ T id, typeLookup (.type T) "__getitem__" = pure (some (.builtin id)) ∧ s.TypeIs v T ∧ wpAny (model X.prog X.w) X.A (getItem v (.ref sl)) (EP X pins σ Q) X.xe s
theorem SlR.or {r r' : V → Option Int → Option Int → Hp → VK → Prop} (h : SlR X r) (h' : SlR X r') : SlR X (fun x lo hi H Q => r x lo hi H Q ∨ r' x lo hi H Q) := by
  intro pins s σ H x v vl vu lo hi sl Q I rx hs pl pu q
  rcases q with q | q
  · exact h pins s σ H x v vl vu lo hi sl Q I rx hs pl pu q
  · exact h' pins s σ H x v vl vu lo hi sl Q I rx hs pl pu q
/-- the items of xs[lo:hi] -/
def cutV (xs : List V) (lo hi : Option Int) : List V := (xs.drop (HT.sIx xs.length 0 lo)).take (HT.sIx xs.length xs.length hi - HT.sIx xs.length 0 lo)
theorem cutV_length (xs : List V) (lo hi : Option Int) : (cutV xs lo hi).length ≤ xs.length := by
  unfold cutV
  rw [List.length_take, List.length_drop]
  omega
/-- t[lo:hi], not the whole of it (the whole would be t itself) -/
def rSlT (K : PySem.W.Frag) : V → Option Int → Option Int → Hp → VK → Prop := fun x lo hi H Q => ∃ a xs, x = .ref a ∧ SqT K H a xs ∧
  ¬ (HT.sIx xs.length 0 lo = 0 ∧ HT.sIx xs.length xs.length hi = xs.length) ∧ ∀ p, H p = none → Q (.ref p) (upd H p (.tup (cutV xs lo hi)))
theorem sl_tup : SlR X (rSlT X.K) := by
  intro pins s σ H x v vl vu lo hi sl Q I rx hs pl pu h
  obtain ⟨a, xs, rfl, hx, hw, q⟩ := h
  cases rx
  obtain ⟨its, r, ht, hz⟩ := I.tuple hx
  have hlen : its.toArray.size = xs.length := by rw [List.size_toArray]; exact r.length.symm
  refine ⟨"tuple", _, PyProof.Rows.slot_tuple_getitem.lookup, ht.typeIs, ?_⟩
  refine HT.getItem_tuple_cut ht hs pl pu (by rw [hlen]; exact hw) ?_ (by rw [hlen]; exact hz)
  rw [hlen]
  refine ⟨.ref s.heap.objs.size, _, I.laid (t' := s.toks) (o := .tup (cutV xs lo hi)) (fun b ob q => Heap.get?_push_of_some _ q) (Nat.le_refl _) ?_, rfl, q _ (I.hok.fresh (Nat.le_refl _))⟩
  exact ⟨Nat.le_trans (cutV_length xs lo hi) hz, _, (r.drop (HT.sIx xs.length 0 lo)).take (HT.sIx xs.length xs.length hi - HT.sIx xs.length 0 lo), IsTup.new _ _⟩

/-! ### t < u, t + u -/
end
end L2

namespace L2
open PySem PySem.Spec PyProof.Rows

/-! ### places -/
/-- the place that an index of any sign means -/
def ixN (n : Nat) (i : Int) : Option Nat := if 0 ≤ i then (if i < n then some i.toNat else none) else if -(n : Int) ≤ i then some (i + n).toNat else none
def atI {α : Type} (xs : List α) (i : Int) : Option α := (ixN xs.length i).bind fun j => xs[j]?
theorem ixN_seq {n : Nat} {i : Int} {j : Nat} (h : ixN n i = some j) : seqIndex? i n = some j ∧ j < n ∧ -(n : Int) ≤ i ∧ i < n := by
  unfold ixN at h
  by_cases h0 : 0 ≤ i
  · rw [if_pos h0] at h
    by_cases h1 : i < n
    · rw [if_pos h1] at h
      have e : i.toNat = j := Option.some.inj h
      exact ⟨by rw [seqIndex_of h0 h1, e], by omega, by omega, h1⟩
    · rw [if_neg h1] at h; cases h
  · rw [if_neg h0] at h
    by_cases h1 : -(n : Int) ≤ i
    · rw [if_pos h1] at h
      have e : (i + n).toNat = j := Option.some.inj h
      exact ⟨by rw [seqIndex_neg (by omega) h1, e], by omega, h1, by omega⟩
    · rw [if_neg h1] at h; cases h
theorem atI_get {α : Type} {xs : List α} {i : Int} {v : α} (h : atI xs i = some v) : ∃ j, seqIndex? i xs.length = some j ∧ xs[j]? = some v ∧ j < xs.length ∧ -(xs.length : Int) ≤ i ∧ i < xs.length := by
  unfold atI at h
  cases e : ixN xs.length i with
  | none => rw [e] at h; cases h
  | some j =>
    rw [e] at h
    obtain ⟨h1, h2, h3, h4⟩ := ixN_seq e
    exact ⟨j, h1, h, h2, h3, h4⟩
theorem atI_nat {α : Type} {xs : List α} {j : Nat} {v : α} (h : xs[j]? = some v) : atI xs (j : Int) = some v := by
  have hj : j < xs.length := (List.getElem?_eq_some_iff.mp h).1
  have e : ixN xs.length (j : Int) = some j := by
    unfold ixN
    rw [if_pos (by omega), if_pos (by omega)]; simp
  unfold atI; rw [e]; exact h
theorem atI_last {α : Type} (xs : List α) (v : α) : atI (xs ++ [v]) (-1) = some v := by
  have hl : (xs ++ [v]).length = xs.length + 1 := by simp
  have e : ixN (xs ++ [v]).length (-1) = some xs.length := by
    unfold ixN
    rw [hl, if_neg (by decide), if_pos (by omega)]
    congr 1
    omega
  unfold atI
  rw [e]
  show (xs ++ [v])[xs.length]? = some v
  simp

/-! ### what may be subscripted -/
/-- what stands as an index of a plain subscript -/
def PlainIx (b : Expr) : Prop := ∀ o i, subscripted b false o i = operate [o, i] (getItem o i)
/-- a subscript by values -/
def IxR (X : Cx) (r : R2) : Prop :=
  ∀ (value slice : Expr) (pins : List (Addr × Obj)) (s : Shared) (σ : St) (H : Hp) (x y : V) (v u : Value) (Q : VK), Inv X pins σ H s → RelV x v → RelV y u → r x y H Q →
    subscripted slice false v u = operate [v, u] (getItem v u) → wpAny (model X.prog X.w) X.A (subscriptTail value slice v u) (EP X pins σ Q) X.xe s
/-- a call of a builtin's method by values: the receiver, the arguments -/
def MtR (X : Cx) (id : String) (r : V → List V → Hp → VK → Prop) : Prop :=
  ∀ (pins : List (Addr × Obj)) (s : Shared) (σ : St) (H : Hp) (x : V) (xs : List V) (v : Value) (us : List Value) (Q : VK), Inv X pins σ H s → RelV x v → Vals xs us → r x xs H Q →
    wpAny (model X.prog X.w) X.A (call (.builtin id) (v :: us)) (EP X pins σ Q) X.xe s
section
variable {X : Cx} {a b : Expr} {ta tb : TE} {pos : Pos}
theorem IxR.or {r r' : R2} (h : IxR X r) (h' : IxR X r') : IxR X (fun x y H Q => r x y H Q ∨ r' x y H Q) := by
  intro value slice pins s σ H x y v u Q I rx ry q hs
  rcases q with q | q
  · exact h value slice pins s σ H x y v u Q I rx ry q hs
  · exact h' value slice pins s σ H x y v u Q I rx ry q hs
theorem MtR.or {id : String} {r r' : V → List V → Hp → VK → Prop} (h : MtR X id r) (h' : MtR X id r') : MtR X id (fun x xs H Q => r x xs H Q ∨ r' x xs H Q) := by
  intro pins s σ H x xs v us Q I rx rs q
  rcases q with q | q
  · exact h pins s σ H x xs v us Q I rx rs q
  · exact h' pins s σ H x xs v us Q I rx rs q
/-- a[b] -/
theorem pe_ix {r : R2} (hr : IxR X r) (ha : PE X a ta) (hb : PE X b tb) (hs : PlainIx b) : PE X (.Subscript a b pos) (tOp r ta tb) := by
  intro pins s σ H Q I h
  exact Subscript_ (binT ha hb I h fun v u s2 x y H2 I2 rx ry q => hr a b pins s2 σ H2 x y v u Q I2 rx ry q (hs _ _))

def rIxL (K : PySem.W.Frag) : R2 := fun x y H Q => ∃ p xs i v, x = .ref p ∧ y = .int i ∧ SqL K H p xs ∧ atI xs i = some v ∧ Q v H
def rIxT (K : PySem.W.Frag) : R2 := fun x y H Q => ∃ p xs i v, x = .ref p ∧ y = .int i ∧ SqT K H p xs ∧ atI xs i = some v ∧ Q v H
theorem ix_list : IxR X (rIxL X.K) := by
  intro value slice pins s σ H x y v u Q I rx ry h hs
  obtain ⟨p, xs, i, z, rfl, rfl, hq, he, q⟩ := h
  cases rx
  obtain ⟨t, rfl⟩ := ry
  obtain ⟨its, r, pl, hz⟩ := I.list hq
  obtain ⟨j, h1, h2, h3, h4, h5⟩ := atI_get he
  obtain ⟨w, ew, rw'⟩ := r.get h2
  have hl := r.length
  have hn := line63
  have fin : EP X pins σ Q w s := ⟨z, H, I, rw', q⟩
  by_cases h0 : 0 ≤ i
  · have hj : i.toNat = j := by
      rw [seqIndex_of h0 h5] at h1
      exact Option.some.inj h1
    exact item_listR pl.isList h0 (by omega) (by rw [hj]; simpa using ew) fin hs
  · have hj : (i + (its.toArray.size : Int)).toNat = j := by
      rw [seqIndex_neg (by omega) h4] at h1
      rw [List.size_toArray, ← hl]
      exact Option.some.inj h1
    exact subscriptTail_builtinR (x := w) pl.isList.typeIs slot_list_getitem.lookup
      (wpAny_getItem_list_neg (Q := fun r s' => r = w ∧ EP X pins σ Q r s') pl.isList (by omega) (by rw [List.size_toArray] <;> omega) (by omega) (by rw [hj]; simpa using ew) ⟨rfl, fin⟩) hs
theorem ix_tup : IxR X (rIxT X.K) := by
  intro value slice pins s σ H x y v u Q I rx ry h hs
  obtain ⟨p, xs, i, z, rfl, rfl, hq, he, q⟩ := h
  cases rx
  obtain ⟨t, rfl⟩ := ry
  obtain ⟨its, r, pl, hz⟩ := I.tuple hq
  obtain ⟨j, h1, h2, h3, h4, h5⟩ := atI_get he
  obtain ⟨w, ew, rw'⟩ := r.get h2
  have hl := r.length
  have hn := line63
  have fin : EP X pins σ Q w s := ⟨z, H, I, rw', q⟩
  exact subscriptTail_builtinR (x := w) pl.typeIs slot_tuple_getitem.lookup
    (getItem_tuple (j := j) (Q := fun r s' => r = w ∧ EP X pins σ Q r s') pl (by omega) (by omega) (by rw [List.size_toArray, ← hl]; exact h1) (by simpa using ew) ⟨rfl, fin⟩) hs
/-! ### xs[i] = v, any sign -/
/-- the list's object behind a store -/
theorem mapSeq_set (its : List Value) (n j : Nat) (u : Value) : Obj.mapSeq (·.setIfInBounds j u) { cls := .type "list", data := .seq its.toArray n } = { cls := .type "list", data := .seq (its.set j u).toArray n } := by
  simp [Obj.mapSeq]
theorem Inv.lst {pins : List (Addr × Obj)} {σ : St} {H : Hp} {s : Shared} {p : Addr} {xs : List V} (I : Inv X pins σ H s) (h : H p = some (.lst xs)) :
    ∃ (its : List Value) (n : Nat), Vals xs its ∧ s.heap.get? p = some { cls := .type "list", data := .seq its.toArray n } ∧ xs.length ≤ sizeLine := by
  obtain ⟨z, its, n, r, e⟩ := I.hok p _ h
  exact ⟨its, n, r, e, z⟩
/-- the list at p is written by an update of its object -/
theorem Inv.lstUpd {pins : List (Addr × Obj)} {σ : St} {H : Hp} {s : Shared} {p : Addr} {xs ys : List V} {its its' : List Value} {n n' : Nat} {f : Obj → Obj} (I : Inv X pins σ H s) (h : H p = some (.lst xs))
    (ho : s.heap.get? p = some { cls := .type "list", data := .seq its.toArray n }) (hf : f { cls := .type "list", data := .seq its.toArray n } = { cls := .type "list", data := .seq its'.toArray n' }) (r : Vals ys its') (hz : ys.length ≤ sizeLine) (t : Nat) :
    Inv X pins σ (upd H p (.lst ys)) { s with heap := s.heap.update p f, toks := t } := by
  have e : (s.heap.update p f).get? p = some { cls := .type "list", data := .seq its'.toArray n' } := by
    rw [Heap.get?_update_self f ho (by rw [hf] <;> rfl), hf]
  refine I.write (x := p) (e := p) (by rw [h]; trivial) (.inl rfl) (fun b u hb q => (Heap.get?_update_other _ _ (Ne.symm hb)).trans q) ⟨_, e⟩ ?_
  exact ⟨hz, its', n', r, e⟩
def rSetL : V → V → V → Hp → (Hp → Prop) → Prop := fun o i v H Q => ∃ p xs k j, o = .ref p ∧ i = .int k ∧ H p = some (.lst xs) ∧ ixN xs.length k = some j ∧ Q (upd H p (.lst (xs.set j v)))
theorem set_list : PSet X rSetL := by
  intro pins s σ H o i v ov iv u Q I ro ri rv h
  obtain ⟨p, xs, k, j, rfl, rfl, hp, hj, q⟩ := h
  cases ro
  obtain ⟨t, rfl⟩ := ri
  obtain ⟨its, n, r, ho, hz⟩ := I.lst hp
  obtain ⟨h1, h2, h3, h4⟩ := ixN_seq hj
  have hl := r.length
  have hn := line63
  have I' : Inv X pins σ (upd H p (.lst (xs.set j v))) { s with heap := s.heap.update p (Obj.mapSeq (·.setIfInBounds j u)) } :=
    I.lstUpd hp ho (mapSeq_set its n j u) (r.set rv j) (by rw [List.length_set]; exact hz) s.toks
  by_cases h0 : 0 ≤ k
  · have hk : k.toNat = j := by
      rw [seqIndex_of h0 h4] at h1
      exact Option.some.inj h1
    exact PySem.W.ki_setAt ho h0 (by omega) (by rw [List.size_toArray, ← hl]; exact h4) (by rw [hk]; exact ⟨_, I', q⟩)
  · have hk : (k + (its.toArray.size : Int)).toNat = j := by
      rw [seqIndex_neg (by omega) h3] at h1
      rw [List.size_toArray, ← hl]
      exact Option.some.inj h1
    exact PySem.W.ki_setBack ho (by omega) (by rw [List.size_toArray, ← hl]; exact h3) (by omega) (by rw [hk]; exact ⟨_, I', q⟩)

/-! ### slices -/
/-! ### in, not in: flat items -/
/-! ### len, list(x), tuple(x) of any list or tuple that is read -/
theorem call_len_seq : CallR X (.builtin "len") (fun xs H Q => ∃ p ys, xs = [.ref p] ∧ (SqL X.K H p ys ∨ SqT X.K H p ys) ∧ Q (.int ys.length) H) := by
  intro pins s σ H xs us Q I r h
  obtain ⟨p, ys, rfl, hq, q⟩ := h
  obtain ⟨u, rfl, rx⟩ := vals1 r
  cases rx
  have hn := line63
  rcases hq with hq | hq
  · obtain ⟨its, r', pl, hz⟩ := I.list hq
    have hlen := r'.length
    exact Calls.call_len_list pl.isList (by simp only [List.size_toArray] <;> omega) ⟨.int ys.length, H, I.tok _, ⟨s.toks + 1, by rw [List.size_toArray, hlen]⟩, q⟩
  · obtain ⟨its, r', pl, hz⟩ := I.tuple hq
    have hlen := r'.length
    exact len_tuple pl (by simp only [List.size_toArray] <;> omega) ⟨.int ys.length, H, I.tok _, ⟨s.toks + 1, by rw [List.size_toArray, hlen]⟩, q⟩
theorem CallR.or {f : Value} {r r' : List V → Hp → VK → Prop} (h : CallR X f r) (h' : CallR X f r') : CallR X f (fun xs H Q => r xs H Q ∨ r' xs H Q) := by
  intro pins s σ H xs us Q I rs q
  rcases q with q | q
  · exact h pins s σ H xs us Q I rs q
  · exact h' pins s σ H xs us Q I rs q
theorem call_list_of : CallR X (.type "list") (fun xs H Q => ∃ p ys, xs = [.ref p] ∧ (SqL X.K H p ys ∨ SqT X.K H p ys) ∧ ∀ l, H l = none → Q (.ref l) (upd H l (.lst ys))) := by
  intro pins s σ H xs us Q I r h
  obtain ⟨p, ys, rfl, hq, q⟩ := h
  obtain ⟨u, rfl, rx⟩ := vals1 r
  cases rx
  have fin : ∀ (its : List Value), Vals ys its → ys.length ≤ sizeLine → ∀ (h' : Heap) (c' : Nat), (∀ b o', s.heap.get? b = some o' → h'.get? b = some o') →
      h'.get? s.heap.objs.size = some { cls := .type "list", dict := none, data := .seq its.toArray c', slots := #[] } → EP X pins σ Q (.ref s.heap.objs.size) { s with heap := h' } := fun its r' hz h' c' kp e =>
    ⟨.ref s.heap.objs.size, _, I.laid (t' := s.toks) kp (Nat.le_refl _) (show ObjOk X.prog X.w _ h' _ (.lst ys) from ⟨hz, its, c', r', e⟩), rfl, q _ (I.hok.fresh (Nat.le_refl _))⟩
  rcases hq with hq | hq
  · obtain ⟨its, r', pl, hz⟩ := I.list hq
    have hlen := r'.length
    obtain ⟨o, ho, hc, n, hd⟩ := pl.isList
    exact call_list_seq p (.inl rfl) ho hc hd (fun h' c' kp e => fin its r' hz h' c' kp e) (by simp only [List.size_toArray] <;> omega)
  · obtain ⟨its, r', pl, hz⟩ := I.tuple hq
    have hlen := r'.length
    obtain ⟨o, ho, hc, n, hd⟩ := pl
    exact call_list_seq p (.inr rfl) ho hc hd (fun h' c' kp e => fin its r' hz h' c' kp e) (by simp only [List.size_toArray] <;> omega)
theorem call_tuple_of : CallR X (.type "tuple") (fun xs H Q => ∃ p ys, xs = [.ref p] ∧ ((SqL X.K H p ys ∧ ∀ l, H l = none → Q (.ref l) (upd H l (.tup ys))) ∨ (SqT X.K H p ys ∧ Q (.ref p) H))) := by
  intro pins s σ H xs us Q I r h
  obtain ⟨p, ys, rfl, h⟩ := h
  obtain ⟨u, rfl, rx⟩ := vals1 r
  cases rx
  rcases h with ⟨hq, q⟩ | ⟨hq, q⟩
  · obtain ⟨its, r', pl, hz⟩ := I.list hq
    have hlen := r'.length
    refine call_tuple_list pl.isList (fun h' kp => ?_) (by simp only [List.size_toArray] <;> omega)
    have I1 : Inv X pins σ H { s with heap := h' } := I.kept (t' := s.toks) kp
    have I2 : Inv X pins σ (upd H h'.objs.size (.tup ys)) { s with heap := h'.push { cls := .type "tuple", data := .seq its.toArray } } :=
      I1.laid (t' := s.toks) (fun b o e => Heap.get?_push_of_some _ e) (Nat.le_refl _) (show ObjOk X.prog X.w _ _ _ (.tup ys) from ⟨hz, its, r', IsTup.new _ _⟩)
    exact ⟨.ref h'.objs.size, _, I2, rfl, q _ (I1.hok.fresh (Nat.le_refl _))⟩
  · obtain ⟨its, r', pl, hz⟩ := I.tuple hq
    exact call_tuple_same pl ⟨.ref p, H, I, rfl, q⟩

/-! ### the call of a builtin's method: o.m(..) -/
/-- the value is of that builtin type -/
def tyV (K : PySem.W.Frag) (T : String) (x : V) (H : Hp) : Prop := match x with
  | .str _ => T = "str"
  | .int _ => T = "int"
  | .ref p => (T = "list" ∧ ∃ xs, SqL K H p xs) ∨ (T = "tuple" ∧ ∃ o, K.lookup p = some o ∧ o.cls = .type "tuple" ∧ o.dict = none) ∨
      (T = "dict" ∧ ((∃ kvs, H p = some (.dK kvs)) ∨ ∃ kvs, H p = some (.dT kvs))) ∨ (T = "set" ∧ ∃ S n, H p = some (.set S n))
  | _ => False
theorem tyV_is {pins : List (Addr × Obj)} {σ : St} {H : Hp} {s : Shared} {T : String} {x : V} {v : Value} (I : Inv X pins σ H s) (r : RelV x v) (ty : tyV X.K T x H) :
    s.TypeIs v T ∧ ∀ a, v = .ref a → ∃ ob, s.heap.get? a = some ob ∧ ob.dict = none := by
  cases x with
  | str z =>
    obtain ⟨t, rfl⟩ := r
    cases (show T = "str" from ty)
    exact ⟨typeIs_str s z t, fun _ e => nomatch e⟩
  | int i =>
    obtain ⟨t, rfl⟩ := r
    cases (show T = "int" from ty)
    exact ⟨typeIs_int s i t, fun _ e => nomatch e⟩
  | ref p =>
    cases r
    rcases ty with ⟨rfl, xs, hq⟩ | ⟨rfl, o, hk, hc, hd⟩ | ⟨rfl, hk⟩ | ⟨rfl, S, n, hk⟩
    · obtain ⟨its, _, pl, _⟩ := I.list hq
      refine ⟨pl.isList.typeIs, fun a e => ?_⟩
      cases e
      obtain ⟨o, n, e, c, hd, _⟩ := pl
      exact ⟨o, e, hd⟩
    · refine ⟨⟨o, I.kIn p o hk, hc⟩, fun a e => ?_⟩
      cases e
      exact ⟨o, I.kIn _ o hk, hd⟩
    · have z : ∃ o, s.heap.get? p = some o ∧ o.ExactDict := by
        rcases hk with ⟨kvs, hk⟩ | ⟨kvs, hk⟩
        · obtain ⟨_, _, _, _, o, _, _, e, ex, _⟩ := I.hok p _ hk
          exact ⟨o, e, ex⟩
        · obtain ⟨_, _, _, _, o, _, _, e, ex, _⟩ := I.hok p _ hk
          exact ⟨o, e, ex⟩
      obtain ⟨o, e, ex⟩ := z
      refine ⟨⟨o, e, ex.1⟩, fun a e2 => ?_⟩
      cases e2
      exact ⟨o, e, ex.2.1⟩
    · obtain ⟨o, _, _, _, e, ex, _⟩ := I.hok p _ hk
      refine ⟨⟨o, e, ex.1⟩, fun a e2 => ?_⟩
      cases e2
      exact ⟨o, e, ex.2.1⟩
  | _ => exact False.elim ty
def tBM0 (K : PySem.W.Frag) (T : String) (r : V → List V → Hp → VK → Prop) (to : TE) : TE := fun σ H Q => to σ H fun x H1 => tyV K T x H1 ∧ r x [] H1 Q
def tBM (K : PySem.W.Frag) (T : String) (r : V → List V → Hp → VK → Prop) (to : TE) (t : TA) : TE := fun σ H Q => to σ H fun x H1 => tyV K T x H1 ∧ t σ H1 fun xs H2 => r x xs H2 Q
variable {o e : Expr} {es : List Expr} {to : TE} {t : TA} {name : Str} {apos cpos : Pos} {T id : String} {r : V → List V → Hp → VK → Prop}
theorem pe_bm0 (pa : PlainAttrs T) (slot : Slot T name id) (hty : typeOf (.builtin id) = pure (.type "method_descriptor")) (hm : MtR X id r) (ho : PE X o to)
    (hbase : attributeBase o name X.env (eval o X.env) = eval o X.env := by rfl) (hline : (apos.endLine == cpos.line) = true := by rfl) : PE X (.Call (.Attribute o name apos) [] [] cpos) (tBM0 X.K T r to) := by
  intro pins s σ H Q I h
  refine wpAny_Call_method0_late hbase hline (thn (ho pins s σ H _ I h) fun v s1 ⟨x, H1, I1, r1, ty, q1⟩ => ?_)
  obtain ⟨h1, h2⟩ := tyV_is I1 r1 ty
  exact ⟨T, id, pa, slot, hty, h1, h2, Calls.callWith_builtin rfl (PySem.evalArgs_none (hm pins s1 σ H1 x [] v [] Q I1 r1 .nil q1))⟩
theorem pe_bm (pa : PlainAttrs T) (slot : Slot T name id) (hty : typeOf (.builtin id) = pure (.type "method_descriptor")) (hm : MtR X id r) (ho : PE X o to) (ha : PA X (e :: es) t)
    (hbase : attributeBase o name X.env (eval o X.env) = eval o X.env := by rfl)
    (hfew : ((backTo cpos (starEach (e :: es) X.env)).all (fun x => !x.1) && (backToKw cpos (keywordEach [] X.env)).all (fun x => x.1.isSome)
      && decide ((e :: es).length + ([] : List Keyword).length + (if ([] : List Keyword).isEmpty then 0 else 1) < 30)) = true := by rfl)
    (hline : (apos.endLine == cpos.line) = true := by rfl) (hs : starEach (e :: es) X.env = (false, eval e X.env) :: starEach es X.env := by rfl) (hplain : (backTo cpos (starEach es X.env)).any (·.1) = false := by rfl) :
    PE X (.Call (.Attribute o name apos) (e :: es) [] cpos) (tBM X.K T r to t) := by
  intro pins s σ H Q I h
  refine wpAny_Call_method_late hbase hfew hline rfl (thn (ho pins s σ H _ I h) fun v s1 ⟨x, H1, I1, r1, ty, q1⟩ => ?_)
  obtain ⟨h1, h2⟩ := tyV_is I1 r1 ty
  refine ⟨T, id, pa, slot, hty, h1, h2, ?_⟩
  have hA := ha cpos pins s1 σ H1 _ I1 q1
  rw [hs] at hA ⊢
  refine Calls.callWith_builtin (by show (false || (backTo cpos (starEach es X.env)).any (·.1)) = false; rw [hplain] <;> rfl) (Calls.evalArgs_plain ?_)
  exact thn hA fun us s2 ⟨vs, H2, I2, r2, q2⟩ => hm pins s2 σ H2 x vs v us Q I2 r1 r2 q2
end
end L2

namespace L2
open PySem PySem.Spec PyProof.Rows

def MtM (X : Cx) (id : String) (r : V → List V → Hp → VK → Prop) : Prop :=
  ∀ (pins : List (Addr × Obj)) (s : Shared) (σ : St) (H : Hp) (x : V) (xs : List V) (v : Value) (us : List Value) (Q : VK), Inv X pins σ H s → RelV x v → Vals xs us → r x xs H Q →
    wpAny (model X.prog X.w) X.A (call (.builtin id) (v :: us)) (EP X pins σ Q) X.xe s

/-! ### lists of values -/
theorem Vals.one : ∀ {x : V} {us : List Value}, Vals [x] us → ∃ u, us = [u] ∧ RelV x u
  | _, _, .cons r .nil => ⟨_, rfl, r⟩
theorem Vals.two : ∀ {x y : V} {us : List Value}, Vals [x, y] us → ∃ u v, us = [u, v] ∧ RelV x u ∧ RelV y v
  | _, _, _, .cons r (.cons q .nil) => ⟨_, _, rfl, r, q⟩
theorem Vals.zero : ∀ {us : List Value}, Vals [] us → us = []
  | _, .nil => rfl
theorem Vals.dropLast {xs : List V} {us : List Value} (h : Vals xs us) : Vals xs.dropLast us.dropLast := by
  induction h with
  | nil => exact .nil
  | cons r t ih =>
    cases t with
    | nil => exact .nil
    | cons q t' => exact .cons r ih
theorem Vals.eraseIdx : ∀ {xs : List V} {us : List Value} (i : Nat), Vals xs us → Vals (xs.eraseIdx i) (us.eraseIdx i)
  | _, _, _, .nil => .nil
  | _, _, 0, .cons _ t => t
  | _, _, i + 1, .cons r t => .cons r (Vals.eraseIdx i t)
theorem Vals.reverse {xs : List V} {us : List Value} (h : Vals xs us) : Vals xs.reverse us.reverse := by
  induction h with
  | nil => exact .nil
  | cons r t ih => rw [List.reverse_cons, List.reverse_cons]; exact Vals.append ih (.cons r .nil)
theorem erase_last {α : Type} (l : List α) : l.eraseIdx (l.length - 1) = l.dropLast := by
  induction l with
  | nil => rfl
  | cons a r ih =>
    cases r with
    | nil => rfl
    | cons b r =>
      have e : (a :: b :: r).length - 1 = ((b :: r).length - 1) + 1 := by
        have h1 : (a :: b :: r).length = r.length + 2 := rfl
        have h2 : (b :: r).length = r.length + 1 := rfl
        omega
      rw [e, List.eraseIdx_cons_succ, ih]
      all_goals rfl
section
variable {X : Cx} {pins : List (Addr × Obj)} {σ : St} {H : Hp} {s : Shared} {l b : Addr} {xs ys zs : List V}

/-! ### the two steps: a tracked list is rewritten, a new list is laid -/
theorem Inv.lset {its its' : List Value} {n : Nat} {f : Array Value → Array Value} {t' : Nat} (I : Inv X pins σ H s) (hH : H l = some (.lst xs))
    (e : s.heap.get? l = some { cls := .type "list", data := .seq its.toArray n }) (hf : f its.toArray = its'.toArray) (hv : Vals ys its') (hz : ys.length ≤ sizeLine) :
    Inv X pins σ (upd H l (.lst ys)) { s with heap := s.heap.update l (Obj.mapSeq f), toks := t' } := by
  have q := PySem.IsL.update e f
  rw [hf] at q
  refine I.write (x := l) (e := l) (by rw [hH]; exact trivial) (.inl rfl) (fun b' u hb hu => (Heap.get?_update_other s.heap (Obj.mapSeq f) (Ne.symm hb)).trans hu) ⟨_, q⟩ ?_
  exact ⟨hz, its', _, hv, q⟩
theorem Inv.lnew {its : List Value} {t' : Nat} (I : Inv X pins σ H s) (hv : Vals ys its) (hz : ys.length ≤ sizeLine) :
    Inv X pins σ (upd H s.heap.objs.size (.lst ys)) { s with heap := s.heap.push { cls := .type "list", data := .seq its.toArray }, toks := t' } :=
  I.laid (fun _ _ q => Heap.get?_push_of_some _ q) (Nat.le_refl _) ⟨hz, its, 0, hv, Heap.get?_push_size _ rfl⟩
theorem Inv.fresh (I : Inv X pins σ H s) : H s.heap.objs.size = none := I.hok.fresh (Nat.le_refl _)
theorem Inv.lstM (I : Inv X pins σ H s) (hH : H l = some (.lst xs)) : xs.length ≤ sizeLine ∧ ∃ (its : List Value) (n : Nat), Vals xs its ∧ xs.length = its.length ∧ s.heap.get? l = some { cls := .type "list", data := .seq its.toArray n } := by
  obtain ⟨z, its, n, r, e⟩ := I.hok l _ hH
  exact ⟨z, its, n, r, r.length, e⟩

end

section
variable {X : Cx}

/-! ### methods -/
def rAppend : V → List V → Hp → VK → Prop := fun x vs H Q => ∃ l xs y, x = .ref l ∧ vs = [y] ∧ H l = some (.lst xs) ∧ xs.length < sizeLine ∧ Q .non (upd H l (.lst (xs ++ [y])))
theorem mt_append : MtM X "list.append" rAppend := by
  intro pins s σ H x vs v us Q I rx rv h
  obtain ⟨l, xs, y, rfl, rfl, hH, hz, q⟩ := h
  cases rx
  obtain ⟨u, rfl, ru⟩ := rv.one
  obtain ⟨z, its, n, r, hl, e⟩ := I.lstM hH
  refine call_meets F.slot_list_append ⟨_, e, rfl⟩ F.entry_list_append (F.args_list_append_2 _ _) (PySem.list_append l its.toArray n u (by rw [List.size_toArray]; omega)) ⟨e, ?_⟩
  refine ⟨.non, _, I.lset (its' := its ++ [u]) hH e (by simp) (r.append (.cons ru .nil)) ?_, rfl, q⟩
  rw [List.length_append, List.length_singleton]
  omega

def rPop : V → List V → Hp → VK → Prop := fun x vs H Q => ∃ l xs y, x = .ref l ∧ vs = [] ∧ H l = some (.lst xs) ∧ xs[xs.length - 1]? = some y ∧ Q y (upd H l (.lst xs.dropLast))
theorem mt_pop : MtM X "list.pop" rPop := by
  intro pins s σ H x vs v us Q I rx rv h
  obtain ⟨l, xs, y, rfl, rfl, hH, hy, q⟩ := h
  cases rx
  have hus := rv.zero
  subst hus
  obtain ⟨z, its, n, r, hl, e⟩ := I.lstM hH
  obtain ⟨u, hu, ru⟩ := r.get hy
  have hy' : its.toArray[its.toArray.size - 1]? = some u := by
    show its.toArray[its.length - 1]? = some u
    rw [← Array.getElem?_toList, ← hl]
    exact hu
  refine call_meets F.slot_list_pop ⟨_, e, rfl⟩ F.entry_list_pop (F.args_list_pop_1 _) (MeetsSeq.list_pop_last l its.toArray n u hy' (by rw [List.size_toArray]; omega)) ⟨e, ?_⟩
  refine ⟨y, _, I.lset (its' := its.dropLast) hH e ?_ r.dropLast ?_, ru, q⟩
  · show its.toArray.eraseIdxIfInBounds (its.toArray.size - 1) = its.dropLast.toArray
    rw [List.size_toArray, List.eraseIdxIfInBounds_toArray, erase_last]
  · rw [List.length_dropLast]
    omega

/-! ### list + list, list += list, list * int -/
def rCat : R2 := fun x y H Q => ∃ l b xs zs, x = .ref l ∧ y = .ref b ∧ H l = some (.lst xs) ∧ H b = some (.lst zs) ∧ xs.length + zs.length ≤ sizeLine ∧ ∀ p, H p = none → Q (.ref p) (upd H p (.lst (xs ++ zs)))
theorem op_cat : OpR X (binaryOp .Add) rCat := by
  intro pins s σ H x y v u Q I rx ry h
  obtain ⟨l, b, xs, zs, rfl, rfl, hH, hB, hz, q⟩ := h
  cases rx
  cases ry
  obtain ⟨z, its, n, r, hl, e⟩ := I.lstM hH
  obtain ⟨z2, its2, n2, r2, hl2, e2⟩ := I.lstM hB
  refine PySem.P.add_list e e2 ?_ (by rw [List.size_toArray, List.size_toArray]; omega)
  have ea : its.toArray ++ its2.toArray = (its ++ its2).toArray := by simp
  rw [ea]
  exact ⟨.ref _, _, I.lnew (t' := s.toks) (r.append r2) (by rw [List.length_append]; omega), rfl, q _ I.fresh⟩
/-! ### del xs[i] -/
end

/-! ### xs[a:b] = ys -/
section
variable {prog : Program} {w : World} {A : Around} {E : Value → Shared → Prop} {s : Shared}
set_option maxRecDepth 100000 in
end

section
variable {X : Cx}
end
end L2

namespace L2
open PySem PySem.Spec PyProof.Rows

theorem Vals.ints : ∀ {ns : List Int} {us : List Value}, Vals (ns.map V.int) us → IntsAre us ns
  | [], us, h => by
    rw [List.map_nil] at h
    cases h
    exact IntsAre.nil
  | n :: ns, us, h => by
    rw [List.map_cons] at h
    cases h with
    | cons r t =>
      obtain ⟨k, rfl⟩ := r
      exact IntsAre.cons n k (Vals.ints t)
theorem vals_of_ints : ∀ {us : List Value} {ns : List Int}, IntsAre us ns → Vals (ns.map V.int) us
  | _, _, .nil => by rw [List.map_nil]; exact Paired.nil
  | _, _, .cons n t h => by rw [List.map_cons]; exact Paired.cons (show RelV (V.int n) (Value.int n t) from ⟨t, rfl⟩) (vals_of_ints h)
theorem Vals.strs : ∀ {xs : List Str} {us : List Value}, Vals (xs.map V.str) us → StrsAre us xs
  | [], us, h => by
    rw [List.map_nil] at h
    cases h
    exact StrsAre.nil
  | x :: xs, us, h => by
    rw [List.map_cons] at h
    cases h with
    | cons r t =>
      obtain ⟨k, rfl⟩ := r
      exact StrsAre.cons x k (Vals.strs t)
theorem Vals.bls : ∀ {bs : List Bool} {us : List Value}, Vals (bs.map V.bl) us → us = bs.map Value.bool
  | [], us, h => by
    rw [List.map_nil] at h
    cases h
    rfl
  | b :: bs, us, h => by
    rw [List.map_cons] at h
    cases h with
    | cons r t =>
      cases r
      rw [Vals.bls t, List.map_cons]
theorem Vals.ref1 {a : Addr} {us : List Value} (r : Vals [V.ref a] us) : us = [Value.ref a] := by
  cases r with
  | cons r t =>
    cases t
    cases r
    rfl
/-! ### the library's walks over a list of ints, kept objects alone -/
section
variable {prog : Program} {w : World} {A : Around} {E : Value → Shared → Prop} {s : Shared} {l : Addr} {its : List Value} {ns : List Int} {Q : Value → Shared → Prop}
theorem max_raw (hh : A.handled = none) (hl : s.heap.IsList l its.toArray) (hi : IntsAre its ns) (hne : 0 < ns.length)
    (h : ∀ h' tk M t', (∀ b o, s.heap.get? b = some o → h'.get? b = some o) → M ∈ ns → (∀ a, a ∈ ns → a ≤ M) → Q (.int M t') { s with heap := h', toks := tk }) : wpAny (model prog w) A (call (.builtin "max") [.ref l]) Q E s := by
  obtain ⟨xs, e⟩ := hi.allInts.items
  have hn : numsOf (intItems xs).toList = ns := by rw [← e]; exact hi.numsOf
  rw [nums_intItems] at hn
  subst hn
  rw [e] at hl
  have hsz : 0 < xs.size := by simpa using hne
  refine PySem.max_intList hh hl hsz fun v h' tk hv hk => ?_
  obtain ⟨t, rfl⟩ := intItems_at hv
  obtain ⟨h1, h2⟩ := argBest_gt (numAt xs) (xs.size - 1)
  refine h h' tk _ t hk ?_ fun a ha => ?_
  · rw [numAt_eq]; exact PySem.getD_mem (by rw [List.length_map, Array.length_toList]; omega)
  · obtain ⟨j, hj, rfl⟩ := mem_getD ha
    rw [List.length_map, Array.length_toList] at hj
    rw [← numAt_eq]; exact h2 j (by omega)
end

/-! ### the calls, by values (CallR of 03t; MtR of 06l) -/
section
variable {X : Cx}
/-- max(xs), min(xs) of a list of ints -/
def rMax (K : PySem.W.Frag) : List V → Hp → VK → Prop := fun vs H Q => ∃ (a : Addr) (ns : List Int), vs = [V.ref a] ∧ SqL K H a (ns.map V.int) ∧ 0 < ns.length ∧ ∀ m, m ∈ ns → (∀ y, y ∈ ns → y ≤ m) → Q (.int m) H
theorem cr_max (hc : X.calm = true) : CallR X (.builtin "max") (rMax X.K) := by
  intro pins s σ H vs us Q I r h
  obtain ⟨a, ns, rfl, hs, hne, q⟩ := h
  obtain ⟨its, rv, hl, _⟩ := I.list hs
  rw [Vals.ref1 r]
  exact max_raw (I.ok.hd hc) hl.isList rv.ints hne fun h' tk m t' hk h1 h2 => ⟨.int _, H, I.kept hk, ⟨_, rfl⟩, q m h1 h2⟩
/-! sorted, sort (fewer than 64 items: the library's own bound) -/
def rSorted (K : PySem.W.Frag) : List V → Hp → VK → Prop := fun vs H Q => ∃ (a : Addr) (ns : List Int), vs = [V.ref a] ∧ SqL K H a (ns.map V.int) ∧ ns.length < 64 ∧
  ∀ (ns' : List Int) (p : Addr), ns'.Perm ns → ns'.Pairwise (· ≤ ·) → H p = none → Q (.ref p) (upd H p (.lst (ns'.map V.int)))
theorem small64 {n : Nat} (h : n < 64) : n ≤ sizeLine := by rw [sizeLine_eq]; omega
theorem cr_sorted : CallR X (.builtin "sorted") (rSorted X.K) := by
  intro pins s σ H vs us Q I r h
  obtain ⟨a, ns, rfl, hs, h64, q⟩ := h
  obtain ⟨its, rv, hl, _⟩ := I.list hs
  rw [Vals.ref1 r]
  have hi := rv.ints
  refine PyProof.Rows.sorted_ints hl.isList hi (by rw [hi.length]; exact h64) fun out ns' h1 h2 h3 => ?_
  obtain ⟨ep, he'⟩ := PyProof.Rows.sortedAll_at s.heap its out
  have hlen : (ns'.map V.int).length ≤ sizeLine := by rw [List.length_map, h2.length_eq]; exact small64 h64
  exact ⟨.ref _, upd H (s.heap.objs.size + 1) (.lst (ns'.map V.int)), I.laid (t' := s.toks) (fun _ _ => PyProof.Rows.sortedAll_old) (Nat.le_succ _) ⟨hlen, out.toList, ep, vals_of_ints h1, he'⟩, rfl, q ns' _ h2 h3 (I.hok.fresh (Nat.le_succ _))⟩
end

/-! ### list.index, flat items -/
section
variable {X : Cx}
end

/-! ### type(x) of an own instance; is, is not of a module's class -/
section
variable {X : Cx}
end

/-! ### any(xs), all(xs) of a list of bools -/
theorem iter_any {prog : Program} {w : World} {A : Around} {E : Value → Shared → Prop} {s : Shared} {l : Addr} {items : Array Value} {Q : Value → Shared → Prop} (hl : s.heap.IsList l items)
    (h : ∀ s₂ : Shared, s₂ = { s with heap := s.heap.push { cls := .type "list_iterator", data := .fields #[.ref l, .int 0 0] } } →
      (s₂.heap.IsListIter s.heap.objs.size l 0 ∧ s₂.heap.IsList l items) → l ≠ s.heap.objs.size → Q (.ref s.heap.objs.size) s₂) : wpAny (model prog w) A (pyIter (.ref l)) Q E s := by
  have hlt : l < s.heap.objs.size := by obtain ⟨_, e, _⟩ := hl; exact Heap.lt_size e
  exact wpAny_pyIter_list hl (h _ rfl ⟨⟨_, Heap.get?_push_size _ rfl, rfl, rfl⟩, hl.push _⟩ (Nat.ne_of_lt hlt))
theorem truth_bools {prog : Program} {w : World} {A : Around} {bs : List Bool} {its : List Value} (e : its = bs.map Value.bool) :
    TruthOf prog w A (fun i v => its.toArray[i]? = some v) (fun i => bs.getD i false) := fun i v s Q E hv hq => by
  have hv' : its[i]? = some v := by simpa using hv
  rw [e, List.getElem?_map] at hv'
  obtain ⟨b, hb, rfl⟩ := Option.map_eq_some_iff.mp hv'
  have hg : bs.getD i false = b := by rw [List.getD_eq_getElem?_getD, hb] <;> rfl
  have hq' : Q (bs.getD i false) s := hq
  rw [hg] at hq'
  exact wpAny_truthy_bool hq'
theorem any_range : ∀ bs : List Bool, (List.range bs.length).any (fun i => bs.getD i false) = bs.any id
  | [] => rfl
  | b :: bs => by
    rw [List.length_cons, List.range_succ_eq_map, List.any_cons, List.any_map, List.any_cons, ← any_range bs]
    all_goals rfl
section
variable {X : Cx}
def rAny (K : PySem.W.Frag) : List V → Hp → VK → Prop := fun vs H Q => ∃ (a : Addr) (bs : List Bool), vs = [V.ref a] ∧ SqL K H a (bs.map V.bl) ∧ Q (.bl (bs.any id)) H
theorem cr_any (hc : X.calm = true) : CallR X (.builtin "any") (rAny X.K) := by
  intro pins s σ H vs us Q I r h
  obtain ⟨a, bs, rfl, hs, q⟩ := h
  obtain ⟨its, rv, hl, _⟩ := I.list hs
  rw [Vals.ref1 r]
  have hb := rv.bls
  refine call_any_walk (iter_any hl.isList fun s₂ e2 st hne => ?_)
  subst e2
  refine ⟨_, _, _, _, _, _, _, rfl, Walks.list (A := X.A.in1) (I.ok.hd hc) _ a hne its.toArray, st, truth_bools hb, fun h' tk hk => ?_⟩
  refine ⟨.bl _, H, I.kept fun b o eo => hk b o (fun hmem => ?_) (Heap.get?_push_of_some _ eo), ?_, q⟩
  · rcases List.mem_cons.mp hmem with e1 | hmem
    · exact absurd (e1 ▸ Heap.lt_size eo) (Nat.lt_irrefl _)
    · cases hmem
  · show Value.bool _ = Value.bool _
    rw [← any_range, hb, List.size_toArray, List.length_map]
end

/-! ### == and != of data at any depth: none, bools, ints, texts, lists, tuples -/
mutual
inductive Dp (K : PySem.W.Frag) (H : Hp) : V → PyData → Prop
  | non : Dp K H .non .none
  | bl (b : Bool) : Dp K H (.bl b) (.bool b)
  | int (i : Int) : Dp K H (.int i) (.int i)
  | str (x : Str) : Dp K H (.str x) (.str x)
  | lst {a : Addr} {xs : List V} {ds : List PyData} : SqL K H a xs → DpAll K H xs ds → Dp K H (.ref a) (.list ds)
  | tup {a : Addr} {xs : List V} {ds : List PyData} : SqT K H a xs → DpAll K H xs ds → Dp K H (.ref a) (.tuple ds)
inductive DpAll (K : PySem.W.Frag) (H : Hp) : List V → List PyData → Prop
  | nil : DpAll K H [] []
  | cons {v : V} {vs : List V} {d : PyData} {ds : List PyData} : Dp K H v d → DpAll K H vs ds → DpAll K H (v :: vs) (d :: ds)
end
section
variable {X : Cx} {pins : List (Addr × Obj)} {σ : St} {H : Hp} {s : Shared}
mutual
theorem Dp.reads (I : Inv X pins σ H s) : ∀ (d : PyData) (v : V) (u : Value), Dp X.K H v d → RelV v u → ∃ as, Reads s.heap u d as
  | .none, _, _, h, r => by
    cases h
    cases r
    exact ⟨_, Reads.none⟩
  | .bool b, _, _, h, r => by
    cases h
    cases r
    exact ⟨_, Reads.bool b⟩
  | .int i, _, _, h, r => by
    cases h
    obtain ⟨t, rfl⟩ := r
    exact ⟨_, Reads.int i t⟩
  | .str x, _, _, h, r => by
    cases h
    obtain ⟨t, rfl⟩ := r
    exact ⟨_, Reads.str x t⟩
  | .list ds, _, _, h, r => by
    cases h with
    | lst hs ha =>
      cases r
      obtain ⟨its, rv, ⟨o, n, ho, hc, _, hd⟩, _⟩ := I.list hs
      obtain ⟨as, hr⟩ := Dp.readsAll I ds _ its ha rv
      exact ⟨_, Reads.list ho hc hd hr⟩
  | .tuple ds, _, _, h, r => by
    cases h with
    | tup hs ha =>
      cases r
      obtain ⟨its, rv, ⟨o, ho, hc, n, hd⟩, _⟩ := I.tuple hs
      obtain ⟨as, hr⟩ := Dp.readsAll I ds _ its ha rv
      exact ⟨_, Reads.tuple ho hc hd hr⟩
  | .dict _, _, _, h, _ => by cases h
theorem Dp.readsAll (I : Inv X pins σ H s) : ∀ (ds : List PyData) (vs : List V) (us : List Value), DpAll X.K H vs ds → Vals vs us → ∃ as, ReadsAll s.heap us ds as
  | [], _, _, h, r => by
    cases h
    cases r
    exact ⟨_, ReadsAll.nil⟩
  | d :: ds, _, _, h, r => by
    cases h with
    | cons h1 h2 =>
      cases r with
      | cons r1 r2 =>
        obtain ⟨as, q1⟩ := Dp.reads I d _ _ h1 r1
        obtain ⟨bs, q2⟩ := Dp.readsAll I ds _ _ h2 r2
        exact ⟨_, ReadsAll.cons q1 q2⟩
end
end
section
variable {X : Cx}
end
end L2

namespace L2
open PySem PySem.Spec PyProof.Rows
abbrev CellAt (h : Heap) (c : Addr) (v : Option Value) : Prop := h.IsCell c v
def relS (scope sc : Scope) : Scope :=
  { scope with names := scope.names.map fun (n, k) => if (k == .free && sc.kind == .function && sc.names.lookup n == some .cell) then (n, .cell) else (n, k) }

def cloFrom (cells : List (Str × Addr)) : List (Str × NameKind) → List (Str × Addr) → List (Str × Addr)
  | [], acc => acc
  | (n, k) :: r, acc => if k == .free then cloFrom cells r ((n, (cells.lookup n).getD 0) :: acc) else cloFrom cells r acc

theorem closure_loop (env : Env) (f : Str × NameKind → List (Str × Addr) → Sem (ForInStep (List (Str × Addr))))
    (hf : ∀ n k c, f (n, k) c = if k == .free then (do let a ← cellOf env n; pure (.yield ((n, a) :: c))) else pure (.yield c)) :
    ∀ (names : List (Str × NameKind)) (acc : List (Str × Addr)), (∀ y ∈ names, y.2 = .free → ∃ c, env.cells.lookup y.1 = some c) → forIn names acc f = pure (cloFrom env.cells names acc)
  | [], acc, _ => by rw [List.forIn_nil]; rfl
  | (n, k) :: r, acc, h => by
    rw [List.forIn_cons, hf]
    have ih := fun acc => closure_loop env f hf r acc fun y hy => h y (List.mem_cons_of_mem _ hy)
    unfold cloFrom
    by_cases hk : (k == NameKind.free) = true
    · rw [if_pos hk, if_pos hk]
      obtain ⟨c, hc⟩ := h (n, k) List.mem_cons_self (by simpa using hk)
      have e : cellOf env n = pure c := by unfold cellOf; rw [hc]
      rw [e]
      have e2 : (env.cells.lookup n).getD 0 = c := by rw [hc]; rfl
      rw [e2]
      exact ih _
    · rw [if_neg hk, if_neg hk]
      exact ih _
theorem closure_ok {scope : Scope} {env : Env} (h : ∀ y ∈ scope.names, y.2 = .free → ∃ c, env.cells.lookup y.1 = some c) : closureFor scope env = pure (cloFrom env.cells scope.names []) := by
  simp only [closureFor]
  rw [closure_loop env _ (fun n k c => rfl) scope.names [] h]
  rfl

theorem mem_lookup {α : Type} : ∀ {l : List (Str × α)} {n : Str} {c : α}, (n, c) ∈ l → ∃ c', l.lookup n = some c'
  | (k, v) :: r, n, c, h => by
    rw [List.lookup_cons]
    cases hb : n == k with
    | true => exact ⟨_, rfl⟩
    | false =>
      rcases List.mem_cons.mp h with e | h
      · cases e; simp at hb
      · exact mem_lookup h

theorem cloFrom_mem {cells : List (Str × Addr)} : ∀ {names : List (Str × NameKind)} {acc : List (Str × Addr)} {n : Str} {c : Addr}, (n, c) ∈ cloFrom cells names acc → (n, c) ∈ acc ∨ ((n, .free) ∈ names ∧ c = (cells.lookup n).getD 0)
  | [], _, _, _, h => .inl h
  | (m, k) :: r, acc, n, c, h => by
    unfold cloFrom at h
    split at h
    · rename_i hk
      have hk : k = .free := by simpa using hk
      rcases cloFrom_mem h with h | ⟨h1, h2⟩
      · rcases List.mem_cons.mp h with e | h
        · cases e; exact .inr ⟨hk ▸ List.mem_cons_self, rfl⟩
        · exact .inl h
      · exact .inr ⟨List.mem_cons_of_mem _ h1, h2⟩
    · rcases cloFrom_mem h with h | ⟨h1, h2⟩
      · exact .inl h
      · exact .inr ⟨List.mem_cons_of_mem _ h1, h2⟩
theorem cloFrom_acc {cells : List (Str × Addr)} : ∀ {names : List (Str × NameKind)} {acc : List (Str × Addr)} {p : Str × Addr}, p ∈ acc → p ∈ cloFrom cells names acc
  | [], _, _, h => h
  | (m, k) :: r, acc, p, h => by
    unfold cloFrom
    split
    · exact cloFrom_acc (List.mem_cons_of_mem _ h)
    · exact cloFrom_acc h
theorem cloFrom_has {cells : List (Str × Addr)} : ∀ {names : List (Str × NameKind)} {acc : List (Str × Addr)} {n : Str}, (n, .free) ∈ names → (n, (cells.lookup n).getD 0) ∈ cloFrom cells names acc
  | (m, k) :: r, acc, n, h => by
    unfold cloFrom
    rcases List.mem_cons.mp h with e | h
    · cases e
      exact cloFrom_acc List.mem_cons_self
    · split
      · exact cloFrom_has h
      · exact cloFrom_has h

theorem cells_mem : ∀ {names : List (Str × NameKind)} {h : Heap} {acc : List (Str × Addr)} {x : Str} {c : Addr}, (x, c) ∈ cellsFrom h.objs.size names acc →
    (x, c) ∈ acc ∨ ((x, .cell) ∈ names ∧ h.objs.size ≤ c ∧ CellAt (pushCells h names) c none)
  | [], _, _, _, _, h => .inl h
  | (n, k) :: r, h, acc, x, c, hm => by
    unfold cellsFrom at hm
    unfold pushCells
    split at hm
    · rename_i hk
      rw [if_pos hk]
      have hk : k = .cell := by simpa using hk
      rw [← Heap.size_push h { cls := .type "cell", data := .cell none }] at hm
      rcases cells_mem hm with hm | ⟨h1, h2, h3⟩
      · rcases List.mem_cons.mp hm with e | hm
        · cases e
          exact .inr ⟨hk ▸ List.mem_cons_self, Nat.le_refl _, _, pushCells_keeps r _ _ _ (Heap.get?_push_size _ rfl), rfl⟩
        · exact .inl hm
      · rw [Heap.size_push] at h2
        exact .inr ⟨List.mem_cons_of_mem _ h1, Nat.le_of_succ_le h2, h3⟩
    · rename_i hk
      rw [if_neg hk]
      rcases cells_mem hm with hm | ⟨h1, h2, h3⟩
      · exact .inl hm
      · exact .inr ⟨List.mem_cons_of_mem _ h1, h2, h3⟩
theorem cells_acc : ∀ {names : List (Str × NameKind)} {n : Nat} {acc : List (Str × Addr)} {p : Str × Addr}, p ∈ acc → p ∈ cellsFrom n names acc
  | [], _, _, _, h => h
  | (m, k) :: r, n, acc, p, h => by
    unfold cellsFrom
    split
    · exact cells_acc (List.mem_cons_of_mem _ h)
    · exact cells_acc h
theorem cells_has : ∀ {names : List (Str × NameKind)} {n : Nat} {acc : List (Str × Addr)} {x : Str}, (x, .cell) ∈ names → ∃ c, (x, c) ∈ cellsFrom n names acc
  | (m, k) :: r, n, acc, x, h => by
    unfold cellsFrom
    rcases List.mem_cons.mp h with e | h
    · cases e
      exact ⟨n, cells_acc List.mem_cons_self⟩
    · split
      · exact cells_has h
      · exact cells_has h
theorem cells_inj : ∀ {names : List (Str × NameKind)} {h : Heap} {acc : List (Str × Addr)} {x y : Str} {c : Addr}, (∀ p ∈ acc, p.2 < h.objs.size) → (∀ x y c, (x, c) ∈ acc → (y, c) ∈ acc → x = y) →
    (x, c) ∈ cellsFrom h.objs.size names acc → (y, c) ∈ cellsFrom h.objs.size names acc → x = y
  | [], _, _, _, _, _, _, hi, h1, h2 => hi _ _ _ h1 h2
  | (n, k) :: r, h, acc, x, y, c, hl, hi, h1, h2 => by
    unfold cellsFrom at h1 h2
    split at h1
    · rename_i hk
      rw [if_pos hk] at h2
      rw [← Heap.size_push h { cls := .type "cell", data := .cell none }] at h1 h2
      refine cells_inj (h := h.push _) (fun p hp => ?_) (fun x y c a b => ?_) h1 h2
      · rw [Heap.size_push]
        rcases List.mem_cons.mp hp with rfl | hp
        · exact Nat.lt_succ_self _
        · exact Nat.lt_succ_of_lt (hl p hp)
      · rcases List.mem_cons.mp a with e | a <;> rcases List.mem_cons.mp b with e' | b
        · cases e; cases e'; rfl
        · cases e; exact absurd (hl _ b) (Nat.lt_irrefl _)
        · cases e'; exact absurd (hl _ a) (Nat.lt_irrefl _)
        · exact hi _ _ _ a b
    · rename_i hk
      rw [if_neg hk] at h2
      exact cells_inj hl hi h1 h2

theorem newEnv_comp {M : Model} {A : Around} {E : Value → Shared → Prop} {s : Shared} {scope : Scope} {globals : Addr} {closure : List (Str × Addr)} {qual : Str} {func : Option Addr} {code : Value} {around : Env} {builtins : Addr} {Q : Env → Shared → Prop}
    (h : Q (newEnv scope s.heap.objs.size globals (cellsFrom (s.heap.objs.size + 1) scope.names closure) qual func code (some around) builtins)
      { s with heap := pushCells (s.heap.push { cls := .type "dict", data := .dict #[] }) scope.names }) :
    wpAny M A (newFunctionEnv scope globals closure [] qual func code (some around) builtins) Q E s := by
  simp only [newFunctionEnv, Option.isSome_some, if_true]
  refine wpAny_bind (wpAny_alloc ?_)
  refine wpAny_bind (wpAny_layCells _ (fun n k c => rfl) scope.names closure _ _ ?_)
  rw [show ({ s with heap := s.heap.push { cls := .type "dict", data := .dict #[] } } : Shared).heap.objs.size = s.heap.objs.size + 1 from Heap.size_push ..]
  rw [List.forIn_nil]
  exact wpAny_bind (wpAny_pure (wpAny_pure h))

/-- every name of the written scope, in the scope that runs -/
theorem lookup_relS {sc : Scope} : ∀ {names : List (Str × NameKind)} {x : Str} {k : NameKind},
    (names.map fun (n, k) => if (k == NameKind.free && sc.kind == .function && sc.names.lookup n == some .cell) then (n, NameKind.cell) else (n, k)).lookup x = some k →
    ∃ k', names.lookup x = some k' ∧ (k = k' ∨ (k' = .free ∧ k = .cell))
  | [], _, _, h => by simp at h
  | (n, k₀) :: r, x, k, h => by
    have ih := @lookup_relS sc r x k
    have h' : List.lookup x ((if (k₀ == NameKind.free && sc.kind == .function && sc.names.lookup n == some .cell) = true then (n, NameKind.cell) else (n, k₀)) :: (r.map _)) = some k := h
    cases hx : x == n with
    | true =>
      simp only [List.lookup_cons, hx]
      by_cases hc : (k₀ == NameKind.free && sc.kind == .function && sc.names.lookup n == some .cell) = true
      · rw [if_pos hc] at h'
        simp only [List.lookup_cons, hx] at h'
        cases h'
        simp only [Bool.and_eq_true, beq_iff_eq] at hc
        exact ⟨k₀, rfl, .inr ⟨hc.1.1, rfl⟩⟩
      · rw [if_neg hc] at h'
        simp only [List.lookup_cons, hx] at h'
        cases h'
        exact ⟨_, rfl, .inl rfl⟩
    | false =>
      simp only [List.lookup_cons, hx]
      by_cases hc : (k₀ == NameKind.free && sc.kind == .function && sc.names.lookup n == some .cell) = true
      · rw [if_pos hc] at h'
        simp only [List.lookup_cons, hx] at h'
        exact ih h'
      · rw [if_neg hc] at h'
        simp only [List.lookup_cons, hx] at h'
        exact ih h'
/-- the names of a comprehension's block: its own (with their places in N), or captured -/
structure BlkOk (N : List Str) (sc scope : Scope) (own : List (Str × Nat)) : Prop where
  kind : scope.kind = .function
  uniq : ∀ y ∈ scope.names, scope.names.lookup y.1 = some y.2
  ix : ∀ p ∈ own, N[p.2]? = some p.1
  free : ∀ y ∈ scope.names, y.2 = .free → sc.names.lookup y.1 = some .cell ∨ sc.names.lookup y.1 = some .free
  own : ∀ y ∈ scope.names, y.2 = .local ∨ y.2 = .cell → y.1 ∈ own.map (·.1) ∨ y.1 ∉ N
/-- the slots of the block's own names forgotten -/
def wipe (σ : St) : List Nat → St
  | [] => σ
  | v :: vs => (wipe σ vs).set v none
theorem wipe_length (σ : St) : ∀ vs : List Nat, (wipe σ vs).length = σ.length
  | [] => rfl
  | v :: vs => by unfold wipe; rw [List.length_set, wipe_length σ vs]
theorem wipe_some {σ : St} {i : Nat} {x : V} : ∀ {vs : List Nat}, (wipe σ vs)[i]? = some (some x) → σ[i]? = some (some x) ∧ i ∉ vs
  | [], h => ⟨h, by simp⟩
  | v :: vs, h => by
    unfold wipe at h
    by_cases hi : v = i
    · subst hi
      by_cases hv : v < (wipe σ vs).length
      · rw [List.getElem?_set_self hv] at h; cases h
      · rw [List.getElem?_eq_none (by simpa using hv)] at h; cases h
    · rw [List.getElem?_set_ne hi] at h
      obtain ⟨h1, h2⟩ := wipe_some h
      exact ⟨h1, by simp only [List.mem_cons, not_or]; exact ⟨fun e => hi e.symm, h2⟩⟩

/-- the context of a block that starts at s, its iterator's objects at fp -/
abbrev Cx.blk (X : Cx) (s : Shared) (H : Hp) (scope : Scope) (cenv : Env) (fp : List Addr) : Cx := { X with s₀ := s, H₀ := H, env := cenv, outer := X.stack, ex := fp, fn := fun x => scope.names.lookup x == some .cell, pn := [], xe := fun _ _ => False }
section
variable {X : Cx} {pins : List (Addr × Obj)} {σ : St} {H : Hp} {s : Shared}
theorem block_start {scope : Scope} {own : List (Str × Nat)} {fp : List Addr} (I : Inv X pins σ H s) (ok : BlkOk X.N X.env.scope scope own) (hN : X.N.Nodup) (hfp : ∀ b ∈ fp, FpOk X pins H b ∧ b < s.heap.objs.size) :
    Inv (X.blk s H scope (compEnvC scope (cellsFrom (s.heap.objs.size + 1) scope.names (cloFrom X.env.cells scope.names [])) s.heap.objs.size X.env) fp) [] (wipe σ (own.map (·.2))) H { s with heap := pushCells (s.heap.push { cls := .type "dict", data := .dict #[] }) scope.names } := by
  have hfree : ∀ y ∈ scope.names, y.2 = .free → ∃ c, X.env.cells.lookup y.1 = some c := fun y hy e => by
    rcases ok.free y hy e with k | k
    · exact I.ok.has _ (.inl k)
    · exact I.ok.has _ (.inr k)
  generalize hcenv : compEnvC scope (cellsFrom (s.heap.objs.size + 1) scope.names (cloFrom X.env.cells scope.names [])) s.heap.objs.size X.env = cenv
  have kp : ∀ b o, s.heap.get? b = some o → (pushCells (s.heap.push { cls := .type "dict", data := .dict #[] }) scope.names).get? b = some o := fun b o e => pushCells_keeps _ _ _ _ (Heap.get?_push_of_some _ e)
  have hL : cenv.locals = s.heap.objs.size := by rw [← hcenv]; rfl
  have hcl : cenv.cells = cellsFrom (s.heap.objs.size + 1) scope.names (cloFrom X.env.cells scope.names []) := by rw [← hcenv]; rfl
  have hsc : cenv.scope = relS scope X.env.scope := by rw [← hcenv]; rfl
  rw [← Heap.size_push s.heap { cls := .type "dict", data := .dict #[] }] at hcl
  have cm : ∀ {y c}, (y, c) ∈ cloFrom X.env.cells scope.names [] → X.env.cells.lookup y = some c ∧ c < s.heap.objs.size := fun {y c} hm => by
    rcases cloFrom_mem hm with hm | ⟨h1, rfl⟩
    · cases hm
    · obtain ⟨c, hc⟩ := hfree _ h1 rfl
      rw [hc]
      obtain ⟨w, z⟩ := I.cell _ _ hc
      exact ⟨rfl, z.lt⟩
  have mem : ∀ {y c}, cenv.cells.lookup y = some c → (X.env.cells.lookup y = some c ∧ c < s.heap.objs.size) ∨ (s.heap.objs.size + 1 ≤ c ∧ CellAt (pushCells (s.heap.push { cls := .type "dict", data := .dict #[] }) scope.names) c none) := fun {y c} e => by
    rw [hcl] at e
    rcases cells_mem (PySem.mem_of_lookup e) with hm | ⟨_, h2, h3⟩
    · exact .inl (cm hm)
    · rw [Heap.size_push] at h2; exact .inr ⟨h2, h3⟩
  have look : ∀ {y}, scope.names.lookup y = some .free → ∃ c, cenv.cells.lookup y = some c ∧ X.env.cells.lookup y = some c := fun {y} hl => by
    have hy : (y, NameKind.free) ∈ scope.names := PySem.mem_of_lookup hl
    obtain ⟨c', e'⟩ := mem_lookup (cells_acc (names := scope.names) (n := (s.heap.push { cls := .type "dict", data := .dict #[] }).objs.size) (cloFrom_has (cells := X.env.cells) (acc := []) hy))
    rw [← hcl] at e'
    refine ⟨c', e', ?_⟩
    rw [hcl] at e'
    rcases cells_mem (PySem.mem_of_lookup e') with hm | ⟨h1, _, _⟩
    · exact (cm hm).1
    · have := ok.uniq _ h1
      rw [hl] at this; cases this
  have okB : (X.blk s H scope cenv fp).Ok := by
    refine ⟨I.ok.mod, by show cenv.scope.kind = _; rw [hsc]; exact ok.kind, by show cenv.globals = _; rw [← hcenv]; exact I.ok.glob, by show cenv.builtins = _; rw [← hcenv]; exact I.ok.blt, by show s.heap.objs.size ≤ cenv.locals; rw [hL]; exact Nat.le_refl _,
      fun y z c e1 e2 => ?_, fun y hy => ?_, fun y c z e => ?_, I.ok.hd, I.ok.frames, .inl rfl, fun b hb => ⟨?_, fun y c e z => ?_⟩, I.bs, Nat.le_trans I.ok.bsz I.sz, fun b o e hb => ?_, fun b hb z => ?_, I.stack, I.stkFree⟩
    · have e1 : cenv.cells.lookup y = some c := e1
      have e2 : cenv.cells.lookup z = some c := e2
      rw [hcl] at e1 e2
      refine cells_inj (fun p hp => ?_) (fun y z c a b => I.ok.inj y z c (cm a).1 (cm b).1) (PySem.mem_of_lookup e1) (PySem.mem_of_lookup e2)
      rw [Heap.size_push]
      exact Nat.lt_succ_of_lt (cm (y := p.1) (c := p.2) hp).2
    · show ∃ c, cenv.cells.lookup y = some c
      have key : ∀ k, cenv.kindOf y = some k → (k = .cell ∨ k = .free) → ∃ c, cenv.cells.lookup y = some c := fun k hk hk' => by
        unfold Env.kindOf at hk
        rw [hsc] at hk
        obtain ⟨k', e, r⟩ := lookup_relS hk
        have : k' = .cell ∨ k' = .free := by
          rcases r with rfl | ⟨rfl, _⟩
          · exact hk'
          · exact .inr rfl
        rcases this with rfl | rfl
        · obtain ⟨c, hm⟩ := cells_has (n := (s.heap.push { cls := .type "dict", data := .dict #[] }).objs.size) (acc := cloFrom X.env.cells scope.names []) (PySem.mem_of_lookup e)
          obtain ⟨c', e'⟩ := mem_lookup hm
          exact ⟨c', by rw [hcl]; exact e'⟩
        · obtain ⟨c, h1, _⟩ := look e
          exact ⟨c, h1⟩
      rcases hy with hy | hy
      · exact key _ hy (.inl rfl)
      · exact key _ hy (.inr rfl)
    · have z : (scope.names.lookup y == some NameKind.cell) = true := z
      have z : scope.names.lookup y = some .cell := by simpa using z
      have e : cenv.cells.lookup y = some c := e
      rw [hcl] at e
      rcases cells_mem (PySem.mem_of_lookup e) with hm | ⟨_, h2, _⟩
      · rcases cloFrom_mem hm with hm | ⟨h1, _⟩
        · cases hm
        · have q := ok.uniq _ h1
          rw [z] at q; cases q
      · rw [Heap.size_push] at h2
        exact Nat.le_of_succ_le h2
    · show b ≠ cenv.locals
      rw [hL]; exact Nat.ne_of_lt (hfp b hb).2
    · have e : cenv.cells.lookup y = some c := e
      rcases mem e with ⟨h1, _⟩ | ⟨h1, _⟩
      · exact (hfp b hb).1.2.2.2.2.1 y c h1 z
      · have h2 : s.heap.objs.size + 1 ≤ b := by rw [← z]; exact h1
        exact absurd (Nat.lt_of_lt_of_le (hfp b hb).2 (Nat.le_of_succ_le h2)) (Nat.lt_irrefl _)
    · rcases (hfp b hb).1.2.2.2.1 with z | z
      · exact I.ok.noex b o e z
      · exact absurd (Nat.lt_of_lt_of_le (Heap.lt_size e) (Nat.le_trans I.ok.bsz z)) (Nat.lt_irrefl _)
    · rcases List.mem_cons.mp (I.stkSub b z) with z | z
      · exact (hfp b hb).1.2.1 z
      · exact (hfp b hb).1.2.2.1 z
  refine ⟨okB, rfl, I.bare, Un.kept kp, ⟨fun _ => none, ?_, fun i y av e1 e2 e3 => ?_⟩, fun y c e => ?_, ?_, fun y c e => ?_, fun p hp => ?_, I.hok.kept kp, by rw [wipe_length]; exact I.len⟩
  · show Heap.Ns _ cenv.locals _
    rw [hL]
    exact Heap.Ns.keeps (Heap.Ns.new ..) fun b o e => pushCells_keeps _ _ _ _ e
  · obtain ⟨e2, hne⟩ := wipe_some e2
    have hfr : scope.names.lookup y = some .free ∧ (cenv.kindOf y = some .cell ∨ cenv.kindOf y = some .free) := by
      have key : ∀ k, cenv.scope.names.lookup y = some k → k = .local ∨ k = .cell ∨ k = .free → scope.names.lookup y = some .free ∧ (cenv.kindOf y = some .cell ∨ cenv.kindOf y = some .free) := fun k hk hk' => by
        have hk0 := hk
        rw [hsc] at hk
        obtain ⟨k', e, r⟩ := lookup_relS hk
        have no : ¬ (k' = .local ∨ k' = .cell) := fun hh => by
          rcases ok.own _ (PySem.mem_of_lookup e) hh with e' | e'
          · obtain ⟨p, hp, hpy⟩ := List.mem_map.mp e'
            have e3 := ok.ix p hp
            have : p.1 = y := hpy
            rw [this] at e3
            exact hne (List.mem_map.mpr ⟨p, hp, nodup_ix hN e3 e1⟩)
          · exact e' (List.mem_of_getElem? e1)
        rcases r with rfl | ⟨rfl, rfl⟩
        · rcases hk' with rfl | rfl | rfl
          · exact absurd (.inl rfl) no
          · exact absurd (.inr rfl) no
          · exact ⟨e, .inr hk0⟩
        · exact ⟨e, .inl hk0⟩
      have e3 : Vis cenv.scope y := e3
      rcases e3 with e3 | e3 | e3
      · exact key _ e3 (.inl rfl)
      · exact key _ e3 (.inr (.inl rfl))
      · exact key _ e3 (.inr (.inr rfl))
    obtain ⟨m, hn, hl⟩ := I.loc
    have hvis : Vis X.env.scope y := (ok.free _ (PySem.mem_of_lookup hfr.1) rfl).elim (fun k => .inr (.inl k)) (fun k => .inr (.inr k))
    obtain ⟨w, r, q⟩ := hl i y av e1 e2 hvis
    refine ⟨w, r, .inr ⟨hfr.2, ?_⟩⟩
    obtain ⟨c, h1, h2⟩ := look hfr.1
    rcases q with ⟨k, _⟩ | ⟨_, c', e', z⟩
    · have k : X.env.scope.names.lookup y = some .local := k
      rcases ok.free _ (PySem.mem_of_lookup hfr.1) rfl with k' | k' <;> rw [show X.env.scope.names.lookup y = _ from k'] at k <;> cases k
    · rw [h2] at e'; cases e'
      exact ⟨c, h1, z.keeps kp⟩
  · have e : cenv.cells.lookup y = some c := e
    rcases mem e with ⟨h1, _⟩ | ⟨_, z⟩
    · obtain ⟨w, z⟩ := I.cell y c h1
      exact ⟨w, z.keeps kp⟩
    · exact ⟨_, z⟩
  · show H cenv.locals = none
    rw [hL]; exact I.hok.fresh (Nat.le_refl _)
  · have e : cenv.cells.lookup y = some c := e
    rcases mem e with ⟨h1, _⟩ | ⟨h1, _⟩
    · exact I.freeC y c h1
    · exact I.hok.fresh (Nat.le_of_succ_le h1)
  · exact absurd (show p ∈ ([] : List (Addr × Obj)) ++ [] from hp) (by simp)

/-- an item appended to a tracked list -/
theorem app_ok {E : Value → Shared → Prop} {D : Addr} {xs : List V} {y : V} {v : Value} {Q : Value → Shared → Prop} (I : Inv X pins σ H s) (hD : H D = some (.lst xs)) (hz : xs.length < sizeLine) (r : RelV y v)
    (h : ∀ s', Inv X pins σ (upd H D (.lst (xs ++ [y]))) s' → Q .none s') : wpAny (model X.prog X.w) X.A (call (.builtin "list.append") [.ref D, v]) Q E s := by
  obtain ⟨hz', its, n, ri, e⟩ := I.hok D _ hD
  have hl := ri.length
  refine append_at (hsz := by rw [List.size_toArray]; omega) e fun h' sb ho' => ?_
  refine h { s with heap := h' } (I.write (t' := s.toks) (by rw [hD]; trivial) (.inl rfl) (fun b u hb q => (sb.2 b hb).trans q) ⟨_, ho'⟩ ⟨by rw [List.length_append]; exact hz, its ++ [v], n + 1, ri.append (.cons r .nil), ?_⟩)
  rw [ho']
  simp

/-- a clause's tests -/
def PTs (X : Cx) (ifs : List Expr) (t : TT) : Prop :=
  ∀ (pins : List (Addr × Obj)) (s : Shared) (σ : St) (H : Hp) (Q : Bool → Hp → Prop), Inv X pins σ H s → t σ H Q →
    wpAny (model X.prog X.w) X.A (forIn ifs true fun c r => if r = true then do let ok ← isTrue c X.env (eval c X.env); pure (ForInStep.yield ok) else pure (ForInStep.yield r)) (TP X pins σ Q) X.xe s
def tYes : TT := fun _ H Q => Q true H
theorem pts_nil : PTs X [] tYes := fun _ _ _ H _ I h => wpAny_tests_nil ⟨H, I, h⟩
theorem pts_one {c : Expr} {t : TT} (h : PT X c t) : PTs X [c] t := fun pins s σ H Q I hw => wpAny_tests_one (h pins s σ H Q I hw)
end

theorem thnF {α : Type} {t : Sem α} {Q Q' : α → Shared → Prop} {M : Model} {A : Around} {E : Value → Shared → Prop} {s : Shared} (h : wpAny M A t Q (fun _ _ => False) s) (hQ : ∀ a s, Q a s → Q' a s) : wpAny M A t Q' E s := wpAny_mono h hQ fun _ _ z => False.elim z

/-- the loop of a list comprehension's block, the target of any form (codeAny_compLoop_tests asks a target that no tuple goes to; statement and proof follow it, PyProof/CompMap.lean:41-61, with the step letOwnedTupleGo kept) -/
theorem compLoop_any {prog : Program} {w : World} {A : Around} {R : Result → Shared → Prop} {s : Shared} {elt target iter : Expr} {ifs : List Expr} {scope : Scope} {pos : Pos} {it acc : Value} {env : Env} (I : Nat → Shared → Prop)
    (turn : ∀ n s, I n s → wpAny (model prog w) A (pyNext it) (fun r s₁ => match r with
      | none => R (.ok .next) s₁
      | some v => wpAny (model prog w) A (letOwnedTupleGo target it v) (fun _ s₁' => wpAny (model prog w) A (assign target env v) (fun _ s₂ =>
          wpAny (model prog w) A (forIn ifs true fun c r => if r = true then do let ok ← isTrue c env (eval c env); pure (ForInStep.yield ok) else pure (ForInStep.yield r)) (fun ok s₃ =>
            if ok = true then wpAny (model prog w) A (eval elt env) (fun x s₄ =>
              wpAny (model prog w) A (call (.builtin "list.append") [acc, x]) (fun _ s₅ => ∃ m, m < n ∧ I m s₅) (notedBy (model prog w) A env fun e s' => R (.error e) s') s₄) (notedBy (model prog w) A env fun e s' => R (.error e) s') s₃
            else ∃ m, m < n ∧ I m s₃) (notedBy (model prog w) A env fun e s' => R (.error e) s') s₂) (notedBy (model prog w) A env fun e s' => R (.error e) s') s₁') (notedBy (model prog w) A env fun e s' => R (.error e) s') s₁) (notedBy (model prog w) A env fun e s' => R (.error e) s') s)
    (n : Nat) (h : I n s) :
    codeAny (model prog w) A (.compLoop (.ListComp elt [⟨target, iter, ifs, 0⟩] scope pos) 0 it acc env) R s := by
  refine codeAny_loop rfl I (fun n s hI => ?_) n h
  show wpAny _ A ((compTurn (.ListComp elt [⟨target, iter, ifs, 0⟩] scope pos) 0 it acc env).onRaise (fun x => do noteFrame x env; theTreesLotGoes x)) _ _ s
  refine wpAny_noted ?_
  rw [compTurn_list]
  refine wpAny_bind (wpAny_standAt (wpAny_bind (wpAny_mono (turn n s hI) (fun r s₁ h₁ => ?_) fun _ _ h' => h')))
  cases r with
  | none => exact wpAny_pure h₁
  | some v =>
    refine wpAny_bind (wpAny_mono h₁ (fun _ s₁' h₁' => ?_) fun _ _ h' => h')
    refine wpAny_bind (wpAny_mono h₁' (fun _ s₂ h₂ => wpAny_bind (wpAny_mono h₂ (fun ok s₃ h₃ => ?_) fun _ _ h' => h')) fun _ _ h' => h')
    cases ok with
    | false => exact wpAny_pure ⟨rfl, h₃⟩
    | true =>
      exact wpAny_bind (wpAny_bind (wpAny_mono h₃ (fun x s₄ h₄ => wpAny_bind (wpAny_mono h₄ (fun _ s₅ h₅ => wpAny_pure (wpAny_pure ⟨rfl, h₅⟩)) fun _ _ h' => h')) fun _ _ h' => h'))

section
variable {X : Cx}
/-- [elt for target in iter if ..]: D the new list; W by the turn and a measure, Nx what a turn is to reach -/
def tLc (wi : TI) (g : TG) (tt : TT) (te : TE) (vs : List Nat) : TE := fun σ H Q => wi σ H fun J H1 => ∀ D, H1 D = none → ∃ W : Nat → Nat → Hp → Prop, (∃ m, W 0 m (upd H1 D (.lst []))) ∧ ∀ i m H, W i m H →
  (J.stop i H ∧ Q (.ref D) H) ∨ (J.go i H ∧ ∃ Nx : Hp → Prop, (∀ H', Nx H' → ∃ m', m' < m ∧ W (i + 1) m' H') ∧ ∀ x H', J.yld i H x H' → g x (wipe σ vs) H' fun σ2 H2 => wipe σ2 vs = wipe σ vs ∧ tt σ2 H2 fun b H3 =>
    if b = true then te σ2 H3 fun y H4 => ∃ acc, H4 D = some (.lst acc) ∧ acc.length < sizeLine ∧ Nx (upd H4 D (.lst (acc ++ [y]))) else Nx H3)
theorem lc_core {pins : List (Addr × Obj)} {s : Shared} {σ : St} {H : Hp} {Q : VK} {elt tg iter : Expr} {ifs : List Expr} {scope : Scope} {own : List (Str × Nat)} {pos pos' : Pos} {wi : TI} {g : TG} {tt : TT} {te : TE} {use : Option (Value → Sem Unit)} {Qf : Value → Shared → Prop}
    (hc : X.calm = true) (hN : X.N.Nodup) (I : Inv X pins σ H s) (hi : PI X tg iter wi) (ok : BlkOk X.N X.env.scope scope own)
    (hg : ∀ (s : Shared) (H : Hp) (C : Addr) (cl : List (Str × Addr)) (fp : List Addr), PG (X.blk s H scope (compEnvC scope cl C X.env) fp) tg g) (ht : ∀ (s : Shared) (H : Hp) (C : Addr) (cl : List (Str × Addr)) (fp : List Addr), PTs (X.blk s H scope (compEnvC scope cl C X.env) fp) ifs tt)
    (he : ∀ (s : Shared) (H : Hp) (C : Addr) (cl : List (Str × Addr)) (fp : List Addr), PE (X.blk s H scope (compEnvC scope cl C X.env) fp) elt te) (hs : ∀ x, foldedSetIterable iter X.env x = pure x)
    (h : tLc wi g tt te (own.map (·.2)) σ H Q)
    (hRR : ∀ D C s' m H', Inv X pins σ H' s' → Q (.ref D) H' → s'.heap.Ns C m → FpOk X pins H' C → compPost (model X.prog X.w) X.A X.xe use Qf (.ref D) C (.ok .next) s') :
    wpAny (model X.prog X.w) X.A (comprehension (.ListComp elt [⟨tg, iter, ifs, 0⟩] scope pos) scope X.env pos' (newList []) false (eval iter X.env) use) Qf X.xe s := by
  have hfree : ∀ y ∈ scope.names, y.2 = .free → ∃ c, X.env.cells.lookup y.1 = some c := fun y hy e => by
    rcases ok.free y hy e with k | k
    · exact I.ok.has _ (.inl k)
    · exact I.ok.has _ (.inr k)
  refine wpAny_comprehension_free (use := use) rfl hs (closure_ok hfree) ok.kind (fun y hy e => by rw [ok.uniq y hy, e])
    (thn (hi pins s σ H _ I h) fun xv s1 hx => thn hx fun itv s2 h2 => ?_)
  obtain ⟨it, fp, tn, J, H2, e, I2, T, st2, f2, q⟩ := h2
  subst e
  refine wpAny_newObj_type (newEnv_comp ?_) (by show 0 ≤ sizeLine; decide)
  generalize hD : s2.heap.objs.size = D
  have hDn : H2 D = none := I2.hok.fresh (Nat.le_of_eq hD)
  obtain ⟨W, ⟨m0, w0⟩, turn⟩ := q D hDn
  -- the new list
  generalize hs3 : ({ s2 with heap := s2.heap.push { cls := .type "list", data := .seq ([] : List Value).toArray } } : Shared) = s3
  have I3 : Inv X pins σ (upd H2 D (.lst [])) s3 := by
    rw [← hs3]
    refine I2.laid (t' := s2.toks) (fun b o e => Heap.get?_push_of_some _ e) (Nat.le_of_eq hD) ⟨Nat.zero_le _, [], 0, .nil, ?_⟩
    rw [← hD]
    exact Heap.get?_push_size _ rfl
  have h3 : s3.heap = s2.heap.push { cls := .type "list", data := .seq ([] : List Value).toArray } := by rw [← hs3]
  have sz : ∀ b ∈ fp, b < s2.heap.objs.size := fun b hb => by
    obtain ⟨o, e, _⟩ := T.obj _ _ st2 b hb
    exact Heap.lt_size e
  have f3 : ∀ b ∈ fp, FpOk X pins (upd H2 D (.lst [])) b ∧ b < s3.heap.objs.size := fun b hb => by
    have hlt := sz b hb
    refine ⟨⟨?_, (f2 b hb).2⟩, by rw [h3, Heap.size_push]; exact Nat.lt_succ_of_lt hlt⟩
    rw [upd_ne (by rw [← hD]; exact Nat.ne_of_lt hlt)]
    exact (f2 b hb).1
  have st3 : tn 0 s3.heap := T.keep _ _ _ st2 fun b _ o e => by rw [h3]; exact Heap.get?_push_of_some _ e
  have I4 := block_start I3 ok hN f3
  have pg := hg s3 (upd H2 D (.lst [])) s3.heap.objs.size (cellsFrom (s3.heap.objs.size + 1) scope.names (cloFrom X.env.cells scope.names [])) fp
  have pt := ht s3 (upd H2 D (.lst [])) s3.heap.objs.size (cellsFrom (s3.heap.objs.size + 1) scope.names (cloFrom X.env.cells scope.names [])) fp
  have pe := he s3 (upd H2 D (.lst [])) s3.heap.objs.size (cellsFrom (s3.heap.objs.size + 1) scope.names (cloFrom X.env.cells scope.names [])) fp
  show codeAny _ _ (.compStart (.ListComp elt [⟨tg, iter, ifs, 0⟩] scope pos) 0 (.ref it) (.ref D) (compEnvC scope (cellsFrom (s3.heap.objs.size + 1) scope.names (cloFrom X.env.cells scope.names [])) s3.heap.objs.size X.env)) (compPost (model X.prog X.w) X.A X.xe use Qf (.ref D) s3.heap.objs.size) { s3 with heap := pushCells (s3.heap.push { cls := .type "dict", data := .dict #[] }) scope.names }
  have nfp : ∀ b ∈ fp, (upd H2 D (.lst [])) b = none := fun b hb => (f3 b hb).1.1
  generalize hce : compEnvC scope (cellsFrom (s3.heap.objs.size + 1) scope.names (cloFrom X.env.cells scope.names [])) s3.heap.objs.size X.env = ce at I4 pg pt pe ⊢
  have cL : ce.locals = s3.heap.objs.size := by subst hce; rfl
  generalize hH3 : upd H2 D (.lst []) = H3 at I3 I4 pg pt pe w0 nfp f3
  generalize hs4 : ({ s3 with heap := pushCells (s3.heap.push { cls := .type "dict", data := .dict #[] }) scope.names } : Shared) = s4 at I4 ⊢
  have st4 : tn 0 s4.heap := T.keep _ _ _ st3 fun b _ o e => by rw [← hs4]; exact pushCells_keeps _ _ _ _ (Heap.get?_push_of_some _ e)
  have stat : ∀ {σ' : St} {H' : Hp} {s' : Shared}, Inv (X.blk s3 H3 scope ce fp) [] σ' H' s' → (∀ b ∈ fp, H' b = none) → ∀ b ∈ fp, FpOk (X.blk s3 H3 scope ce fp) [] H' b := fun {σ' H' s'} I' hn b hb =>
    ⟨hn b hb, (I'.ok.exf b hb).1, I'.ok.exfs b hb, .inl hb, fun x c e => (I'.ok.exf b hb).2 x c e, fun p hp => absurd (show p ∈ ([] : List (Addr × Obj)) ++ [] from hp) (by simp)⟩
  have loop : codeAny (model X.prog X.w) X.A (.compLoop (.ListComp elt [⟨tg, iter, ifs, 0⟩] scope pos) 0 (.ref it) (.ref D) ce) (compPost (model X.prog X.w) X.A X.xe use Qf (.ref D) s3.heap.objs.size) s4 := by
    refine compLoop_any (fun n s' => ∃ i H', Inv (X.blk s3 H3 scope ce fp) [] (wipe σ (own.map (·.2))) H' s' ∧ tn i s'.heap ∧ (∀ b ∈ fp, H' b = none) ∧ W i n H') ?_ m0 ⟨0, H3, I4, st4, nfp, w0⟩
    rintro n s5 ⟨i, H5, I5, st5, n5, w5⟩
    rcases turn i n H5 w5 with ⟨stop, qq⟩ | ⟨go, Nx, hNx, step⟩
    · have td := T.done (X.blk s3 H3 scope ce fp) rfl rfl rfl hc i [] s5 _ H5 (fun _ _ => False) I5 (stat I5 n5) st5 stop
      refine thnF td fun r s6 ⟨hr, I6⟩ => ?_
      subst hr
      -- back in the def's context
      have I7 : Inv X pins σ H5 s6 := I3.call' (ch := fp) I6.os I6.base I6.hok I6.bare fun b hb => ⟨(f3 b hb).1.2.2.2.1, (f3 b hb).1.2.1, (f3 b hb).1.2.2.2.2.1, (f3 b hb).1.2.2.2.2.2⟩
      have nC : H5 s3.heap.objs.size = none := by
        have z : H5 ce.locals = none := I6.free
        rw [cL] at z
        exact z
      obtain ⟨m, hn, _⟩ := I6.loc
      have hn : s6.heap.Ns ce.locals m := hn
      rw [cL] at hn
      exact hRR D s3.heap.objs.size s6 m H5 I7 qq hn (I3.fpOk (Nat.le_refl _) nC)
    · have ti := T.item (X.blk s3 H3 scope ce fp) rfl rfl rfl hc i [] s5 _ H5 (fun _ _ => False) I5 (stat I5 n5) st5 go
      refine thnF ti fun r s6 ⟨u, hr, h6⟩ => ?_
      subst hr
      refine thnF h6 fun _ s7 ⟨x, H7, I7, r7, y7, st7, n7⟩ => ?_
      have I7' := I7.pinned (stat I7 n7) (T.obj _ _ st7)
      refine thnF (pg _ s7 _ H7 x u _ I7' r7 (step x H7 y7)) fun _ s8 ⟨σ8, H8, I8, hw8, q8⟩ => ?_
      refine thnF (pt _ s8 σ8 H8 _ I8 q8) fun b s9 ⟨H9, I9, q9⟩ => ?_
      -- the turn's end
      have fin : ∀ {s' : Shared} {H' : Hp}, Inv (X.blk s3 H3 scope ce fp) ([] ++ pinsAt fp s7.heap) σ8 H' s' → Nx H' → ∃ m, m < n ∧ ∃ i H', Inv (X.blk s3 H3 scope ce fp) [] (wipe σ (own.map (·.2))) H' s' ∧ tn i s'.heap ∧ (∀ b ∈ fp, H' b = none) ∧ W i m H' := fun {s' H'} I' nx => by
        obtain ⟨m', hm, w'⟩ := hNx H' nx
        have pin' : ∀ b ∈ fp, ∀ o, s7.heap.get? b = some o → s'.heap.get? b = some o ∧ H' b = none := fun b hb o e =>
          let z := I'.pin (b, o) (List.mem_append_right _ (List.mem_append_right _ (mem_pinsAt hb e)))
          ⟨z.1, z.2.1⟩
        have hl : (wipe σ (own.map (·.2))).length = σ8.length := by rw [← hw8, wipe_length]
        refine ⟨m', hm, i + 1, H', (I'.unpinned (pins := [])).weak hl (fun j v e => ?_), T.keep _ _ _ st7 fun b hb o e => (pin' b hb o e).1, fun b hb => ?_, w'⟩
        · rw [← hw8] at e
          exact (wipe_some e).1
        · obtain ⟨o, e, _⟩ := T.obj _ _ st7 b hb
          exact (pin' b hb o e).2
      cases b with
      | false =>
        simp only [Bool.false_eq_true, if_false] at q9 ⊢
        exact fin I9 q9
      | true =>
        simp only [if_true] at q9 ⊢
        refine thnF (pe _ s9 σ8 H9 _ I9 q9) fun z s10 ⟨yv, H10, I10, r10, acc, hD10, hz10, nx⟩ => ?_
        exact app_ok (X := X.blk s3 H3 scope ce fp) I10 hD10 hz10 r10 fun s11 I11 => fin I11 nx
  exact codeAny_compStart_list loop (T.self X.A 0 _ _ _ st4 loop)
/-- as a value -/
theorem pe_lc {elt tg iter : Expr} {ifs : List Expr} {scope : Scope} {own : List (Str × Nat)} {pos : Pos} {wi : TI} {g : TG} {tt : TT} {te : TE} (hc : X.calm = true) (hN : X.N.Nodup) (hi : PI X tg iter wi) (ok : BlkOk X.N X.env.scope scope own)
    (hg : ∀ (s : Shared) (H : Hp) (C : Addr) (cl : List (Str × Addr)) (fp : List Addr), PG (X.blk s H scope (compEnvC scope cl C X.env) fp) tg g) (ht : ∀ (s : Shared) (H : Hp) (C : Addr) (cl : List (Str × Addr)) (fp : List Addr), PTs (X.blk s H scope (compEnvC scope cl C X.env) fp) ifs tt)
    (he : ∀ (s : Shared) (H : Hp) (C : Addr) (cl : List (Str × Addr)) (fp : List Addr), PE (X.blk s H scope (compEnvC scope cl C X.env) fp) elt te) (hs : ∀ x, foldedSetIterable iter X.env x = pure x := by intro _; rfl) :
    PE X (.ListComp elt [⟨tg, iter, ifs, 0⟩] scope pos) (tLc wi g tt te (own.map (·.2))) := by
  intro pins s σ H Q I h
  rw [eval_ListComp]
  refine lc_core hc hN I hi ok hg ht he hs h fun D C s' m H' I' q hn f => ⟨m, hn, fun h'' sb => ?_⟩
  obtain ⟨f0, f1, f2, f3, f4, f5⟩ := f
  exact ⟨.ref D, H', I'.turned (t' := s'.toks) (fun b o hb e => (sb.2 b hb).trans e) f0 f1 f3 f4 f5, rfl, q⟩
/-- name = [..] on one line, the name a local -/
theorem ps_setLc {i : Nat} {y : Str} {py : Pos} {elt tg iter : Expr} {ifs : List Expr} {scope : Scope} {own : List (Str × Nat)} {pos spos : Pos} {wi : TI} {g : TG} {tt : TT} {te : TE} (hc : X.calm = true) (hN : X.N.Nodup) (hy : X.N[i]? = some y) (hyl : X.env.scope.names.lookup y = some .local)
    (hsw : swapsWith (.ListComp elt [⟨tg, iter, ifs, 0⟩] scope pos) (some (.Name y py)) spos.line X.env = pure true) (hi : PI X tg iter wi) (ok : BlkOk X.N X.env.scope scope own)
    (hg : ∀ (s : Shared) (H : Hp) (C : Addr) (cl : List (Str × Addr)) (fp : List Addr), PG (X.blk s H scope (compEnvC scope cl C X.env) fp) tg g) (ht : ∀ (s : Shared) (H : Hp) (C : Addr) (cl : List (Str × Addr)) (fp : List Addr), PTs (X.blk s H scope (compEnvC scope cl C X.env) fp) ifs tt)
    (he : ∀ (s : Shared) (H : Hp) (C : Addr) (cl : List (Str × Addr)) (fp : List Addr), PE (X.blk s H scope (compEnvC scope cl C X.env) fp) elt te) (hs : ∀ x, foldedSetIterable iter X.env x = pure x := by intro _; rfl) :
    PS X (.Assign [.Name y py] (.ListComp elt [⟨tg, iter, ifs, 0⟩] scope pos) spos) (tAsg (tLc wi g tt te (own.map (·.2))) (gName i)) := by
  intro pins s σ H D I h
  rw [exec_Assign_Name_used _ _ _ _ hsw]
  refine wpAny_bind (wpAny_standAt (wpAny_bind ?_))
  show wpAny _ X.A (do let _ ← comprehension (.ListComp elt [⟨tg, iter, ifs, 0⟩] scope pos) scope X.env (firstIterPos [⟨tg, iter, ifs, 0⟩] pos) (newList []) false (eval iter X.env) (some (assign (.Name y py) X.env))) _ _ s
  have h : tLc wi g tt te (own.map (·.2)) σ H (fun x H1 => gName i x σ H1 D.nx) := h
  refine wpAny_bind (thn (lc_core (Qf := fun _ s' => SP X pins D .next s') hc hN I hi ok hg ht he hs h fun L C s' m H' I' q hn f => ?_) fun _ s' hq => wpAny_pure (wpAny_pure hq))
  show wpAny _ _ (assign (.Name y py) X.env (.ref L)) _ _ _
  refine wpAny_assign_Name (store_ok2 (v := V.ref L) I' hN hy (.inl hyl) rfl (fun s2 I2 ⟨a, sb, ha⟩ => ?_) (.inr hyl))
  obtain ⟨f0, f1, f2, f3, f4, f5⟩ := f
  have haC : C ≠ a := by
    rcases ha with z | z
    · rw [z]; exact f1
    · exact fun e => f4 y a z e.symm
  refine ⟨m, hn.sameBut sb haC, fun h3 sb3 => ?_⟩
  exact ⟨_, H', I2.turned (t' := s2.toks) (fun b o hb e => (sb3.2 b hb).trans e) f0 f1 f3 f4 f5, q⟩
theorem sw_true {elt : Expr} {gs : List Comprehension} {scope : Scope} {pos py : Pos} {y : Str} {l : Nat} {env : Env} (hk : env.scope.kind = .function) (hy : env.scope.names.lookup y = some .local) (hl : (py.line == pos.line) = true)
    (ha : (scope.names.any fun (n, k) => n == y && (k == .local || k == .cell)) = false) : swapsWith (.ListComp elt gs scope pos) (some (.Name y py)) l env = pure true := by
  have ky : env.kindOf y = some .local := hy
  have hb : env.blockKind = .function := by unfold Env.blockKind; rw [hk]; rfl
  unfold swapsWith
  simp only [hb, ky, ha, Expr.pos, hl]
  rfl
end

/-! ### the forms one uses -/
/-- over a list that the block leaves as it is -/
theorem lc_list {K : PySem.W.Frag} {a : Addr} {xs : List V} {g : TG} {tt : TT} {te : TE} {vs : List Nat} {σ : St} {H1 : Hp} {D : Addr} {Qd : Hp → Prop} (Pv : Nat → Hp → Prop) (h0 : Pv 0 (upd H1 D (.lst []))) (hl : ∀ i H, i ≤ xs.length → Pv i H → SqL K H a xs)
    (hs : ∀ i x H, xs[i]? = some x → Pv i H → g x (wipe σ vs) H fun σ2 H2 => wipe σ2 vs = wipe σ vs ∧ tt σ2 H2 fun b H3 =>
      if b = true then te σ2 H3 fun y H4 => ∃ acc, H4 D = some (.lst acc) ∧ acc.length < sizeLine ∧ Pv (i + 1) (upd H4 D (.lst (acc ++ [y]))) else Pv (i + 1) H3) (hd : ∀ H, Pv xs.length H → Qd H) :
    ∃ W : Nat → Nat → Hp → Prop, (∃ m, W 0 m (upd H1 D (.lst []))) ∧ ∀ i m H, W i m H →
      ((Itl K a).stop i H ∧ Qd H) ∨ ((Itl K a).go i H ∧ ∃ Nx : Hp → Prop, (∀ H', Nx H' → ∃ m', m' < m ∧ W (i + 1) m' H') ∧ ∀ x H', (Itl K a).yld i H x H' → g x (wipe σ vs) H' fun σ2 H2 => wipe σ2 vs = wipe σ vs ∧ tt σ2 H2 fun b H3 =>
        if b = true then te σ2 H3 fun y H4 => ∃ acc, H4 D = some (.lst acc) ∧ acc.length < sizeLine ∧ Nx (upd H4 D (.lst (acc ++ [y]))) else Nx H3) := by
  refine ⟨fun i m H => m = xs.length - i ∧ i ≤ xs.length ∧ Pv i H, ⟨xs.length, by simp, Nat.zero_le _, h0⟩, ?_⟩
  rintro i m H ⟨rfl, hi, p⟩
  have q := hl i H hi p
  by_cases hlt : i < xs.length
  · refine .inr ⟨⟨xs, xs[i], q, by simp [hlt]⟩, Pv (i + 1), fun H' p' => ⟨xs.length - (i + 1), by omega, rfl, hlt, p'⟩, fun x H' y => ?_⟩
    obtain ⟨e, y⟩ := y
    subst e
    exact hs i x _ (y xs q) p
  · have e : i = xs.length := by omega
    subst e
    exact .inl ⟨⟨xs, q, Nat.le_refl _⟩, hd H p⟩
/-- over a tuple -/
theorem lc_tup {K : PySem.W.Frag} {a : Addr} {xs : List V} {g : TG} {tt : TT} {te : TE} {vs : List Nat} {σ : St} {H1 : Hp} {D : Addr} {Qd : Hp → Prop} (Pv : Nat → Hp → Prop) (h0 : Pv 0 (upd H1 D (.lst []))) (hl : ∀ i H, i ≤ xs.length → Pv i H → SqT K H a xs)
    (hs : ∀ i x H, xs[i]? = some x → Pv i H → g x (wipe σ vs) H fun σ2 H2 => wipe σ2 vs = wipe σ vs ∧ tt σ2 H2 fun b H3 =>
      if b = true then te σ2 H3 fun y H4 => ∃ acc, H4 D = some (.lst acc) ∧ acc.length < sizeLine ∧ Pv (i + 1) (upd H4 D (.lst (acc ++ [y]))) else Pv (i + 1) H3) (hd : ∀ H, Pv xs.length H → Qd H) :
    ∃ W : Nat → Nat → Hp → Prop, (∃ m, W 0 m (upd H1 D (.lst []))) ∧ ∀ i m H, W i m H →
      ((Itt K a).stop i H ∧ Qd H) ∨ ((Itt K a).go i H ∧ ∃ Nx : Hp → Prop, (∀ H', Nx H' → ∃ m', m' < m ∧ W (i + 1) m' H') ∧ ∀ x H', (Itt K a).yld i H x H' → g x (wipe σ vs) H' fun σ2 H2 => wipe σ2 vs = wipe σ vs ∧ tt σ2 H2 fun b H3 =>
        if b = true then te σ2 H3 fun y H4 => ∃ acc, H4 D = some (.lst acc) ∧ acc.length < sizeLine ∧ Nx (upd H4 D (.lst (acc ++ [y]))) else Nx H3) := by
  refine ⟨fun i m H => m = xs.length - i ∧ i ≤ xs.length ∧ Pv i H, ⟨xs.length, by simp, Nat.zero_le _, h0⟩, ?_⟩
  rintro i m H ⟨rfl, hi, p⟩
  have q := hl i H hi p
  by_cases hlt : i < xs.length
  · refine .inr ⟨⟨xs, xs[i], q, by simp [hlt]⟩, Pv (i + 1), fun H' p' => ⟨xs.length - (i + 1), by omega, rfl, hlt, p'⟩, fun x H' y => ?_⟩
    obtain ⟨e, y⟩ := y
    subst e
    exact hs i x _ (y xs q) p
  · have e : i = xs.length := by omega
    subst e
    exact .inl ⟨⟨xs, q, Nat.le_refl _⟩, hd H p⟩
end L2

namespace L2
open PySem PySem.Spec PyProof.Rows

section
variable {prog : Program} {w : World} {A : Around} {R : Result → Shared → Prop} {s : Shared} {elt t0 i0 t1 i1 : Expr} {ifs0 ifs1 : List Expr} {scope : Scope} {pos : Pos} {it acc : Value} {env : Env}
end

section
variable {X : Cx}
end
end L2

namespace L2
open PySem PySem.Spec PyProof.Rows

/-! ### lists of pairs as tables -/
section
variable {κ : Type} [DecidableEq κ]
def valV (kvs : List (κ × V)) (k : κ) : Option V := (kvs.find? fun kv => decide (kv.1 = k)).map (·.2)
/-- in its place, or at the end -/
def putK (kvs : List (κ × V)) (k : κ) (v : V) : List (κ × V) :=
  if (kvs.any fun kv => decide (kv.1 = k)) = true then kvs.map (fun kv => if kv.1 = k then (kv.1, v) else kv) else kvs ++ [(k, v)]
def dropK (kvs : List (κ × V)) (k : κ) : List (κ × V) := kvs.filter fun kv => decide (kv.1 ≠ k)

theorem valV_pos {p : κ × V} {r : List (κ × V)} {k : κ} (e : p.1 = k) : valV (p :: r) k = some p.2 := by simp [valV, List.find?_cons, e]
theorem valV_neg {p : κ × V} {r : List (κ × V)} {k : κ} (e : ¬ p.1 = k) : valV (p :: r) k = valV r k := by simp [valV, List.find?_cons, e]
theorem valV_any (k : κ) : ∀ kvs : List (κ × V), (kvs.any fun kv => decide (kv.1 = k)) = (valV kvs k).isSome
  | [] => rfl
  | p :: r => by
    rw [List.any_cons]
    by_cases e : p.1 = k
    · simp only [valV_pos e, decide_eq_true e, Bool.true_or, Option.isSome_some]
    · rw [valV_neg e, decide_eq_false e, Bool.false_or]; exact valV_any k r
theorem length_putK (kvs : List (κ × V)) (k : κ) (v : V) : (putK kvs k v).length ≤ kvs.length + 1 := by
  unfold putK
  split
  · rw [List.length_map]; omega
  · rw [List.length_append, List.length_cons, List.length_nil]; omega
theorem putK_new {kvs : List (κ × V)} {k : κ} (v : V) (h : valV kvs k = none) : putK kvs k v = kvs ++ [(k, v)] := by
  unfold putK
  rw [valV_any, h]
  exact if_neg (by decide)

theorem RelO.isSome_eq {o : Option V} {u : Option Value} (r : RelO o u) : o.isSome = u.isSome := by
  cases o with
  | none => cases u with
    | none => rfl
    | some _ => exact (show False from r).elim
  | some _ => cases u with
    | none => exact (show False from r).elim
    | some _ => rfl
theorem RelO.getD {o : Option V} {u : Option Value} {d : V} {d' : Value} (r : RelO o u) (rd : RelV d d') : RelV (o.getD d) (u.getD d') := by
  cases o with
  | none => cases u with
    | none => exact rd
    | some _ => exact (show False from r).elim
  | some _ => cases u with
    | none => exact (show False from r).elim
    | some _ => exact r

/-- raw tables of the same keys -/
theorem KV.val {kvs : List (κ × V)} {vs : List (κ × Value)} (r : KV kvs vs) (k : κ) : RelO (valV kvs k) (valueAt vs k) := by
  unfold KV at r
  induction r with
  | nil => exact True.intro
  | @cons p q ps qs h t ih =>
    obtain ⟨h1, h2⟩ := h
    by_cases e : p.1 = k
    · have e' : q.1 = k := h1.symm.trans e
      have b : valueAt (q :: qs) k = some q.2 := by simp [valueAt, List.find?_cons, e']
      rw [valV_pos e, b]; exact h2
    · have e' : ¬ q.1 = k := fun z => e (h1.trans z)
      have b : valueAt (q :: qs) k = valueAt qs k := by simp [valueAt, List.find?_cons, e']
      rw [valV_neg e, b]; exact ih
theorem KV.any {kvs : List (κ × V)} {vs : List (κ × Value)} (r : KV kvs vs) (k : κ) : (kvs.any fun kv => decide (kv.1 = k)) = vs.any fun kv => decide (kv.1 = k) := by
  unfold KV at r
  induction r with
  | nil => rfl
  | cons h t ih => rw [List.any_cons, List.any_cons, ih, h.1]
theorem KV.repl {kvs : List (κ × V)} {vs : List (κ × Value)} (r : KV kvs vs) (k : κ) {y : V} {u : Value} (ry : RelV y u) :
    KV (kvs.map fun kv => if kv.1 = k then (kv.1, y) else kv) (vs.map fun kv => if kv.1 = k then (kv.1, u) else kv) := by
  unfold KV at r ⊢
  induction r with
  | nil => exact .nil
  | @cons p q ps qs h t ih =>
    rw [List.map_cons, List.map_cons]
    refine .cons ?_ ih
    obtain ⟨h1, h2⟩ := h
    by_cases e : p.1 = k
    · rw [if_pos e, if_pos (h1.symm.trans e)]; exact ⟨h1, ry⟩
    · rw [if_neg e, if_neg (fun z => e (h1.trans z))]; exact ⟨h1, h2⟩
theorem KV.put {kvs : List (κ × V)} {vs : List (κ × Value)} (r : KV kvs vs) (k : κ) {y : V} {u : Value} (ry : RelV y u) : KV (putK kvs k y) (stored vs k u) := by
  unfold putK stored
  rw [r.any k]
  by_cases e : (vs.any fun kv => decide (kv.1 = k)) = true
  · rw [if_pos e, if_pos e]; exact r.repl k ry
  · rw [if_neg e, if_neg e]; exact Paired.snoc r ⟨rfl, ry⟩
theorem KV.drop {kvs : List (κ × V)} {vs : List (κ × Value)} (r : KV kvs vs) (k : κ) : KV (dropK kvs k) (without vs k) := by
  unfold KV at r ⊢
  unfold dropK without
  induction r with
  | nil => exact .nil
  | @cons p q ps qs h t ih =>
    obtain ⟨h1, h2⟩ := h
    rw [List.filter_cons, List.filter_cons]
    by_cases e : p.1 = k
    · have a : ¬ decide (p.1 ≠ k) = true := by simp [e]
      have b : ¬ decide (q.1 ≠ k) = true := by simp [h1.symm.trans e]
      rw [if_neg a, if_neg b]; exact ih
    · have e' : ¬ q.1 = k := fun z => e (h1.trans z)
      have a : decide (p.1 ≠ k) = true := by simp [e]
      have b : decide (q.1 ≠ k) = true := by simp [e']
      rw [if_pos a, if_pos b]; exact .cons ⟨h1, h2⟩ ih
theorem KV.keys {kvs : List (κ × V)} {vs : List (κ × Value)} (r : KV kvs vs) : kvs.map (·.1) = vs.map (·.1) := by
  unfold KV at r
  induction r with
  | nil => rfl
  | cons h t ih => rw [List.map_cons, List.map_cons, ih, h.1]
theorem KV.length {kvs : List (κ × V)} {vs : List (κ × Value)} (r : KV kvs vs) : kvs.length = vs.length := Paired.length r
end


/-! ### a tracked dict, its keys ints and texts or tuples of these -/
theorem kV_is {P : Program} {w : World} {k : Key} {u : Value} (r : RelV (kV k) u) : (mixKind P w).is k u = true := by
  cases k with
  | inl i => obtain ⟨t, e⟩ := (show ∃ t, u = Value.int i t from r); subst e; exact mixKind_int P w i t
  | inr x => obtain ⟨t, e⟩ := (show ∃ t, u = Value.str x t from r); subst e; exact mixKind_str P w x t
theorem items_are {P : Program} {w : World} : ∀ {ks : List Key} {us : List Value}, Vals (ks.map kV) us → ItemsAre (mixKind P w) ks us
  | [], _, r => by rw [List.map_nil] at r; cases r; exact .nil
  | k :: ks, _, r => by
    rw [List.map_cons] at r
    cases r with
    | cons h t => exact .cons (kV_is h) (items_are t)

/-- raw entries of a dict with tuple keys -/
abbrev KT (H : Hp) : List (List Key × V) → List (List Key × Addr × Value) → Prop := Paired fun p q => p.1 = q.1 ∧ H q.2.1 = some (.tup (p.1.map kV)) ∧ RelV p.2 q.2.2
theorem KT.val {H : Hp} {kvs : List (List Key × V)} {xs : List (List Key × Addr × Value)} (r : KT H kvs xs) (k : List Key) : RelO (valV kvs k) ((atKey xs k).map (·.2)) := by
  induction r with
  | nil => exact True.intro
  | @cons p q ps qs h t ih =>
    obtain ⟨h1, _, h2⟩ := h
    by_cases e : p.1 = k
    · have e' : q.1 = k := h1.symm.trans e
      have b : atKey (q :: qs) k = some q.2 := by simp [atKey, List.find?_cons, e']
      rw [valV_pos e, b]; exact h2
    · have e' : ¬ q.1 = k := fun z => e (h1.trans z)
      have b : atKey (q :: qs) k = atKey qs k := by simp [atKey, List.find?_cons, e']
      rw [valV_neg e, b]; exact ih
theorem KT.repl {H : Hp} {kvs : List (List Key × V)} {xs : List (List Key × Addr × Value)} (r : KT H kvs xs) (k : List Key) {y : V} {u : Value} (ry : RelV y u) :
    KT H (kvs.map fun kv => if kv.1 = k then (kv.1, y) else kv) (xs.map (putAt k u)) := by
  induction r with
  | nil => exact .nil
  | @cons p q ps qs h t ih =>
    rw [List.map_cons, List.map_cons]
    refine .cons ?_ ih
    obtain ⟨h1, h2, h3⟩ := h
    unfold putAt
    by_cases e : p.1 = k
    · rw [if_pos e, if_pos (h1.symm.trans e)]; exact ⟨h1, h2, ry⟩
    · rw [if_neg e, if_neg (fun z => e (h1.trans z))]; exact ⟨h1, h2, h3⟩
theorem KT.put {H : Hp} {kvs : List (List Key × V)} {xs : List (List Key × Addr × Value)} (r : KT H kvs xs) (k : List Key) {b : Addr} {y : V} {u : Value} (hb : H b = some (.tup (k.map kV))) (ry : RelV y u) :
    KT H (putK kvs k y) (storedH xs k b u) := by
  have e : (kvs.any fun kv => decide (kv.1 = k)) = (atKey xs k).isSome := by
    rw [valV_any, (r.val k).isSome_eq, Option.isSome_map]
  unfold putK storedH
  rw [e]
  by_cases q : (atKey xs k).isSome = true
  · rw [if_pos q, if_pos q]; exact r.repl k ry
  · rw [if_neg q, if_neg q]; exact Paired.snoc r ⟨rfl, hb, ry⟩
theorem KT.keeps {H H' : Hp} {kvs : List (List Key × V)} {xs : List (List Key × Addr × Value)} (r : KT H kvs xs) (ht : ∀ b ys, H b = some (.tup ys) → H' b = some (.tup ys)) : KT H' kvs xs :=
  Paired.mapP r fun _ _ z => ⟨z.1, ht _ _ z.2.1, z.2.2⟩

section
variable {P : Program} {w : World} {H : Hp} {h : Heap} {a : Addr}
theorem rd_of {u : HO} (ok : HOk P w H h) (e : Rd H a u) : ObjOk P w H h a u := e.ok ok
theorem dk_rd {kvs : List (Key × V)} (ok : HOk P w H h) (e : Rd H a (.dK kvs)) : kvs.length ≤ sizeLine ∧ (a == sysModules) = false ∧ ∃ vs, KV kvs vs ∧ h.DictOf (mixKind P w) a vs :=
  show ObjOk P w H h a (.dK kvs) from rd_of ok e
theorem dk_of {kvs : List (Key × V)} (ok : HOk P w H h) (e : H a = some (.dK kvs)) : kvs.length ≤ sizeLine ∧ (a == sysModules) = false ∧ ∃ vs, KV kvs vs ∧ h.DictOf (mixKind P w) a vs := dk_rd ok (.inl e)
/-- a tracked tuple of ints and texts is a key -/
theorem key_of {ks : List Key} (ok : HOk P w H h) (e : H a = some (.tup (ks.map kV))) : (tupleKind (mixKind P w)).is h ks a := by
  obtain ⟨_, its, r, o, h1, h2, n, h3⟩ := (show ObjOk P w H h a (.tup (ks.map kV)) from ok a _ e)
  exact ⟨o, its.toArray, n, h1, h2, h3, by simpa using items_are r⟩
theorem dt_rd {kvs : List (List Key × V)} (ok : HOk P w H h) (e : Rd H a (.dT kvs)) : kvs.length ≤ sizeLine ∧ (a == sysModules) = false ∧
    ∃ xs, KT H kvs xs ∧ h.DictOfH (tupleKind (mixKind P w)) a xs := by
  obtain ⟨z, y, xs, r, o, es, ep, h1, h2, h3, h4, h5⟩ := (show ObjOk P w H h a (.dT kvs) from rd_of ok e)
  refine ⟨z, y, xs, r, o, es, ep, h1, h2, h3, h4, fun x hx => ?_, h5⟩
  have all : ∀ {l : List (List Key × V)} {m : List (List Key × Addr × Value)}, KT H l m → ∀ x ∈ m, (tupleKind (mixKind P w)).is h x.1 x.2.1 := by
    intro l m q
    induction q with
    | nil => intro x hx; exact nomatch hx
    | @cons p q ps qs hq t ih =>
      intro x hx
      rcases List.mem_cons.mp hx with e | hx
      · subst e
        exact key_of ok (by rw [← hq.1]; exact hq.2.1)
      · exact ih x hx
  exact all r x hx
theorem dt_of {kvs : List (List Key × V)} (ok : HOk P w H h) (e : H a = some (.dT kvs)) : kvs.length ≤ sizeLine ∧ (a == sysModules) = false ∧
    ∃ xs, KT H kvs xs ∧ h.DictOfH (tupleKind (mixKind P w)) a xs := dt_rd ok (.inl e)
end

/-- what the dict at a holds at the key y -/
def DGet (H : Hp) (a : Addr) (y : V) (r : Option V) : Prop :=
  (∃ kvs k, Rd H a (.dK kvs) ∧ y = kV k ∧ r = valV kvs k) ∨ ∃ kvs k b, Rd H a (.dT kvs) ∧ y = .ref b ∧ H b = some (.tup (k.map kV)) ∧ r = valV kvs k
/-- the heap behind a[y] = v -/
def DPut (H : Hp) (a : Addr) (y v : V) (H' : Hp) : Prop :=
  (∃ kvs k, H a = some (.dK kvs) ∧ y = kV k ∧ kvs.length < sizeLine ∧ H' = upd H a (.dK (putK kvs k v))) ∨
  ∃ kvs k b, H a = some (.dT kvs) ∧ y = .ref b ∧ H b = some (.tup (k.map kV)) ∧ kvs.length < sizeLine ∧ H' = upd H a (.dT (putK kvs k v))
theorem DGet.k {H : Hp} {a : Addr} {kvs : List (Key × V)} {k : Key} (e : H a = some (.dK kvs)) : DGet H a (kV k) (valV kvs k) := .inl ⟨kvs, k, .inl e, rfl, rfl⟩
theorem DGet.t {H : Hp} {a b : Addr} {kvs : List (List Key × V)} {k : List Key} (e : H a = some (.dT kvs)) (eb : H b = some (.tup (k.map kV))) : DGet H a (.ref b) (valV kvs k) := .inr ⟨kvs, k, b, .inl e, rfl, eb, rfl⟩
theorem DPut.k {H : Hp} {a : Addr} {kvs : List (Key × V)} {k : Key} {v : V} (e : H a = some (.dK kvs)) (hl : kvs.length < sizeLine) : DPut H a (kV k) v (upd H a (.dK (putK kvs k v))) := .inl ⟨kvs, k, e, rfl, hl, rfl⟩
theorem DPut.t {H : Hp} {a b : Addr} {kvs : List (List Key × V)} {k : List Key} {v : V} (e : H a = some (.dT kvs)) (eb : H b = some (.tup (k.map kV))) (hl : kvs.length < sizeLine) :
    DPut H a (.ref b) v (upd H a (.dT (putK kvs k v))) := .inr ⟨kvs, k, b, e, rfl, eb, hl, rfl⟩


section
variable {X : Cx} {pins : List (Addr × Obj)} {σ : St} {H : Hp} {s : Shared} {a : Addr} {y v : V} {u r : Value} {o : Option V} {A : Around} {E : Value → Shared → Prop}

theorem Inv.big (I : Inv X pins σ H s) : sysModules < s.heap.objs.size := by
  have h : mainGlobals < s.heap.objs.size := (I.mod.glob.keeps I.bk).lt
  exact Nat.lt_trans (by decide) h

/-- y in d -/
theorem d_in {Q : Value → Shared → Prop} (hu : A.units + 1 < cLine) (I : Inv X pins σ H s) (g : DGet H a y o) (ry : RelV y u) (h : ∀ s', Inv X pins σ H s' → Q (.bool o.isSome) s') :
    wpAny (model X.prog X.w) A (compareOp .In u (.ref a)) Q E s := by
  rcases g with ⟨kvs, k, e, ey, l⟩ | ⟨kvs, k, b, e, ey, eb, l⟩
  · subst ey
    obtain ⟨z, hd, vs, rel, dd⟩ := dk_rd I.hok e
    refine wpAny_in_of (kV_is ry) hd dd.mapOf ?_
    rw [← (rel.val k).isSome_eq, ← l]
    exact h _ (I.tok _)
  · subst ey
    cases (show u = Value.ref b from ry)
    obtain ⟨z, hd, xs, rel, dd⟩ := dt_rd I.hok e
    refine wpAny_in_heap (tupleKind_room_in1 hu) (key_of I.hok eb) hd dd ?_
    have q := (rel.val k).isSome_eq
    rw [Option.isSome_map] at q
    rw [← q, ← l]
    exact h _ (I.tok _)
/-- a dict's object is replaced -/
theorem d_write {h' : Heap} {t' : Nat} {ob : HO} (I : Inv X pins σ H s) (mu : Mut (H a)) (hs : Heap.SameBut a s.heap h') (he : ∃ q, h'.get? a = some q) (new : ObjOk X.prog X.w (upd H a ob) h' a ob) :
    Inv X pins σ (upd H a ob) { s with heap := h', toks := t' } :=
  I.write (x := a) (e := a) mu (.inl rfl) (fun b q hb z => (hs.2 b hb).trans z) he new
theorem dk_new {P : Program} {w : World} {H' : Hp} {h' : Heap} {kvs : List (Key × V)} {vs : List (Key × Value)} (z : kvs.length ≤ sizeLine) (hd : (a == sysModules) = false) (rel : KV kvs vs) (dd : h'.DictOf (mixKind P w) a vs) :
    ObjOk P w H' h' a (.dK kvs) := ⟨z, hd, vs, rel, dd⟩
/-- d[y] = v -/
theorem d_setItem {H' : Hp} {Q : Unit → Shared → Prop} (hu : A.units + 1 < cLine) (I : Inv X pins σ H s) (g : DPut H a y v H') (ry : RelV y u) (rv : RelV v r) (h : ∀ s', Inv X pins σ H' s' → Q () s') :
    wpAny (model X.prog X.w) A (setItem (.ref a) u r) Q E s := by
  rcases g with ⟨kvs, k, e, ey, l, eH⟩ | ⟨kvs, k, b, e, ey, eb, l, eH⟩
  · subst ey eH
    obtain ⟨z, hd, vs, rel, dd⟩ := dk_of I.hok e
    have hz : vs.length ≤ sizeLine := by rw [← rel.length]; exact z
    have hl : (putK kvs k v).length ≤ sizeLine := by have := length_putK kvs k v; omega
    refine wpAny_setItem_pairs (hsz := hz) (kV_is ry) dd fun h' dd' hs => h _ ?_
    have he : ∃ q, h'.get? a = some q := let ⟨q, _, _, hq, _⟩ := dd'; ⟨q, hq⟩
    exact d_write I (by rw [e]; exact True.intro) hs he (dk_new hl hd (rel.put k rv) dd')
  · subst ey eH
    cases (show u = Value.ref b from ry)
    obtain ⟨z, hd, xs, rel, dd⟩ := dt_of I.hok e
    have hz : xs.length ≤ sizeLine := by rw [← Paired.length rel]; exact z
    have hl : (putK kvs k v).length ≤ sizeLine := by have := length_putK kvs k v; omega
    refine wpAny_setItem_heap (hsz := hz) (tupleKind_room_in1 hu) (key_of I.hok eb) dd fun h' dd' hs => h _ ?_
    obtain ⟨q, es, ep, hq, h2, h3, h4, _, h5⟩ := dd'
    refine d_write I (by rw [e]; exact True.intro) hs ⟨q, hq⟩ ⟨hl, hd, _, (rel.put k eb rv).keeps fun c ys ec => ?_, q, es, ep, hq, h2, h3, h4, h5⟩
    rw [upd_ne (ne_of ec e (fun z => nomatch z))]
    exact ec
end

section
variable {X : Cx} {pins : List (Addr × Obj)} {σ : St} {H : Hp} {s : Shared} {a : Addr} {kvs : List (Key × V)} {k : Key} {u : Value} {A : Around} {E : Value → Shared → Prop}
end


/-! ### readings and rules -/
/-- the element of a subscription, not a slice -/
def NoSl (i : Expr) : Prop := ∀ ov iv, subscripted i false ov iv = operate [ov, iv] (getItem ov iv)
theorem subD_of {prog : Program} {w : World} {A : Around} {E : Value → Shared → Prop} {s : Shared} {env : Env} {value slice : Expr} {pos : Pos} {T id : String} {Q : Value → Shared → Prop}
    (hl : typeLookup (.type T) "__getitem__" = pure (some (.builtin id))) (hs : NoSl slice)
    (h : wpAny (model prog w) A (eval value env) (fun o s₁ => wpAny (model prog w) A (eval slice env) (fun i s₂ => s₂.TypeIs o T ∧ wpAny (model prog w) A (getItem o i) Q E s₂) E s₁) E s) :
    wpAny (model prog w) A (eval (.Subscript value slice pos) env) Q E s := by
  refine Subscript_ (wpAny_mono h (fun o s₁ h₁ => wpAny_mono h₁ (fun i s₂ h₂ => ?_) fun _ _ x => x) fun _ _ x => x)
  obtain ⟨hT, h₂⟩ := h₂
  unfold subscriptTail
  refine wpAny_bind ?_
  rw [getitemInPython_of_ne hT.not_modules]
  refine wpAny_bind (wpAny_specialOf hT hl ?_)
  have fin : wpAny (model prog w) A (subscripted slice false o i) (fun r s₃ => wpAny (model prog w) A (letTemporaryGo value o r >>= fun _ => pure r) Q E s₃) E s₂ := by
    rw [hs o i]
    exact wpAny_operating (wpAny_mono h₂ (fun r s₃ h₃ => wpAny_bind (wpAny_letTemporaryGo (wpAny_pure h₃))) fun _ _ x => x)
  first
    | exact wpAny_pure (wpAny_bind fin)
    | exact wpAny_bind (wpAny_pure (wpAny_bind fin))
    | exact wpAny_bind fin

/-- y in d, y not in d -/
def tDIn (ty td : TE) : TE := fun σ H Q => ty σ H fun y H1 => td σ H1 fun x H2 => ∃ a o, x = .ref a ∧ DGet H2 a y o ∧ Q (.bl o.isSome) H2
/-- d[y] = v -/
def sDPut (td ty tv : TE) : TS := fun D σ H => tv σ H fun v H1 => td σ H1 fun x H2 => ty σ H2 fun y H3 => ∃ a H4, x = .ref a ∧ DPut H3 a y v H4 ∧ D.nx σ H4
section
variable {X : Cx} {o i e value : Expr} {pos pos' tpos : Pos} {td ty tv : TE}
theorem pc_din (hu : X.A.units + 1 < cLine) (hi : PE X i ty) (ho : PE X o td) : PC X .In i o (tDIn ty td) := by
  intro pins s σ H Q I h
  refine thn (hi pins s σ H _ I h) fun iv s1 ⟨y, H1, I1, ry, q1⟩ => thn (ho pins s1 σ H1 _ I1 q1) fun u s2 ⟨x, H2, I2, rx, a, ov, ex, g, q2⟩ => ?_
  subst ex
  obtain rfl : u = Value.ref a := rx
  exact d_in hu I2 g ry fun s3 I3 => ⟨.bl ov.isSome, H2, I3, rfl, q2⟩
theorem ps_dput (hu : X.A.units + 1 < cLine) (ho : PE X o td) (hi : PE X i ty) (hv : PE X value tv) (hs : swapsWith value (some (.Subscript o i pos')) pos.line X.env = pure false) :
    PS X (.Assign [.Subscript o i pos'] value pos) (sDPut td ty tv) := by
  intro pins s σ H D I h
  refine wpAny_Assign_Subscript (thn (hv pins s σ H _ I h) fun r s1 ⟨v, H1, I1, rv, q1⟩ => thn (ho pins s1 σ H1 _ I1 q1) fun u s2 ⟨x, H2, I2, rx, q2⟩ => thn (hi pins s2 σ H2 _ I2 q2) fun iv s3 ⟨y, H3, I3, ry, a, H4, ex, g, q3⟩ => ?_) hs
  subst ex
  obtain rfl : u = Value.ref a := rx
  exact d_setItem hu I3 g ry rv fun s4 I4 => ⟨σ, H4, I4, q3⟩
end


/-! ### displays -/
theorem dk_empty {P : Program} {w : World} {H : Hp} (h : Heap) (hb : sysModules < h.objs.size) : ObjOk P w H (h.push { cls := .type "dict", data := .dict #[] }) h.objs.size (.dK []) :=
  ⟨Nat.zero_le _, beq_eq_false_iff_ne.mpr (Ne.symm (Nat.ne_of_lt hb)), [], .nil, Heap.DictOf.new h⟩
/-- {}, to be a dict of the kind that is wanted -/
def tDNewK : TE := fun _ H Q => ∀ p, H p = none → Q (.ref p) (upd H p (.dK []))
section
variable {X : Cx} {pos : Pos}
theorem pe_dnewK : PE X (.Dict [] [] pos) tDNewK := fun pins s σ H Q I h =>
  wpAny_Dict_empty ⟨.ref s.heap.objs.size, _, I.laid (a := s.heap.objs.size) (o := .dK []) (t' := s.toks) (fun _ _ q => Heap.get?_push_of_some _ q) (Nat.le_refl _) (dk_empty s.heap I.big), rfl, h _ (I.hok.fresh (Nat.le_refl _))⟩
end

/-! ### methods -/
/-- a method call o.m(e) of a built-in, with one argument: what must be seen of the text -/
structure M1 (X : Cx) (o : Expr) (m : Str) (apos : Pos) (e : Expr) (cpos : Pos) : Prop where
  base : attributeBase o m X.env (eval o X.env) = eval o X.env
  few : ((backTo cpos (starEach [e] X.env)).all (fun x => !x.1) && (backToKw cpos (keywordEach [] X.env)).all (fun x => x.1.isSome)
    && decide (([e] : List Expr).length + ([] : List Keyword).length + (if ([] : List Keyword).isEmpty then 0 else 1) < 30)) = true
  line : (apos.endLine == cpos.line) = true
  trees : backTo cpos (starEach [e] X.env) = [(false, eval e X.env)]
structure M2 (X : Cx) (o : Expr) (m : Str) (apos : Pos) (e f : Expr) (cpos : Pos) : Prop where
  base : attributeBase o m X.env (eval o X.env) = eval o X.env
  few : ((backTo cpos (starEach [e, f] X.env)).all (fun x => !x.1) && (backToKw cpos (keywordEach [] X.env)).all (fun x => x.1.isSome)
    && decide (([e, f] : List Expr).length + ([] : List Keyword).length + (if ([] : List Keyword).isEmpty then 0 else 1) < 30)) = true
  line : (apos.endLine == cpos.line) = true
  trees : backTo cpos (starEach [e, f] X.env) = [(false, eval e X.env), (false, eval f X.env)]

/-- a is a dict, whatever its keys -/
def IsD (H : Hp) (a : Addr) : Prop := (∃ kvs, Rd H a (.dK kvs)) ∨ ∃ kvs, Rd H a (.dT kvs)
theorem isD_at {X : Cx} {pins : List (Addr × Obj)} {σ : St} {H : Hp} {s : Shared} {a : Addr} (I : Inv X pins σ H s) (d : IsD H a) :
    s.TypeIs (.ref a) "dict" ∧ (∀ b, Value.ref a = .ref b → ∃ ob, s.heap.get? b = some ob ∧ ob.dict = none) ∧ (a == sysModules) = false := by
  rcases d with ⟨kvs, e⟩ | ⟨kvs, e⟩
  · obtain ⟨_, hd, vs, _, dd⟩ := dk_rd I.hok e
    refine ⟨dd.typeIs, fun b q => ?_, hd⟩
    cases q
    obtain ⟨ob, _, _, h1, h2, _⟩ := dd
    exact ⟨ob, h1, h2.2.1⟩
  · obtain ⟨_, hd, xs, _, dd⟩ := dt_rd I.hok e
    refine ⟨dd.typeIs, fun b q => ?_, hd⟩
    cases q
    obtain ⟨ob, _, _, h1, h2, _⟩ := dd
    exact ⟨ob, h1, h2.2.1⟩

section
variable {X : Cx} {pins : List (Addr × Obj)} {σ : St} {H : Hp} {s : Shared} {a : Addr} {y d : V} {u r : Value} {o : Option V} {A : Around} {E : Value → Shared → Prop}
end

section
variable {X : Cx} {o e f : Expr} {apos cpos : Pos} {td ty tx : TE}
end

/-! ### dict(d): a copy -/
section
variable {X : Cx} {pins : List (Addr × Obj)} {σ : St} {H : Hp} {s : Shared} {a : Addr} {kvs : List (Key × V)} {A : Around} {E : Value → Shared → Prop}
end


section
variable {X : Cx} {pins : List (Addr × Obj)} {σ : St} {H : Hp} {s : Shared} {a : Addr} {y : V} {u : Value} {A : Around} {E : Value → Shared → Prop}
end
end L2

namespace L2
open PySem PySem.Spec PyProof.Rows

section
variable {prog : Program} {w : World} {A : Around} {E : Value → Shared → Prop}
end

section
variable {X : Cx}
end
end L2

namespace L2
open PySem PySem.Spec PyProof.Rows

section
variable {X : Cx} {pins : List (Addr × Obj)} {σ : St} {H : Hp} {s : Shared} {h' : Heap}
/-- .. and one new object is laid -/
theorem Inv.turnedNew {t' : Nat} {ch : List Addr} {T : Addr} {ob : HO} (I : Inv X pins σ H s) (k : ∀ b o, b ∉ ch → s.heap.get? b = some o → h'.get? b = some o) (hf : ∀ b ∈ ch, FpOk X pins H b) (hT : s.heap.objs.size ≤ T)
    (new : ObjOk X.prog X.w (upd H T ob) h' T ob) : Inv X pins σ (upd H T ob) { s with heap := h', toks := t' } := by
  have hn : H T = none := I.hok.fresh hT
  have nit : ∀ b u, H b = some u → b ∉ ch := fun b u e z => by
    have q := (hf b z).1
    rw [q] at e; cases e
  refine I.step (g' := s.gens) (d' := s.drawn) (ch := ch) (fun b hb => ⟨(hf b hb).2.2.2.1, (hf b hb).2.1, (hf b hb).2.2.2.2.1, (hf b hb).2.2.2.2.2⟩) (fun b o _ _ hc e _ => k b o hc e) (fun b o _ _ hc e _ => ⟨o.slots, k b o hc e⟩)
    (fun b o _ e n => ?_) (fun b o hc e => ⟨o, k b o hc e⟩) (fun b xs e => ?_) (fun b o u e => ?_) (fun b ps e => ⟨#[], ?_⟩) (fun m hm => ?_) (fun b u e => ?_) I.bare
  · rw [upd_ne (Nat.ne_of_lt (Nat.lt_of_lt_of_le (Heap.lt_size e) hT))]; exact n
  · rw [upd_ne (ne_of_none e hn)]; exact e
  · rw [upd_ne (ne_of_none e hn)]; exact e
  · rw [upd_ne (ne_of_none e hn), e]; simp
  · obtain ⟨o, es, ep, ho, r⟩ := hm
    exact ⟨o, es, ep, k _ o (fun z => (hf _ z).2.1 rfl) ho, r⟩
  · by_cases hb : b = T
    · subst hb
      rw [upd_same] at e
      cases e
      exact new
    · rw [upd_ne hb] at e
      refine (I.hok b u e).stay (fun c v hc q => k c v ?_ q) (fun c q => by rw [upd_ne (ne_of_none q hn)]; exact q) fun c xs q => by rw [upd_ne (ne_of_none q hn)]; exact q
      rcases hc with z | z
      · rw [z]; exact nit b u e
      · exact nit c _ z

/-! ### locking a thing while a statement runs -/
end
section
variable {X : Cx}
/-! ### one iterator just laid -/
end

/-! ### range with a step -/
section
variable {X : Cx} {tg : Expr}
end
/-! ### reversed(list) -/
section
variable {X : Cx} {tg : Expr}
end

/-! ### a str -/
/-! ### a dict's keys: any dict's entries -/
section
variable {prog : Program} {w : World} {A : Around} {E : Value → Shared → Prop} {s : Shared}
end

/-! ### a locked dict -/
section
variable {X : Cx} {pins : List (Addr × Obj)} {σ : St} {H : Hp} {s : Shared} {d : Addr} {o : Obj}
end

section
variable {P : Program} {w : World} {K : PySem.W.Frag} {tg : Expr} {d : Addr} {o : Obj} {es : Array DictEntry} {ep : Nat}
end

/-! ### for k in d, d.keys(), d.values(), d.items() -/
section
variable {X : Cx} {tg e : Expr} {td : TE} {apos cpos : Pos}
end

/-! ### enumerate(list) -/
/-- the list at a as it stands at each turn, each item in a new pair -/
def Ite (K : PySem.W.Frag) (a : Addr) : It :=
  ⟨fun i H => ∃ (xs : List V) (x : V), SqL K H a xs ∧ xs[i]? = some x, fun i H v H' => ∃ T x, v = .ref T ∧ H T = none ∧ H' = upd H T (.tup [.int (i : Nat), x]) ∧ ∀ xs, SqL K H a xs → xs[i]? = some x, fun i H => ∃ xs : List V, SqL K H a xs ∧ xs.length ≤ i⟩
theorem turn_enum {P : Program} {w : World} {K : PySem.W.Frag} {elts : List Expr} {kk : Nat} {tpos : Pos} (a e it : Addr) :
    Turn P w K (.Tuple elts kk tpos) (Ite K a) [e, it] e (fun i h => (∃ old, IsEnum h e it ((i : Nat) : Int) old) ∧ h.IsListIter it a i ∧ e ≠ it) where
  mem := by simp
  obj := fun i h st b hb => by
    obtain ⟨⟨old, he⟩, ⟨o, ho, hc, hd⟩, _⟩ := st
    have e' : b = e ∨ b = it := by simpa using hb
    rcases e' with z | z
    · rw [z]; exact ⟨_, he, fun v q => nomatch q⟩
    · rw [z]; exact ⟨o, ho, fun v q => by rw [hd] at q; cases q⟩
  keep := fun i h h' st k => let ⟨⟨old, he⟩, hi, hne⟩ := st; ⟨⟨old, k e (by simp) _ he⟩, hi.at fun o q => k it (by simp) o q, hne⟩
  item := by
    intro X hP hw hK hc i pins s σ H E I hf st hg
    subst hP hw hK
    obtain ⟨⟨old, he⟩, hit, hne⟩ := st
    obtain ⟨xs, x, hq, hx⟩ := hg
    obtain ⟨its, rv, p, hz⟩ := I.list hq
    obtain ⟨u, hu, ru⟩ := rv.get hx
    have hel : e < s.heap.objs.size := Heap.lt_size he
    have hil : it < s.heap.objs.size := by obtain ⟨_, q, _⟩ := hit; exact Heap.lt_size q
    refine wpAny_pyNext_enum_item he hit p.isList (x := u) (by simpa using hu) hne fun h' ho hit' hT hsz hk => ?_
    refine ⟨_, rfl, wpAny_letOwnedTupleGo_enum (s := { s with heap := h', toks := s.toks + 1 }) ho fun h'' he' sb => ?_⟩
    have hT2 : h''.get? s.heap.objs.size = some { cls := .type "tuple", data := .seq #[.int i s.toks, u] } := (sb.2 _ (Nat.ne_of_gt hel)).trans hT
    have new : ObjOk X.prog X.w (upd H s.heap.objs.size (.tup [.int (i : Nat), x])) h'' s.heap.objs.size (.tup [.int (i : Nat), x]) :=
      ⟨by show 2 ≤ sizeLine; decide, [.int i s.toks, u], .cons ⟨_, rfl⟩ (.cons ru .nil), ⟨_, hT2, rfl, _, rfl⟩⟩
    have I1 : Inv X pins σ (upd H s.heap.objs.size (.tup [.int (i : Nat), x])) { s with heap := h'', toks := s.toks + 1 } :=
      I.turnedNew (ch := [e, it]) (fun b ob hb q => (sb.2 b (fun z => hb (by simp [z]))).trans (hk b ob (fun z => hb (by simp [z])) (fun z => hb (by simp [z])) q)) hf (Nat.le_refl _) new
    refine ⟨.ref s.heap.objs.size, _, I1, rfl, ⟨_, x, rfl, I.hok.fresh (Nat.le_refl _), rfl, fun ys hy => by rw [I.list_inj hy hq]; exact hx⟩, ⟨⟨u, ?_⟩, hit'.at fun o q => (sb.2 it (Ne.symm hne)).trans q, hne⟩, fun b hb => ?_⟩
    · have e1 : ((i + 1 : Nat) : Int) = (i : Int) + 1 := by omega
      rw [e1]; exact he'
    · have hb' : b < s.heap.objs.size := by
        have e' : b = e ∨ b = it := by simpa using hb
        rcases e' with z | z
        · rw [z]; exact hel
        · rw [z]; exact hil
      rw [upd_ne (Nat.ne_of_lt hb')]
      exact (hf b hb).1
  done := by
    intro X hP hw hK hc i pins s σ H E I hf st hg
    subst hP hw hK
    obtain ⟨⟨old, he⟩, hit, hne⟩ := st
    obtain ⟨xs, hq, hx⟩ := hg
    obtain ⟨its, rv, p, hz⟩ := I.list hq
    obtain ⟨f0, f1, f2, f3, f4, f5⟩ := hf it (by simp)
    have hl := rv.length
    exact wpAny_pyNext_enum_end (I.ok.hd hc) he hit p.isList (by simp; omega) fun h' eb => ⟨rfl, I.turned (t' := s.toks) (fun b o hb q => eb b o hb q) f0 f1 f3 f4 f5⟩
  self := fun A i s Q E st h => let ⟨⟨_, he⟩, _⟩ := st; wpAny_pyIter_enum he h
def iEnum (K : PySem.W.Frag) (ta : TA) : TI := fun σ H R => ta σ H fun vs H1 => ∃ a xs, vs = [.ref a] ∧ SqL K H1 a xs ∧ R (Ite K a) H1
theorem pi_enum {X : Cx} {e : Expr} {ta : TA} {p pos tpos : Pos} {elts : List Expr} {kk : Nat} (hg : Gl X "enumerate") (hm : X.mg "enumerate" = none) (ha : PA X [e] ta) (hs : starEach [e] X.env = [(false, eval e X.env)] := by rfl) :
    PI X (.Tuple elts kk tpos) (.Call (.Name "enumerate" p) [e] [] pos) (iEnum X.K ta) := by
  intro pins s σ H R I h
  refine Call_ (ld_blt I hg hm boot_enumerate (PyProof.Rows.callWith_type1 (thn (ha pos pins s σ H _ I h) fun us s1 ⟨vs, H1, I1, r1, q1⟩ => ?_) hs rfl))
  obtain ⟨a, xs, ex, hq, q⟩ := q1
  subst ex
  cases r1 with
  | cons r rr =>
    cases rr
    cases r
    obtain ⟨its, rv, p', hz⟩ := I1.list hq
    refine call_enumerate_list p'.isList fun h' he hit hsz hk => wpAny_pyIter_enum he ?_
    have I2 : Inv X pins σ H1 { s1 with heap := h' } := I1.kept (t' := s1.toks) hk
    refine ⟨s1.heap.objs.size + 1, [s1.heap.objs.size + 1, s1.heap.objs.size], _, _, H1, rfl, I2, turn_enum a (s1.heap.objs.size + 1) s1.heap.objs.size, ⟨⟨.none, he⟩, hit, Nat.succ_ne_self _⟩, fun b hb => ?_, q⟩
    have e' : b = s1.heap.objs.size + 1 ∨ b = s1.heap.objs.size := by simpa using hb
    have hle : s1.heap.objs.size ≤ b := by
      rcases e' with z | z
      · rw [z]; exact Nat.le_add_right _ _
      · rw [z]; exact Nat.le_refl _
    exact I1.fpOk hle (I1.hok.fresh hle)
/-! ### zip(list, list) -/
end L2

section 
namespace Bits
open PySem PyProof.Rows

end Bits
end 

section 
namespace TL
open PySem PySem.Builtin PySem.Builtin.Str PySem.StrLaws

abbrev tl (x : Str) : List Nat := x.cps.toList
/-! ### the list functions -/
/-- S stands at the head of l -/
def pre (S l : List Nat) : Bool := l.take S.length == S
/-- l cut at each S from the left; k signs are still to be passed over -/
def spl (S : List Nat) : Nat → List Nat → List Nat → List (List Nat)
  | _, acc, [] => [acc]
  | 0, acc, c :: r => if pre S (c :: r) = true then acc :: spl S (S.length - 1) [] r else spl S 0 (acc ++ [c]) r
  | k + 1, acc, _ :: r => spl S k acc r
/-- what stands before the first S, and behind it -/
def par (S : List Nat) : List Nat → List Nat → Option (List Nat × List Nat)
  | _, [] => none
  | acc, c :: r => if pre S (c :: r) = true then some (acc, (c :: r).drop S.length) else par S (acc ++ [c]) r

/-! ### the model's split and partition are these -/
/-! ### computing spl and par -/
/-! ### digits -/
/-! ### words: x.split() -/
end TL
end 

namespace L2
open PySem PySem.Spec PyProof.Rows

section
variable {X : Cx} {pins : List (Addr × Obj)} {σ : St} {H : Hp} {s : Shared} {Q : VK}
end

section
variable {X : Cx}

/-! ### of a text alone -/
/-! ### of a text and a text -/
end

section
variable {X : Cx} {o e : Expr} {to te : TE}
end
end L2

namespace L2
open PySem PySem.Spec PyProof.Rows

section
variable {X : Cx}
end

/-! ### slices of a text -/
theorem IsPart.raw {v : Value} {o : Option Int} (p : IsPart v o) : ∃ l : Option (Int × Tok), v = partValue l ∧ l.map (·.1) = o := by
  cases p with
  | none => exact ⟨none, rfl, rfl⟩
  | int i t => exact ⟨some (i, t), rfl, rfl⟩

end L2

namespace Att
open PySem PySem.W PySem.Calls PyProof.Rows

/-! ### the script -/
theorem ints_of_wellAll {P : Params} {h : Heap} : ∀ (ns : List Int) (vs : List Value), WellAll P h vs (ns.map WData.int) → IntsAre vs ns := by
  intro ns
  induction ns with
  | nil =>
    intro vs w
    rw [List.map_nil] at w
    cases w
    exact .nil
  | cons n ns ih =>
    intro vs w
    rw [List.map_cons] at w
    cases w with
    | cons a b =>
      cases a
      exact .cons _ _ (ih _ b)

/-! ### the attachment: holds_open's last premise (the goal 'hc' behind k_head) from a wpAny of the law's body -/
/-! ### rules over ANY heap (no ledger) from facts about the written part K: the library's own take a ledger (News) for what they write -/
section
variable {prog : Program} {w : World} {A : Around} {E : Value → Shared → Prop} {s : Shared} {K : Frag}

/-! the whole heap as the ledger: makes every rule that writes through a ledger a rule over any heap -/
def ledger (h : Heap) (L d : Addr) : List (Addr × Obj) := (List.range h.objs.size).filterMap fun a => if a = L ∨ a = d then none else (h.get? a).map fun o => (a, o)
end
end Att

namespace L2
open PySem PySem.Spec PyProof.Rows

theorem vals_ints : ∀ {vs : List Value} {ns : List Int}, IntsAre vs ns → Vals (ns.map V.int) vs
  | _, _, .nil => .nil
  | _, _, .cons n t h => .cons ⟨t, rfl⟩ (vals_ints h)

end L2

namespace L2
open PySem PySem.Spec PyProof.Rows

abbrev KOf {K : PySem.W.Frag} {h : Heap} (_ : K.In h) : PySem.W.Frag := K

end L2


/-! SHORT WORDS over the layer: a def of the text, its body, what a loop and a test want. -/
namespace L2
open PySem PySem.Spec PyProof.Rows

/-! ### the text by places -/
/-- the j-th statement of a class's body -/
def inClass (s : Stmt) (j : Nat) : Stmt := match s with
  | .ClassDef _ _ _ body _ _ _ _ _ _ _ => body.getD j (.Pass ⟨0, 0, 0, 0⟩)
  | _ => .Pass ⟨0, 0, 0, 0⟩
def defArgs (s : Stmt) : Arguments := match s with
  | .FunctionDef _ a _ _ _ _ _ _ _ _ => a
  | _ => { posonlyargs := [], args := [], vararg := none, kwonlyargs := [], kw_defaults := [], kwarg := none, defaults := [] }
def defBody (s : Stmt) : List Stmt := match s with
  | .FunctionDef _ _ b _ _ _ _ _ _ _ => b
  | _ => []
def defScope (s : Stmt) : Scope := match s with
  | .FunctionDef _ _ _ _ _ _ sc _ _ _ => sc
  | _ => { kind := .function, names := [], isGenerator := false, isCoroutine := false }

/-! ### no exception leaves a def -/
abbrev CX0 : CXT := fun _ _ _ _ _ _ => False
abbrev E0 : XK := fun _ _ _ => False
theorem pass0 {X : Cx} : Passes CX0 X E0 := fun _ _ _ _ _ _ _ h => h.elim

/-! ### a def (or method) of the text as it stands behind the top -/
structure Fun (K : PySem.W.Frag) (x qual : Str) (st : Stmt) (f : Addr) (fd : FuncData) : Prop where
  ex : ∃ (oc : Value) (od : Option Addr) (kV doc pm : Value) (an : Option Addr) (cdv ct : Value) (osl : Array (Option Value)),
    fd = PySem.W.fnOf x qual (defArgs st) (defBody st) (defScope st) .none kV doc pm an cdv ct ∧ K.lookup f = some ⟨oc, od, .func fd, osl⟩ ∧ PySem.W.codeIn K cdv qual = true
  kp : PySem.W.keepIn K (.ref f) = true
section
variable {P : Program} {w : World} {K : PySem.W.Frag} {mg : Str → Option Value} {base : Heap}
/-- THE RULE for a def: its body as a term of rules, and the reading of that term -/
theorem Fun.ok {x qual : Str} {st : Stmt} {f : Addr} {fd : FuncData} {N ps : List Str} {k : Nat} {sp : Sp} (F : Fun K x qual st f fd) (S : FnScope N ps (defScope st)) (len : ∀ vs H Q E, sp vs H Q E → vs.length = ps.length)
    (hbody : ∀ (cdv : Value) (A : Around) (outer : List Env) (s : Shared) (H : Hp) (vs : List V) (Q : VK) (E : XK), Room k (A.deeper (envOfC qual (defScope st) s.heap.objs.size f cdv)) → sp vs H Q E →
      ∃ t, PSs (cxOf CX0 P w K mg base N qual (defScope st) f cdv A outer s H E).nox (defBody st) t ∧ t { nx := fun _ H' => Q .non H', rt := Q } (start N vs) H) : FnOk P w K mg base CX0 (k + 1) f fd ps sp := by
  obtain ⟨oc, od, kV, doc, pm, an, cdv, ct, osl, rfl, lk, hcd⟩ := F.ex
  refine fn_of lk hcd S len fun A outer s H vs Q E hr hsp => ?_
  obtain ⟨t, h, q⟩ := hbody cdv A outer s H vs Q E hr hsp
  exact ⟨t, h.nox, q⟩
/-- how its arguments bind (no defaults): h is «fun _ _ _ _ _ _ us hl => match us, hl with | [_, _], _ => rfl», one _ a parameter -/
theorem Fun.binds {x qual : Str} {st : Stmt} {f : Addr} {fd : FuncData} {ps : List Str} (F : Fun K x qual st f fd)
    (h : ∀ (kV doc pm : Value) (an : Option Addr) (cdv ct : Value) (us : List Value), us.length = ps.length → bindArgs (PySem.W.fnOf x qual (defArgs st) (defBody st) (defScope st) .none kV doc pm an cdv ct) ⟨us, []⟩ = pure (ps.zip us)) : Binds K fd ps [] := by
  obtain ⟨oc, od, kV, doc, pm, an, cdv, ct, osl, rfl, lk, hcd⟩ := F.ex
  exact .all (h kV doc pm an cdv ct)
theorem fun_mk {x qual : Str} {st : Stmt} {f : Addr} {oc : Value} {od an : Option Addr} {osl : Array (Option Value)} {kV doc pm cdv ct : Value} (l : K.lookup f = some ⟨oc, od, .func (PySem.W.fnOf x qual (defArgs st) (defBody st) (defScope st) .none kV doc pm an cdv ct), osl⟩)
    (c : PySem.W.codeIn K cdv qual = true) (k : PySem.W.keepIn K (.ref f) = true) : Fun K x qual st f (PySem.W.fnOf x qual (defArgs st) (defBody st) (defScope st) .none kV doc pm an cdv ct) := ⟨⟨oc, od, kV, doc, pm, an, cdv, ct, osl, rfl, l, c⟩, k⟩
end
theorem hu_of {A : Around} {k : Nat} (hr : Room k A) : A.units + 1 < cLine := Nat.lt_of_le_of_lt (Nat.add_le_add_left (by decide : 1 ≤ 64) _) hr.units
theorem small1000 {n : Nat} (h : n ≤ 1000) : n < sizeLine := Nat.lt_of_le_of_lt h (by decide)

/-! ### expressions in short: the name that stands in the i-th slot -/
section
variable {X : Cx}
theorem pv (i : Nat) {x : Str} {pos : Pos} (hN : X.N[i]? = some x := by rfl) (hv : Vis X.env.scope x := by first | exact Or.inl rfl | exact Or.inr (Or.inl rfl) | exact Or.inr (Or.inr rfl)) (hd : (x == ("__debug__" : Str)) = false := by decide)
    (hcd : (x == ("__classdict__" : Str)) = false := by decide) : PE X (.Name x pos) (tVar i) := pe_var hN hv hd hcd
end

/-! ### tests -/
theorem iteF {A B : Prop} (h : B) : if false = true then A else B := by
  rw [if_neg Bool.false_ne_true]
  exact h
theorem iteT {A B : Prop} (h : A) : if true = true then A else B := by
  rw [if_pos rfl]
  exact h
theorem ite2 {c A B : Prop} [Decidable c] (h1 : c → A) (h2 : ¬ c → B) : if c then A else B := by
  by_cases h : c
  · rw [if_pos h]
    exact h1 h
  · rw [if_neg h]
    exact h2 h
/-! ### heaps -/
/-- all that was tracked is as it was -/
def Same (H H' : Hp) : Prop := ∀ b o, H b = some o → H' b = some o
theorem Same.refl (H : Hp) : Same H H := fun _ _ h => h
theorem Same.trans {H H1 H2 : Hp} (a : Same H H1) (b : Same H1 H2) : Same H H2 := fun c o h => b c o (a c o h)
theorem Same.free {H H' : Hp} (e : Same H H') {l : Addr} (h : H' l = Option.none) : H l = Option.none := by
  cases q : H l with
  | none => rfl
  | some o =>
    rw [e l o q] at h
    cases h
theorem Same.seq {K : PySem.W.Frag} {H H' : Hp} {a : Addr} {xs : List V} (e : Same H H') (h : SqL K H a xs) : SqL K H' a xs := by
  rcases h with (h | ⟨o, h⟩) | h
  · exact .inl (.inl (e _ _ h))
  · exact .inl (.inr ⟨o, e _ _ h⟩)
  · exact .inr h

/-! ### a dict's pairs: keys that differ -/
section
variable {κ : Type} [DecidableEq κ]
end
/-! ### lists -/
/-- a new instance and its __init__ leave all that was tracked as it was -/
theorem Same.made {H H1 : Hp} {x dx C : Addr} (nx : H x = Option.none) (nd : H dx = Option.none) (k : ∀ b o, (upd (upd H dx (.own x)) x (.ins C dx [])) b = some o → b ≠ x → H1 b = some o) : Same H H1 := fun b o e =>
  k b o (by rw [upd_ne (ne_of_none e nx), upd_ne (ne_of_none e nd)]; exact e) (ne_of_none e nx)
end L2

set_option Elab.async false
set_option linter.all false
set_option maxRecDepth 100000
/-! MORE RULES over the layer: a module's numbers and dicts, enumerate's loop, a comprehension's loop, and the head of a specification's row. -/
namespace L2
open PySem PySem.Spec PyProof.Rows

/-- a whole number of the module -/
def GI (mg : Str → Option Value) (x : Str) (i : Int) : Prop := ∃ t, mg x = some (.int i t)
section
variable {X : Cx}
theorem gi {x : Str} {i : Int} {pos : Pos} (h : GI X.mg x i) (hg : Gl X x := by rfl) (hd : (x == ("__debug__" : Str)) = false := by decide) : PE X (.Name x pos) (tC (.int i)) := by
  obtain ⟨t, h⟩ := h
  exact pe_glob hg h ⟨t, rfl⟩ hd
/-- name = value, the name in the i-th slot -/
theorem st (i : Nat) {x : Str} {e : Expr} {te : TE} {pos pos' : Pos} (hN : X.N.Nodup) (he : PE X e te) (hi : X.N[i]? = some x := by rfl) (hx : Loc X.env.scope x := by first | exact Or.inl rfl | exact Or.inr rfl)
    (hs : swapsWith e (some (.Name x pos')) pos.line X.env = pure false := by rfl) (hf : X.fn x = true ∨ X.env.scope.names.lookup x = some .local := by first | exact .inl rfl | exact .inr rfl) : PS X (.Assign [.Name x pos'] e pos) (tAsg te (gName i)) :=
  ps_set hN hi hx he hs hf
theorem tg (i : Nat) {x : Str} {pos : Pos} (hN : X.N.Nodup) (hi : X.N[i]? = some x := by rfl) (hx : Loc X.env.scope x := by first | exact Or.inl rfl | exact Or.inr rfl)
    (hf : X.fn x = true ∨ X.env.scope.names.lookup x = some .local := by first | exact .inl rfl | exact .inr rfl) : PG X (.Name x pos) (gName i) := pg_name hN hi hx hf
/-- len of a list or tuple; in a comprehension K is said -/
theorem ln (K : PySem.W.Frag) {e : Expr} {te : TE} {p pos : Pos} (hm : X.mg "len" = none) (he : PE X e te) (hK : X.K = K := by rfl) (hg : Gl X "len" := by rfl) (hs : starEach [e] X.env = [(false, eval e X.env)] := by rfl) :
    PE X (.Call (.Name "len" p) [e] [] pos) (tCB (fun xs H Q => ∃ p ys, xs = [.ref p] ∧ (SqL K H p ys ∨ SqT K H p ys) ∧ Q (.int ys.length) H) (tCons te tNil)) := by
  subst hK
  exact pe_callB call_len_seq hg hm PySem.boot_len (pa_cons he pa_nil (hs := by rw [hs]; rfl)) (he := by rw [hs]; rfl)
theorem fldK (K : PySem.W.Frag) {e : Expr} {f : Str} {ta : TE} {pos : Pos} (he : PE X e ta) (hK : X.K = K := by rfl) (hb : attributeBase e f X.env (eval e X.env) = eval e X.env := by rfl) : PE X (.Attribute e f pos) (tFld K ta f) := by
  subst hK
  exact pe_fld he hb
theorem ixK (K : PySem.W.Frag) {a b : Expr} {ta tb : TE} {pos : Pos} (ha : PE X a ta) (hb : PE X b tb) (hs : PlainIx b) (hK : X.K = K := by rfl) : PE X (.Subscript a b pos) (tOp (rIxL K) ta tb) := by
  subst hK
  exact pe_ix ix_list ha hb hs
theorem ixTK (K : PySem.W.Frag) {a b : Expr} {ta tb : TE} {pos : Pos} (ha : PE X a ta) (hb : PE X b tb) (hs : PlainIx b) (hK : X.K = K := by rfl) : PE X (.Subscript a b pos) (tOp (rIxT K) ta tb) := by
  subst hK
  exact pe_ix ix_tup ha hb hs
end

/-! ### enumerate(list) -/
theorem for_enum {K : PySem.W.Frag} {a : Addr} {xs : List V} {g : TG} {tb : TS} {D : Ends} {σ : St} {H : Hp} (Pv : Nat → St → Hp → Prop) (h0 : Pv 0 σ H) (hl : ∀ i σ H, i ≤ xs.length → Pv i σ H → SqL K H a xs)
    (hs : ∀ i x σ H T, xs[i]? = some x → Pv i σ H → H T = none → g (.ref T) σ (upd H T (.tup [.int (i : Nat), x])) fun σ2 H2 => tb { D with nx := Pv (i + 1), ct := Pv (i + 1), bk := D.nx } σ2 H2) (hd : ∀ σ H, Pv xs.length σ H → D.nx σ H) :
    ∃ W : Nat → Nat → St → Hp → Prop, (∃ m, W 0 m σ H) ∧ ∀ i m σ H, W i m σ H →
      ((Ite K a).stop i H ∧ D.nx σ H) ∨ ((Ite K a).go i H ∧ ∃ N : St → Hp → Prop, (∀ σ' H', N σ' H' → ∃ m', m' < m ∧ W (i + 1) m' σ' H') ∧ ∀ x H', (Ite K a).yld i H x H' → g x σ H' fun σ2 H2 => tb { D with nx := N, ct := N, bk := D.nx } σ2 H2) := by
  refine ⟨fun i m σ H => m = xs.length - i ∧ i ≤ xs.length ∧ Pv i σ H, ⟨xs.length, by simp, Nat.zero_le _, h0⟩, ?_⟩
  rintro i m σ H ⟨rfl, hi, p⟩
  have q := hl i σ H hi p
  by_cases hlt : i < xs.length
  · refine .inr ⟨⟨xs, xs[i], q, by simp [hlt]⟩, Pv (i + 1), fun σ' H' p' => ⟨xs.length - (i + 1), by omega, rfl, hlt, p'⟩, fun x H' y => ?_⟩
    obtain ⟨T, z, e, hT, e2, y⟩ := y
    subst e e2
    exact hs i z σ _ T (y xs q) p hT
  · have e : i = xs.length := by omega
    subst e
    exact .inl ⟨⟨xs, q, Nat.le_refl _⟩, hd σ H p⟩

/-! ### a dict of the module, its keys whole numbers -/
def EntOk (e : DictEntry) (p : Int × V) : Prop := e.hash = hashInt p.1 ∧ (∃ t, e.key = .int p.1 t) ∧ RelV p.2 e.val
structure KD (K : PySem.W.Frag) (a : Addr) (kvs : List (Int × V)) : Prop where
  lo : (a == sysModules) = false
  ex : ∃ (o : Obj) (es : Array DictEntry) (ep : Nat), K.lookup a = some o ∧ o.ExactDict ∧ o.data = .dict es ep ∧ Paired EntOk es.toList kvs
  nd : (kvs.map (·.1)).Nodup
theorem ent_pairs {P : Program} {w : World} : ∀ {es : List DictEntry} {kvs : List (Int × V)}, Paired EntOk es kvs →
    ∃ vs : List (Key × Value), KV (kvs.map fun p => ((Sum.inl p.1 : Key), p.2)) vs ∧ Pairs (mixKind P w) es vs ∧ vs.map (·.1) = kvs.map (fun p => (Sum.inl p.1 : Key))
  | _, _, .nil => ⟨[], .nil, .nil, rfl⟩
  | _, _, .cons (a := e) (b := p) h r => by
    obtain ⟨vs, h1, h2, h3⟩ := ent_pairs (P := P) (w := w) r
    obtain ⟨e1, ⟨t, e2⟩, e3⟩ := h
    refine ⟨(Sum.inl p.1, e.val) :: vs, .cons ⟨rfl, e3⟩ h1, .cons ?_ rfl h2, by simp [h3]⟩
    rw [e2]
    exact mixKind_int P w p.1 t
theorem ent_keys {P : Program} {w : World} : ∀ {es : List DictEntry} {kvs : List (Int × V)}, Paired EntOk es kvs → ∀ e ∈ es, ∃ k, (mixKind P w).is k e.key = true ∧ e.hash = (mixKind P w).hash k
  | _, _, .nil, e, h => by simp at h
  | _, _, .cons (a := e0) (b := p) h r, e, hm => by
    rcases List.mem_cons.mp hm with q | q
    · subst q
      obtain ⟨e1, ⟨t, e2⟩, e3⟩ := h
      exact ⟨Sum.inl p.1, by rw [e2]; exact mixKind_int P w p.1 t, e1⟩
    · exact ent_keys r e q
theorem inl_nodup : ∀ {l : List Int}, l.Nodup → (l.map fun i => (Sum.inl i : Key)).Nodup
  | [], _ => List.nodup_nil
  | a :: l, h => by
    obtain ⟨h1, h2⟩ := List.nodup_cons.mp h
    refine List.nodup_cons.mpr ⟨fun m => h1 ?_, inl_nodup h2⟩
    obtain ⟨b, hb, e⟩ := List.mem_map.mp m
    cases e
    exact hb
theorem KD.dict {K : PySem.W.Frag} {a : Addr} {kvs : List (Int × V)} (d : KD K a kvs) {h : Heap} (KX : K.In h) (P : Program) (w : World) :
    ∃ vs : List (Key × Value), KV (kvs.map fun p => ((Sum.inl p.1 : Key), p.2)) vs ∧ h.DictOf (mixKind P w) a vs := by
  obtain ⟨o, es, ep, h1, h2, h3, h4⟩ := d.ex
  obtain ⟨vs, v1, v2, v3⟩ := ent_pairs (P := P) (w := w) h4
  refine ⟨vs, v1, o, es, ep, KX a o h1, h2, h3, fun e he => ent_keys h4 e (by simpa using he), v2, ?_⟩
  rw [v3]
  have e : kvs.map (fun p => (Sum.inl p.1 : Key)) = (kvs.map (·.1)).map (fun i => (Sum.inl i : Key)) := by
    rw [List.map_map]
    rfl
  rw [e]
  exact inl_nodup d.nd
/-- what the module's dict has at i -/
def atD (kvs : List (Int × V)) (i : Int) : Option V := valV (kvs.map fun p => ((Sum.inl p.1 : Key), p.2)) (Sum.inl i)
def tKGet2 (kvs : List (Int × V)) (ty tx : TE) : TE := fun σ H Q => ty σ H fun y H2 => tx σ H2 fun z H3 => ∃ i v, y = .int i ∧ (atD kvs i).getD z = v ∧ Q v H3
theorem pe_kget2 {X : Cx} {x : Str} {p apos cpos : Pos} {e f : Expr} {ty tx : TE} {a : Addr} {kvs : List (Int × V)} (hg : Gl X x) (hm : X.mg x = some (.ref a)) (d : KD X.K a kvs) (he : PE X e ty) (hf : PE X f tx) (m : M2 X (.Name x p) "get" apos e f cpos)
    (hd : (x == ("__debug__" : Str)) = false := by decide) : PE X (.Call (.Attribute (.Name x p) "get" apos) [e, f] [] cpos) (tKGet2 kvs ty tx) := by
  intro pins s σ H Q I h
  refine wpAny_Call_method m.base m.few m.line PySem.F.plainAttrs_dict PySem.F.slot_dict_get PySem.F.type_dict_get (ld_glob I hg hm ?_ hd)
  obtain ⟨vs, rel, dd⟩ := d.dict I.kIn X.prog X.w
  refine ⟨dd.typeIs, fun b q => ?_, ?_⟩
  · cases q
    obtain ⟨ob, _, _, h1, h2, _⟩ := dd
    exact ⟨ob, h1, h2.2.1⟩
  rw [m.trees]
  refine Calls.callWith_builtin rfl (Calls.evalArgs_plain (Calls.spliced_cons (thn (he pins s σ H _ I h) fun iv s2 ⟨y, H2, I2, ry, q2⟩ =>
    Calls.spliced_cons (thn (hf pins s2 σ H2 _ I2 q2) fun fv s3 ⟨z, H3, I3, rz, i, yv, ey, ev, q3⟩ => Calls.spliced_nil ?_))))
  subst ey ev
  obtain ⟨vs, rel, dd⟩ := d.dict I3.kIn X.prog X.w
  refine call_meetsIn PySem.F.slot_dict_get dd.typeIs PySem.F.entry_dict_get (PySem.F.args_dict_get_3 _ _ _) (meets_dict_get_default (mixKind X.prog X.w) a (kV_is (k := Sum.inl i) ry) d.lo fv) ⟨_, dd.mapOf, ⟨_, H3, I3.tok _, ?_, q3⟩⟩
  exact (rel.val (Sum.inl i)).getD rz

/-! ### the head of a specification's row -/
theorem ints_inj {ws : List Value} {ns ms : List Int} (h : IntsAre ws ns) (h' : IntsAre ws ms) : ns = ms := by
  have e := Vals.inj (vals_ints h) (vals_ints h')
  exact (List.map_inj_right (fun a b q => by cases q; rfl)).mp e
theorem readsAll_ints {R : PySem.W.WRecords} {cl : Str → Option Addr} {h : Heap} : ∀ {ws : List Value} {ns : List Int}, IntsAre ws ns → PySem.W.ReadsAllW R cl h ws (ns.map PySem.W.WData.int) []
  | _, _, .nil => .nil
  | _, _, .cons n t r => by
    have q := PySem.W.ReadsAllW.cons (R := R) (cl := cl) (h := h) (.int n t) (readsAll_ints r)
    exact q
/-- the lists that are handed in, as they lie in the heap -/
def ArgL (h : Heap) (Ls : List (Addr × List Int)) : Prop := ∀ p ∈ Ls, ∃ ws : List Value, h.get? p.1 = some { cls := .type "list", data := .seq ws.toArray } ∧ IntsAre ws p.2 ∧ p.2.length ≤ sizeLine
def argH (K : PySem.W.Frag) (h : Heap) (Ls : List (Addr × List Int)) : Hp := fun b =>
  if (K.lookup b).isSome = true then none else
  match Ls.find? (fun p => decide (p.1 = b)), h.get? b with
  | some p, some o => some (.frz o (.lst (p.2.map V.int)))
  | _, _ => none
theorem argH_some {K : PySem.W.Frag} {h : Heap} {Ls : List (Addr × List Int)} {b : Addr} {u : HO} (e : argH K h Ls b = some u) :
    K.lookup b = none ∧ ∃ p o, p ∈ Ls ∧ p.1 = b ∧ h.get? b = some o ∧ u = .frz o (.lst (p.2.map V.int)) := by
  unfold argH at e
  split at e
  · cases e
  · rename_i hk
    split at e
    · rename_i p o hp ho
      cases e
      refine ⟨Option.not_isSome_iff_eq_none.mp hk, p, o, List.mem_of_find?_eq_some hp, ?_, ho, rfl⟩
      have := List.find?_some hp
      simpa using this
    · cases e
theorem argH_of {K : PySem.W.Frag} {h : Heap} {Ls : List (Addr × List Int)} (hL : ArgL h Ls) {p : Addr × List Int} (hp : p ∈ Ls) (hk : K.lookup p.1 = none) : ∃ o, argH K h Ls p.1 = some (.frz o (.lst (p.2.map V.int))) := by
  obtain ⟨ws, ho, hi, _⟩ := hL p hp
  unfold argH
  rw [hk, if_neg (by simp), ho]
  cases q : Ls.find? (fun r => decide (r.1 = p.1)) with
  | none =>
    have := List.find?_eq_none.mp q p hp
    simp at this
  | some r =>
    have hr := List.mem_of_find?_eq_some q
    have he : r.1 = p.1 := by simpa using List.find?_some q
    obtain ⟨ws', ho', hi', _⟩ := hL r hr
    rw [he, ho] at ho'
    have e2 : ws = ws' := by
      have := Option.some.inj ho'
      injection this with _ _ h3 _
      injection h3 with h4 _
      simpa using congrArg Array.toList h4
    subst e2
    rw [ints_inj hi hi']
    exact ⟨_, rfl⟩

theorem spec_call {P : Program} {w : World} {K : PySem.W.Frag} {mg mb : Str → Option Value} {CX : CXT} {k : Nat} {fa : Addr} {fd : FuncData} {ps : List Str} {sp : Sp} {s₁ : Shared} {us : List Value} {vs : List V} {Ls : List (Addr × List Int)} {zs : List Int}
    (KX : K.In s₁.heap) (hns : s₁.heap.Ns mainGlobals mg) (hb : s₁.heap.Ns builtinsNs mb) (hbb : ∀ x : Str, x ≠ "__name__" → mb x = bootBuiltins x) (hlim : s₁.heap.NoLimit) (hg : s₁.gens = #[])
    (hL : ArgL s₁.heap Ls) (hr : Room k callerA)
    (F : ∀ base : Heap, K.In base → base.Ns mainGlobals mg → FnOk P w K mg base CX k fa fd ps sp) (hbind : BindsTo s₁ fd ⟨us, []⟩ (ps.zip us)) (hv : Vals vs us)
    (hsp : ∀ H : Hp, (∀ p ∈ Ls, SqL K H p.1 (p.2.map V.int)) → sp vs H (fun v H' => ∃ l, v = .ref l ∧ H' l = some (.lst (zs.map V.int))) fun _ _ _ => False)
    (hCX : ∀ H e s', CX [] H s₁ (fun _ _ _ => False) e s' → False) :
    codeAny (model P w) callerA (.call (.ref fa) ⟨us, []⟩) (fun r s' => (∃ (l : Addr) (ws : List Value) (n : Nat), r = .ok (.ret (.ref l)) ∧ s'.heap.get? l = some { cls := .type "list", data := .seq ws.toArray n } ∧ IntsAre ws zs) ∧
      OldK s₁.heap s'.heap ∧ s'.os = s₁.os ∧ AllBare s'.gens) s₁ := by
  have hO : ∀ {b : Addr} {u : HO}, argH K s₁.heap Ls b = some u → ∃ o xs, u = .frz o (.lst xs) := fun {b u} e => by
    obtain ⟨_, p, o, _, _, _, rfl⟩ := argH_some e
    exact ⟨_, _, rfl⟩
  have hok : HOk P w (argH K s₁.heap Ls) s₁.heap := fun b u e => by
    obtain ⟨_, p, o, hp, hpb, ho, rfl⟩ := argH_some e
    subst hpb
    obtain ⟨ws, ho', hi, hz⟩ := hL p hp
    rw [ho] at ho'
    cases ho'
    exact ⟨ho, by rw [List.length_map]; exact hz, ws, _, vals_ints hi, ho⟩
  have hS : ∀ p ∈ Ls, SqL K (argH K s₁.heap Ls) p.1 (p.2.map V.int) := fun p hp => by
    cases hk : K.lookup p.1 with
    | none =>
      obtain ⟨o, e⟩ := argH_of hL hp hk
      exact .inl (.inr ⟨o, e⟩)
    | some o =>
      obtain ⟨ws, ho, hi, hz⟩ := hL p hp
      have e := KX p.1 o hk
      rw [ho] at e
      cases e
      exact .inr ⟨_, ws.toArray, _, hk, rfl, rfl, rfl, by rw [List.size_toArray, hi.length]; exact hz, by simpa using vals_ints hi⟩
  have base_of : ∀ {b : Addr} {o : Obj}, s₁.heap.get? b = some o → argH K s₁.heap Ls b = none → (hidT s₁.heap (argH K s₁.heap Ls)).get? b = some o := fun e n => hidT_get e n
  have noA : ∀ {b : Addr} {o : Obj} {es : Array DictEntry} {ep : Nat}, s₁.heap.get? b = some o → o.data = .dict es ep → argH K s₁.heap Ls b = none := fun {b o es ep} e d => by
    cases q : argH K s₁.heap Ls b with
    | none => rfl
    | some u =>
      obtain ⟨_, p, o', hp, hpb, ho, rfl⟩ := argH_some q
      subst hpb
      obtain ⟨ws, ho', _, _⟩ := hL p hp
      rw [e] at ho'
      cases ho'
      cases d
  have nsK : ∀ {b : Addr} {m : Str → Option Value}, s₁.heap.Ns b m → (hidT s₁.heap (argH K s₁.heap Ls)).Ns b m := fun {b m} ⟨o, es, ep, e, d, r⟩ => ⟨o, es, ep, base_of e (noA e d), d, r⟩
  have hKb : K.In (hidT s₁.heap (argH K s₁.heap Ls)) := fun b o e => base_of (KX b o e) (by
    cases q : argH K s₁.heap Ls b with
    | none => rfl
    | some u =>
      obtain ⟨z, _⟩ := argH_some q
      rw [z] at e
      cases e)
  have hM : Mod K mg (hidT s₁.heap (argH K s₁.heap Ls)) := ⟨hKb, nsK hns, ⟨mb, nsK hb, hbb⟩, let ⟨mc, h1, h2⟩ := hlim; ⟨mc, nsK h1, h2⟩⟩
  have e0 : Env0 P w K mg (hidT s₁.heap (argH K s₁.heap Ls)) callerA [] s₁ (argH K s₁.heap Ls) :=
    ⟨rfl, hM, fun b o e => of_hidT e, Nat.le_of_eq (hidT_size _ _), trivial, fun b hb => absurd (show b ∈ ([] : List Addr) from hb) (by simp), hok, .of_eq hg⟩
  refine codeAny_mono ((F _ hKb (nsK hns)).run callerA [] s₁ (argH K s₁.heap Ls) ⟨us, []⟩ us vs _ _ hr e0 hbind hv (hsp _ hS)) fun r s' h => ?_
  cases r with
  | error e => exact (hCX _ e s' h).elim
  | ok fl =>
    cases fl with
    | next => exact False.elim h
    | brk => exact False.elim h
    | cont => exact False.elim h
    | ret u =>
      obtain ⟨v, H', os, bare, un, hok', r', l, rfl, hl⟩ := h
      obtain rfl : u = Value.ref l := r'
      obtain ⟨_, its, n, rv, e⟩ := hok' l _ hl
      refine ⟨⟨l, its, n, rfl, e, intsAre_of rv⟩, OldK.of_keep fun b o e => ?_, os, bare⟩
      cases q : argH K s₁.heap Ls b with
      | none => exact un.keep b o e q (by intro z; exact absurd (show b ∈ ([] : List Addr) from z) (by simp)) (by simp)
      | some u =>
        obtain ⟨ob, xs, rfl⟩ := hO q
        have z2 := un.frzs b ob _ q
        obtain ⟨e1, _⟩ := hok b _ q
        obtain ⟨e2, _⟩ := hok' b _ z2
        rw [e] at e1
        cases e1
        exact e2

/-- what a request is: its values, the lists among them, the numbers that are due -/
def Req (r : PySem.W.OpenSpec) (n : Nat) (sp : PySem.W.Frag → Sp) (args : List PySem.W.WData) (h : Heap) (vals : List Value) : Prop :=
  ∃ (vs : List V) (Ls : List (Addr × List Int)) (zs : List Int), Vals vs vals ∧ vals.length = n ∧ ArgL h Ls ∧
    (∀ (K : PySem.W.Frag) (H : Hp), (∀ p ∈ Ls, SqL K H p.1 (p.2.map V.int)) → sp K vs H (fun v H' => ∃ l, v = .ref l ∧ H' l = some (.lst (zs.map V.int))) fun _ _ _ => False) ∧
    r.post args (.list (zs.map PySem.W.WData.int)) = true
theorem walk_spec {r : PySem.W.OpenSpec} {k : Nat} {q : Program} {loose : List Str} {XP : (Str → Option Value) → Heap → Prop} {YP : World → Heap → Prop} {d : DefRec} {K : Params → PySem.W.Frag} {sp : PySem.W.Frag → Sp} {ps : List Str}
    (hdf : d.params.defaults = []) (hr : Room k callerA)
    (hY : ∀ (w : World) (h : Heap), YP w h → (K w.params).In h)
    (F : ∀ (w : World) (mg : Str → Option Value) (fa : Addr) (h : Heap), (K w.params).In h → h.Ns mainGlobals mg → mg d.name = some (.ref fa) →
      ∃ fd : FuncData, Binds (K w.params) fd ps [] ∧
        ∀ base : Heap, (K w.params).In base → base.Ns mainGlobals mg → FnOk r.prog w (K w.params) mg base CX0 k fa fd ps (sp (K w.params)))
    (hA : ∀ (P : Params) (h : Heap) (args : List PySem.W.WData) (vals : List Value), r.pre args = true → PySem.W.WellAll P h vals args → Req r ps.length sp args h vals) :
    PySem.W.WalkOS q loose XP YP r d [] (fun f vs => PySem.call f vs) := by
  intro w s₀ s₁ mg mb G Y fa o pm cd doc dV kV ho hd hcd hD hmg hg args vals as hpre hlay hrd hwl hlo
  have KX := hY w _ Y
  obtain ⟨fd, hb, hF⟩ := F w mg fa _ KX G.T.g hmg
  obtain ⟨vs, Ls, zs, hv, hlen, hL, hsp, hpost⟩ := hA w.params s₁.heap args vals hpre hwl
  have hbind : BindsTo s₁ fd ⟨vals, []⟩ (ps.zip vals) := by
    have := hb s₁ vals KX (by simpa using hlen)
    simpa using this
  refine PySem.W.enter_call (codeAny_mono (spec_call (CX := CX0) (zs := zs) KX G.T.g G.T.b G.T.builtins G.T.nolimit hg hL hr hF hbind hv (hsp _) (fun _ _ _ z => z)) fun rr s' hq => ?_)
  obtain ⟨⟨l, ws, n, rfl, hl, hi⟩, h2, h3, h4⟩ := hq
  exact ⟨.inl ⟨.ref l, .list (zs.map PySem.W.WData.int), [l], rfl, fun _ => rfl, .list hl rfl rfl (by simpa using readsAll_ints hi), hpost, fun z => absurd (show false = true from z) Bool.false_ne_true⟩, h2, h3, h4⟩

/-! ### tables of the module, by a look -/
def entsOk : List DictEntry → List (Int × Int) → Bool
  | [], [] => true
  | e :: es, p :: ps => e.hash == hashInt p.1 && (Value.isInt p.1 e.key && (Value.isInt p.2 e.val && entsOk es ps))
  | _, _ => false
theorem entsOk_paired : ∀ {es : List DictEntry} {ps : List (Int × Int)}, entsOk es ps = true → Paired EntOk es (ps.map fun p => (p.1, V.int p.2))
  | [], [], _ => .nil
  | e :: es, p :: ps, h => by
    have h : (e.hash == hashInt p.1 && (Value.isInt p.1 e.key && (Value.isInt p.2 e.val && entsOk es ps))) = true := h
    simp only [Bool.and_eq_true, beq_iff_eq] at h
    obtain ⟨h1, h2, h3, h4⟩ := h
    obtain ⟨t, e2⟩ := Value.isInt_shape h2
    obtain ⟨u, e3⟩ := Value.isInt_shape h3
    exact .cons ⟨h1, ⟨t, e2⟩, ⟨u, e3⟩⟩ (entsOk_paired h4)
  | [], _ :: _, h => by cases h
  | _ :: _, [], h => by cases h
theorem KD.mk' {K : PySem.W.Frag} {a : Addr} {es : Array DictEntry} {ep : Nat} {ps : List (Int × Int)} (l : K.lookup a = some ⟨.type "dict", none, .dict es ep, #[]⟩) (e : entsOk es.toList ps = true) (o : (a == sysModules) = false)
    (nd : (ps.map (·.1)).Nodup) : KD K a (ps.map fun p => (p.1, V.int p.2)) :=
  ⟨o, ⟨_, es, ep, l, ⟨rfl, rfl, rfl⟩, rfl, entsOk_paired e⟩, by rw [List.map_map]; exact nd⟩
def valsOk : List Value → List Int → Bool
  | [], [] => true
  | v :: vs, i :: is => Value.isInt i v && valsOk vs is
  | _, _ => false
theorem valsOk_vals : ∀ {vs : List Value} {is : List Int}, valsOk vs is = true → Vals (is.map V.int) vs
  | [], [], _ => .nil
  | v :: vs, i :: is, h => by
    have h : (Value.isInt i v && valsOk vs is) = true := h
    simp only [Bool.and_eq_true] at h
    obtain ⟨t, e⟩ := Value.isInt_shape h.1
    exact .cons ⟨t, e⟩ (valsOk_vals h.2)
  | [], _ :: _, h => by cases h
  | _ :: _, [], h => by cases h
theorem SqL.mk' {K : PySem.W.Frag} {H : Hp} {a : Addr} {its : Array Value} {n : Nat} {is : List Int} (l : K.lookup a = some ⟨.type "list", none, .seq its n, #[]⟩) (e : valsOk its.toList is = true) (z : is.length ≤ sizeLine) : SqL K H a (is.map V.int) := by
  have r := valsOk_vals e
  exact .inr ⟨_, its, n, l, rfl, rfl, rfl, by have := r.length; simp at this; omega, r⟩
theorem SqT.mk' {K : PySem.W.Frag} {H : Hp} {a : Addr} {its : Array Value} {n : Nat} {is : List Int} (l : K.lookup a = some ⟨.type "tuple", none, .seq its n, #[]⟩) (e : valsOk its.toList is = true) (z : is.length ≤ sizeLine) : SqT K H a (is.map V.int) := by
  have r := valsOk_vals e
  exact .inr ⟨_, its, n, l, rfl, rfl, by have := r.length; simp at this; omega, r⟩

/-! ### an object's attributes, written out -/
theorem lk_hd {k : Str} {v : V} {r : List (Str × V)} : List.lookup k ((k, v) :: r) = some v := by
  rw [List.lookup_cons]
  simp
theorem lk_tl {k j : Str} {v : V} {r : List (Str × V)} (h : ¬ k = j) : List.lookup k ((j, v) :: r) = List.lookup k r := by
  rw [List.lookup_cons, beq_eq_false_iff_ne.mpr h]
theorem pf_nil {k : Str} {v : V} : putF k v [] = [(k, v)] := rfl
theorem pf_hd {k : Str} {v x : V} {r : List (Str × V)} : putF k v ((k, x) :: r) = (k, v) :: r := by
  unfold putF
  rw [if_pos rfl]
theorem pf_tl {k j : Str} {v x : V} {r : List (Str × V)} (h : ¬ j = k) : putF k v ((j, x) :: r) = (j, x) :: putF k v r := by
  rw [putF, if_neg h]
/-- whole numbers that are not below 0, as values -/
def hV (h : List Nat) : List V := h.map fun c => V.int ((c : Nat) : Int)
theorem hV_length (h : List Nat) : (hV h).length = h.length := List.length_map _
theorem hV_get {h : List Nat} {i : Nat} {y : V} (e : (hV h)[i]? = some y) : ∃ c : Nat, h[i]? = some c ∧ y = V.int (c : Int) := by
  unfold hV at e
  rw [List.getElem?_map] at e
  cases q : h[i]? with
  | none => rw [q] at e; cases e
  | some c => rw [q] at e; exact ⟨c, rfl, (Option.some.inj e).symm⟩
theorem hV_append (a b : List Nat) : hV (a ++ b) = hV a ++ hV b := List.map_append
theorem refs_get {as : List Addr} {i : Nat} {y : V} (e : (as.map V.ref)[i]? = some y) : ∃ a, as[i]? = some a ∧ y = V.ref a := by
  rw [List.getElem?_map] at e
  cases q : as[i]? with
  | none => rw [q] at e; cases e
  | some c => rw [q] at e; exact ⟨c, rfl, (Option.some.inj e).symm⟩
/-- a new thing laid down leaves all else as it was -/
theorem Same.laid {H : Hp} {p : Addr} {o : HO} (n : H p = none) : Same H (upd H p o) := fun b u e => by
  rw [upd_ne (ne_of_none e n)]
  exact e
theorem Same.seqT {K : PySem.W.Frag} {H H' : Hp} {a : Addr} {xs : List V} (e : Same H H') (h : SqT K H a xs) : SqT K H' a xs := by
  rcases h with (h | ⟨o, h⟩) | h
  · exact .inl (.inl (e _ _ h))
  · exact .inl (.inr ⟨o, e _ _ h⟩)
  · exact .inr h
theorem atI_zero {α : Type} (x : α) (l : List α) : atI (x :: l) 0 = some x := atI_nat (j := 0) rfl
/-- lists of numbers, each at its address -/
def At (H : Hp) (bs : List Addr) (hs : List (List Nat)) : Prop := Paired (fun a h => H a = some (.lst (hV h))) bs hs
theorem At.length {H : Hp} {bs : List Addr} {hs : List (List Nat)} (a : At H bs hs) : bs.length = hs.length := Paired.length a
theorem At.get : ∀ {H : Hp} {bs : List Addr} {hs : List (List Nat)} {j : Nat} {a : Addr}, At H bs hs → bs[j]? = some a → ∃ h, hs[j]? = some h ∧ H a = some (.lst (hV h))
  | _, _, _, _, _, .nil, e => by simp at e
  | _, _, _, 0, _, .cons r _, e => by simp at e; subst e; exact ⟨_, rfl, r⟩
  | H, _, _, j + 1, a, .cons _ t, e => by
    obtain ⟨h, h1, h2⟩ := At.get (j := j) (a := a) t (by simpa using e)
    exact ⟨h, by simpa using h1, h2⟩
theorem At.keep {H H' : Hp} : ∀ {bs : List Addr} {hs : List (List Nat)}, At H bs hs → (∀ a ∈ bs, ∀ o, H a = some o → H' a = some o) → At H' bs hs
  | _, _, .nil, _ => .nil
  | _, _, .cons r t, k => .cons (k _ (by simp) _ r) (At.keep t fun a ha => k a (by simp [ha]))
theorem At.same {H H' : Hp} {bs : List Addr} {hs : List (List Nat)} (a : At H bs hs) (s : Same H H') : At H' bs hs := a.keep fun b _ o e => s b o e
theorem At.snoc {H : Hp} : ∀ {bs : List Addr} {hs : List (List Nat)} {a : Addr} {h : List Nat}, At H bs hs → H a = some (.lst (hV h)) → At H (bs ++ [a]) (hs ++ [h])
  | _, _, _, _, .nil, e => .cons e .nil
  | _, _, _, _, .cons r t, e => .cons r (At.snoc t e)

/-! ### and, or, whose parts leave the heap as it is -/
theorem tAnd_p {t u : TT} {σ : St} {H : Hp} {Q : Bool → Hp → Prop} {b c : Bool} (h1 : ∀ Q : Bool → Hp → Prop, Q b H → t σ H Q) (h2 : b = true → ∀ Q : Bool → Hp → Prop, Q c H → u σ H Q) (h : Q (b && c) H) : tAnd t u σ H Q := by
  refine h1 _ ?_
  cases b with
  | true => rw [if_pos rfl]; exact h2 rfl _ h
  | false => rw [if_neg (by decide)]; exact h
theorem tOr_p {t u : TT} {σ : St} {H : Hp} {Q : Bool → Hp → Prop} {b c : Bool} (h1 : ∀ Q : Bool → Hp → Prop, Q b H → t σ H Q) (h2 : b = false → ∀ Q : Bool → Hp → Prop, Q c H → u σ H Q) (h : Q (b || c) H) : tOr t u σ H Q := by
  refine h1 _ ?_
  cases b with
  | true => rw [if_pos rfl]; exact h
  | false => rw [if_neg (by decide)]; exact h2 rfl _ h
theorem dV {i j : Int} : decide (V.int i = V.int j) = decide (i = j) := by
  by_cases h : i = j
  · subst h; simp
  · rw [decide_eq_false h, decide_eq_false fun q => h (by cases q; rfl)]
theorem ixN_nat {n c : Nat} (h : c < n) : ixN n (c : Int) = some c := by
  unfold ixN
  rw [if_pos (by omega), if_pos (by omega)]
  simp

/-! ### a request's values -/
theorem well_list {P : Params} {h : Heap} {v : Value} {ns : List Int} (w : PySem.W.Well P h v (.list (ns.map PySem.W.WData.int))) :
    ∃ (a : Addr) (ws : List Value), v = .ref a ∧ h.get? a = some { cls := .type "list", data := .seq ws.toArray } ∧ IntsAre ws ns := by
  cases w with
  | list ho hall => exact ⟨_, _, rfl, ho, Att.ints_of_wellAll ns _ hall⟩
theorem well_int {P : Params} {h : Heap} {v : Value} {i : Int} (w : PySem.W.Well P h v (.int i)) : ∃ t, v = .int i t := by
  cases w with
  | int i t => exact ⟨t, rfl⟩
theorem within_list {lo hi : Nat} {a b : Int} {ns : List Int} (h : (PySem.W.Codec.list lo hi (.int a b)).within ns = true) : ns.length ≤ hi ∧ ∀ n ∈ ns, a ≤ n ∧ n ≤ b := by
  have h : (PySem.W.Codec.inNat lo hi ns.length && ns.all (PySem.W.Codec.inInt a b)) = true := h
  simp only [PySem.W.Codec.inNat, PySem.W.Codec.inInt, Bool.and_eq_true, decide_eq_true_eq, List.all_eq_true] at h
  exact ⟨h.1.2, fun n hn => h.2 n hn⟩
theorem within_int {a b : Int} {n : Int} (h : (PySem.W.Codec.int a b).within n = true) : a ≤ n ∧ n ≤ b := by
  have h : PySem.W.Codec.inInt a b n = true := h
  simpa [PySem.W.Codec.inInt] using h

theorem BlkOk.of {N N' : List Str} {sc sc' scope : Scope} {own : List (Str × Nat)} (hN : N = N') (hs : sc = sc') (h : BlkOk N' sc' scope own) : BlkOk N sc scope own := by
  subst hN hs
  exact h
theorem ty_list {K : PySem.W.Frag} {H : Hp} {p : Addr} {xs : List V} (h : SqL K H p xs) : tyV K "list" (.ref p) H := Or.inl ⟨rfl, xs, h⟩
end L2

set_option Elab.async false
set_option linter.all false
set_option maxRecDepth 100000
/-! STILL MORE RULES over the layer: sum of a tuple, a module's dict asked by in and by [], tables of tuples, setdefault by a tuple. -/
namespace L2
open PySem PySem.Spec PyProof.Rows

section
variable {prog : Program} {w : World} {A : Around} {E : Value → Shared → Prop} {s : Shared}
theorem sumT_raw {t : Addr} {its : List Value} {ns : List Int} {Q : Value → Shared → Prop} (hh : A.handled = none) (ht : IsTup s.heap t its.toArray) (hi : IntsAre its ns)
    (k : ∀ h' tk t', (∀ b o, s.heap.get? b = some o → h'.get? b = some o) → Q (.int ns.sum t') { s with heap := h', toks := tk }) : wpAny (model prog w) A (call (.builtin "sum") [.ref t]) Q E s := by
  obtain ⟨xs, ex⟩ := hi.allInts.items
  have en : numsOf (intItems xs).toList = ns := by rw [← ex]; exact hi.numsOf
  rw [nums_intItems] at en
  rw [ex] at ht
  have hlt : t < s.heap.objs.size := by obtain ⟨_, q, _⟩ := ht; exact Heap.lt_size q
  refine call_sum_walkG (iter_tuple ht ⟨s.heap.objs.size, _, _, _, _, _, numAt xs, rfl, Walks.tuple (A := A.in1) hh _ t (Nat.ne_of_lt hlt) (intItems xs), ⟨⟨_, Heap.get?_push_size _ rfl, rfl, rfl⟩, ?_⟩, ?_, fun _ _ => intItems_at, fun h' tk t' hk => ?_⟩)
  · obtain ⟨o, q, r⟩ := ht
    exact ⟨o, Heap.get?_push_of_some _ q, r⟩
  · intro b hb
    show b < (s.heap.push _).objs.size
    rw [Heap.size_push]
    rcases List.mem_cons.mp hb with q | q
    · rw [q]; exact Nat.lt_succ_self _
    · rw [List.mem_singleton.mp q]; exact Nat.lt_succ_of_lt hlt
  · have z := k h' tk t' fun b o q => hk b o (fun hm => by
      have z := Heap.lt_size q
      rw [List.mem_singleton.mp hm] at z
      exact Nat.lt_irrefl _ z) (Heap.get?_push_of_some _ q)
    rw [preSum_eq, List.take_of_length_le (by simp [intItems]), en]
    exact z
end
section
variable {X : Cx}
/-- sum(t) of a tuple of ints -/
def rSumT (K : PySem.W.Frag) : List V → Hp → VK → Prop := fun vs H Q => ∃ (a : Addr) (ns : List Int), vs = [V.ref a] ∧ SqT K H a (ns.map V.int) ∧ Q (.int ns.sum) H
theorem cr_sumT (hc : X.calm = true) : CallR X (.builtin "sum") (rSumT X.K) := by
  intro pins s σ H vs us Q I r h
  obtain ⟨a, ns, rfl, hs, q⟩ := h
  obtain ⟨its, rv, hl, _⟩ := I.tuple hs
  rw [Vals.ref1 r]
  exact sumT_raw (I.ok.hd hc) hl rv.ints fun h' tk t' hk => ⟨.int _, H, I.kept hk, ⟨_, rfl⟩, q⟩

/-- a table of the module -/
theorem gr {x : Str} {a : Addr} {pos : Pos} (h : X.mg x = some (.ref a)) (hg : Gl X x := by rfl) (hd : (x == ("__debug__" : Str)) = false := by decide) : PE X (.Name x pos) (tC (.ref a)) :=
  pe_glob (v := .ref a) hg h rfl hd
/-- tuple(xs), K said -/
theorem tpK (K : PySem.W.Frag) {e : Expr} {te : TE} {p pos : Pos} (hm : X.mg "tuple" = none) (he : PE X e te) (hK : X.K = K := by rfl) (hg : Gl X "tuple" := by rfl) (hs : starEach [e] X.env = [(false, eval e X.env)] := by rfl) :
    PE X (.Call (.Name "tuple" p) [e] [] pos) (tCB (fun xs H Q => ∃ p ys, xs = [.ref p] ∧ ((SqL K H p ys ∧ ∀ l, H l = none → Q (.ref l) (upd H l (.tup ys))) ∨ (SqT K H p ys ∧ Q (.ref p) H))) (tCons te tNil)) := by
  subst hK
  exact pe_callTy call_tuple_of hg hm PyProof.Rows.boot_tuple (pa_cons he pa_nil (hs := by rw [hs]; rfl)) (he := by rw [hs]; rfl)
/-! ### a dict of the module: in, [] -/
def tKIn (kvs : List (Int × V)) (ty : TE) : TE := fun σ H Q => ty σ H fun y H2 => ∃ i, y = .int i ∧ Q (.bl (atD kvs i).isSome) H2
theorem pc_kin {x : Str} {p : Pos} {e : Expr} {ty : TE} {a : Addr} {kvs : List (Int × V)} (hg : Gl X x) (hm : X.mg x = some (.ref a)) (d : KD X.K a kvs) (he : PE X e ty)
    (hd : (x == ("__debug__" : Str)) = false := by decide) : PC X .In e (.Name x p) (tKIn kvs ty) := by
  intro pins s σ H Q I h
  refine thn (he pins s σ H _ I h) fun iv s1 ⟨y, H1, I1, ry, i, ey, q1⟩ => ld_glob I1 hg hm ?_ hd
  subst ey
  obtain ⟨vs, rel, dd⟩ := d.dict I1.kIn X.prog X.w
  refine wpAny_in_of (kV_is (k := Sum.inl i) ry) d.lo dd.mapOf ⟨.bl _, H1, I1.tok _, ?_, q1⟩
  exact congrArg Value.bool (rel.val (Sum.inl i)).isSome_eq.symm
def tKIx (kvs : List (Int × V)) (ty : TE) : TE := fun σ H Q => ty σ H fun y H2 => ∃ i v, y = .int i ∧ atD kvs i = some v ∧ Q v H2
theorem pe_kix {x : Str} {p pos : Pos} {e : Expr} {ty : TE} {a : Addr} {kvs : List (Int × V)} (hg : Gl X x) (hm : X.mg x = some (.ref a)) (d : KD X.K a kvs) (he : PE X e ty) (hs : NoSl e)
    (hd : (x == ("__debug__" : Str)) = false := by decide) : PE X (.Subscript (.Name x p) e pos) (tKIx kvs ty) := by
  intro pins s σ H Q I h
  refine subD_of PySem.F.slot_dict_getitem.lookup hs (ld_glob I hg hm (thn (he pins s σ H _ I h) fun iv s1 ⟨y, H1, I1, ry, i, v, ey, ev, q1⟩ => ?_) hd)
  subst ey
  obtain ⟨vs, rel, dd⟩ := d.dict I1.kIn X.prog X.w
  obtain ⟨w', hw, rw'⟩ := RelO.some_of (v := v) (o := valueAt vs (Sum.inl i)) (by rw [← ev]; exact rel.val (Sum.inl i))
  exact ⟨dd.typeIs, wpAny_getItem_of (kV_is (k := Sum.inl i) ry) dd.mapOf hw ⟨v, H1, I1.tok _, rw', q1⟩⟩
end
/-! ### the whole of a tuple is the tuple itself -/
theorem getItem_tuple_all {prog : Program} {w : World} {A : Around} {E : Value → Shared → Prop} {s : Shared} {t sl : Addr} {items : Array Value} {vl vu : Value} {lo hi : Option Int} {Q : Value → Shared → Prop} (ht : IsTup s.heap t items)
    (hs : s.heap.IsSliceOf sl vl vu .none) (pl : IsPart vl lo) (pu : IsPart vu hi) (hw : HT.sIx items.size 0 lo = 0 ∧ HT.sIx items.size items.size hi = items.size) (h : Q (.ref t) s) :
    wpAny (model prog w) A (getItem (.ref t) (.ref sl)) Q E s := by
  obtain ⟨os, hos, hcs, hds⟩ := id hs
  have hTs : s.TypeIs (.ref sl) "slice" := ⟨os, hos, hcs⟩
  unfold getItem
  try with_reducible refine wpAny_holding ?_
  first | refine wpAny_bind (wpAny_pure ?_) | skip
  refine wpAny_bind (wpAny_sequenceKey ht.typeIs (by decide) ?_)
  refine wpAny_bind (wpAny_callSpecial?_slot (name := Str.ofString "__getitem__") ht.typeIs PyProof.Rows.slot_tuple_getitem
    (wpAny_call_entry PyProof.Rows.slot_tuple_getitem ht.typeIs entry_tuple_getitem ?_ (args_tuple_getitem _ _)))
  show wpAny _ _ (Builtin.Tuple.tupleItemsOf (.ref t) >>= _) _ _ s
  refine wpAny_bind (tupleItemsOf_ ht ?_)
  refine wpAny_bind (wpAny_typeOf hTs ?_)
  rw [if_pos (by decide)]
  refine wpAny_bind (HT.sliceApplied_gen hs pl pu ?_)
  have hyes : (((HT.sIx items.size 0 lo : Nat) : Int) == 0 && (1 : Int) == 1 && (HT.sIx items.size items.size hi - HT.sIx items.size 0 lo) == items.size) = true := by
    rw [hw.1, hw.2]
    simp
  show wpAny _ _ (if (((HT.sIx items.size 0 lo : Nat) : Int) == 0 && (1 : Int) == 1 && (HT.sIx items.size items.size hi - HT.sIx items.size 0 lo) == items.size) = true then _ else _) _ _ s
  rw [if_pos hyes]
  unfold Builtin.Tuple.tupleIsExact
  refine wpAny_bind (wpAny_bind (wpAny_typeOf ht.typeIs (wpAny_pure ?_)))
  first
    | (rw [if_pos (by decide)]; exact wpAny_bind (wpAny_rule (wpAny_pure ⟨_, rfl, wpAny_pure h⟩)))
    | (rw [if_pos (by decide)]; exact wpAny_bind (wpAny_rule (wpAny_bind (wpAny_pure (wpAny_pure ⟨_, rfl, wpAny_pure h⟩)))))
/-- t[lo:hi], whole or not -/
def rSlTA (K : PySem.W.Frag) : V → Option Int → Option Int → Hp → VK → Prop := fun x lo hi H Q => ∃ a xs, x = .ref a ∧ SqT K H a xs ∧ ∀ p H', (p = a ∧ H' = H ∧ cutV xs lo hi = xs) ∨ (H p = none ∧ H' = upd H p (.tup (cutV xs lo hi))) → Q (.ref p) H'
theorem sl_tupA {X : Cx} : SlR X (rSlTA X.K) := by
  intro pins s σ H x v vl vu lo hi sl Q I rx hs pl pu h
  obtain ⟨a, xs, rfl, hx, q⟩ := h
  by_cases hw : HT.sIx xs.length 0 lo = 0 ∧ HT.sIx xs.length xs.length hi = xs.length
  · cases rx
    obtain ⟨its, r, ht, hz⟩ := I.tuple hx
    have hlen : its.toArray.size = xs.length := by rw [List.size_toArray]; exact r.length.symm
    refine ⟨"tuple", _, PyProof.Rows.slot_tuple_getitem.lookup, ht.typeIs, getItem_tuple_all ht hs pl pu (by rw [hlen]; exact hw) ⟨.ref a, H, I, rfl, q a H (.inl ⟨rfl, rfl, ?_⟩)⟩⟩
    unfold cutV
    rw [hw.1, hw.2, List.drop_zero, Nat.sub_zero, List.take_length]
  · exact sl_tup pins s σ H _ v vl vu lo hi sl Q I rx hs pl pu ⟨a, xs, rfl, hx, hw, fun p hp => q p _ (.inr ⟨hp, rfl⟩)⟩
theorem ifT {c A B : Prop} [Decidable c] (h : c) (a : A) : if decide c = true then A else B := by
  rw [decide_eq_true h, if_pos rfl]
  exact a
theorem ifF {c A B : Prop} [Decidable c] (h : ¬ c) (b : B) : if decide c = true then A else B := by
  rw [decide_eq_false h, if_neg (by decide)]
  exact b
/-! ### or, if-else, as values, whose parts leave the heap as it is -/
theorem tOrV_p {ta tb : TE} {σ : St} {H : Hp} {Q : VK} {b c : Bool} (h1 : ∀ Q : VK, Q (.bl b) H → ta σ H Q) (h2 : b = false → ∀ Q : VK, Q (.bl c) H → tb σ H Q) (h : Q (.bl (b || c)) H) : tOrV ta tb σ H Q := by
  refine h1 _ ⟨b, rfl, ?_⟩
  cases b with
  | true => rw [if_pos rfl]; exact h
  | false => rw [if_neg (by decide)]; exact h2 rfl _ h
theorem tAndV_p {ta tb : TE} {σ : St} {H : Hp} {Q : VK} {b c : Bool} (h1 : ∀ Q : VK, Q (.bl b) H → ta σ H Q) (h2 : b = true → ∀ Q : VK, Q (.bl c) H → tb σ H Q) (h : Q (.bl (b && c)) H) : tAndV ta tb σ H Q := by
  refine h1 _ ⟨b, rfl, ?_⟩
  cases b with
  | true => rw [if_pos rfl]; exact h2 rfl _ h
  | false => rw [if_neg (by decide)]; exact h
theorem tIf_p {t : TT} {ta tb : TE} {σ : St} {H : Hp} {Q : VK} {b : Bool} {v : V} (hc : ∀ Q : Bool → Hp → Prop, Q b H → t σ H Q) (h1 : b = true → ∀ Q : VK, Q v H → ta σ H Q) (h2 : b = false → ∀ Q : VK, Q v H → tb σ H Q) (h : Q v H) : tIf t ta tb σ H Q := by
  refine hc _ ?_
  cases b with
  | true => rw [if_pos rfl]; exact h1 rfl _ h
  | false => rw [if_neg (by decide)]; exact h2 rfl _ h
/-- the state told by what holds of it -/
theorem absS {T : St → Hp → Prop} {σ : St} {H0 : Hp} (C : Hp → Prop) (h : C H0) (k : ∀ H1, C H1 → T σ H1) : T σ H0 := k _ h
/-! ### tuples of numbers, each at its address -/
def AtT (H : Hp) (bs : List Addr) (hs : List (List Nat)) : Prop := Paired (fun a h => H a = some (.tup (hV h))) bs hs
theorem AtT.length {H : Hp} {bs : List Addr} {hs : List (List Nat)} (a : AtT H bs hs) : bs.length = hs.length := Paired.length a
theorem AtT.get : ∀ {H : Hp} {bs : List Addr} {hs : List (List Nat)} {j : Nat} {h : List Nat}, AtT H bs hs → hs[j]? = some h → ∃ a, bs[j]? = some a ∧ H a = some (.tup (hV h))
  | _, _, _, _, _, .nil, e => by simp at e
  | _, _, _, 0, _, .cons r _, e => by simp at e; subst e; exact ⟨_, rfl, r⟩
  | H, _, _, j + 1, h, .cons _ t, e => by
    obtain ⟨a, h1, h2⟩ := AtT.get (j := j) (h := h) t (by simpa using e)
    exact ⟨a, by simpa using h1, h2⟩
theorem AtT.keep {H H' : Hp} (k : ∀ a xs, H a = some (.tup xs) → H' a = some (.tup xs)) : ∀ {bs : List Addr} {hs : List (List Nat)}, AtT H bs hs → AtT H' bs hs
  | _, _, .nil => .nil
  | _, _, .cons r t => .cons (k _ _ r) (AtT.keep k t)
theorem AtT.same {H H' : Hp} {bs : List Addr} {hs : List (List Nat)} (a : AtT H bs hs) (s : Same H H') : AtT H' bs hs := a.keep fun b xs e => s b _ e
theorem AtT.snoc {H : Hp} : ∀ {bs : List Addr} {hs : List (List Nat)} {a : Addr} {h : List Nat}, AtT H bs hs → H a = some (.tup (hV h)) → AtT H (bs ++ [a]) (hs ++ [h])
  | _, _, _, _, .nil, e => .cons e .nil
  | _, _, _, _, .cons r t, e => .cons r (AtT.snoc t e)
theorem AtT.set {H : Hp} : ∀ {bs : List Addr} {hs : List (List Nat)} {a : Addr} {h : List Nat} (i : Nat), AtT H bs hs → H a = some (.tup (hV h)) → AtT H (bs.set i a) (hs.set i h)
  | _, _, _, _, _, .nil, _ => .nil
  | _, _, _, _, 0, .cons _ t, e => .cons e t
  | _, _, _, _, i + 1, .cons r t, e => .cons r (AtT.set i t e)
theorem hV_take (h : List Nat) (i : Nat) : (hV h).take i = hV (h.take i) := by unfold hV; rw [List.map_take]
/-! ### an object's attributes -/
theorem lk_none {m : Str} : ∀ {fs : List (Str × V)} (ks : List Str), fs.map (·.1) = ks → (ks.all fun k => !decide (m = k)) = true → fs.lookup m = none
  | [], _, _, _ => rfl
  | (k, v) :: fs, ks, e, h => by
    subst e
    rw [List.map_cons, List.all_cons, Bool.and_eq_true] at h
    have h1 : ¬ m = k := by simpa using h.1
    rw [lk_tl h1]
    exact lk_none _ rfl h.2
theorem fl_nil : ([] : List (Str × V)).length < 1 := by decide
theorem fl_put {fs : List (Str × V)} {f : Str} {v : V} {n : Nat} (h : fs.length < n) : (putF f v fs).length < n + 1 := Nat.lt_of_le_of_lt (length_putF f v fs) (Nat.succ_lt_succ h)
theorem ins_eq {H : Hp} {p C dx : Addr} {fs fs' : List (Str × V)} (h : H p = some (.ins C dx fs)) (e : fs = fs') : H p = some (.ins C dx fs') := by
  subst e
  exact h
/-! ### a module's dict of tuples -/
def keysOk : List DictEntry → List Int → Bool
  | [], [] => true
  | e :: es, i :: is => e.hash == hashInt i && (Value.isInt i e.key && keysOk es is)
  | _, _ => false
theorem keysOk_paired : ∀ {es : List DictEntry} {is : List Int} {as : List Addr}, keysOk es is = true → es.map (·.val) = as.map Value.ref → Paired EntOk es (is.zip (as.map V.ref))
  | [], [], [], _, _ => .nil
  | [], [], _ :: _, _, e => by cases e
  | e :: es, i :: is, [], _, q => by cases q
  | e :: es, i :: is, a :: as, h, q => by
    have h : (e.hash == hashInt i && (Value.isInt i e.key && keysOk es is)) = true := h
    simp only [Bool.and_eq_true, beq_iff_eq] at h
    obtain ⟨h1, h2, h3⟩ := h
    obtain ⟨t, e2⟩ := Value.isInt_shape h2
    rw [List.map_cons, List.map_cons] at q
    injection q with q1 q2
    exact .cons ⟨h1, ⟨t, e2⟩, q1⟩ (keysOk_paired h3 q2)
  | [], _ :: _, _, h, _ => by cases h
  | _ :: _, [], _, h, _ => by cases h
theorem KD.mkR {K : PySem.W.Frag} {a : Addr} {es : Array DictEntry} {ep : Nat} {is : List Int} {as : List Addr} (l : K.lookup a = some ⟨.type "dict", none, .dict es ep, #[]⟩) (e : es.toList.map (·.val) = as.map Value.ref)
    (f : keysOk es.toList is = true) (o : (a == sysModules) = false) (nd : ((is.zip (as.map V.ref)).map (·.1)).Nodup) : KD K a (is.zip (as.map V.ref)) :=
  ⟨o, ⟨_, es, ep, l, ⟨rfl, rfl, rfl⟩, rfl, keysOk_paired f e⟩, nd⟩
theorem refs_vals : ∀ (as : List Addr), Vals (as.map V.ref) (as.map Value.ref)
  | [] => .nil
  | _ :: as => .cons rfl (refs_vals as)
theorem SqT.mkR {K : PySem.W.Frag} {H : Hp} {a : Addr} {its : Array Value} {n : Nat} {as : List Addr} (l : K.lookup a = some ⟨.type "tuple", none, .seq its n, #[]⟩) (e : its.toList = as.map Value.ref) (z : as.length ≤ sizeLine) : SqT K H a (as.map V.ref) := by
  have r := refs_vals as
  rw [← e] at r
  exact .inr ⟨_, its, n, l, rfl, rfl, by have := r.length; simp at this; omega, r⟩

/-! ### setdefault of a dict by tuples -/
section
variable {prog : Program} {w : World} {κ : Type} [DecidableEq κ] {knd : HeapKind prog w κ} {A : Around} {E : Value → Shared → Prop} {s : Shared} {d a : Addr} {k : κ} {xs : List (κ × Addr × Value)}
theorem setDef_heap {v : Value} {Q : Value → Shared → Prop} (hu : knd.room A) (hk : knd.is s.heap k a) (hm : s.heap.DictOfH knd d xs) (hsz : xs.length ≤ sizeLine)
    (q1 : ∀ p, atKey xs k = some p → Q p.2 { s with toks := s.toks + knd.draws k })
    (q2 : atKey xs k = none → ∀ h', h'.DictOfH knd d (xs ++ [(k, a, v)]) → Heap.SameBut d s.heap h' → Q v { s with heap := h', toks := s.toks + knd.draws k }) :
    wpAny (model prog w) A (dictSetDefault d (.ref a) v) Q E s := by
  obtain ⟨o, es, ep, ho, hc, hd, he, his, hn⟩ := id hm
  unfold dictSetDefault
  try with_reducible refine wpAny_holding ?_
  refine wpAny_bind (knd.pyHash hu hk (wpAny_bind (wpAny_dictFind_heap (s := { s with toks := s.toks + knd.draws k }) hu hk ho hd he his hn (fun no => ?_) fun j p hj => ?_)))
  · have hno := atKey_none_of_get no
    have nk : k ∉ xs.map (·.1) := not_mem_keys_of_get no
    refine wpAny_bind (wpAny_rule (wpAny_bind (wpAny_updateDictKeys (hz := by have := size_of_entries he; omega) (s := { s with toks := s.toks + knd.draws k }) ho hd (wpAny_pure (q2 hno _ ⟨_, _, ep + 1, Heap.get?_update_self _ ho (Obj.isFreed_of_dict (Obj.data_mapDictKeys hd _)), hc.mapDictKeys _, Obj.data_mapDictKeys hd _, by simp [he, entryOfKey], fun x hx => ?_, ?_⟩ (Heap.SameBut.update ..))))))
    · rcases List.mem_append.mp hx with z | z
      · exact knd.keeps (his x z) ho hd (Heap.SameBut.update ..)
      · have z := List.mem_singleton.mp z
        subst z
        exact knd.keeps hk ho hd (Heap.SameBut.update ..)
    · rw [List.map_append]
      exact List.nodup_append.mpr ⟨hn, by simp, fun x hx y hy e => nk (by
        have z : y = k := by simpa using hy
        rw [← z, ← e]; exact hx)⟩
  · refine wpAny_bind (wpAny_dictEntries (s := { s with toks := s.toks + knd.draws k }) ho hd ?_)
    rw [entry_at he j, hj]
    exact wpAny_bind (wpAny_rule (wpAny_pure (q1 p (atKey_of_get hn hj))))
theorem setDef_meets {v : Value} (knd : HeapKind prog w κ) (d a : Addr) (hd : (d == sysModules) = false) :
    MeetsIn prog w (Builtin.«dict.setdefault» ⟨[.ref d, .ref a, v], []⟩) (fun A R s => knd.room A.in1 ∧ ∃ k xs, knd.is s.heap k a ∧ s.heap.DictOfH knd d xs ∧ xs.length ≤ sizeLine ∧
      (∀ p, atKey xs k = some p → R (.ok (.ret p.2)) { s with toks := s.toks + knd.draws k }) ∧
      (atKey xs k = none → ∀ h', h'.DictOfH knd d (xs ++ [(k, a, v)]) → Heap.SameBut d s.heap h' → R (.ok (.ret v)) { s with heap := h', toks := s.toks + knd.draws k })) :=
  .of_wp fun A R s ⟨hu, k, xs, hk, hm, hz, q1, q2⟩ => by
    unfold Builtin.«dict.setdefault»
    refine wpAny_bind ?_
    unfold Builtin.Dict.keyAndDefault
    refine wpAny_bind (wpAny_notOrdered_dict hm.typeIs (show wpAny _ _ (pure (d, Value.ref a, some v)) _ _ s from wpAny_pure ?_))
    show wpAny _ _ (if (d == sysModules) = true then _ else (dictSetDefault d (Value.ref a) v >>= _)) _ _ s
    rw [if_neg (show ¬ (d == sysModules) = true by rw [hd]; decide)]
    exact wpAny_bind (setDef_heap hu hk hm hz (fun p hp => wpAny_pure ⟨p.2, rfl, q1 p hp⟩) fun hn h' hm' hs => wpAny_pure ⟨v, rfl, q2 hn h' hm' hs⟩)
end
def tDSetD (td ty tx : TE) : TE := fun σ H Q => td σ H fun x H1 => ∃ a, x = .ref a ∧ IsD H1 a ∧ ty σ H1 fun y H2 => tx σ H2 fun z H3 => ∃ kvs k b, H3 a = some (.dT kvs) ∧ y = .ref b ∧ H3 b = some (.tup (k.map kV)) ∧ kvs.length < sizeLine ∧
  (∀ v, valV kvs k = some v → Q v H3) ∧ (valV kvs k = none → Q z (upd H3 a (.dT (putK kvs k z))))
theorem pe_dsetd {X : Cx} {o e f : Expr} {apos cpos : Pos} {td ty tx : TE} (hu : X.A.units + 1 < cLine) (ho : PE X o td) (he : PE X e ty) (hf : PE X f tx) (m : M2 X o "setdefault" apos e f cpos) :
    PE X (.Call (.Attribute o "setdefault" apos) [e, f] [] cpos) (tDSetD td ty tx) := by
  intro pins s σ H Q I h
  refine wpAny_Call_method m.base m.few m.line PySem.F.plainAttrs_dict PySem.F.slot_dict_setdefault PySem.F.type_dict_setdefault (thn (ho pins s σ H _ I h) fun u s1 ⟨x, H1, I1, rx, a, ex, d, q1⟩ => ?_)
  subst ex
  obtain rfl : u = Value.ref a := rx
  obtain ⟨t1, t2, _⟩ := isD_at I1 d
  refine ⟨t1, t2, ?_⟩
  rw [m.trees]
  refine Calls.callWith_builtin rfl (Calls.evalArgs_plain (Calls.spliced_cons (thn (he pins s1 σ H1 _ I1 q1) fun iv s2 ⟨y, H2, I2, ry, q2⟩ =>
    Calls.spliced_cons (thn (hf pins s2 σ H2 _ I2 q2) fun fv s3 ⟨z, H3, I3, rz, kvs, k, b, ea, ey, eb, l, q3, q4⟩ => Calls.spliced_nil ?_))))
  subst ey
  obtain rfl : iv = Value.ref b := ry
  obtain ⟨hz, hd, xs, rel, dd⟩ := dt_of I3.hok ea
  have hval := rel.val k
  refine call_meetsIn PySem.F.slot_dict_setdefault dd.typeIs PySem.F.entry_dict_setdefault (PySem.F.args_dict_setdefault_3 _ _ _) (setDef_meets (tupleKind (mixKind X.prog X.w)) a b hd)
    ⟨tupleKind_room_in1 hu, k, xs, key_of I3.hok eb, dd, by rw [← Paired.length rel]; exact hz, fun p hp => ?_, fun hn h' dd' hs => ?_⟩
  · rw [hp] at hval
    cases lv : valV kvs k with
    | none => rw [lv] at hval; exact hval.elim
    | some v => rw [lv] at hval; exact ⟨v, H3, I3.tok _, hval, q3 v lv⟩
  · have lv : valV kvs k = none := by
      rw [hn] at hval
      cases lv : valV kvs k with
      | none => rfl
      | some v => rw [lv] at hval; exact hval.elim
    obtain ⟨q, es, ep, hq, h2, h3, h4, _, h5⟩ := dd'
    have hl : (putK kvs k z).length ≤ sizeLine := by have := length_putK kvs k z; omega
    have hput := rel.put k eb rz
    rw [storedH_new hn] at hput
    refine ⟨z, _, d_write (ob := .dT (putK kvs k z)) I3 (by rw [ea]; exact True.intro) hs ⟨q, hq⟩ ⟨hl, hd, _, hput.keeps fun c ys ec => ?_, q, es, ep, hq, h2, h3, h4, h5⟩, rz, q4 lv⟩
    rw [upd_ne (ne_of ec ea (fun z => nomatch z))]
    exact ec
end L2

set_option Elab.async false
set_option linter.all false
set_option maxRecDepth 100000
/-! A DICT BY POSITIONS: its keys are tuples (hands, a number, a number), hands a tuple of tuples of numbers; its values True and False. -/
namespace L2
open PySem PySem.Spec PyProof.Rows

/-! ### numbers and tuples of them at any depth: hash, quiet, one reading -/
mutual
def plainD : PyData → Bool
  | .int _ => true
  | .tuple ds => plainDs ds
  | _ => false
def plainDs : List PyData → Bool
  | [] => true
  | d :: ds => plainD d && plainDs ds
end
mutual
def hashD : PyData → Int
  | .int i => hashInt i
  | .tuple ds => reduceHash (Builtin.Tuple.tupleHashOf (hashDs ds))
  | _ => 0
def hashDs : List PyData → List Int
  | [] => []
  | d :: ds => hashD d :: hashDs ds
end
mutual
def toksD : PyData → Nat
  | .int _ => 1
  | .tuple ds => toksDs ds + 1
  | _ => 0
def toksDs : List PyData → Nat
  | [] => 0
  | d :: ds => toksD d + toksDs ds
end
theorem hashDs_app : ∀ (a b : List PyData), hashDs (a ++ b) = hashDs a ++ hashDs b
  | [], b => rfl
  | d :: a, b => by
    show hashD d :: hashDs (a ++ b) = hashD d :: (hashDs a ++ hashDs b)
    rw [hashDs_app a b]
theorem toksDs_app : ∀ (a b : List PyData), toksDs (a ++ b) = toksDs a + toksDs b
  | [], b => by show toksDs b = 0 + toksDs b; omega
  | d :: a, b => by
    show toksD d + toksDs (a ++ b) = toksD d + toksDs a + toksDs b
    rw [toksDs_app a b]
    omega
theorem plainDs_app : ∀ (a b : List PyData), plainDs (a ++ b) = (plainDs a && plainDs b)
  | [], b => rfl
  | d :: a, b => by
    show (plainD d && plainDs (a ++ b)) = ((plainD d && plainDs a) && plainDs b)
    rw [plainDs_app a b, Bool.and_assoc]
theorem readsAll_app {h : Heap} : ∀ {vs : List Value} {ds : List PyData} {as : List Addr}, ReadsAll h vs ds as → vs.length = ds.length
  | _, _, _, .nil => rfl
  | _, _, _, .cons _ r => by simp [readsAll_app r]
mutual
theorem reads_one {h : Heap} : ∀ (d e : PyData) (v : Value) (as bs : List Addr), plainD d = true → plainD e = true → Reads h v d as → Reads h v e bs → d = e
  | .int i, e, v, _, _, _, pe, r1, r2 => by
    cases r1
    cases r2
    rfl
  | .tuple ds, e, v, _, _, pd, pe, r1, r2 => by
    cases r1 with
    | tuple h1 h2 h3 h4 =>
      cases r2 with
      | list g1 g2 g3 g4 => cases pe
      | dict g1 g2 g3 g4 g5 => cases pe
      | tuple g1 g2 g3 g4 =>
        rw [h1] at g1
        cases g1
        rw [h3] at g3
        cases g3
        exact congrArg PyData.tuple (reads_all_one ds _ _ _ _ pd pe h4 g4)
  | .none, _, _, _, _, pd, _, _, _ => by cases pd
  | .bool _, _, _, _, _, pd, _, _, _ => by cases pd
  | .str _, _, _, _, _, pd, _, _, _ => by cases pd
  | .list _, _, _, _, _, pd, _, _, _ => by cases pd
  | .dict _, _, _, _, _, pd, _, _, _ => by cases pd
theorem reads_all_one {h : Heap} : ∀ (ds es : List PyData) (vs : List Value) (as bs : List Addr), plainDs ds = true → plainDs es = true → ReadsAll h vs ds as → ReadsAll h vs es bs → ds = es
  | [], es, vs, _, _, _, _, r1, r2 => by
    cases r1
    cases r2
    rfl
  | d :: ds, es, vs, _, _, pd, pe, r1, r2 => by
    cases r1 with
    | cons q1 q2 =>
      cases r2 with
      | @cons _ _ e es' _ _ g1 g2 =>
        have pd : (plainD d && plainDs ds) = true := pd
        have pe : (plainD e && plainDs es') = true := pe
        rw [Bool.and_eq_true] at pd pe
        rw [reads_one d e _ _ _ pd.1 pe.1 q1 g1, reads_all_one ds es' _ _ _ pd.2 pe.2 q2 g2]
end
mutual
theorem reads_keep {h h' : Heap} {dd : Addr} {o : Obj} {es : Array DictEntry} {ep : Nat} (ho : h.get? dd = some o) (hd : o.data = .dict es ep) (hs : Heap.SameBut dd h h') : ∀ (d : PyData) (v : Value) (as : List Addr), plainD d = true → Reads h v d as → Reads h' v d as
  | .int i, v, _, _, r => by
    cases r
    exact .int _ _
  | .tuple ds, v, _, pd, r => by
    cases r with
    | @tuple a oa vs n xs as' h1 h2 h3 h4 =>
      have hne : a ≠ dd := fun z => by
        rw [z, ho] at h1
        cases h1
        rw [hd] at h3
        cases h3
      exact .tuple ((hs.2 a hne).trans h1) h2 h3 (reads_all_keep ho hd hs ds _ _ pd h4)
  | .none, _, _, pd, _ => by cases pd
  | .bool _, _, _, pd, _ => by cases pd
  | .str _, _, _, pd, _ => by cases pd
  | .list _, _, _, pd, _ => by cases pd
  | .dict _, _, _, pd, _ => by cases pd
theorem reads_all_keep {h h' : Heap} {dd : Addr} {o : Obj} {es : Array DictEntry} {ep : Nat} (ho : h.get? dd = some o) (hd : o.data = .dict es ep) (hs : Heap.SameBut dd h h') : ∀ (ds : List PyData) (vs : List Value) (as : List Addr), plainDs ds = true → ReadsAll h vs ds as → ReadsAll h' vs ds as
  | [], _, _, _, r => by
    cases r
    exact .nil
  | d :: ds, _, _, pd, r => by
    cases r with
    | cons q1 q2 =>
      have pd : (plainD d && plainDs ds) = true := pd
      rw [Bool.and_eq_true] at pd
      exact .cons (reads_keep ho hd hs d _ _ pd.1 q1) (reads_all_keep ho hd hs ds _ _ pd.2 q2)
end
section
variable {prog : Program} {w : World}
/-- what is asked of the hash of data -/
def HashOk (prog : Program) (w : World) (d : PyData) : Prop := ∀ (A : Around) (E : Value → Shared → Prop) (s : Shared) (v : Value) (as : List Addr) (Q : Int → Shared → Prop), plainD d = true → Reads s.heap v d as → A.units + d.depth < cLine →
  Q (hashD d) { s with toks := s.toks + toksD d } → wpAny (model prog w) A (pyHash v) Q E s
theorem depth_mem : ∀ {ds : List PyData} {d : PyData}, d ∈ ds → d.depth ≤ PyData.depthAll ds
  | x :: xs, d, h => by
    show d.depth ≤ max x.depth (PyData.depthAll xs)
    rcases List.mem_cons.mp h with q | q
    · rw [q]; exact Nat.le_max_left _ _
    · exact Nat.le_trans (depth_mem q) (Nat.le_max_right _ _)
theorem readsAll_split {h : Heap} {v : Value} {vs : List Value} {d : PyData} {ds : List PyData} {as : List Addr} (r : ReadsAll h (v :: vs) (d :: ds) as) : (∃ bs, Reads h v d bs) ∧ ∃ bs, ReadsAll h vs ds bs := by
  cases r with
  | cons q1 q2 => exact ⟨⟨_, q1⟩, _, q2⟩
theorem hash_tuple {ds : List PyData} (ih : ∀ d ∈ ds, HashOk prog w d) : HashOk prog w (.tuple ds) := by
  intro A E s v as Q pd r hu h
  cases r with
  | @tuple a oa vs n _ as' h1 h2 h3 h4 =>
  have ty : s.TypeIs (.ref a) "tuple" := ⟨oa, h1, h2⟩
  have hu : A.units + (PyData.depthAll ds + 1) < cLine := hu
  have hu0 : A.units < cLine := Nat.lt_of_le_of_lt (Nat.le_add_right _ _) hu
  have h : Q (reduceHash (Builtin.Tuple.tupleHashOf (hashDs ds))) { s with toks := s.toks + (toksDs ds + 1) } := h
  unfold pyHash
  first | unfold pyHashByItsType | skip
  first | refine wpAny_bind (wpAny_cRoomFor_or (.inr hu0) ?_) | skip
  refine wpAny_bind (wpAny_specialOf ty F.slot_tuple_hash.lookup ?_)
  show wpAny _ _ (if (some (Value.builtin "tuple.__hash__") == some Value.none) = true then _ else _) Q E s
  rw [if_neg (show ¬ (some (Value.builtin "tuple.__hash__") == some Value.none) = true by rw [beq_builtin_none]; decide)]
  refine wpAny_bind (wpAny_specialOf ty F.slot_tuple_hash.lookup ?_)
  show wpAny _ _ (callSpecialIfBoundUnlessNone? (Value.ref a) "__hash__" _ >>= _) Q E s
  refine wpAny_bind (wpAny_callSpecialIfBoundUnlessNone?_slot ty F.slot_tuple_hash (wpAny_call_entry F.slot_tuple_hash ty F.entry_tuple_hash ?_ (F.args_tuple_hash_1 _)))
  show wpAny _ _ (Builtin.Tuple.tupleItemsOf (Value.ref a) >>= _) _ _ s
  refine wpAny_bind (wpAny_tupleItemsOf h1 h3 (wpAny_bind ?_))
  rw [← Array.forIn_toList]
  refine wpAny_forIn_list _
    (fun rest (b : Array Int) s' => ∃ dn lf bs, ds = dn ++ lf ∧ ReadsAll s.heap rest lf bs ∧ b.toList = hashDs dn ∧ s' = { s with toks := s.toks + toksDs dn })
    _ (fun x rest b s' z => ?_) (fun b s' z => ?_) _ _ ⟨[], ds, _, rfl, h4, rfl, rfl⟩
  · obtain ⟨dn, lf, bs, rfl, hl, hb, rfl⟩ := z
    cases lf with
    | nil => cases hl
    | cons d lf =>
      obtain ⟨⟨b1, q1⟩, b2, q2⟩ := readsAll_split hl
      have pd2 : plainD d = true := by
        have e : (plainDs dn && (plainD d && plainDs lf)) = true := (plainDs_app dn (d :: lf)).symm.trans pd
        rw [Bool.and_eq_true, Bool.and_eq_true] at e
        exact e.2.1
      have dm : d ∈ dn ++ d :: lf := by simp
      have hu2 : A.in1.units + d.depth < cLine := by
        have := depth_mem dm
        show A.units + 1 + d.depth < cLine
        omega
      have fin : ∃ dn' lf' bs', dn ++ d :: lf = dn' ++ lf' ∧ ReadsAll s.heap rest lf' bs' ∧ (b.push (hashD d)).toList = hashDs dn' ∧ ({ s with toks := s.toks + toksDs dn + toksD d } : Shared) = { s with toks := s.toks + toksDs dn' } := by
        refine ⟨dn ++ [d], lf, b2, by simp, q2, ?_, ?_⟩
        · rw [Array.toList_push, hb, hashDs_app]
          rfl
        · rw [toksDs_app]
          show ({ s with toks := s.toks + toksDs dn + toksD d } : Shared) = { s with toks := s.toks + (toksDs dn + (toksD d + 0)) }
          rw [Nat.add_zero, Nat.add_assoc]
      refine wpAny_bind (ih d dm A.in1 _ { s with toks := s.toks + toksDs dn } x b1 _ pd2 q1 hu2 ?_)
      first
        | exact wpAny_pure fin
        | exact wpAny_bind (wpAny_pure (wpAny_pure fin))
  · obtain ⟨dn, lf, bs, rfl, hl, hb, rfl⟩ := z
    cases hl
    rw [List.append_nil] at h
    show wpAny _ _ (retInt (Builtin.Tuple.tupleHashOf b.toList)) _ _ _
    rw [hb]
    refine wpAny_ret_mkInt ?_
    show wpAny _ _ (if (decide (-(2 : Int) ^ 63 ≤ Builtin.Tuple.tupleHashOf (hashDs dn)) && decide (Builtin.Tuple.tupleHashOf (hashDs dn) < 2 ^ 63)) = true then _ else _) Q E _
    unfold reduceHash at h
    by_cases q : (decide (-(2 : Int) ^ 63 ≤ Builtin.Tuple.tupleHashOf (hashDs dn)) && decide (Builtin.Tuple.tupleHashOf (hashDs dn) < 2 ^ 63)) = true
    · rw [if_pos q] at h ⊢
      exact wpAny_pure (by simpa [Nat.add_assoc] using h)
    · rw [if_neg q] at h ⊢
      exact wpAny_bind (wpAny_rule (wpAny_pure (by simpa [Nat.add_assoc] using h)))
mutual
theorem hash_ok : ∀ d : PyData, HashOk prog w d
  | .int i => fun A E s v as Q _ r _ h => by
    cases r
    exact wpAny_pyHash_int h
  | .tuple ds => hash_tuple (hash_all_ok ds)
  | .none => fun _ _ _ _ _ _ pd _ _ _ => by cases pd
  | .bool _ => fun _ _ _ _ _ _ pd _ _ _ => by cases pd
  | .str _ => fun _ _ _ _ _ _ pd _ _ _ => by cases pd
  | .list _ => fun _ _ _ _ _ _ pd _ _ _ => by cases pd
  | .dict _ => fun _ _ _ _ _ _ pd _ _ _ => by cases pd
theorem hash_all_ok : ∀ ds : List PyData, ∀ d ∈ ds, HashOk prog w d
  | [], d, h => by cases h
  | x :: xs, d, h => by
    rcases List.mem_cons.mp h with q | q
    · rw [q]; exact hash_ok x
    · exact hash_all_ok xs d q
end
def QuietOk (prog : Program) (w : World) (d : PyData) : Prop := ∀ (n : Nat) (A : Around) (E : Value → Shared → Prop) (s : Shared) (v : Value) (as : List Addr) (Q : Bool → Shared → Prop), plainD d = true → Reads s.heap v d as → d.depth ≤ n → Q true s → wpAny (model prog w) A (eqIsQuiet n v) Q E s
theorem quiet_tuple {ds : List PyData} (ih : ∀ d ∈ ds, QuietOk prog w d) : QuietOk prog w (.tuple ds) := by
  intro n A E s v as Q pd r hn h
  cases r with
  | @tuple a oa vs m _ as' h1 h2 h3 h4 =>
  have ty : s.TypeIs (.ref a) "tuple" := ⟨oa, h1, h2⟩
  have hn : PyData.depthAll ds + 1 ≤ n := hn
  obtain ⟨k, rfl⟩ : ∃ k, n = k + 1 := ⟨n - 1, by omega⟩
  unfold eqIsQuiet
  refine wpAny_bind (wpAny_specialOf ty F.slot_tuple_eq.lookup ?_)
  show wpAny _ _ (isInstance (Value.ref a) (Value.type "tuple") >>= _) _ _ s
  refine wpAny_bind (wpAny_isInstance ty isSubtype_tuple_tuple ?_)
  simp only [Bool.not_true, Bool.false_eq_true, if_false]
  refine wpAny_bind (wpAny_seqItems h1 h3 (wpAny_bind ?_))
  show wpAny _ _ (forIn vs _ _) _ _ s
  rw [← Array.forIn_toList]
  refine wpAny_forIn_list _ (fun rest b s' => b.1 = none ∧ s' = s ∧ ∃ lf bs, ReadsAll s.heap rest lf bs ∧ (∀ d ∈ lf, d ∈ ds) ∧ plainDs lf = true) _ (fun x rest b s' z => ?_) (fun b s' z => ?_) _ _ ⟨rfl, rfl, ds, _, h4, fun _ q => q, pd⟩
  · obtain ⟨hb, rfl, lf, bs, hl, hsub, pl⟩ := z
    cases lf with
    | nil => cases hl
    | cons d lf =>
      obtain ⟨⟨b1, q1⟩, b2, q2⟩ := readsAll_split hl
      have pl : (plainD d && plainDs lf) = true := pl
      rw [Bool.and_eq_true] at pl
      have hd : d ∈ ds := hsub d (by simp)
      refine wpAny_bind (ih d hd k A _ _ x b1 _ pl.1 q1 (by have := depth_mem hd; omega) ?_)
      simp only [Bool.not_true, Bool.false_eq_true, if_false]
      exact wpAny_pure ⟨rfl, rfl, lf, b2, q2, fun e he => hsub e (by simp [he]), pl.2⟩
  · obtain ⟨b1, b2⟩ := b
    obtain ⟨hb, rfl, _⟩ := z
    simp only at hb
    subst hb
    exact wpAny_pure h
mutual
theorem quiet_ok : ∀ d : PyData, QuietOk prog w d
  | .int i => fun n A E s v as Q _ r _ h => by
    cases r
    rw [eqIsQuiet_byValue n rfl]
    exact wpAny_pure h
  | .tuple ds => quiet_tuple (quiet_all_ok ds)
  | .none => fun _ _ _ _ _ _ _ pd _ _ _ => by cases pd
  | .bool _ => fun _ _ _ _ _ _ _ pd _ _ _ => by cases pd
  | .str _ => fun _ _ _ _ _ _ _ pd _ _ _ => by cases pd
  | .list _ => fun _ _ _ _ _ _ _ pd _ _ _ => by cases pd
  | .dict _ => fun _ _ _ _ _ _ _ pd _ _ _ => by cases pd
theorem quiet_all_ok : ∀ ds : List PyData, ∀ d ∈ ds, QuietOk prog w d
  | [], d, h => by cases h
  | x :: xs, d, h => by
    rcases List.mem_cons.mp h with q | q
    · rw [q]; exact quiet_ok x
    · exact quiet_all_ok xs d q
end
end

/-! ### the keys -/
abbrev KeyP := List (List Nat) × Nat × Int
def nD (h : List Nat) : PyData := .tuple (h.map fun (c : Nat) => .int (c : Int))
def datK (k : KeyP) : PyData := .tuple [.tuple (k.1.map nD), .int (k.2.1 : Nat), .int k.2.2]
theorem plain_ints : ∀ h : List Nat, plainDs (h.map fun (c : Nat) => PyData.int (c : Int)) = true
  | [] => rfl
  | c :: h => by
    show (true && plainDs _) = true
    rw [plain_ints h]
    rfl
theorem plain_nDs : ∀ hs : List (List Nat), plainDs (hs.map nD) = true
  | [] => rfl
  | h :: hs => by
    show (plainDs _ && plainDs _) = true
    rw [plain_ints h, plain_nDs hs]
    rfl
theorem plain_datK (k : KeyP) : plainD (datK k) = true := by
  show (plainDs _ && true) = true
  rw [plain_nDs]
  rfl
theorem depth_ints : ∀ h : List Nat, PyData.depthAll (h.map fun (c : Nat) => PyData.int (c : Int)) = 0
  | [] => rfl
  | c :: h => by
    show max 0 (PyData.depthAll _) = 0
    rw [depth_ints h]
    rfl
theorem depth_nDs : ∀ hs : List (List Nat), PyData.depthAll (hs.map nD) ≤ 1
  | [] => by decide
  | h :: hs => by
    show max (PyData.depthAll _ + 1) (PyData.depthAll _) ≤ 1
    rw [depth_ints h]
    have := depth_nDs hs
    omega
theorem depth_datK (k : KeyP) : (datK k).depth ≤ 3 := by
  show max (PyData.depthAll _ + 1) (max 0 (max 0 0)) + 1 ≤ 3
  have := depth_nDs k.1
  omega
theorem lay_ints : ∀ h : List Nat, PyData.canLayAll0 (h.map fun (c : Nat) => PyData.int (c : Int)) = true
  | [] => rfl
  | c :: h => by
    show (true && PyData.canLayAll0 _) = true
    rw [lay_ints h]
    rfl
theorem lay_nDs : ∀ hs : List (List Nat), PyData.canLayAll0 (hs.map nD) = true
  | [] => rfl
  | h :: hs => by
    show (PyData.canLayAll0 _ && PyData.canLayAll0 _) = true
    rw [lay_ints h, lay_nDs hs]
    rfl
theorem lay_datK (k : KeyP) : (datK k).canLay0 = true := by
  show (PyData.canLayAll0 _ && true) = true
  rw [lay_nDs]
  rfl
theorem eqv_ints : ∀ a b : List Nat, PyData.eqvAll (a.map fun (c : Nat) => PyData.int (c : Int)) (b.map fun (c : Nat) => PyData.int (c : Int)) = decide (a = b)
  | [], [] => by simp [PyData.eqvAll]
  | [], _ :: _ => by simp [PyData.eqvAll]
  | _ :: _, [] => by simp [PyData.eqvAll]
  | x :: a, y :: b => by
    rw [List.map_cons, List.map_cons, PyData.eqvAll, eqv_ints a b]
    show (((x : Int) == (y : Int)) && decide (a = b)) = decide (x :: a = y :: b)
    by_cases e : x = y
    · subst e
      by_cases f : a = b <;> simp [f]
    · have : ¬ (x : Int) = (y : Int) := by omega
      simp [e, this]
theorem eqv_nDs : ∀ a b : List (List Nat), PyData.eqvAll (a.map nD) (b.map nD) = decide (a = b)
  | [], [] => by simp [PyData.eqvAll]
  | [], _ :: _ => by simp [PyData.eqvAll]
  | _ :: _, [] => by simp [PyData.eqvAll]
  | x :: a, y :: b => by
    rw [List.map_cons, List.map_cons, PyData.eqvAll, eqv_nDs a b]
    show (PyData.eqvAll _ _ && decide (a = b)) = decide (x :: a = y :: b)
    rw [eqv_ints]
    by_cases e : x = y
    · by_cases f : a = b <;> simp [e, f]
    · simp [e]
theorem eqv_datK (x y : KeyP) : PyData.eqv (datK x) (datK y) = decide (x = y) := by
  obtain ⟨a, i, j⟩ := x
  obtain ⟨b, k, l⟩ := y
  show (PyData.eqvAll (a.map nD) (b.map nD) && (((i : Int) == (k : Int)) && ((j == l) && true))) = _
  rw [eqv_nDs]
  by_cases e : a = b
  · subst e
    by_cases f : i = k
    · subst f
      by_cases g : j = l <;> simp [g]
    · have : ¬ (i : Int) = (k : Int) := by omega
      simp [f, this]
  · simp [e]
theorem datK_inj {x y : KeyP} (h : datK x = datK y) : x = y := by
  have e := eqv_datK x y
  rw [h, eqv_datK y y, decide_eq_true rfl] at e
  exact of_decide_eq_true e.symm
/-- the kind of these keys -/
def posKind (prog : Program) (w : World) : HeapKind prog w KeyP where
  is := fun h k a => ∃ as, Reads h (.ref a) (datK k) as
  hash := fun k => hashD (datK k)
  draws := fun k => toksD (datK k)
  room := fun A => A.units + 8 < cLine
  inj := fun ⟨_, r1⟩ ⟨_, r2⟩ => datK_inj (reads_one _ _ _ _ _ (plain_datK _) (plain_datK _) r1 r2)
  keeps := fun ⟨as, r⟩ ho hd hs => ⟨as, reads_keep ho hd hs _ _ _ (plain_datK _) r⟩
  pyHash := fun {A E s k a Q} hu ⟨as, r⟩ h => hash_ok (datK k) A E s (.ref a) as Q (plain_datK k) r (by have := depth_datK k; omega) h
  eqBool := fun {A E s x y a b Q} hu ⟨as, r1⟩ ⟨bs, r2⟩ h => by
    have := SeqAt.eqAt_reads (datK x) (datK y) A s _ _ as bs r1 r2 (lay_datK x) (lay_datK y) (by have := depth_datK x; have := Nat.min_le_left (datK x).depth (datK y).depth; omega)
    rw [eqv_datK] at this
    exact this prog w E Q h
  quiet := fun {A E s k a Q} ⟨as, r⟩ h => quiet_ok (datK k) 8 A E s (.ref a) as Q (plain_datK k) r (by have := depth_datK k; omega) h

/-! ### the dict -/
abbrev MapP := List (KeyP × Addr × Bool)
def rawP (m : MapP) : List (KeyP × Addr × Value) := m.map fun x => (x.1, x.2.1, Value.bool x.2.2)
def isP (a : Addr) (m : MapP) (h : Heap) : Prop := ∃ o es ep, h.get? a = some o ∧ o.ExactDict ∧ o.data = .dict es ep ∧ es.toList = m.map (fun x => ⟨hashD (datK x.1), .ref x.2.1, Value.bool x.2.2⟩) ∧ (m.map (·.1)).Nodup ∧ (a == sysModules) = false ∧ m.length ≤ sizeLine
def vD (a : Addr) (m : MapP) : HO := .ext (isP a m)
def HandsAt (H : Hp) (hp : Addr) (hs : List (List Nat)) : Prop := ∃ bs : List Addr, H hp = some (.tup (bs.map V.ref)) ∧ AtT H bs hs
def KeyAt (H : Hp) (a : Addr) (k : KeyP) : Prop := ∃ hp, H a = some (.tup [.ref hp, .int (k.2.1 : Nat), .int k.2.2]) ∧ HandsAt H hp k.1
theorem KeyAt.keep {H H' : Hp} (q : ∀ a xs, H a = some (.tup xs) → H' a = some (.tup xs)) {a : Addr} {k : KeyP} (h : KeyAt H a k) : KeyAt H' a k := by
  obtain ⟨hp, h1, bs, h2, h3⟩ := h
  exact ⟨hp, q _ _ h1, bs, q _ _ h2, h3.keep q⟩
theorem dp_ints {K : PySem.W.Frag} {H : Hp} : ∀ h : List Nat, DpAll K H (hV h) (h.map fun (c : Nat) => PyData.int (c : Int))
  | [] => .nil
  | c :: h => .cons (.int _) (dp_ints h)
theorem dp_hands {K : PySem.W.Frag} {H : Hp} : ∀ {bs : List Addr} {hs : List (List Nat)}, AtT H bs hs → DpAll K H (bs.map V.ref) (hs.map nD)
  | _, _, .nil => .nil
  | _, _, .cons r t => .cons (.tup (SqT.of r) (dp_ints _)) (dp_hands t)
theorem KeyAt.dp {K : PySem.W.Frag} {H : Hp} {a : Addr} {k : KeyP} (h : KeyAt H a k) : Dp K H (.ref a) (datK k) := by
  obtain ⟨hp, h1, bs, h2, h3⟩ := h
  exact .tup (SqT.of h1) (.cons (.tup (SqT.of h2) (dp_hands h3)) (.cons (.int _) (.cons (.int _) .nil)))
theorem KeyAt.is {X : Cx} {pins : List (Addr × Obj)} {σ : St} {H : Hp} {s : Shared} (I : Inv X pins σ H s) {a : Addr} {k : KeyP} (h : KeyAt H a k) : (posKind X.prog X.w).is s.heap k a := Dp.reads I _ _ _ h.dp rfl
theorem vD_at {X : Cx} {pins : List (Addr × Obj)} {σ : St} {H : Hp} {s : Shared} (I : Inv X pins σ H s) {a : Addr} {m : MapP} (h : H a = some (vD a m)) (hk : ∀ x ∈ m, KeyAt H x.2.1 x.1) :
    s.heap.DictOfH (posKind X.prog X.w) a (rawP m) ∧ (a == sysModules) = false ∧ m.length ≤ sizeLine := by
  obtain ⟨⟨o, es, ep, h1, h2, h3, h4, h5, h6, h7⟩, _⟩ := I.hok a _ h
  refine ⟨⟨o, es, ep, h1, h2, h3, ?_, fun x hx => ?_, ?_⟩, h6, h7⟩
  · rw [h4]
    unfold rawP
    rw [List.map_map]
    rfl
  · obtain ⟨y, hy, rfl⟩ := List.mem_map.mp hx
    exact (hk y hy).is I
  · unfold rawP
    rw [List.map_map]
    exact h5
def lookP (m : MapP) (k : KeyP) : Option Bool := (m.find? fun x => decide (x.1 = k)).map fun x => x.2.2
theorem atKey_raw (k : KeyP) : ∀ m : MapP, (atKey (rawP m) k).map (·.2) = (lookP m k).map Value.bool
  | [] => rfl
  | x :: m => by
    have ih := atKey_raw k m
    unfold lookP atKey rawP at ih ⊢
    rw [List.map_cons, List.find?_cons, List.find?_cons]
    by_cases e : x.1 = k
    · simp [e]
    · simp only [e, decide_false]
      exact ih
def optB : Option Bool → V
  | some b => .bl b
  | none => .non
def putP (m : MapP) (k : KeyP) (a : Addr) (b : Bool) : MapP := if (lookP m k).isSome = true then m.map (fun x => if x.1 = k then (x.1, x.2.1, b) else x) else m ++ [(k, a, b)]
theorem raw_put (m : MapP) (k : KeyP) (a : Addr) (b : Bool) : rawP (putP m k a b) = storedH (rawP m) k a (.bool b) := by
  have e : (atKey (rawP m) k).isSome = (lookP m k).isSome := by
    have := congrArg Option.isSome (atKey_raw k m)
    rw [Option.isSome_map, Option.isSome_map] at this
    exact this
  unfold putP storedH
  rw [e]
  by_cases q : (lookP m k).isSome = true
  · rw [if_pos q, if_pos q]
    unfold rawP
    rw [List.map_map, List.map_map]
    refine List.map_congr_left fun x _ => ?_
    show _ = putAt k (.bool b) (x.1, x.2.1, Value.bool x.2.2)
    unfold putAt
    by_cases z : x.1 = k
    · simp [z]
    · simp [z]
  · rw [if_neg q, if_neg q]
    unfold rawP
    rw [List.map_append]
    rfl
theorem putP_len (m : MapP) (k : KeyP) (a : Addr) (b : Bool) : (putP m k a b).length ≤ m.length + 1 := by
  unfold putP
  split
  · rw [List.length_map]; omega
  · rw [List.length_append]; exact Nat.le_refl _
theorem putP_mem {m : MapP} {k : KeyP} {a : Addr} {b : Bool} {x : KeyP × Addr × Bool} (h : x ∈ putP m k a b) : (∃ y ∈ m, y.1 = x.1 ∧ y.2.1 = x.2.1 ∧ (y.2.2 = x.2.2 ∨ (x.1 = k ∧ x.2.2 = b))) ∨ x = (k, a, b) := by
  unfold putP at h
  split at h
  · left
    obtain ⟨y, hy, e⟩ := List.mem_map.mp h
    split at e
    · rename_i z
      subst e
      exact ⟨y, hy, rfl, rfl, .inr ⟨z, rfl⟩⟩
    · subst e
      exact ⟨y, hy, rfl, rfl, .inl rfl⟩
  · rcases List.mem_append.mp h with q | q
    · exact .inl ⟨x, q, rfl, rfl, .inl rfl⟩
    · exact .inr (List.mem_singleton.mp q)
theorem isP_stay {a : Addr} {m : MapP} {h1 h2 : Heap} (p : isP a m h1) (k : ∀ o, h1.get? a = some o → h2.get? a = some o) : isP a m h2 := by
  obtain ⟨o, es, ep, g1, g2⟩ := p
  exact ⟨o, es, ep, k o g1, g2⟩
theorem vD_ok {P : Program} {w : World} {H : Hp} {h : Heap} {a : Addr} {m : MapP} (p : isP a m h) : ObjOk P w H h a (vD a m) :=
  ⟨p, let ⟨o, _, _, g, _⟩ := p; ⟨o, g⟩, fun _ _ q k => isP_stay q k⟩

/-! ### the rules -/
def tPNew : TE := fun _ H Q => ∀ p, H p = none → Q (.ref p) (upd H p (vD p []))
def tPGet (td ty : TE) : TE := fun σ H Q => td σ H fun x H1 => ∃ a m1, x = .ref a ∧ H1 a = some (vD a m1) ∧ (∀ x ∈ m1, KeyAt H1 x.2.1 x.1) ∧ ty σ H1 fun y H2 => ∃ b k m, y = .ref b ∧ H2 a = some (vD a m) ∧ (∀ x ∈ m, KeyAt H2 x.2.1 x.1) ∧ KeyAt H2 b k ∧ Q (optB (lookP m k)) H2
def sPPut (td ty tv : TE) : TS := fun D σ H => tv σ H fun v H1 => td σ H1 fun x H2 => ty σ H2 fun y H3 => ∃ a b k m c, x = .ref a ∧ y = .ref b ∧ v = .bl c ∧ H3 a = some (vD a m) ∧ (∀ x ∈ m, KeyAt H3 x.2.1 x.1) ∧ KeyAt H3 b k ∧ m.length < sizeLine ∧ D.nx σ (upd H3 a (vD a (putP m k b c)))
section
variable {X : Cx} {o i e value : Expr} {pos pos' apos cpos : Pos} {td ty tv : TE}
theorem pe_pnew : PE X (.Dict [] [] pos) tPNew := fun pins s σ H Q I h =>
  wpAny_Dict_empty ⟨.ref s.heap.objs.size, _, I.laid (a := s.heap.objs.size) (o := vD s.heap.objs.size []) (t' := s.toks) (fun _ _ q => Heap.get?_push_of_some _ q) (Nat.le_refl _)
    (vD_ok ⟨_, #[], 0, Heap.get?_push_size _ rfl, ⟨rfl, rfl, rfl⟩, rfl, rfl, List.nodup_nil, beq_eq_false_iff_ne.mpr (Ne.symm (Nat.ne_of_lt I.big)), Nat.zero_le _⟩), rfl, h _ (I.hok.fresh (Nat.le_refl _))⟩
theorem pe_pget (hu : X.A.units + 64 < cLine) (ho : PE X o td) (he : PE X e ty) (m : M1 X o "get" apos e cpos) : PE X (.Call (.Attribute o "get" apos) [e] [] cpos) (tPGet td ty) := by
  intro pins s σ H Q I h
  refine wpAny_Call_method m.base m.few m.line PySem.F.plainAttrs_dict PySem.F.slot_dict_get PySem.F.type_dict_get (thn (ho pins s σ H _ I h) fun u s1 ⟨x, H1, I1, rx, a, m1, ex, d, hk1, q1⟩ => ?_)
  subst ex
  obtain rfl : u = Value.ref a := rx
  obtain ⟨dd, _, _⟩ := vD_at I1 d hk1
  refine ⟨dd.typeIs, fun b q => ?_, ?_⟩
  · cases q
    obtain ⟨ob, _, _, g1, g2, _⟩ := dd
    exact ⟨ob, g1, g2.2.1⟩
  rw [m.trees]
  refine Calls.callWith_builtin rfl (Calls.evalArgs_plain (Calls.spliced_cons (thn (he pins s1 σ H1 _ I1 q1) fun iv s2 ⟨y, H2, I2, ry, b, k, m2, ey, d2, hk2, kb, q2⟩ => Calls.spliced_nil ?_)))
  subst ey
  obtain rfl : iv = Value.ref b := ry
  obtain ⟨dd, hd, _⟩ := vD_at I2 d2 hk2
  refine call_meetsIn PySem.F.slot_dict_get dd.typeIs PySem.F.entry_dict_get (PySem.F.args_dict_get_2 _ _) (meetsH_dict_get (posKind X.prog X.w) a b hd) ⟨(show X.A.units + 1 + 8 < cLine by omega), k, rawP m2, kb.is I2, dd, ⟨_, H2, I2.tok _, ?_, q2⟩⟩
  rw [atKey_raw]
  cases lookP m2 k with
  | none => rfl
  | some v => rfl
theorem ps_pput (hu : X.A.units + 64 < cLine) (ho : PE X o td) (hi : PE X i ty) (hv : PE X value tv) (hs : swapsWith value (some (.Subscript o i pos')) pos.line X.env = pure false) :
    PS X (.Assign [.Subscript o i pos'] value pos) (sPPut td ty tv) := by
  intro pins s σ H D I h
  refine wpAny_Assign_Subscript (thn (hv pins s σ H _ I h) fun r s1 ⟨v, H1, I1, rv, q1⟩ => thn (ho pins s1 σ H1 _ I1 q1) fun u s2 ⟨x, H2, I2, rx, q2⟩ => thn (hi pins s2 σ H2 _ I2 q2) fun iv s3 ⟨y, H3, I3, ry, a, b, k, m, c, ex, ey, ev, d, hk, kb, hl, q3⟩ => ?_) hs
  subst ex ey ev
  obtain rfl : u = Value.ref a := rx
  obtain rfl : iv = Value.ref b := ry
  obtain rfl : r = Value.bool c := rv
  obtain ⟨dd, hd, hz⟩ := vD_at I3 d hk
  refine wpAny_setItem_heap (knd := posKind X.prog X.w) (hsz := by unfold rawP; rw [List.length_map]; exact hz) (show X.A.units + 1 + 8 < cLine by omega) (kb.is I3) dd fun h' dd' hs' => ?_
  rw [← raw_put] at dd'
  obtain ⟨q, es, ep, hq, h2, h3, h4, _, h5⟩ := dd'
  refine ⟨σ, _, d_write (ob := vD a (putP m k b c)) I3 (by rw [d]; exact True.intro) hs' ⟨q, hq⟩ (vD_ok ⟨q, es, ep, hq, h2, h3, ?_, ?_, hd, Nat.le_trans (putP_len m k b c) hl⟩), q3⟩
  · rw [h4]
    unfold rawP
    rw [List.map_map]
    rfl
  · unfold rawP at h5
    rw [List.map_map] at h5
    exact h5
end
end L2

/-! The mathematics of a deal: what the reader, the search for a card held twice and the list of owners reckon, against Sc20. -/
namespace Fh
open Sc20

theorem letters_eq : letters = [50, 51, 52, 53, 54, 55, 56, 57, 84, 74, 81, 75, 65] := by decide
/-- a letter's rank, 13 of what is no letter -/
def rank (c : Nat) : Nat := if letters.contains c = true then letters.idxOf c else 13
theorem rank_le (c : Nat) : rank c ≤ 13 := by
  unfold rank
  split
  · have h := List.idxOf_le_length (a := c) (l := letters)
    rw [letters_eq] at h ⊢
    exact h
  · exact Nat.le_refl _
theorem rank_lt {c : Nat} : rank c < 13 ↔ letters.contains c = true := by
  unfold rank
  split
  · rename_i h
    refine ⟨fun _ => h, fun _ => ?_⟩
    have h2 : c ∈ letters := by simpa using h
    have h3 := List.idxOf_lt_length_of_mem h2
    rw [letters_eq] at h3 ⊢
    exact h3
  · rename_i h
    exact ⟨fun q => absurd q (by omega), fun q => absurd q h⟩
theorem rank_point : rank 46 = 13 := by decide
theorem rank_blank : rank 32 = 13 := by decide

/-- a byte taken, as the program asks: a letter, a point, a blank -/
theorem take_eq (x : Reading) (c : Nat) (hl : x.last ≤ 13) : take_ x c =
    if rank c < x.last then some { x with now := (13 * x.suit + rank c) :: x.now, last := rank c }
    else if c = 46 ∧ 0 < x.suit then some { x with suit := x.suit - 1, last := 13 }
    else if c = 32 ∧ x.suit = 0 ∧ x.hands.length < 3 then some ⟨x.now.reverse :: x.hands, [], 3, 13⟩ else none := by
  unfold take_ POINT
  by_cases h1 : c = 46
  · subst h1
    have e := rank_point
    rw [if_pos rfl, if_neg (show ¬ rank 46 < x.last by omega)]
    by_cases h2 : x.suit = 0
    · rw [if_pos h2, if_neg (show ¬ (46 = 46 ∧ 0 < x.suit) by omega), if_neg (show ¬ (46 = 32 ∧ x.suit = 0 ∧ x.hands.length < 3) by omega)]
    · rw [if_neg h2, if_pos (show 46 = 46 ∧ 0 < x.suit by omega)]
  · rw [if_neg h1]
    by_cases h2 : c = 32
    · subst h2
      have e := rank_blank
      rw [if_pos rfl, if_neg (show ¬ rank 32 < x.last by omega), if_neg (show ¬ (32 = 46 ∧ 0 < x.suit) by omega)]
      by_cases h3 : x.suit = 0 ∧ x.hands.length < 3
      · rw [if_pos h3, if_pos ⟨rfl, h3⟩]
      · rw [if_neg h3, if_neg (fun q => h3 q.2)]
    · rw [if_neg h2]
      by_cases h3 : rank c < x.last
      · have h4 : letters.contains c = true := rank_lt.mp (by omega)
        have h5 : rank c = letters.idxOf c := by unfold rank; rw [if_pos h4]
        rw [if_pos h3, h5, if_pos ⟨h4, by omega⟩]
      · have h4 : ¬ (letters.contains c = true ∧ letters.idxOf c < x.last) := by
          rintro ⟨h4, h5⟩
          have h6 : rank c = letters.idxOf c := by unfold rank; rw [if_pos h4]
          omega
        rw [if_neg h4, if_neg h3, if_neg (show ¬ (c = 46 ∧ 0 < x.suit) from fun q => h1 q.1), if_neg (show ¬ (c = 32 ∧ x.suit = 0 ∧ x.hands.length < 3) from fun q => h2 q.1)]

/-- what holds of a reading when k bytes have been taken -/
structure ROk (k : Nat) (x : Reading) : Prop where
  suit : x.suit ≤ 3
  last : x.last ≤ 13
  few : x.hands.length ≤ 3
  now : ∀ c ∈ x.now, c < 52
  old : ∀ h ∈ x.hands, ∀ c ∈ h, c < 52
  nowL : x.now.length ≤ k
  oldL : ∀ h ∈ x.hands, h.length ≤ k
theorem ROk.start : ROk 0 ⟨[], [], 3, 13⟩ := ⟨by decide, by decide, by decide, by simp, by simp, by decide, by simp⟩
theorem ROk.step {k : Nat} {x y : Reading} {c : Nat} (r : ROk k x) (h : take_ x c = some y) : ROk (k + 1) y := by
  obtain ⟨a, b, d, e, f, g, i⟩ := r
  rw [take_eq x c b] at h
  split at h
  · cases h
    refine ⟨a, by simp; omega, d, ?_, f, by simpa using g, fun q hq => Nat.le_succ_of_le (i q hq)⟩
    intro z hz
    rcases List.mem_cons.mp hz with q | q
    · omega
    · exact e z q
  · split at h
    · cases h
      exact ⟨by simp; omega, Nat.le_refl _, d, e, f, by simp; omega, fun q hq => Nat.le_succ_of_le (i q hq)⟩
    · split at h
      · cases h
        refine ⟨Nat.le_refl _, Nat.le_refl _, by simp; omega, by simp, ?_, by simp, ?_⟩
        · intro q hq
          rcases List.mem_cons.mp hq with z | z
          · subst z
            intro c hc
            exact e c (by simpa using hc)
          · exact f q z
        · intro q hq
          rcases List.mem_cons.mp hq with z | z
          · subst z
            simp; omega
          · exact Nat.le_succ_of_le (i q z)
      · cases h

/-- the hands told so far, in order, the one that is read last -/
def soFar (x : Reading) : List (List Nat) := (x.now.reverse :: x.hands).reverse
theorem soFar_length (x : Reading) : (soFar x).length = x.hands.length + 1 := by simp [soFar]
theorem soFar_eq (x : Reading) : soFar x = x.hands.reverse ++ [x.now.reverse] := by simp [soFar]

/-- a card held twice -/
def dupIn : List Nat → List Nat → Bool
  | _, [] => false
  | seen, c :: r => if c ∈ seen then true else dupIn (seen ++ [c]) r
theorem len_eraseDups : ∀ (n : Nat) (l : List Nat), l.length ≤ n → l.eraseDups.length ≤ l.length ∧ (l.eraseDups.length = l.length ↔ l.Nodup)
  | _, [], _ => by simp
  | 0, a :: l, h => by simp at h
  | n + 1, a :: l, h => by
    have hl : l.length ≤ n := by simpa using h
    rw [List.eraseDups_cons]
    have hf : (l.filter fun b => !b == a).length ≤ l.length := List.length_filter_le _ _
    obtain ⟨h1, h2⟩ := len_eraseDups n (l.filter fun b => !b == a) (by omega)
    constructor
    · simp only [List.length_cons]; omega
    · simp only [List.length_cons, List.nodup_cons]
      constructor
      · intro e
        have e1 : (l.filter fun b => !b == a).length = l.length := by omega
        have e2 : l.filter (fun b => !b == a) = l := List.length_filter_eq_length_iff.mp e1 |> fun q => List.filter_eq_self.mpr q
        constructor
        · intro m
          have := List.filter_eq_self.mp e2 a m
          simp at this
        · rw [e2] at h2
          exact h2.mp (by rw [e2] at e; omega)
      · rintro ⟨m, nd⟩
        have e2 : l.filter (fun b => !b == a) = l := List.filter_eq_self.mpr fun b hb => by
          have : b ≠ a := fun q => m (q ▸ hb)
          simpa using this
        rw [e2] at h2 ⊢
        have := h2.mpr nd
        omega
theorem eraseDups_iff (l : List Nat) : l.eraseDups.length ≠ l.length ↔ ¬ l.Nodup := by
  have := (len_eraseDups l.length l (Nat.le_refl _)).2
  rw [Ne, this]

/-- what is due of four hands -/
def refusal (h : List (List Nat)) : Int :=
  if (h.headD []).length = 0 ∨ (h.all fun x => x.length == (h.headD []).length) = false then -5 else if h.flatten.Nodup then 0 else -6
theorem deal_eq (b : Bytes) : deal b = match read 0 ⟨[], [], 3, 13⟩ b with
    | .error e => .error e
    | .ok h => if refusal h = 0 then .ok h else .error (refusal h) := by
  unfold deal
  cases read 0 ⟨[], [], 3, 13⟩ b with
  | error e => rfl
  | ok h =>
    simp only
    unfold refusal
    by_cases h1 : (h.headD []).length = 0 ∨ (h.all fun x => x.length == (h.headD []).length) = false
    · rw [if_pos h1, if_pos h1, if_neg (by decide)]
    · rw [if_neg h1, if_neg h1]
      by_cases h2 : h.flatten.Nodup
      · rw [if_pos h2, if_pos rfl, if_neg]
        rw [eraseDups_iff]
        exact fun q => q h2
      · rw [if_neg h2, if_pos ((eraseDups_iff _).mpr h2), if_neg (by decide)]

/-- who has a card -/
def own (h : List (List Nat)) (c : Nat) : Nat := (h.findIdx? fun x => x.contains c).getD 4
theorem findIdx?_snoc {α : Type} (p : α → Bool) (l : List α) (a : α) : (l ++ [a]).findIdx? p = ((l.findIdx? p).or (if p a then some l.length else none)) := by
  rw [List.findIdx?_append]
  congr 1
  rw [List.findIdx?_cons]
  cases p a <;> simp
theorem own_snoc {l : List (List Nat)} {a : List Nat} {c : Nat} (h : ∀ x ∈ l, c ∈ a → ¬ c ∈ x) : own (l ++ [a]) c = if c ∈ a then l.length else own l c := by
  unfold own
  rw [findIdx?_snoc]
  by_cases hc : c ∈ a
  · have e : l.findIdx? (fun x => x.contains c) = none := by
      rw [List.findIdx?_eq_none_iff]
      intro x hx
      have := h x hx hc
      simpa using this
    rw [e, if_pos hc]
    simp [hc]
  · rw [if_neg hc]
    simp [hc]

/-- what is due of a deal -/
theorem due_deal {ns : List Int} (h : ns.length ≤ 300) : PySc20.deal ns = match deal (ns.map Int.toNat) with
    | .error e => [e]
    | .ok h => ((cardsOf h : Nat) : Int) :: (List.range 52).map fun c => ((own h c : Nat) : Int) := by
  have w : within 0 (ns.length : Int) 300 = true := by simp [within]; omega
  have e : does (.deal (ns.map Int.toNat) (ns.length : Int)) = match deal (ns.map Int.toNat) with
      | .error e => ok e
      | .ok h => ⟨cardsOf h, (List.range 52).map fun c => (h.findIdx? fun x => x.contains c).getD 4⟩ := by
    show (if within 0 (ns.length : Int) 300 = false then ok (-2) else match deal (ns.map Int.toNat) with
      | .error e => ok e
      | .ok h => _) = _
    rw [w, if_neg (by decide)]
  show (does (.deal (ns.map Int.toNat) (ns.length : Int))).v :: (does (.deal (ns.map Int.toNat) (ns.length : Int))).b.map (fun (n : Nat) => (n : Int)) = _
  rw [e]
  cases deal (ns.map Int.toNat) with
  | error e => rfl
  | ok h => simp [own]
/-- the reader's way through a text: what is read from a place on is told by the reading there -/
theorem read_cons {k : Nat} {x y : Reading} {c : Nat} {r : Bytes} (h : take_ x c = some y) : read k x (c :: r) = read (k + 1) y r := by
  show (match take_ x c with
    | some y => Sc20.read (k + 1) y r
    | none => Except.error (-100 - (k : Int))) = _
  rw [h]
theorem read_bad {k : Nat} {x : Reading} {c : Nat} {r : Bytes} (h : take_ x c = none) : read k x (c :: r) = .error (-100 - (k : Int)) := by
  unfold Sc20.read
  rw [h]
theorem read_nil {k : Nat} {x : Reading} : read k x [] = if x.suit = 0 ∧ x.hands.length = 3 then .ok (soFar x) else .error (-100 - (k : Int)) := by
  unfold Sc20.read
  rfl
theorem refusal_le (h : List (List Nat)) : refusal h ≤ 0 := by
  unfold refusal
  split
  · decide
  · split <;> decide
/-- the hands of a deal that is one: four, no card twice, all cards below 52 -/
structure HOk4 (h : List (List Nat)) : Prop where
  four : h.length = 4
  lt : ∀ x ∈ h, ∀ c ∈ x, c < 52
  size : ∀ x ∈ h, x.length ≤ 300
theorem ROk.four {k : Nat} {x : Reading} (r : ROk k x) (hk : k ≤ 300) (h : x.hands.length = 3) : HOk4 (soFar x) := by
  refine ⟨by rw [soFar_length, h], ?_, ?_⟩
  · intro y hy c hc
    rw [soFar_eq] at hy
    rcases List.mem_append.mp hy with q | q
    · exact r.old y (by simpa using q) c hc
    · have e : y = x.now.reverse := by simpa using q
      subst e
      exact r.now c (by simpa using hc)
  · intro y hy
    rw [soFar_eq] at hy
    rcases List.mem_append.mp hy with q | q
    · exact Nat.le_trans (r.oldL y (by simpa using q)) hk
    · have e : y = x.now.reverse := by simpa using q
      subst e
      have := r.nowL
      simp
      omega
theorem flatten_len {h : List (List Nat)} {n : Nat} (hs : ∀ x ∈ h, x.length ≤ n) : h.flatten.length ≤ h.length * n := by
  induction h with
  | nil => simp
  | cons a l ih =>
    have h1 := hs a (by simp)
    have h2 := ih fun x hx => hs x (by simp [hx])
    simp only [List.flatten_cons, List.length_append, List.length_cons, Nat.succ_mul]
    omega

/-! ### the list of owners, step by step -/
theorem own_nil (l : List (List Nat)) : (List.range 52).map (own (l ++ [[]])) = (List.range 52).map (own l) := by
  refine List.map_congr_left fun c _ => ?_
  unfold own
  rw [findIdx?_snoc]
  simp
theorem own_start : (List.range 52).map (own []) = List.replicate 52 4 := by decide
theorem own_step {l : List (List Nat)} {t : List Nat} {c : Nat} (hc : c < 52) (h : ∀ x ∈ l, ¬ c ∈ x) : ((List.range 52).map (own (l ++ [t]))).set c l.length = (List.range 52).map (own (l ++ [t ++ [c]])) := by
  refine List.ext_getElem (by simp) fun d h1 h2 => ?_
  have hd : d < 52 := by simpa using h2
  by_cases e : c = d
  · subst e
    rw [List.getElem_set_self]
    simp only [List.getElem_map, List.getElem_range]
    rw [own_snoc (fun x hx _ => h x hx), if_pos (by simp)]
  · rw [List.getElem_set_ne e]
    simp only [List.getElem_map, List.getElem_range]
    unfold own
    rw [findIdx?_snoc, findIdx?_snoc]
    have e2 : (t ++ [c]).contains d = t.contains d := by
      have : ¬ d = c := fun q => e q.symm
      simp [this]
    rw [e2]
/-- a card of a hand is in none of the hands before -/
theorem not_before {hs : List (List Nat)} (nd : hs.flatten.Nodup) {i : Nat} {h : List Nat} (hi : hs[i]? = some h) {c : Nat} (hc : c ∈ h) : ∀ x ∈ hs.take i, ¬ c ∈ x := by
  intro x hx hm
  have e : hs = hs.take i ++ hs.drop i := (List.take_append_drop i hs).symm
  rw [e, List.flatten_append] at nd
  have hd := (List.nodup_append.mp nd).2.2
  have h1 : c ∈ (hs.take i).flatten := List.mem_flatten.mpr ⟨x, hx, hm⟩
  have h2 : h ∈ hs.drop i := List.mem_of_getElem? (i := 0) (by rw [List.getElem?_drop]; simpa using hi)
  have h3 : c ∈ (hs.drop i).flatten := List.mem_flatten.mpr ⟨h, h2, hc⟩
  exact hd c h1 c h3 rfl
theorem take_succ_get {α : Type} {l : List α} {i : Nat} {a : α} (h : l[i]? = some a) : l.take (i + 1) = l.take i ++ [a] := by
  rw [List.take_add_one, h]
  rfl
/-- what has been walked of a list of lists is the front of the whole -/
theorem front {hs : List (List Nat)} {i j : Nat} {h : List Nat} (hi : hs[i]? = some h) : ∃ r, hs.flatten = (hs.take i).flatten ++ h.take j ++ r := by
  refine ⟨h.drop j ++ (hs.drop (i + 1)).flatten, ?_⟩
  have e : hs = hs.take i ++ h :: hs.drop (i + 1) := by
    have := (List.take_append_drop i hs).symm
    have hl := (List.getElem?_eq_some_iff.mp hi)
    obtain ⟨hl, he⟩ := hl
    rw [List.drop_eq_getElem_cons hl, he] at this
    exact this
  have e2 : h = h.take j ++ h.drop j := (List.take_append_drop j h).symm
  calc hs.flatten = (hs.take i ++ h :: hs.drop (i + 1)).flatten := by rw [← e]
    _ = (hs.take i).flatten ++ (h ++ (hs.drop (i + 1)).flatten) := by rw [List.flatten_append, List.flatten_cons]
    _ = (hs.take i).flatten ++ (h.take j ++ h.drop j ++ (hs.drop (i + 1)).flatten) := by rw [← e2]
    _ = _ := by simp only [List.append_assoc]
theorem nodup_front {a r : List Nat} {c : Nat} (h : (a ++ [c] ++ r).Nodup) : ¬ c ∈ a := by
  have h := (List.nodup_append.mp h).1
  intro m
  exact (List.nodup_append.mp h).2.2 c m c (by simp) rfl
theorem nodup_snoc {a : List Nat} {c : Nat} (h : a.Nodup) (m : ¬ c ∈ a) : (a ++ [c]).Nodup :=
  List.nodup_append.mpr ⟨h, by simp, fun x hx y hy e => m (by
    have q : y = c := by simpa using hy
    rw [← q, ← e]
    exact hx)⟩
theorem nats_back {ns : List Int} (h : ∀ n ∈ ns, 0 ≤ n ∧ n ≤ 255) : (ns.map Int.toNat).map (fun c : Nat => (c : Int)) = ns := by
  rw [List.map_map]
  conv => rhs; rw [← List.map_id ns]
  refine List.map_congr_left fun n hn => ?_
  have := h n hn
  show ((n.toNat : Nat) : Int) = n
  omega
end Fh

set_option linter.all false
/-! The mathematics of play: a position as the program keeps it, against Sc20's. -/
namespace Fh
open Sc20

/-- the card that has the trick so far, and its number in it -/
def bt (trump : Nat) (l : List Nat) : Nat × Nat := l.zipIdx.foldl (fun (b : Nat × Nat) x => if beats trump x.1 b.1 = true then x else b) (l.headD 0, 0)
theorem taker_bt (trump : Nat) (l : List Nat) : taker trump l = (bt trump l).2 := rfl
theorem bt_one (trump c : Nat) : bt trump [c] = (c, 0) := by
  have h : beats trump c c = false := by
    unfold beats
    rw [if_pos rfl]
    simp
  unfold bt
  show (if beats trump c c = true then (c, 0) else (c, 0)) = (c, 0)
  rw [h]
  rfl
theorem bt_snoc (trump : Nat) {l : List Nat} (hl : l ≠ []) (c : Nat) : bt trump (l ++ [c]) = if beats trump c (bt trump l).1 = true then (c, l.length) else bt trump l := by
  unfold bt
  have h1 : (l ++ [c]).headD 0 = l.headD 0 := by
    cases l with
    | nil => exact absurd rfl hl
    | cons a r => rfl
  rw [h1, List.zipIdx_append, List.foldl_append]
  simp
theorem bt_lt' (trump : Nat) : ∀ (n : Nat) (l : List Nat), l.length = n → l ≠ [] → (bt trump l).2 < l.length
  | 0, l, hn, h => by
    cases l with
    | nil => exact absurd rfl h
    | cons _ _ => cases hn
  | n + 1, l, hn, h => by
    rcases List.eq_nil_or_concat l with e | ⟨L, c, e⟩
    · exact absurd e h
    · rw [List.concat_eq_append] at e
      subst e
      by_cases hl : L = []
      · subst hl
        rw [List.nil_append, bt_one]
        exact Nat.zero_lt_one
      · rw [bt_snoc trump hl]
        rw [List.length_append, List.length_singleton] at hn ⊢
        have := bt_lt' trump n L (by omega) hl
        split
        · simp
        · omega
theorem bt_lt (trump : Nat) {l : List Nat} (h : l ≠ []) : (bt trump l).2 < l.length := bt_lt' trump _ l rfl h
theorem getD_lt {α : Type} {l : List α} {i : Nat} (d : α) (h : i < l.length) : l.getD i d = l[i] := by simp [List.getD, h]
/-- the attributes -/
def cLed (p : Pos) : Int := match p.trick with
  | [] => -1
  | c :: _ => ((suitOf c : Nat) : Int)
def cTop (trump : Nat) (p : Pos) : Int := match p.trick with
  | [] => -1
  | _ => (((bt trump p.trick).1 : Nat) : Int)
def cHold (trump : Nat) (p : Pos) : Nat := match p.trick with
  | [] => 4
  | _ => (p.leader + (bt trump p.trick).2) % 4
def hd (p : Pos) (i : Nat) : List Nat := p.hands.getD i []
/-- has i played in the trick -/
def out1 (p : Pos) (i : Nat) : Nat := if (i + 4 - p.leader) % 4 < p.trick.length then 1 else 0
structure POk (T : Nat) (p : Pos) : Prop where
  four : p.hands.length = 4
  lead : p.leader < 4
  few : p.trick.length ≤ 3
  len : ∃ n, (∀ i, i < 4 → (hd p i).length + out1 p i = n) ∧ n + p.won.1 + p.won.2 = T
  nd : ∀ h ∈ p.hands, h.Nodup
  lt : ∀ h ∈ p.hands, ∀ c ∈ h, c < 52
theorem turn_lt (p : Pos) : turn p < 4 := by unfold turn; omega
theorem hd_mem {p : Pos} (h4 : p.hands.length = 4) {i : Nat} (hi : i < 4) : hd p i ∈ p.hands := by
  unfold hd
  have : i < p.hands.length := by omega
  rw [getD_lt _ this]
  exact List.getElem_mem _
theorem hd_get {p : Pos} (h4 : p.hands.length = 4) {i : Nat} (hi : i < 4) : p.hands[i]? = some (hd p i) := by
  unfold hd
  have : i < p.hands.length := by omega
  rw [getD_lt _ this]
  simp [this]
theorem playable_sub {p : Pos} {c : Nat} (h : c ∈ playable p) : c ∈ hd p (turn p) := by
  unfold playable at h
  simp only at h
  split at h
  · exact h
  · split at h
    · exact (List.mem_filter.mp h).1
    · exact h
theorem out1_turn {p : Pos} (hl : p.leader < 4) (h3 : p.trick.length ≤ 3) : out1 p (turn p) = 0 := by
  unfold out1 turn
  rw [if_neg]
  omega
/-- what the program lists as choices -/
theorem choices_eq (p : Pos) : playable p = if ((hd p (turn p)).filter fun x => decide (((suitOf x : Nat) : Int) = cLed p)) ≠ [] then (hd p (turn p)).filter (fun x => decide (((suitOf x : Nat) : Int) = cLed p)) else hd p (turn p) := by
  unfold playable cLed hd
  simp only
  cases ht : p.trick with
  | nil =>
    have : ((p.hands.getD (turn p) []).filter fun x => decide (((suitOf x : Nat) : Int) = -1)) = [] := by
      rw [List.filter_eq_nil_iff]
      intro a _
      have : ¬ ((suitOf a : Nat) : Int) = -1 := by omega
      simpa using this
    simp only [this]
    simp
  | cons c r =>
    have e : (fun x => decide (((suitOf x : Nat) : Int) = ((suitOf c : Nat) : Int))) = fun x => suitOf x == suitOf c := by
      funext x
      by_cases h : suitOf x = suitOf c
      · simp [h]
      · have : ¬ ((suitOf x : Nat) : Int) = ((suitOf c : Nat) : Int) := by omega
        rw [decide_eq_false this, beq_eq_false_iff_ne.mpr h]
    simp only
    rw [e]
    by_cases h : ((p.hands.getD (turn p) []).any fun x => suitOf x == suitOf c) = true
    · rw [if_pos h, if_pos]
      obtain ⟨x, hx, hs⟩ := List.any_eq_true.mp h
      intro z
      have : x ∈ (p.hands.getD (turn p) []).filter fun x => suitOf x == suitOf c := List.mem_filter.mpr ⟨hx, hs⟩
      rw [z] at this
      cases this
    · rw [if_neg h, if_neg]
      intro z
      apply z
      rw [List.filter_eq_nil_iff]
      intro x hx hs
      exact h (List.any_eq_true.mpr ⟨x, hx, hs⟩)
/-- the hands behind a card -/
def hands' (p : Pos) (c : Nat) : Hands := p.hands.set (turn p) ((hd p (turn p)).filter fun x => x != c)
theorem played_eq (trump : Nat) (p : Pos) (c : Nat) (h3 : p.trick.length ≤ 3) : played trump p c =
    if p.trick.length = 3 then ⟨hands' p c, (p.leader + (bt trump (p.trick ++ [c])).2) % 4, [], if (p.leader + (bt trump (p.trick ++ [c])).2) % 4 % 2 = 0 then (p.won.1 + 1, p.won.2) else (p.won.1, p.won.2 + 1)⟩
    else { p with hands := hands' p c, trick := p.trick ++ [c] } := by
  unfold played
  simp only [List.length_append, List.length_singleton]
  by_cases h : p.trick.length = 3
  · rw [if_pos h, if_neg (by omega)]
    rfl
  · rw [if_neg h, if_pos (by omega)]
    rfl
/-- who has the trick behind a card -/
def holder' (trump : Nat) (p : Pos) (c : Nat) : Nat := if p.trick = [] ∨ beats trump c (bt trump p.trick).1 = true then turn p else (p.leader + (bt trump p.trick).2) % 4
theorem holder_eq (trump : Nat) (p : Pos) (c : Nat) (hl : p.leader < 4) : holder' trump p c = (p.leader + (bt trump (p.trick ++ [c])).2) % 4 := by
  unfold holder' turn
  by_cases h : p.trick = []
  · rw [if_pos (.inl h), h, List.nil_append, bt_one]
    rfl
  · rw [bt_snoc trump h]
    by_cases h2 : beats trump c (bt trump p.trick).1 = true
    · rw [if_pos (.inr h2), if_pos h2]
    · rw [if_neg (by rintro (z | z); exact h z; exact h2 z), if_neg h2]
theorem len_set {p : Pos} {c : Nat} (h4 : p.hands.length = 4) (i : Nat) (hi : i < 4) : (hands' p c).getD i [] = if i = turn p then (hd p (turn p)).filter (fun x => x != c) else hd p i := by
  unfold hands'
  have h1 : i < (p.hands.set (turn p) ((hd p (turn p)).filter fun x => x != c)).length := by rw [List.length_set]; omega
  rw [getD_lt _ h1, List.getElem_set]
  by_cases e : turn p = i
  · rw [if_pos e, if_pos e.symm]
  · rw [if_neg e, if_neg (fun z => e z.symm)]
    exact (getD_lt (l := p.hands) (i := i) [] (by omega)).symm
theorem filter_len {l : List Nat} {c : Nat} (hn : l.Nodup) (hc : c ∈ l) : (l.filter fun x => x != c).length + 1 = l.length := by
  induction l with
  | nil => cases hc
  | cons a r ih =>
    obtain ⟨h1, h2⟩ := List.nodup_cons.mp hn
    by_cases e : a = c
    · subst e
      rw [List.filter_cons, if_neg (by simp)]
      have : r.filter (fun x => x != a) = r := List.filter_eq_self.mpr fun b hb => by
        have : b ≠ a := fun z => h1 (z ▸ hb)
        simpa using this
      rw [this]
      rfl
    · rw [List.filter_cons, if_pos (by simpa using e)]
      have : c ∈ r := by
        rcases List.mem_cons.mp hc with z | z
        · exact absurd z.symm e
        · exact z
      have := ih h2 this
      simp only [List.length_cons]
      omega
theorem mem_set_sub {p : Pos} {c : Nat} {h : List Nat} (hm : h ∈ hands' p c) : h ∈ p.hands ∨ h = (hd p (turn p)).filter fun x => x != c := by
  unfold hands' at hm
  exact List.mem_or_eq_of_mem_set hm
theorem POk.played {T : Nat} {p : Pos} {c : Nat} (ok : POk T p) (trump : Nat) (hc : c ∈ hd p (turn p)) : POk T (played trump p c) := by
  obtain ⟨h4, hl, h3, ⟨n, hn, hT⟩, hnd, hlt⟩ := ok
  have ht := turn_lt p
  have hcl := filter_len (hnd _ (hd_mem h4 ht)) hc
  have hot : out1 p (turn p) = 0 := out1_turn hl h3
  have hnt := hn (turn p) ht
  rw [hot] at hnt
  have hnd' : ∀ h ∈ hands' p c, h.Nodup := fun h hm => by
    rcases mem_set_sub hm with z | z
    · exact hnd h z
    · rw [z]; exact (hnd _ (hd_mem h4 ht)).filter _
  have hlt' : ∀ h ∈ hands' p c, ∀ x ∈ h, x < 52 := fun h hm x hx => by
    rcases mem_set_sub hm with z | z
    · exact hlt h z x hx
    · rw [z] at hx
      exact hlt _ (hd_mem h4 ht) x (List.mem_filter.mp hx).1
  have h4' : (hands' p c).length = 4 := by unfold hands'; rw [List.length_set]; exact h4
  rw [played_eq trump p c h3]
  by_cases e : p.trick.length = 3
  · rw [if_pos e]
    refine ⟨h4', by simp only; omega, by simp, ⟨n - 1, fun i hi => ?_, ?_⟩, hnd', hlt'⟩
    · show ((hands' p c).getD i []).length + out1 ⟨hands' p c, _, [], _⟩ i = n - 1
      have ho : out1 ⟨hands' p c, (p.leader + (bt trump (p.trick ++ [c])).2) % 4, [], (if (p.leader + (bt trump (p.trick ++ [c])).2) % 4 % 2 = 0 then (p.won.1 + 1, p.won.2) else (p.won.1, p.won.2 + 1))⟩ i = 0 := by
        unfold out1
        rw [if_neg (by simp)]
      rw [ho, len_set h4 i hi]
      by_cases ei : i = turn p
      · rw [if_pos ei]
        omega
      · rw [if_neg ei]
        have := hn i hi
        have ho1 : out1 p i = 1 := by
          unfold out1
          unfold turn at ei
          rw [if_pos (by omega)]
        omega
    · simp only
      split <;> simp only <;> omega
  · rw [if_neg e]
    refine ⟨h4', hl, by simp only [List.length_append, List.length_singleton]; omega, ⟨n, fun i hi => ?_, hT⟩, hnd', hlt'⟩
    show ((hands' p c).getD i []).length + out1 { p with hands := hands' p c, trick := p.trick ++ [c] } i = n
    have ho : out1 { p with hands := hands' p c, trick := p.trick ++ [c] } i = if (i + 4 - p.leader) % 4 < p.trick.length + 1 then 1 else 0 := by
      unfold out1
      simp only [List.length_append, List.length_singleton]
    rw [ho, len_set h4 i hi]
    have hni := hn i hi
    unfold out1 at hni
    by_cases ei : i = turn p
    · rw [if_pos ei]
      unfold turn at ei
      rw [if_pos (by omega)]
      omega
    · rw [if_neg ei]
      unfold turn at ei
      by_cases z : (i + 4 - p.leader) % 4 < p.trick.length
      · rw [if_pos z] at hni
        rw [if_pos (by omega)]
        exact hni
      · rw [if_neg z] at hni
        rw [if_neg (by omega)]
        exact hni
theorem left_zero {T : Nat} {p : Pos} (ok : POk T p) : left p = 0 ↔ (hd p (turn p)).length = 0 := by
  obtain ⟨h4, hl, h3, ⟨n, hn, hT⟩, hnd, hlt⟩ := ok
  have ht := turn_lt p
  have hnt := hn (turn p) ht
  rw [out1_turn hl h3] at hnt
  have e : left p = (hd p 0).length + (hd p 1).length + (hd p 2).length + (hd p 3).length := by
    unfold left hd
    match hh : p.hands, h4 with
    | [a, b, c, d], _ => simp; omega
  have h0 := hn 0 (by decide)
  have h1 := hn 1 (by decide)
  have h2 := hn 2 (by decide)
  have h33 := hn 3 (by decide)
  have : turn p = 0 ∨ turn p = 1 ∨ turn p = 2 ∨ turn p = 3 := by omega
  rw [e]
  constructor
  · intro z
    rcases this with q | q | q | q <;> rw [q] <;> omega
  · intro z
    omega
/-- the start -/
theorem POk.start {h : Hands} {leader : Nat} (hl : leader < 4) (h4 : h.length = 4) (nd : h.flatten.Nodup) (lt : ∀ x ∈ h, ∀ c ∈ x, c < 52) (heq : ∀ x ∈ h, x.length = cardsOf h) : POk (cardsOf h) (Sc20.start h leader) := by
  refine ⟨h4, hl, by simp [Sc20.start], ⟨cardsOf h, fun i hi => ?_, rfl⟩, fun x hx => ?_, lt⟩
  · have e : out1 (Sc20.start h leader) i = 0 := by
      unfold out1
      rw [if_neg (by simp [Sc20.start])]
    rw [e]
    exact heq _ (hd_mem (p := Sc20.start h leader) h4 hi)
  · exact (List.pairwise_flatten.mp nd).1 x hx
/-- cards in a row -/
theorem plays_cons (trump k : Nat) (p : Pos) (c : Nat) (r : List Nat) : plays trump k p (c :: r) = if (playable p).contains c = true then plays trump (k + 1) (played trump p c) r else .error k := rfl
def stand (p : Pos) : List Int := [((p.won.1 + p.won.2 : Nat) : Int), ((p.won.1 : Nat) : Int), ((p.won.2 : Nat) : Int), (((if left p = 0 then 4 else turn p : Nat)) : Int), ((p.trick.length : Nat) : Int)]
theorem refusal_zero {h : Hands} (e : refusal h = 0) : h.flatten.Nodup ∧ ∀ x ∈ h, x.length = cardsOf h := by
  unfold refusal at e
  split at e
  · cases e
  · rename_i h1
    split at e
    · rename_i h2
      refine ⟨h2, fun x hx => ?_⟩
      have h3 : (h.all fun x => x.length == (h.headD []).length) = true := by
        cases q : (h.all fun x => x.length == (h.headD []).length) with
        | true => rfl
        | false => exact absurd (.inr q) h1
      have := List.all_eq_true.mp h3 x hx
      exact beq_iff_eq.mp this
    · cases e
theorem due_play {t l : Int} {ns ks : List Int} (hn : ns.length ≤ 300) (hk : ks.length ≤ 52) : PySc20.play t l ns ks = if ¬ ((0 ≤ t ∧ t ≤ 4) ∧ 0 ≤ l ∧ l ≤ 3) then [-2] else match deal (ns.map Int.toNat) with
    | .error e => [e]
    | .ok h => match plays t.toNat 0 (start h l.toNat) (ks.map Int.toNat) with
      | .error i => [-1000 - (i : Int)]
      | .ok p => stand p := by
  have w1 : within 0 (ns.length : Int) 300 = true := by simp [within]; omega
  have w2 : within 0 (ks.length : Int) 52 = true := by simp [within]; omega
  have e : does (.play (ns.map Int.toNat) (ns.length : Int) t l (ks.map Int.toNat) (ks.length : Int)) = if (within 0 (ns.length : Int) 300 && (within 0 t 4 && (within 0 l 3 && within 0 (ks.length : Int) 52))) = false then ok (-2) else match deal (ns.map Int.toNat) with
      | .error e => ok e
      | .ok h => match plays t.toNat 0 (start h l.toNat) (ks.map Int.toNat) with
        | .error i => ok (-1000 - (i : Int))
        | .ok p => ⟨((p.won.1 + p.won.2 : Nat) : Int), [p.won.1, p.won.2, if left p = 0 then 4 else turn p, p.trick.length]⟩ := rfl
  show (does (.play (ns.map Int.toNat) (ns.length : Int) t l (ks.map Int.toNat) (ks.length : Int))).v :: (does (.play (ns.map Int.toNat) (ns.length : Int) t l (ks.map Int.toNat) (ks.length : Int))).b.map (fun (n : Nat) => (n : Int)) = _
  rw [e, w1, w2, Bool.true_and, Bool.and_true]
  by_cases hd : (0 ≤ t ∧ t ≤ 4) ∧ 0 ≤ l ∧ l ≤ 3
  · have w3 : within 0 t 4 = true := by simp [within]; omega
    have w4 : within 0 l 3 = true := by simp [within]; omega
    rw [w3, w4, if_neg (by decide), if_neg (fun z => z hd)]
    cases deal (ns.map Int.toNat) with
    | error e => rfl
    | ok h =>
      simp only
      cases plays t.toNat 0 (start h l.toNat) (ks.map Int.toNat) with
      | error i => rfl
      | ok p => rfl
  · have w3 : (within 0 t 4 && within 0 l 3) = false := by
      cases q : (within 0 t 4 && within 0 l 3) with
      | false => rfl
      | true =>
        exfalso
        simp [within] at q
        exact hd ⟨⟨by omega, by omega⟩, by omega, by omega⟩
    rw [w3, if_pos rfl, if_pos hd]
    rfl

/-! ### the attributes behind a card -/
theorem next_turn (p : Pos) (h : Hands) (c : Nat) : turn { p with hands := h, trick := p.trick ++ [c] } = (turn p + 1) % 4 := by
  unfold turn
  simp only [List.length_append, List.length_singleton]
  omega
theorem next_led (p : Pos) (h : Hands) (c : Nat) : cLed { p with hands := h, trick := p.trick ++ [c] } = if p.trick.length = 0 then ((suitOf c : Nat) : Int) else cLed p := by
  unfold cLed
  simp only
  cases p.trick with
  | nil => rfl
  | cons a r => rfl
theorem next_top (trump : Nat) (p : Pos) (h : Hands) (c : Nat) : cTop trump { p with hands := h, trick := p.trick ++ [c] } = if p.trick = [] ∨ beats trump c (bt trump p.trick).1 = true then (c : Int) else cTop trump p := by
  unfold cTop
  simp only
  cases ht : p.trick with
  | nil =>
    rw [if_pos (.inl rfl)]
    show (((bt trump [c]).1 : Nat) : Int) = _
    rw [bt_one]
  | cons a r =>
    show (((bt trump (a :: r ++ [c])).1 : Nat) : Int) = _
    rw [bt_snoc trump (by simp)]
    by_cases h2 : beats trump c (bt trump (a :: r)).1 = true
    · rw [if_pos h2, if_pos (.inr h2)]
    · rw [if_neg h2, if_neg (by rintro (z | z); cases z; exact h2 z)]
theorem next_hold (trump : Nat) (p : Pos) (h : Hands) (c : Nat) (hl : p.leader < 4) : cHold trump { p with hands := h, trick := p.trick ++ [c] } = holder' trump p c := by
  rw [holder_eq trump p c hl]
  unfold cHold
  simp only
  cases p.trick with
  | nil => rfl
  | cons a r => rfl
theorem top_some {trump : Nat} {p : Pos} (h : p.trick ≠ []) : cTop trump p = (((bt trump p.trick).1 : Nat) : Int) := by
  unfold cTop
  cases ht : p.trick with
  | nil => exact absurd ht h
  | cons a r => rfl
theorem hold_some {trump : Nat} {p : Pos} (h : p.trick ≠ []) : cHold trump p = (p.leader + (bt trump p.trick).2) % 4 := by
  unfold cHold
  cases ht : p.trick with
  | nil => exact absurd ht h
  | cons a r => rfl
theorem beats_eq (trump c b : Nat) : beats trump c b = if suitOf c = suitOf b then decide (b < c) else decide (suitOf c = trump) := by
  unfold beats
  split
  · rfl
  · by_cases h : suitOf c = trump
    · simp [h]
    · rw [decide_eq_false h, beq_eq_false_iff_ne.mpr h]
end Fh

set_option linter.all false
/-! The mathematics of best play: worth, the search for it, the key that a verdict hangs on. -/
namespace Fh
open Sc20

def W (trump : Nat) (p : Pos) : Nat := worth trump (left p) p
theorem left4 {p : Pos} (h4 : p.hands.length = 4) : left p = (hd p 0).length + (hd p 1).length + (hd p 2).length + (hd p 3).length := by
  unfold left hd
  match hh : p.hands, h4 with
  | [a, b, c, d], _ => simp; omega
theorem played_hands (trump : Nat) (p : Pos) (c : Nat) (h3 : p.trick.length ≤ 3) : (played trump p c).hands = hands' p c := by
  rw [played_eq trump p c h3]
  split <;> rfl
theorem left_played {T : Nat} {p : Pos} (ok : POk T p) (trump : Nat) {c : Nat} (hc : c ∈ hd p (turn p)) : left (played trump p c) + 1 = left p := by
  have h4 := ok.four
  have ht := turn_lt p
  have e : (played trump p c).hands = hands' p c := played_hands trump p c ok.few
  have hl : (played trump p c).hands.length = 4 := (ok.played trump hc).four
  have hf := filter_len (ok.nd _ (hd_mem h4 ht)) hc
  have g : ∀ i, i < 4 → (hd (played trump p c) i).length + (if i = turn p then 1 else 0) = (hd p i).length := fun i hi => by
    show ((played trump p c).hands.getD i []).length + _ = _
    rw [e, len_set h4 i hi]
    by_cases z : i = turn p
    · rw [if_pos z, if_pos z, z]
      exact hf
    · rw [if_neg z, if_neg z]
      rfl
  rw [left4 hl, left4 h4]
  have g0 := g 0 (by decide)
  have g1 := g 1 (by decide)
  have g2 := g 2 (by decide)
  have g3 := g 3 (by decide)
  have : turn p = 0 ∨ turn p = 1 ∨ turn p = 2 ∨ turn p = 3 := by omega
  rcases this with q | q | q | q <;> rw [q] at g0 g1 g2 g3 <;> simp at g0 g1 g2 g3 <;> omega
theorem playable_ne {T : Nat} {p : Pos} (ok : POk T p) (h : left p ≠ 0) : playable p ≠ [] := by
  have h2 : hd p (turn p) ≠ [] := fun z => h ((left_zero ok).mpr (by rw [z]; rfl))
  rw [choices_eq]
  split
  · assumption
  · exact h2
theorem W_zero {trump : Nat} {p : Pos} (h : left p = 0) : W trump p = p.won.1 := by
  unfold W
  rw [h]
  rfl
theorem W_succ {T : Nat} {p : Pos} (ok : POk T p) (trump : Nat) (h : left p ≠ 0) : W trump p =
    if turn p % 2 = 0 then ((playable p).map fun c => W trump (played trump p c)).foldl max (((playable p).map fun c => W trump (played trump p c)).headD p.won.1)
    else ((playable p).map fun c => W trump (played trump p c)).foldl min (((playable p).map fun c => W trump (played trump p c)).headD p.won.1) := by
  obtain ⟨n, hn⟩ : ∃ n, left p = n + 1 := ⟨left p - 1, by omega⟩
  have e : ((playable p).map fun c => W trump (played trump p c)) = (playable p).map fun c => worth trump n (played trump p c) := by
    refine List.map_congr_left fun c hc => ?_
    have := left_played ok trump (playable_sub hc)
    unfold W
    rw [show left (played trump p c) = n by omega]
  rw [e]
  unfold W
  rw [hn]
  rfl
theorem fmax : ∀ (l : List Nat) (a : Nat), a ≤ l.foldl max a ∧ (∀ x ∈ l, x ≤ l.foldl max a) ∧ (l.foldl max a = a ∨ l.foldl max a ∈ l)
  | [], a => ⟨Nat.le_refl _, by simp, .inl rfl⟩
  | y :: l, a => by
    obtain ⟨h1, h2, h3⟩ := fmax l (max a y)
    rw [List.foldl_cons]
    refine ⟨by omega, fun x hx => ?_, ?_⟩
    · rcases List.mem_cons.mp hx with q | q
      · rw [q]; omega
      · exact h2 x q
    · rcases h3 with q | q
      · rw [q]
        rcases Nat.le_total a y with z | z
        · right; rw [Nat.max_eq_right z]; simp
        · left; exact Nat.max_eq_left z
      · right; simp [q]
theorem fmin : ∀ (l : List Nat) (a : Nat), l.foldl min a ≤ a ∧ (∀ x ∈ l, l.foldl min a ≤ x) ∧ (l.foldl min a = a ∨ l.foldl min a ∈ l)
  | [], a => ⟨Nat.le_refl _, by simp, .inl rfl⟩
  | y :: l, a => by
    obtain ⟨h1, h2, h3⟩ := fmin l (min a y)
    rw [List.foldl_cons]
    refine ⟨by omega, fun x hx => ?_, ?_⟩
    · rcases List.mem_cons.mp hx with q | q
      · rw [q]; omega
      · exact h2 x q
    · rcases h3 with q | q
      · rw [q]
        rcases Nat.le_total a y with z | z
        · left; exact Nat.min_eq_left z
        · right; rw [Nat.min_eq_right z]; simp
      · right; simp [q]
theorem headD_mem {l : List Nat} (h : l ≠ []) (d : Nat) : l.headD d ∈ l := by
  cases l with
  | nil => exact absurd rfl h
  | cons a r => simp
theorem W_even {T : Nat} {p : Pos} (ok : POk T p) (trump : Nat) (h : left p ≠ 0) (ht : turn p % 2 = 0) : (∃ c ∈ playable p, W trump (played trump p c) = W trump p) ∧ ∀ c ∈ playable p, W trump (played trump p c) ≤ W trump p := by
  have e := W_succ ok trump h
  rw [if_pos ht] at e
  have hne : ((playable p).map fun c => W trump (played trump p c)) ≠ [] := by simpa using playable_ne ok h
  obtain ⟨_, h2, h3⟩ := fmax ((playable p).map fun c => W trump (played trump p c)) (((playable p).map fun c => W trump (played trump p c)).headD p.won.1)
  rw [← e] at h2 h3
  constructor
  · have hm : W trump p ∈ (playable p).map fun c => W trump (played trump p c) := by
      rcases h3 with q | q
      · rw [q]; exact headD_mem hne _
      · exact q
    obtain ⟨c, hc, e2⟩ := List.mem_map.mp hm
    exact ⟨c, hc, e2⟩
  · intro c hc
    exact h2 _ (List.mem_map.mpr ⟨c, hc, rfl⟩)
theorem W_odd {T : Nat} {p : Pos} (ok : POk T p) (trump : Nat) (h : left p ≠ 0) (ht : ¬ turn p % 2 = 0) : (∃ c ∈ playable p, W trump (played trump p c) = W trump p) ∧ ∀ c ∈ playable p, W trump p ≤ W trump (played trump p c) := by
  have e := W_succ ok trump h
  rw [if_neg ht] at e
  have hne : ((playable p).map fun c => W trump (played trump p c)) ≠ [] := by simpa using playable_ne ok h
  obtain ⟨_, h2, h3⟩ := fmin ((playable p).map fun c => W trump (played trump p c)) (((playable p).map fun c => W trump (played trump p c)).headD p.won.1)
  rw [← e] at h2 h3
  constructor
  · have hm : W trump p ∈ (playable p).map fun c => W trump (played trump p c) := by
      rcases h3 with q | q
      · rw [q]; exact headD_mem hne _
      · exact q
    obtain ⟨c, hc, e2⟩ := List.mem_map.mp hm
    exact ⟨c, hc, e2⟩
  · intro c hc
    exact h2 _ (List.mem_map.mpr ⟨c, hc, rfl⟩)
theorem W_some {T : Nat} {p : Pos} (ok : POk T p) (trump : Nat) (h : left p ≠ 0) : ∃ c ∈ playable p, W trump (played trump p c) = W trump p := by
  by_cases ht : turn p % 2 = 0
  · exact (W_even ok trump h ht).1
  · exact (W_odd ok trump h ht).1
theorem won_played (trump : Nat) (p : Pos) (c : Nat) (h3 : p.trick.length ≤ 3) : p.won.1 ≤ (played trump p c).won.1 ∧ p.won.2 ≤ (played trump p c).won.2 := by
  rw [played_eq trump p c h3]
  split
  · simp only
    split <;> simp
  · exact ⟨Nat.le_refl _, Nat.le_refl _⟩
theorem won_played1 (trump : Nat) (p : Pos) (c : Nat) (h3 : p.trick.length ≤ 3) : (played trump p c).won.1 ≤ p.won.1 + 1 := by
  rw [played_eq trump p c h3]
  split
  · simp only
    split <;> simp
  · exact Nat.le_succ _
theorem W_bound {T : Nat} (trump : Nat) : ∀ (n : Nat) {p : Pos}, POk T p → left p = n → p.won.1 ≤ W trump p ∧ W trump p + p.won.2 ≤ T
  | 0, p, ok, h => by
    rw [W_zero h]
    obtain ⟨n, _, hT⟩ := ok.len
    exact ⟨Nat.le_refl _, by omega⟩
  | n + 1, p, ok, h => by
    obtain ⟨c, hc, e⟩ := W_some ok trump (by omega)
    have hl := left_played ok trump (playable_sub hc)
    obtain ⟨h1, h2⟩ := W_bound trump n (ok.played trump (playable_sub hc)) (by omega)
    obtain ⟨w1, w2⟩ := won_played trump p c ok.few
    rw [e] at h1 h2
    exact ⟨by omega, by omega⟩
/-- when nobody has cards, all tricks are told -/
theorem all_told {T : Nat} {p : Pos} (ok : POk T p) (h : left p = 0) : p.won.1 + p.won.2 = T := by
  obtain ⟨n, hn, hT⟩ := ok.len
  have := hn (turn p) (turn_lt p)
  rw [out1_turn ok.lead ok.few] at this
  have := (left_zero ok).mp h
  omega

/-! ### tricks that are told already add up -/
def shift (p : Pos) (a b : Nat) : Pos := { p with won := (p.won.1 + a, p.won.2 + b) }
theorem played_shift (trump : Nat) (p : Pos) (c a b : Nat) : played trump (shift p a b) c = shift (played trump p c) a b := by
  unfold played shift
  simp only [turn]
  split
  · rfl
  · split
    · simp only [Pos.mk.injEq, true_and]
      exact Prod.ext (Nat.add_right_comm _ _ _) rfl
    · simp only [Pos.mk.injEq, true_and]
      exact Prod.ext rfl (Nat.add_right_comm _ _ _)
theorem foldl_max_add (k : Nat) : ∀ (l : List Nat) (a : Nat), (l.map (· + k)).foldl max (a + k) = l.foldl max a + k
  | [], a => rfl
  | y :: l, a => by
    rw [List.map_cons, List.foldl_cons, List.foldl_cons, ← foldl_max_add k l]
    congr 1
    omega
theorem foldl_min_add (k : Nat) : ∀ (l : List Nat) (a : Nat), (l.map (· + k)).foldl min (a + k) = l.foldl min a + k
  | [], a => rfl
  | y :: l, a => by
    rw [List.map_cons, List.foldl_cons, List.foldl_cons, ← foldl_min_add k l]
    congr 1
    omega
theorem headD_add (k : Nat) (l : List Nat) (a : Nat) : (l.map (· + k)).headD (a + k) = l.headD a + k := by
  cases l <;> rfl
theorem worth_shift (trump : Nat) : ∀ (n : Nat) (p : Pos) (a b : Nat), worth trump n (shift p a b) = worth trump n p + a
  | 0, p, a, b => rfl
  | n + 1, p, a, b => by
    have e : (playable (shift p a b)).map (fun c => worth trump n (played trump (shift p a b) c)) = ((playable p).map fun c => worth trump n (played trump p c)).map (· + a) := by
      rw [List.map_map]
      refine List.map_congr_left fun c _ => ?_
      show worth trump n (played trump (shift p a b) c) = worth trump n (played trump p c) + a
      rw [played_shift, worth_shift trump n]
    show (let l := (playable (shift p a b)).map fun c => worth trump n (played trump (shift p a b) c)
      if turn p % 2 = 0 then l.foldl max (l.headD (p.won.1 + a)) else l.foldl min (l.headD (p.won.1 + a))) = (let l := (playable p).map fun c => worth trump n (played trump p c)
      if turn p % 2 = 0 then l.foldl max (l.headD p.won.1) else l.foldl min (l.headD p.won.1)) + a
    rw [e]
    simp only
    rw [headD_add]
    split
    · exact foldl_max_add a _ _
    · exact foldl_min_add a _ _
/-- what is still to come from a position between tricks -/
def ext (trump : Nat) (hs : Hands) (leader : Nat) : Nat := W trump ⟨hs, leader, [], (0, 0)⟩
theorem W_ext (trump : Nat) {p : Pos} (h : p.trick = []) : W trump p = p.won.1 + ext trump p.hands p.leader := by
  have e : p = shift ⟨p.hands, p.leader, [], (0, 0)⟩ p.won.1 p.won.2 := by
    obtain ⟨hs, l, t, w1, w2⟩ := p
    simp only at h
    subst h
    simp [shift]
  unfold ext W
  conv => lhs; rw [e]
  rw [worth_shift]
  show worth trump (left p) _ + p.won.1 = p.won.1 + _
  rw [Nat.add_comm]
  rfl

/-! ### verdicts -/
def vt (trump g : Nat) (p : Pos) : Bool := decide (g ≤ W trump p)
def wanted (p : Pos) : Bool := decide (turn p % 2 = 0)
theorem vt_win {T : Nat} {p : Pos} (ok : POk T p) {trump g c : Nat} (hc : c ∈ playable p) (h : vt trump g (played trump p c) = wanted p) : vt trump g p = wanted p := by
  have hl : left p ≠ 0 := by
    have := left_played ok trump (playable_sub hc)
    omega
  unfold vt wanted at *
  by_cases ht : turn p % 2 = 0
  · rw [decide_eq_true ht] at h ⊢
    have h1 := (W_even ok trump hl ht).2 c hc
    have h := of_decide_eq_true h
    exact decide_eq_true (by omega)
  · rw [decide_eq_false ht] at h ⊢
    have h1 := (W_odd ok trump hl ht).2 c hc
    have h := of_decide_eq_false h
    exact decide_eq_false (by omega)
theorem vt_lose {T : Nat} {p : Pos} (ok : POk T p) {trump g : Nat} (hl : left p ≠ 0) (h : ∀ c ∈ playable p, vt trump g (played trump p c) = !wanted p) : vt trump g p = !wanted p := by
  obtain ⟨c, hc, e⟩ := W_some ok trump hl
  have := h c hc
  unfold vt at this ⊢
  rw [e] at this
  exact this
/-- one open trial and its verdict's way up -/
theorem hear_ok {T : Nat} {p : Pos} (ok : POk T p) {trump g c : Nat} {un : List Nat} (hc : c ∈ playable p) (h : ∀ d ∈ playable p, d ∈ un ∨ d = c ∨ vt trump g (played trump p d) = !wanted p) :
    (vt trump g (played trump p c) = wanted p ∨ un = [] → vt trump g p = vt trump g (played trump p c)) ∧ (¬ (vt trump g (played trump p c) = wanted p ∨ un = []) → ∀ d ∈ playable p, d ∈ un ∨ vt trump g (played trump p d) = !wanted p) := by
  have hl : left p ≠ 0 := by
    have := left_played ok trump (playable_sub hc)
    omega
  constructor
  · intro z
    by_cases y : vt trump g (played trump p c) = wanted p
    · rw [y]
      exact vt_win ok hc y
    · rcases z with z | z
      · exact absurd z y
      · have y2 : vt trump g (played trump p c) = !wanted p := by
          revert y
          cases vt trump g (played trump p c) <;> cases wanted p <;> simp
        rw [y2]
        refine vt_lose ok hl fun d hd => ?_
        rcases h d hd with q | q | q
        · rw [z] at q; cases q
        · rw [q]; exact y2
        · exact q
  · intro z d hd
    have z1 : ¬ vt trump g (played trump p c) = wanted p := fun y => z (.inl y)
    have y2 : vt trump g (played trump p c) = !wanted p := by
      revert z1
      cases vt trump g (played trump p c) <;> cases wanted p <;> simp
    rcases h d hd with q | q | q
    · exact .inl q
    · right; rw [q]; exact y2
    · exact .inr q
end Fh

set_option linter.all false
/-! The mathematics of best play, further: hands in order, how many keys there are, the first best line, what is due. -/
namespace Fh
open Sc20

/-! ### how many keys there are -/
abbrev Kp := List (List Nat) × Nat × Int
def combs : Nat → List Nat → List (List Nat)
  | 0, _ => [[]]
  | _ + 1, [] => []
  | j + 1, a :: l => (combs j l).map (a :: ·) ++ combs (j + 1) l
def ch : Nat → Nat → Nat
  | 0, _ => 1
  | _ + 1, 0 => 0
  | j + 1, n + 1 => ch j n + ch (j + 1) n
theorem combs_len : ∀ (j : Nat) (l : List Nat), (combs j l).length = ch j l.length
  | 0, l => by cases l <;> rfl
  | _ + 1, [] => rfl
  | j + 1, a :: l => by
    show ((combs j l).map (a :: ·) ++ combs (j + 1) l).length = ch j l.length + ch (j + 1) l.length
    rw [List.length_append, List.length_map, combs_len j l, combs_len (j + 1) l]
theorem combs_mem {s l : List Nat} (h : s.Sublist l) : s ∈ combs s.length l := by
  induction h with
  | slnil => simp [combs]
  | @cons s l a h ih =>
    cases hs : s.length with
    | zero =>
      have : s = [] := List.eq_nil_of_length_eq_zero hs
      subst this
      simp [combs]
    | succ j =>
      rw [hs] at ih
      show s ∈ (combs j l).map (a :: ·) ++ combs (j + 1) l
      exact List.mem_append.mpr (.inr ih)
  | @cons_cons s l a h ih =>
    show a :: s ∈ (combs s.length l).map (a :: ·) ++ combs (s.length + 1) l
    exact List.mem_append.mpr (.inl (List.mem_map.mpr ⟨s, ih, rfl⟩))
theorem ch_le : ∀ n, n ≤ 5 → ∀ j, j ≤ 5 → ch j n ≤ 10 := by
  intro n hn j hj
  have h : ∀ n, n < 6 → ∀ j, j < 6 → ch j n ≤ 10 := by decide
  exact h n (by omega) j (by omega)
theorem flat_le {α β : Type} {f : α → List β} {m : Nat} : ∀ {l : List α}, (∀ x ∈ l, (f x).length ≤ m) → (l.flatMap f).length ≤ l.length * m
  | [], _ => by simp
  | a :: l, h => by
    rw [List.flatMap_cons, List.length_append, List.length_cons, Nat.succ_mul]
    have h1 := h a (by simp)
    have h2 := flat_le (l := l) (f := f) (m := m) fun x hx => h x (by simp [hx])
    omega
theorem nodup_sub {α : Type} [DecidableEq α] : ∀ {l m : List α}, l.Nodup → (∀ x ∈ l, x ∈ m) → l.length ≤ m.length
  | [], m, _, _ => Nat.zero_le _
  | a :: l, m, hn, hs => by
    obtain ⟨h1, h2⟩ := List.nodup_cons.mp hn
    have ha := hs a (by simp)
    have := nodup_sub (l := l) (m := m.erase a) h2 fun x hx => (List.mem_erase_of_ne (show x ≠ a from fun e => h1 (by rw [← e]; exact hx))).mpr (hs x (by simp [hx]))
    rw [List.length_erase_of_mem ha] at this
    have := List.length_pos_of_mem ha
    simp only [List.length_cons]
    omega
structure KeyOk (hs : Hands) (T : Nat) (k : Kp) : Prop where
  ex : ∃ j h0 h1 h2 h3, k.1 = [h0, h1, h2, h3] ∧ j ≤ T ∧ (h0.length = j ∧ h1.length = j ∧ h2.length = j ∧ h3.length = j) ∧ h0.Sublist (hs.getD 0 []) ∧ h1.Sublist (hs.getD 1 []) ∧ h2.Sublist (hs.getD 2 []) ∧ h3.Sublist (hs.getD 3 [])
  who : k.2.1 < 4
  lo : 0 ≤ k.2.2
  hi : k.2.2 ≤ (T : Int) + 1
def keysOf (hs : Hands) (T : Nat) : List Kp := (List.range (T + 1)).flatMap fun j => (combs j (hs.getD 0 [])).flatMap fun h0 => (combs j (hs.getD 1 [])).flatMap fun h1 => (combs j (hs.getD 2 [])).flatMap fun h2 => (combs j (hs.getD 3 [])).flatMap fun h3 =>
  (List.range 4).flatMap fun t => (List.range (T + 2)).map fun n => ([h0, h1, h2, h3], t, ((n : Nat) : Int))
theorem KeyOk.mem {hs : Hands} {T : Nat} {k : Kp} (h : KeyOk hs T k) : k ∈ keysOf hs T := by
  obtain ⟨⟨j, h0, h1, h2, h3, e, hj, ⟨l0, l1, l2, l3⟩, s0, s1, s2, s3⟩, hw, hlo, hhi⟩ := h
  obtain ⟨a, t, n⟩ := k
  simp only at e hw hlo hhi
  subst e
  have m0 := combs_mem s0
  have m1 := combs_mem s1
  have m2 := combs_mem s2
  have m3 := combs_mem s3
  rw [l0] at m0
  rw [l1] at m1
  rw [l2] at m2
  rw [l3] at m3
  unfold keysOf
  refine List.mem_flatMap.mpr ⟨j, List.mem_range.mpr (by omega), List.mem_flatMap.mpr ⟨h0, m0, List.mem_flatMap.mpr ⟨h1, m1, List.mem_flatMap.mpr ⟨h2, m2, List.mem_flatMap.mpr ⟨h3, m3, List.mem_flatMap.mpr ⟨t, List.mem_range.mpr hw, List.mem_map.mpr ⟨n.toNat, List.mem_range.mpr (by omega), ?_⟩⟩⟩⟩⟩⟩⟩
  have : ((n.toNat : Nat) : Int) = n := by omega
  rw [this]
theorem keysOf_len {hs : Hands} {T : Nat} (hT : T ≤ 5) (hl : ∀ i, i < 4 → (hs.getD i []).length ≤ 5) : (keysOf hs T).length ≤ 1680000 := by
  have c : ∀ i, i < 4 → ∀ j, j ≤ 5 → (combs j (hs.getD i [])).length ≤ 10 := fun i hi j hj => by
    rw [combs_len]
    exact ch_le _ (hl i hi) j hj
  have e1 : ∀ h0 h1 h2 h3 : List Nat, ((List.range 4).flatMap fun t => (List.range (T + 2)).map fun n => (([h0, h1, h2, h3], t, ((n : Nat) : Int)) : Kp)).length ≤ 28 := fun h0 h1 h2 h3 => by
    have := flat_le (l := List.range 4) (f := fun t => (List.range (T + 2)).map fun n => (([h0, h1, h2, h3], t, ((n : Nat) : Int)) : Kp)) (m := 7) fun t _ => by
      rw [List.length_map, List.length_range]
      omega
    rw [List.length_range] at this
    omega
  have up : ∀ {α β : Type} (l : List α) (f : α → List β) (m : Nat), l.length ≤ 10 → (∀ x ∈ l, (f x).length ≤ m) → (l.flatMap f).length ≤ 10 * m := fun l f m h1 h2 => Nat.le_trans (flat_le h2) (Nat.mul_le_mul_right m h1)
  unfold keysOf
  have := flat_le (l := List.range (T + 1)) (f := fun j => (combs j (hs.getD 0 [])).flatMap fun h0 => (combs j (hs.getD 1 [])).flatMap fun h1 => (combs j (hs.getD 2 [])).flatMap fun h2 => (combs j (hs.getD 3 [])).flatMap fun h3 =>
    (List.range 4).flatMap fun t => (List.range (T + 2)).map fun n => (([h0, h1, h2, h3], t, ((n : Nat) : Int)) : Kp)) (m := 280000) fun j hj => by
      have hj : j ≤ 5 := by
        have := List.mem_range.mp hj
        omega
      exact up _ _ 28000 (c 0 (by decide) j hj) fun h0 _ => up _ _ 2800 (c 1 (by decide) j hj) fun h1 _ => up _ _ 280 (c 2 (by decide) j hj) fun h2 _ => up _ _ 28 (c 3 (by decide) j hj) fun h3 _ => e1 h0 h1 h2 h3
  rw [List.length_range] at this
  have h6 : (T + 1) * 280000 ≤ 6 * 280000 := Nat.mul_le_mul_right _ (by omega)
  omega

/-! ### positions that play comes to -/
structure RP (hs : Hands) (T : Nat) (p : Pos) : Prop where
  ok : POk T p
  sub : ∀ i, i < 4 → (hd p i).Sublist (hs.getD i [])
  so : ∀ h ∈ p.hands, h.Pairwise (fun a b => b < a)
theorem RP.played {hs : Hands} {T : Nat} {p : Pos} (r : RP hs T p) (trump : Nat) {c : Nat} (hc : c ∈ hd p (turn p)) : RP hs T (played trump p c) := by
  have e : (Sc20.played trump p c).hands = hands' p c := played_hands trump p c r.ok.few
  refine ⟨r.ok.played trump hc, fun i hi => ?_, fun h hm => ?_⟩
  · show ((Sc20.played trump p c).hands.getD i []).Sublist _
    rw [e, len_set r.ok.four i hi]
    by_cases z : i = turn p
    · rw [if_pos z, z]
      exact List.filter_sublist.trans (r.sub _ (turn_lt p))
    · rw [if_neg z]
      exact r.sub i hi
  · rw [e] at hm
    rcases mem_set_sub hm with z | z
    · exact r.so h z
    · rw [z]
      exact (r.so _ (hd_mem r.ok.four (turn_lt p))).sublist List.filter_sublist
theorem hands4 {p : Pos} (h4 : p.hands.length = 4) : p.hands = [hd p 0, hd p 1, hd p 2, hd p 3] := by
  unfold hd
  match hh : p.hands, h4 with
  | [a, b, c, d], _ => rfl
theorem RP.key {hs : Hands} {T : Nat} {p : Pos} (r : RP hs T p) (ht : p.trick = []) {g : Nat} (hlo : p.won.1 ≤ g) (hhi : g ≤ T + 1) : KeyOk hs T (p.hands, turn p, (g : Int) - (p.won.1 : Int)) := by
  obtain ⟨n, hn, hT⟩ := r.ok.len
  have ho : ∀ i, out1 p i = 0 := fun i => by
    unfold out1
    rw [ht]
    simp
  have l : ∀ i, i < 4 → (hd p i).length = n := fun i hi => by
    have := hn i hi
    rw [ho i] at this
    omega
  refine ⟨⟨n, hd p 0, hd p 1, hd p 2, hd p 3, hands4 r.ok.four, by omega, ⟨l 0 (by decide), l 1 (by decide), l 2 (by decide), l 3 (by decide)⟩, r.sub 0 (by decide), r.sub 1 (by decide), r.sub 2 (by decide), r.sub 3 (by decide)⟩, turn_lt p, ?_, ?_⟩
  · show (0 : Int) ≤ (g : Int) - (p.won.1 : Int)
    omega
  · show (g : Int) - (p.won.1 : Int) ≤ (T : Int) + 1
    omega
theorem RP.start {h : Hands} {leader : Nat} (ok : POk (cardsOf h) (Sc20.start h leader)) (so : ∀ x ∈ h, x.Pairwise (fun a b => b < a)) : RP h (cardsOf h) (Sc20.start h leader) := ⟨ok, fun i _ => List.Sublist.refl _, so⟩
theorem playable_so {hs : Hands} {T : Nat} {p : Pos} (r : RP hs T p) : (playable p).Pairwise (fun a b => b < a) := by
  have h := r.so _ (hd_mem r.ok.four (turn_lt p))
  rw [choices_eq]
  split
  · exact h.sublist List.filter_sublist
  · exact h
theorem playable_nodup {hs : Hands} {T : Nat} {p : Pos} (r : RP hs T p) : (playable p).Nodup := (playable_so r).imp fun h => by omega
theorem playable_len {T : Nat} {p : Pos} (ok : POk T p) : (playable p).length ≤ T := by
  have h : (hd p (turn p)).length ≤ T := by
    obtain ⟨n, hn, hT⟩ := ok.len
    have := hn (turn p) (turn_lt p)
    omega
  rw [choices_eq]
  split
  · exact Nat.le_trans (List.length_filter_le _ _) h
  · exact h
/-- the first of a list in falling order is its highest -/
theorem find_high {f : Nat → Bool} : ∀ {l : List Nat} {m : Nat}, l.Pairwise (fun a b => b < a) → m ∈ l.filter f → (∀ y ∈ l.filter f, y ≤ m) → l.find? f = some m
  | [], m, _, hm, _ => by cases hm
  | a :: l, m, hp, hm, hy => by
    obtain ⟨h1, h2⟩ := List.pairwise_cons.mp hp
    rw [List.find?_cons]
    cases hf : f a with
    | true =>
      have ha : a ∈ (a :: l).filter f := List.mem_filter.mpr ⟨by simp, hf⟩
      have h3 := hy a ha
      have h4 := (List.mem_filter.mp hm).1
      rcases List.mem_cons.mp h4 with q | q
      · rw [q]
      · have := h1 m q
        omega
    | false =>
      have e : (a :: l).filter f = l.filter f := by
        rw [List.filter_cons, hf]
        rfl
      rw [e] at hm hy
      exact find_high h2 hm hy
theorem line_nil {trump : Nat} {p : Pos} (h : left p = 0) : line trump (left p) p = [] := by
  rw [h]
  rfl
theorem line_len (trump : Nat) : ∀ (n : Nat) (p : Pos), (line trump n p).length ≤ n
  | 0, p => Nat.le_refl _
  | n + 1, p => by
    show (match (playable p).find? fun c => worth trump n (played trump p c) == worth trump (n + 1) p with
      | some c => c :: line trump n (played trump p c)
      | none => []).length ≤ n + 1
    cases (playable p).find? fun c => worth trump n (played trump p c) == worth trump (n + 1) p with
    | none => exact Nat.zero_le _
    | some c => exact Nat.succ_le_succ (line_len trump n _)
theorem line_step {hs : Hands} {T : Nat} {p : Pos} (r : RP hs T p) {trump m : Nat} (hl : left p ≠ 0) (hm : m ∈ (playable p).filter fun c => W trump (played trump p c) == W trump p) (hy : ∀ y ∈ (playable p).filter (fun c => W trump (played trump p c) == W trump p), y ≤ m) :
    line trump (left p) p = m :: line trump (left (played trump p m)) (played trump p m) := by
  obtain ⟨n, hn⟩ : ∃ n, left p = n + 1 := ⟨left p - 1, by omega⟩
  have hlp : ∀ c ∈ playable p, left (played trump p c) = n := fun c hc => by
    have := left_played r.ok trump (playable_sub hc)
    omega
  have hf := find_high (playable_so r) hm hy
  have e : (playable p).find? (fun c => worth trump n (played trump p c) == worth trump (n + 1) p) = (playable p).find? (fun c => W trump (played trump p c) == W trump p) := by
    have g : ∀ l : List Nat, (∀ c ∈ l, left (played trump p c) = n) → l.find? (fun c => worth trump n (played trump p c) == worth trump (n + 1) p) = l.find? (fun c => W trump (played trump p c) == W trump p) := by
      intro l
      induction l with
      | nil => intro _; rfl
      | cons a l ih =>
        intro hl2
        have ha := hl2 a (by simp)
        have ea : (worth trump n (played trump p a) == worth trump (n + 1) p) = (W trump (played trump p a) == W trump p) := by
          unfold W
          rw [ha, hn]
        rw [List.find?_cons, List.find?_cons, ea, ih fun c hc => hl2 c (by simp [hc])]
    exact g _ hlp
  have hmp : m ∈ playable p := (List.mem_filter.mp hm).1
  rw [hlp m hmp, hn]
  show (match (playable p).find? fun c => worth trump n (played trump p c) == worth trump (n + 1) p with
    | some c => c :: line trump n (played trump p c)
    | none => []) = _
  rw [e, hf]
theorem best_some {hs : Hands} {T : Nat} {p : Pos} (r : RP hs T p) {trump : Nat} (hl : left p ≠ 0) : (playable p).filter (fun c => W trump (played trump p c) == W trump p) ≠ [] := by
  obtain ⟨c, hc, e⟩ := W_some r.ok trump hl
  intro z
  have : c ∈ (playable p).filter (fun c => W trump (played trump p c) == W trump p) := List.mem_filter.mpr ⟨hc, by simp [e]⟩
  rw [z] at this
  cases this

/-! ### hands as they are read: in falling order, so many bytes -/
structure RO2 (k : Nat) (x : Reading) : Prop where
  su : x.suit ≤ 3
  la : x.last ≤ 13
  so : x.now.Pairwise (· < ·)
  lo : ∀ c ∈ x.now, 13 * x.suit + x.last ≤ c
  old : ∀ h ∈ x.hands, h.Pairwise (fun a b => b < a)
  cnt : k = x.now.length + (x.hands.map List.length).sum + 4 * x.hands.length + (3 - x.suit)
theorem RO2.start : RO2 0 ⟨[], [], 3, 13⟩ := ⟨by decide, by decide, .nil, by simp, by simp, rfl⟩
theorem RO2.step {k : Nat} {x y : Reading} {c : Nat} (r : RO2 k x) (h : take_ x c = some y) : RO2 (k + 1) y := by
  obtain ⟨h1, h2, h3, h4, h5, h6⟩ := r
  rw [take_eq x c h2] at h
  split at h
  · rename_i hr
    cases h
    refine ⟨h1, by simp only; omega, List.pairwise_cons.mpr ⟨fun d hd => ?_, h3⟩, fun d hd => ?_, h5, ?_⟩
    · have := h4 d hd
      omega
    · simp only at hd ⊢
      rcases List.mem_cons.mp hd with q | q
      · omega
      · have := h4 d q
        omega
    · simp only [List.length_cons]
      omega
  · split at h
    · rename_i hs
      cases h
      refine ⟨by simp only; omega, Nat.le_refl _, h3, fun d hd => ?_, h5, ?_⟩
      · have := h4 d hd
        simp only
        omega
      · simp only
        omega
    · split at h
      · rename_i hs
        cases h
        refine ⟨Nat.le_refl _, Nat.le_refl _, .nil, by simp, fun d hd => ?_, ?_⟩
        · rcases List.mem_cons.mp hd with q | q
          · rw [q]
            exact List.pairwise_reverse.mpr h3
          · exact h5 d q
        · simp only [List.length_nil, List.map_cons, List.sum_cons, List.length_reverse, List.length_cons]
          omega
      · cases h
theorem read_so : ∀ (b : Bytes) (k : Nat) (x : Reading) (h : Hands), RO2 k x → Sc20.read k x b = .ok h → (∀ y ∈ h, y.Pairwise (fun a b => b < a)) ∧ (h.map List.length).sum + 15 = k + b.length
  | [], k, x, h, r, e => by
    rw [read_nil] at e
    split at e
    · rename_i hc
      cases e
      refine ⟨fun y hy => ?_, ?_⟩
      · rw [soFar_eq] at hy
        rcases List.mem_append.mp hy with q | q
        · exact r.old y (by simpa using q)
        · rw [List.mem_singleton.mp q]
          exact List.pairwise_reverse.mpr r.so
      · rw [soFar_eq, List.map_append, List.sum_append]
        have := r.cnt
        rw [hc.1, hc.2] at this
        simp only [List.map_reverse, List.sum_reverse, List.map_cons, List.map_nil, List.sum_cons, List.sum_nil, List.length_reverse, List.length_nil]
        omega
    · cases e
  | c :: b, k, x, h, r, e => by
    cases ht : take_ x c with
    | none => rw [read_bad ht] at e; cases e
    | some y =>
      rw [read_cons ht] at e
      obtain ⟨h1, h2⟩ := read_so b (k + 1) y h (r.step ht) e
      refine ⟨h1, ?_⟩
      rw [h2, List.length_cons]
      omega
theorem deal_so {b : Bytes} {h : Hands} (e : deal b = .ok h) (h4 : h.length = 4) : (∀ y ∈ h, y.Pairwise (fun a b => b < a)) ∧ refusal h = 0 ∧ 4 * cardsOf h + 15 = b.length := by
  rw [deal_eq] at e
  cases hq : Sc20.read 0 ⟨[], [], 3, 13⟩ b with
  | error z => rw [hq] at e; cases e
  | ok h' =>
    rw [hq] at e
    simp only at e
    split at e
    · rename_i z
      cases e
      obtain ⟨h1, h2⟩ := read_so b 0 _ _ RO2.start hq
      obtain ⟨_, heq⟩ := refusal_zero z
      refine ⟨h1, z, ?_⟩
      have : (h.map List.length).sum = 4 * cardsOf h := by
        match h, h4, heq with
        | [a, b, c, d], _, heq =>
          have ea := heq a (by simp)
          have eb := heq b (by simp)
          have ec := heq c (by simp)
          have ed := heq d (by simp)
          simp only [List.map_cons, List.map_nil, List.sum_cons, List.sum_nil]
          omega
      omega
    · cases e

/-! ### what is due -/
theorem due_best {t l : Int} {ns : List Int} (hn : ns.length ≤ 300) : PySc20.best t l ns = if ¬ ((0 ≤ t ∧ t ≤ 4) ∧ 0 ≤ l ∧ l ≤ 3) then [-2] else match deal (ns.map Int.toNat) with
    | .error e => [e]
    | .ok h => if 8 < cardsOf h then [-7] else ((worthOf t.toNat (start h l.toNat) l.toNat (cardsOf h) : Nat) : Int) :: (line t.toNat (left (start h l.toNat)) (start h l.toNat)).map fun (n : Nat) => (n : Int) := by
  have w1 : within 0 (ns.length : Int) 300 = true := by simp [within]; omega
  have e : does (.best (ns.map Int.toNat) (ns.length : Int) t l) = if (within 0 (ns.length : Int) 300 && (within 0 t 4 && within 0 l 3)) = false then ok (-2) else match deal (ns.map Int.toNat) with
      | .error e => ok e
      | .ok h => if 8 < cardsOf h then ok (-7) else ⟨worthOf t.toNat (start h l.toNat) l.toNat (cardsOf h), line t.toNat (left (start h l.toNat)) (start h l.toNat)⟩ := rfl
  show (does (.best (ns.map Int.toNat) (ns.length : Int) t l)).v :: (does (.best (ns.map Int.toNat) (ns.length : Int) t l)).b.map (fun (n : Nat) => (n : Int)) = _
  rw [e, w1, Bool.true_and]
  by_cases hd : (0 ≤ t ∧ t ≤ 4) ∧ 0 ≤ l ∧ l ≤ 3
  · have w3 : within 0 t 4 = true := by simp [within]; omega
    have w4 : within 0 l 3 = true := by simp [within]; omega
    rw [w3, w4, if_neg (by decide), if_neg (fun z => z hd)]
    cases deal (ns.map Int.toNat) with
    | error e => rfl
    | ok h =>
      simp only
      by_cases h8 : 8 < cardsOf h
      · rw [if_pos h8, if_pos h8]
        rfl
      · rw [if_neg h8, if_neg h8]
  · have w3 : (within 0 t 4 && within 0 l 3) = false := by
      cases q : (within 0 t 4 && within 0 l 3) with
      | false => rfl
      | true =>
        exfalso
        simp [within] at q
        exact hd ⟨⟨by omega, by omega⟩, by omega, by omega⟩
    rw [w3, if_pos rfl, if_pos hd]
    rfl
theorem due_table {ns : List Int} (hn : ns.length ≤ 300) : PySc20.table ns = match deal (ns.map Int.toNat) with
    | .error e => [e]
    | .ok h => if 8 < cardsOf h then [-7] else 0 :: ((List.range 20).map fun i => worthOf (i / 4) (start h (i % 4)) (i % 4) (cardsOf h)).map fun (n : Nat) => (n : Int) := by
  have w1 : within 0 (ns.length : Int) 300 = true := by simp [within]; omega
  have e : does (.table (ns.map Int.toNat) (ns.length : Int)) = if within 0 (ns.length : Int) 300 = false then ok (-2) else match deal (ns.map Int.toNat) with
      | .error e => ok e
      | .ok h => if 8 < cardsOf h then ok (-7) else ⟨0, (List.range 20).map fun i => worthOf (i / 4) (start h (i % 4)) (i % 4) (cardsOf h)⟩ := rfl
  show (does (.table (ns.map Int.toNat) (ns.length : Int))).v :: (does (.table (ns.map Int.toNat) (ns.length : Int))).b.map (fun (n : Nat) => (n : Int)) = _
  rw [e, w1, if_neg (by decide)]
  cases deal (ns.map Int.toNat) with
  | error e => rfl
  | ok h =>
    simp only
    by_cases h8 : 8 < cardsOf h
    · rw [if_pos h8, if_pos h8]
      rfl
    · rw [if_neg h8, if_neg h8]
end Fh

set_option Elab.async false
set_option linter.all false
/-! The search's path: what holds of it, what falls with every turn; the dict of verdicts. -/
namespace Fh
open PySem L2

/-- a trial on the path: where it stands, its list, its position; its verdict, what is untried -/
structure Rc where
  t : Addr
  u : Addr
  q : Addr
  v : Option Bool
  un : List Nat
  p : Sc20.Pos
structure TopOk (hs : Sc20.Hands) (T trump g : Nat) (r : Rc) : Prop where
  rp : RP hs T r.p
  le : r.p.won.1 ≤ g
  got : ∀ b, r.v = some b → b = vt trump g r.p
  lt : r.v = none → r.p.won.1 < g
  ne : r.v = none → r.un ≠ []
  sub : ∀ c ∈ r.un, c ∈ Sc20.playable r.p
  len : r.un.length ≤ T
  rest : r.v = none → ∀ d ∈ Sc20.playable r.p, d ∈ r.un ∨ vt trump g (Sc20.played trump r.p d) = !wanted r.p
/-- the trials below one whose position is pc -/
def Bel (hs : Sc20.Hands) (T trump g : Nat) (pc : Sc20.Pos) : List Rc → Prop
  | [] => True
  | r :: st => RP hs T r.p ∧ r.v = none ∧ r.p.won.1 < g ∧ (∀ c ∈ r.un, c ∈ Sc20.playable r.p) ∧ r.un.length ≤ T ∧
      (∃ c ∈ Sc20.playable r.p, pc = Sc20.played trump r.p c ∧ ∀ d ∈ Sc20.playable r.p, d ∈ r.un ∨ d = c ∨ vt trump g (Sc20.played trump r.p d) = !wanted r.p) ∧ Bel hs T trump g r.p st
def Fc (T : Nat) : Nat → Nat
  | 0 => 3
  | n + 1 => 3 + T * Fc T n
def cost (T : Nat) (r : Rc) : Nat := match r.v with
  | some _ => 1
  | none => 2 + r.un.length * Fc T (Sc20.left r.p - 1)
def mu (T : Nat) (st : List Rc) : Nat := (st.map (cost T)).sum
theorem Fc_pos (T n : Nat) : 3 ≤ Fc T n := by
  cases n with
  | zero => exact Nat.le_refl _
  | succ n => show 3 ≤ 3 + T * Fc T n; omega
theorem left_ne {hs : Sc20.Hands} {T : Nat} {p : Sc20.Pos} (r : RP hs T p) {c : Nat} (hc : c ∈ Sc20.playable p) : Sc20.left p ≠ 0 := by
  have := left_played r.ok 0 (playable_sub hc)
  omega
theorem cost_new {hs : Sc20.Hands} {T trump g : Nat} {r : Rc} (h : TopOk hs T trump g r) : cost T r + 1 ≤ Fc T (Sc20.left r.p) := by
  unfold cost
  cases hv : r.v with
  | some b =>
    have := Fc_pos T (Sc20.left r.p)
    show 1 + 1 ≤ _
    omega
  | none =>
    show 2 + r.un.length * Fc T (Sc20.left r.p - 1) + 1 ≤ _
    have hne := h.ne hv
    obtain ⟨c, hc⟩ := List.exists_mem_of_ne_nil _ hne
    have hl := left_ne h.rp (h.sub c hc)
    obtain ⟨n, hn⟩ : ∃ n, Sc20.left r.p = n + 1 := ⟨Sc20.left r.p - 1, by omega⟩
    rw [hn]
    show 2 + r.un.length * Fc T (n + 1 - 1) + 1 ≤ 3 + T * Fc T n
    rw [Nat.add_sub_cancel]
    have := Nat.mul_le_mul_right (Fc T n) h.len
    omega
/-- a card is tried -/
theorem push_bel {hs : Sc20.Hands} {T trump g : Nat} {r : Rc} {st : List Rc} {c : Nat} {un' : List Nat} (h : TopOk hs T trump g r) (b : Bel hs T trump g r.p st) (hv : r.v = none) (hun : r.un = un' ++ [c]) :
    Bel hs T trump g (Sc20.played trump r.p c) ({ r with un := un' } :: st) := by
  have hc : c ∈ Sc20.playable r.p := h.sub c (by rw [hun]; simp)
  refine ⟨h.rp, hv, h.lt hv, fun d hd => h.sub d (by rw [hun]; simp [hd]), ?_, ⟨c, hc, rfl, fun d hd => ?_⟩, b⟩
  · have := h.len
    rw [hun, List.length_append] at this
    show un'.length ≤ T
    omega
  · rcases h.rest hv d hd with q | q
    · rw [hun] at q
      rcases List.mem_append.mp q with z | z
      · exact .inl z
      · exact .inr (.inl (List.mem_singleton.mp z))
    · exact .inr (.inr q)
theorem push_mu {hs : Sc20.Hands} {T trump g : Nat} {r rc : Rc} {st : List Rc} {c : Nat} {un' : List Nat} (h : TopOk hs T trump g r) (hv : r.v = none) (hun : r.un = un' ++ [c]) (hc : TopOk hs T trump g rc) (hp : rc.p = Sc20.played trump r.p c) :
    mu T (rc :: { r with un := un' } :: st) < mu T (r :: st) := by
  have hm : c ∈ Sc20.playable r.p := h.sub c (by rw [hun]; simp)
  have hl := left_played h.rp.ok trump (playable_sub hm)
  have h1 := cost_new hc
  rw [hp, show Sc20.left (Sc20.played trump r.p c) = Sc20.left r.p - 1 by omega] at h1
  unfold mu
  rw [List.map_cons, List.map_cons, List.map_cons, List.sum_cons, List.sum_cons, List.sum_cons]
  have e1 : cost T r = 2 + (un'.length + 1) * Fc T (Sc20.left r.p - 1) := by
    unfold cost
    rw [hv, hun, List.length_append, List.length_singleton]
  have e2 : cost T { r with un := un' } = 2 + un'.length * Fc T (Sc20.left r.p - 1) := by
    unfold cost
    simp only [hv]
  rw [e1, e2, Nat.succ_mul]
  omega
/-- a verdict is heard -/
def heardR (r : Rc) (b : Bool) : Rc := if b = wanted r.p ∨ r.un = [] then { r with v := some b } else r
theorem heardR_t (r : Rc) (b : Bool) : (heardR r b).t = r.t ∧ (heardR r b).u = r.u ∧ (heardR r b).q = r.q ∧ (heardR r b).un = r.un ∧ (heardR r b).p = r.p := by
  unfold heardR
  split <;> exact ⟨rfl, rfl, rfl, rfl, rfl⟩
theorem pop_ok {hs : Sc20.Hands} {T trump g : Nat} {pc : Sc20.Pos} {r : Rc} {st : List Rc} (b : Bel hs T trump g pc (r :: st)) : TopOk hs T trump g (heardR r (vt trump g pc)) ∧ Bel hs T trump g (heardR r (vt trump g pc)).p st := by
  obtain ⟨rp, hv, hlt, hsub, hlen, ⟨c, hc, rfl, hrest⟩, hb⟩ := b
  obtain ⟨h1, h2⟩ := hear_ok rp.ok hc hrest
  have hp : (heardR r (vt trump g (Sc20.played trump r.p c))).p = r.p := (heardR_t r _).2.2.2.2
  refine ⟨?_, by rw [hp]; exact hb⟩
  unfold heardR
  split
  · rename_i z
    exact ⟨rp, Nat.le_of_lt hlt, fun b e => (by cases e; exact (h1 z).symm), fun e => (by cases e), fun e => (by cases e), hsub, hlen, fun e => (by cases e)⟩
  · rename_i z
    exact ⟨rp, Nat.le_of_lt hlt, fun b e => (by rw [hv] at e; cases e), fun _ => hlt, fun _ e => z (.inr e), hsub, hlen, fun _ => h2 z⟩
theorem pop_mu {hs : Sc20.Hands} {T trump g : Nat} {pc : Sc20.Pos} {rt r : Rc} {st : List Rc} {v b : Bool} (hb : Bel hs T trump g pc (r :: st)) (hv : rt.v = some v) : mu T (heardR r b :: st) < mu T (rt :: r :: st) := by
  obtain ⟨_, hr, _⟩ := hb
  unfold mu
  rw [List.map_cons, List.map_cons, List.map_cons, List.sum_cons, List.sum_cons, List.sum_cons]
  have e1 : cost T rt = 1 := by unfold cost; rw [hv]
  have e2 : cost T (heardR r b) ≤ cost T r := by
    unfold heardR
    split
    · show 1 ≤ cost T r
      unfold cost
      rw [hr]
      show 1 ≤ 2 + _
      omega
    · exact Nat.le_refl _
  omega
theorem pop_mu1 {T : Nat} {rt : Rc} {v : Bool} (hv : rt.v = some v) : mu T [] < mu T [rt] := by
  unfold mu
  have e1 : cost T rt = 1 := by unfold cost; rw [hv]
  simp [e1]

/-! ### the dict of verdicts -/
structure Memo (H : Hp) (vd : Addr) (hs : Sc20.Hands) (T trump : Nat) (m : MapP) : Prop where
  at_ : H vd = some (vD vd m)
  key : ∀ x ∈ m, KeyAt H x.2.1 x.1
  ok : ∀ x ∈ m, x.2.2 = decide (x.1.2.2 ≤ ((ext trump x.1.1 x.1.2.1 : Nat) : Int))
  nd : (m.map (·.1)).Nodup
  kok : ∀ x ∈ m, KeyOk hs T x.1
/-- what is no dict of verdicts stays -/
structure NX (H H' : Hp) : Prop where
  kp : ∀ b o, H b = some o → (∀ φ, o ≠ .ext φ) → H' b = some o
  dm : ∀ b, H' b = none → H b = none
theorem NX.refl (H : Hp) : NX H H := ⟨fun _ _ e _ => e, fun _ e => e⟩
theorem NX.trans {H H1 H2 : Hp} (a : NX H H1) (b : NX H1 H2) : NX H H2 := ⟨fun c o e n => b.kp c o (a.kp c o e n) n, fun c e => a.dm c (b.dm c e)⟩
theorem NX.of {H H' : Hp} (s : Same H H') : NX H H' := ⟨fun b o e _ => s b o e, fun _ e => s.free e⟩
theorem NX.tup {H H' : Hp} (a : NX H H') : ∀ b xs, H b = some (.tup xs) → H' b = some (.tup xs) := fun b xs e => a.kp b _ e (by intro φ z; cases z)
theorem NX.lst {H H' : Hp} (a : NX H H') {b : Addr} {xs : List V} (e : H b = some (.lst xs)) : H' b = some (.lst xs) := a.kp b _ e (by intro φ z; cases z)
theorem NX.ins {H H' : Hp} (a : NX H H') {b C dx : Addr} {fs : List (Str × V)} (e : H b = some (.ins C dx fs)) : H' b = some (.ins C dx fs) := a.kp b _ e (by intro φ z; cases z)
theorem NX.seq {K : PySem.W.Frag} {H H' : Hp} {a : Addr} {xs : List V} (s : NX H H') (h : SqL K H a xs) : SqL K H' a xs := by
  rcases h with (h | ⟨o, h⟩) | h
  · exact .inl (.inl (s.lst h))
  · exact .inl (.inr ⟨o, s.kp _ _ h (by intro φ z; cases z)⟩)
  · exact .inr h
/-- a change at one address that was none before -/
theorem NX.new {H H1 : Hp} (a : NX H H1) {x : Addr} (h : H x = none) (o : HO) : NX H (upd H1 x o) := by
  refine ⟨fun b u e n => ?_, fun b e => ?_⟩
  · rw [upd_ne (ne_of_none e h)]
    exact a.kp b u e n
  · by_cases z : b = x
    · rw [z]; exact h
    · rw [upd_ne z] at e
      exact a.dm b e
theorem Memo.same {H H' : Hp} {vd : Addr} {hs : Sc20.Hands} {T trump : Nat} {m : MapP} (a : Memo H vd hs T trump m) (s : Same H H') : Memo H' vd hs T trump m :=
  ⟨s _ _ a.at_, fun x hx => (a.key x hx).keep fun b xs e => s b _ e, a.ok, a.nd, a.kok⟩
/-- a change of something else than the dict and the tuples -/
theorem Memo.keep {H H' : Hp} {vd : Addr} {hs : Sc20.Hands} {T trump : Nat} {m : MapP} (a : Memo H vd hs T trump m) (k : H' vd = H vd) (q : ∀ b xs, H b = some (.tup xs) → H' b = some (.tup xs)) : Memo H' vd hs T trump m :=
  ⟨k.trans a.at_, fun x hx => (a.key x hx).keep q, a.ok, a.nd, a.kok⟩
theorem Memo.size {H : Hp} {vd : Addr} {hs : Sc20.Hands} {T trump : Nat} {m : MapP} (a : Memo H vd hs T trump m) (hT : T ≤ 5) (hl : ∀ i, i < 4 → (hs.getD i []).length ≤ 5) : m.length < sizeLine := by
  have h1 : (m.map (·.1)).length ≤ (keysOf hs T).length := nodup_sub a.nd fun k hk => by
    obtain ⟨x, hx, rfl⟩ := List.mem_map.mp hk
    exact (a.kok x hx).mem
  have h2 := keysOf_len hT hl
  rw [List.length_map] at h1
  exact Nat.lt_of_le_of_lt (Nat.le_trans h1 h2) (by decide)
theorem look_mem {m : MapP} {k : KeyP} {b : Bool} (h : lookP m k = some b) : ∃ x ∈ m, x.1 = k ∧ x.2.2 = b := by
  unfold lookP at h
  cases hf : m.find? (fun x => decide (x.1 = k)) with
  | none => rw [hf] at h; cases h
  | some x =>
    rw [hf] at h
    cases h
    have hd : decide (x.1 = k) = true := by simpa using List.find?_some hf
    exact ⟨x, List.mem_of_find?_eq_some hf, of_decide_eq_true hd, rfl⟩
theorem ext_vt {hs : Sc20.Hands} {T trump g : Nat} {p : Sc20.Pos} (r : RP hs T p) (ht : p.trick = []) : decide ((g : Int) - (p.won.1 : Int) ≤ ((ext trump p.hands (Sc20.turn p) : Nat) : Int)) = vt trump g p := by
  have e : Sc20.turn p = p.leader := by
    have := r.ok.lead
    unfold Sc20.turn
    rw [ht]
    simp only [List.length_nil]
    omega
  unfold vt
  rw [W_ext trump ht, e]
  by_cases z : g ≤ p.won.1 + ext trump p.hands p.leader
  · rw [decide_eq_true z, decide_eq_true (by omega)]
  · rw [decide_eq_false z, decide_eq_false (by omega)]
theorem Memo.look {H : Hp} {vd : Addr} {hs : Sc20.Hands} {T trump g : Nat} {m : MapP} {p : Sc20.Pos} {b : Bool} (a : Memo H vd hs T trump m) (r : RP hs T p) (ht : p.trick = []) (h : lookP m (p.hands, Sc20.turn p, (g : Int) - (p.won.1 : Int)) = some b) : b = vt trump g p := by
  obtain ⟨x, hx, e1, e2⟩ := look_mem h
  have := a.ok x hx
  rw [e2, e1] at this
  rw [this]
  exact ext_vt r ht
theorem putP_nodup {m : MapP} {k : KeyP} {a : Addr} {b : Bool} (h : (m.map (·.1)).Nodup) : ((putP m k a b).map (·.1)).Nodup := by
  unfold putP
  split
  · rw [List.map_map]
    have e : (fun x : KeyP × Addr × Bool => x.1) ∘ (fun x : KeyP × Addr × Bool => if x.1 = k then (x.1, x.2.1, b) else x) = fun x => x.1 := by
      funext x
      show (if x.1 = k then (x.1, x.2.1, b) else x).1 = x.1
      split <;> rfl
    rw [e]
    exact h
  · rename_i hn
    rw [List.map_append]
    refine List.nodup_append.mpr ⟨h, by simp, fun x hx y hy e => hn ?_⟩
    have hy : y = k := by simpa using hy
    obtain ⟨z, hz, rfl⟩ := List.mem_map.mp hx
    unfold lookP
    rw [Option.isSome_map, List.find?_isSome]
    exact ⟨z, hz, decide_eq_true (e.trans hy)⟩
/-- a verdict is kept -/
theorem Memo.put {H : Hp} {vd : Addr} {hs : Sc20.Hands} {T trump g : Nat} {m : MapP} {p : Sc20.Pos} {a : Addr} (M : Memo H vd hs T trump m) (r : RP hs T p) (ht : p.trick = []) (hlo : p.won.1 ≤ g) (hhi : g ≤ T + 1)
    (hk : KeyAt H a (p.hands, Sc20.turn p, (g : Int) - (p.won.1 : Int))) :
    Memo (upd H vd (vD vd (putP m (p.hands, Sc20.turn p, (g : Int) - (p.won.1 : Int)) a (vt trump g p)))) vd hs T trump (putP m (p.hands, Sc20.turn p, (g : Int) - (p.won.1 : Int)) a (vt trump g p)) := by
  have q : ∀ b xs, H b = some (.tup xs) → (upd H vd (vD vd (putP m (p.hands, Sc20.turn p, (g : Int) - (p.won.1 : Int)) a (vt trump g p)))) b = some (.tup xs) := fun b xs e => by
    rw [upd_ne (ne_of e M.at_ (by intro z; cases z))]
    exact e
  refine ⟨upd_same, fun x hx => ?_, fun x hx => ?_, putP_nodup M.nd, fun x hx => ?_⟩
  · rcases putP_mem hx with ⟨y, hy, e1, e2, _⟩ | e
    · rw [← e1, ← e2]
      exact (M.key y hy).keep q
    · rw [e]
      exact hk.keep q
  · rcases putP_mem hx with ⟨y, hy, e1, e2, e3⟩ | e
    · rcases e3 with z | ⟨z1, z2⟩
      · rw [← z, ← e1]
        exact M.ok y hy
      · rw [z2, z1]
        exact (ext_vt r ht).symm
    · rw [e]
      exact (ext_vt r ht).symm
  · rcases putP_mem hx with ⟨y, hy, e1, _⟩ | e
    · rw [← e1]
      exact M.kok y hy
    · rw [e]
      exact r.key ht hlo hhi
theorem Memo.empty {H : Hp} {vd : Addr} {hs : Sc20.Hands} {T trump : Nat} (h : H vd = some (vD vd [])) : Memo H vd hs T trump [] := ⟨h, by simp, by simp, by simp, by simp⟩
end Fh

set_option Elab.async false
set_option linter.all false
set_option maxRecDepth 100000
namespace Fh
open PySem L2
def top (i : Nat) : Stmt := PySem.Challenge.pw_fourhands_s05_best.main.body.getD i (.Pass ⟨0, 0, 0, 0⟩)
abbrev s_side_of : Stmt := top 7
abbrev s_player_after : Stmt := top 8
abbrev s_suit_of : Stmt := top 9
abbrev s_Position_init : Stmt := inClass (top 13) 0
abbrev s_Position_choices : Stmt := inClass (top 13) 1
abbrev s_Position_after : Stmt := inClass (top 13) 2
abbrev s_Position_is_over : Stmt := inClass (top 13) 3
abbrev s_start_of_play : Stmt := top 14
abbrev s_beats : Stmt := top 15
abbrev s_without : Stmt := top 16
abbrev s_one_more : Stmt := top 17
abbrev s_Reader_init : Stmt := inClass (top 25) 0
abbrev s_Reader_open_suit : Stmt := inClass (top 25) 1
abbrev s_Reader_take : Stmt := inClass (top 25) 2
abbrev s_Reader_may_end : Stmt := inClass (top 25) 3
abbrev s_read_deal : Stmt := top 26
abbrev s_refusal_of_hands : Stmt := top 27
abbrev s_has_shared_card : Stmt := top 28
abbrev s_Trial_init : Stmt := inClass (top 30) 0
abbrev s_Trial_next_position : Stmt := inClass (top 30) 1
abbrev s_Trial_hear : Stmt := inClass (top 30) 2
abbrev s_Search_init : Stmt := inClass (top 31) 0
abbrev s_Search_trial_of : Stmt := inClass (top 31) 1
abbrev s_Search_keep : Stmt := inClass (top 31) 2
abbrev s_Search_reaches : Stmt := inClass (top 31) 3
abbrev s_Search_worth : Stmt := inClass (top 31) 4
abbrev s_Search_leaders_worth : Stmt := inClass (top 31) 5
abbrev s_Search_best_card : Stmt := inClass (top 31) 6
abbrev s_Search_best_line : Stmt := inClass (top 31) 7
abbrev s_key_of : Stmt := top 32
abbrev s_best_play : Stmt := top 33
abbrev s_best : Stmt := top 39
abbrev s_may_lead : Stmt := top 40
abbrev s_refusal_to_search : Stmt := top 41
/-- the addresses of the text's classes, defs and tables -/
structure Ad where
  C_Position : Addr
  C_Reader : Addr
  C_Trial : Addr
  C_Search : Addr
  a_RANK_OF_LETTER : Addr
  f_side_of : Addr
  d_side_of : FuncData
  f_player_after : Addr
  d_player_after : FuncData
  f_suit_of : Addr
  d_suit_of : FuncData
  f_Position_init : Addr
  d_Position_init : FuncData
  f_Position_choices : Addr
  d_Position_choices : FuncData
  f_Position_after : Addr
  d_Position_after : FuncData
  f_Position_is_over : Addr
  d_Position_is_over : FuncData
  f_start_of_play : Addr
  d_start_of_play : FuncData
  f_beats : Addr
  d_beats : FuncData
  f_without : Addr
  d_without : FuncData
  f_one_more : Addr
  d_one_more : FuncData
  f_Reader_init : Addr
  d_Reader_init : FuncData
  f_Reader_open_suit : Addr
  d_Reader_open_suit : FuncData
  f_Reader_take : Addr
  d_Reader_take : FuncData
  f_Reader_may_end : Addr
  d_Reader_may_end : FuncData
  f_read_deal : Addr
  d_read_deal : FuncData
  f_refusal_of_hands : Addr
  d_refusal_of_hands : FuncData
  f_has_shared_card : Addr
  d_has_shared_card : FuncData
  f_Trial_init : Addr
  d_Trial_init : FuncData
  f_Trial_next_position : Addr
  d_Trial_next_position : FuncData
  f_Trial_hear : Addr
  d_Trial_hear : FuncData
  f_Search_init : Addr
  d_Search_init : FuncData
  f_Search_trial_of : Addr
  d_Search_trial_of : FuncData
  f_Search_keep : Addr
  d_Search_keep : FuncData
  f_Search_reaches : Addr
  d_Search_reaches : FuncData
  f_Search_worth : Addr
  d_Search_worth : FuncData
  f_Search_leaders_worth : Addr
  d_Search_leaders_worth : FuncData
  f_Search_best_card : Addr
  d_Search_best_card : FuncData
  f_Search_best_line : Addr
  d_Search_best_line : FuncData
  f_key_of : Addr
  d_key_of : FuncData
  f_best_play : Addr
  d_best_play : FuncData
  f_best : Addr
  d_best : FuncData
  f_may_lead : Addr
  d_may_lead : FuncData
  f_refusal_to_search : Addr
  d_refusal_to_search : FuncData
structure Txt (K : PySem.W.Frag) (mg : Str → Option Value) (A : Ad) : Prop where
  g_PLAYERS : GI mg "PLAYERS" (4)
  g_RANKS : GI mg "RANKS" (13)
  g_NO_SUIT : GI mg "NO_SUIT" (-1)
  g_NO_CARD : GI mg "NO_CARD" (-1)
  g_NOBODY : GI mg "NOBODY" (4)
  g_SPADES : GI mg "SPADES" (3)
  g_RANK_OF_LETTER : mg "RANK_OF_LETTER" = some (.ref A.a_RANK_OF_LETTER)
  d_RANK_OF_LETTER : KD K A.a_RANK_OF_LETTER [(50, V.int (0)), (51, V.int (1)), (52, V.int (2)), (53, V.int (3)), (54, V.int (4)), (55, V.int (5)), (56, V.int (6)), (57, V.int (7)), (84, V.int (8)), (74, V.int (9)), (81, V.int (10)), (75, V.int (11)), (65, V.int (12))]
  g_POINT : GI mg "POINT" (46)
  g_CLUBS : GI mg "CLUBS" (0)
  g_BLANK : GI mg "BLANK" (32)
  g_MISPLACED : GI mg "MISPLACED" (-100)
  g_UNEVEN : GI mg "UNEVEN" (-5)
  g_SHARED : GI mg "SHARED" (-6)
  g_LONGEST_TEXT : GI mg "LONGEST_TEXT" (300)
  g_OUT_OF_RANGE : GI mg "OUT_OF_RANGE" (-2)
  g_NO_TRUMP : GI mg "NO_TRUMP" (4)
  g_MOST_CARDS_SEARCHED : GI mg "MOST_CARDS_SEARCHED" (8)
  g_TOO_MANY_CARDS : GI mg "TOO_MANY_CARDS" (-7)
  z_list : mg "list" = none
  z_len : mg "len" = none
  z_tuple : mg "tuple" = none
  z_enumerate : mg "enumerate" = none
  z_any : mg "any" = none
  z_sorted : mg "sorted" = none
  z_max : mg "max" = none
  c_Position : Cls K A.C_Position
  m_Position : mg "Position" = some (.ref A.C_Position)
  k_Position : Mk K A.C_Position A.f_Position_init
  n_Position_trump : NoAttr K A.C_Position "trump"
  n_Position_hands : NoAttr K A.C_Position "hands"
  n_Position_turn : NoAttr K A.C_Position "turn"
  n_Position_taken : NoAttr K A.C_Position "taken"
  n_Position_laid : NoAttr K A.C_Position "laid"
  n_Position_led : NoAttr K A.C_Position "led"
  n_Position_top : NoAttr K A.C_Position "top"
  n_Position_holder : NoAttr K A.C_Position "holder"
  c_Reader : Cls K A.C_Reader
  m_Reader : mg "Reader" = some (.ref A.C_Reader)
  k_Reader : Mk K A.C_Reader A.f_Reader_init
  n_Reader_hands : NoAttr K A.C_Reader "hands"
  n_Reader_refusal : NoAttr K A.C_Reader "refusal"
  n_Reader_suit : NoAttr K A.C_Reader "suit"
  n_Reader_bound : NoAttr K A.C_Reader "bound"
  c_Trial : Cls K A.C_Trial
  m_Trial : mg "Trial" = some (.ref A.C_Trial)
  k_Trial : Mk K A.C_Trial A.f_Trial_init
  n_Trial_position : NoAttr K A.C_Trial "position"
  n_Trial_verdict : NoAttr K A.C_Trial "verdict"
  n_Trial_untried : NoAttr K A.C_Trial "untried"
  c_Search : Cls K A.C_Search
  m_Search : mg "Search" = some (.ref A.C_Search)
  k_Search : Mk K A.C_Search A.f_Search_init
  n_Search_tricks : NoAttr K A.C_Search "tricks"
  n_Search_verdicts : NoAttr K A.C_Search "verdicts"
  F_side_of : Fun K "side_of" "side_of" s_side_of A.f_side_of A.d_side_of
  b_side_of : Binds K A.d_side_of ["player"] []
  m_side_of : mg "side_of" = some (.ref A.f_side_of)
  F_player_after : Fun K "player_after" "player_after" s_player_after A.f_player_after A.d_player_after
  b_player_after : Binds K A.d_player_after ["player"] []
  m_player_after : mg "player_after" = some (.ref A.f_player_after)
  F_suit_of : Fun K "suit_of" "suit_of" s_suit_of A.f_suit_of A.d_suit_of
  b_suit_of : Binds K A.d_suit_of ["card"] []
  m_suit_of : mg "suit_of" = some (.ref A.f_suit_of)
  F_Position_init : Fun K "__init__" "Position.__init__" s_Position_init A.f_Position_init A.d_Position_init
  b_Position_init : Binds K A.d_Position_init ["self", "trump", "hands", "turn", "taken"] []
  M_Position_init : Meth K A.C_Position "__init__" A.f_Position_init
  F_Position_choices : Fun K "choices" "Position.choices" s_Position_choices A.f_Position_choices A.d_Position_choices
  b_Position_choices : Binds K A.d_Position_choices ["self"] []
  M_Position_choices : Meth K A.C_Position "choices" A.f_Position_choices
  F_Position_after : Fun K "after" "Position.after" s_Position_after A.f_Position_after A.d_Position_after
  b_Position_after : Binds K A.d_Position_after ["self", "card"] []
  M_Position_after : Meth K A.C_Position "after" A.f_Position_after
  F_Position_is_over : Fun K "is_over" "Position.is_over" s_Position_is_over A.f_Position_is_over A.d_Position_is_over
  b_Position_is_over : Binds K A.d_Position_is_over ["self"] []
  M_Position_is_over : Meth K A.C_Position "is_over" A.f_Position_is_over
  F_start_of_play : Fun K "start_of_play" "start_of_play" s_start_of_play A.f_start_of_play A.d_start_of_play
  b_start_of_play : Binds K A.d_start_of_play ["trump", "leader", "hands"] []
  m_start_of_play : mg "start_of_play" = some (.ref A.f_start_of_play)
  F_beats : Fun K "beats" "beats" s_beats A.f_beats A.d_beats
  b_beats : Binds K A.d_beats ["card", "top", "trump"] []
  m_beats : mg "beats" = some (.ref A.f_beats)
  F_without : Fun K "without" "without" s_without A.f_without A.d_without
  b_without : Binds K A.d_without ["hands", "player", "card"] []
  m_without : mg "without" = some (.ref A.f_without)
  F_one_more : Fun K "one_more" "one_more" s_one_more A.f_one_more A.d_one_more
  b_one_more : Binds K A.d_one_more ["taken", "player"] []
  m_one_more : mg "one_more" = some (.ref A.f_one_more)
  F_Reader_init : Fun K "__init__" "Reader.__init__" s_Reader_init A.f_Reader_init A.d_Reader_init
  b_Reader_init : Binds K A.d_Reader_init ["self"] []
  M_Reader_init : Meth K A.C_Reader "__init__" A.f_Reader_init
  F_Reader_open_suit : Fun K "open_suit" "Reader.open_suit" s_Reader_open_suit A.f_Reader_open_suit A.d_Reader_open_suit
  b_Reader_open_suit : Binds K A.d_Reader_open_suit ["self", "suit"] []
  M_Reader_open_suit : Meth K A.C_Reader "open_suit" A.f_Reader_open_suit
  F_Reader_take : Fun K "take" "Reader.take" s_Reader_take A.f_Reader_take A.d_Reader_take
  b_Reader_take : Binds K A.d_Reader_take ["self", "byte"] []
  M_Reader_take : Meth K A.C_Reader "take" A.f_Reader_take
  F_Reader_may_end : Fun K "may_end" "Reader.may_end" s_Reader_may_end A.f_Reader_may_end A.d_Reader_may_end
  b_Reader_may_end : Binds K A.d_Reader_may_end ["self"] []
  M_Reader_may_end : Meth K A.C_Reader "may_end" A.f_Reader_may_end
  F_read_deal : Fun K "read_deal" "read_deal" s_read_deal A.f_read_deal A.d_read_deal
  b_read_deal : Binds K A.d_read_deal ["text"] []
  m_read_deal : mg "read_deal" = some (.ref A.f_read_deal)
  F_refusal_of_hands : Fun K "refusal_of_hands" "refusal_of_hands" s_refusal_of_hands A.f_refusal_of_hands A.d_refusal_of_hands
  b_refusal_of_hands : Binds K A.d_refusal_of_hands ["hands"] []
  m_refusal_of_hands : mg "refusal_of_hands" = some (.ref A.f_refusal_of_hands)
  F_has_shared_card : Fun K "has_shared_card" "has_shared_card" s_has_shared_card A.f_has_shared_card A.d_has_shared_card
  b_has_shared_card : Binds K A.d_has_shared_card ["hands"] []
  m_has_shared_card : mg "has_shared_card" = some (.ref A.f_has_shared_card)
  F_Trial_init : Fun K "__init__" "Trial.__init__" s_Trial_init A.f_Trial_init A.d_Trial_init
  b_Trial_init : Binds K A.d_Trial_init ["self", "position", "verdict"] []
  M_Trial_init : Meth K A.C_Trial "__init__" A.f_Trial_init
  F_Trial_next_position : Fun K "next_position" "Trial.next_position" s_Trial_next_position A.f_Trial_next_position A.d_Trial_next_position
  b_Trial_next_position : Binds K A.d_Trial_next_position ["self"] []
  M_Trial_next_position : Meth K A.C_Trial "next_position" A.f_Trial_next_position
  F_Trial_hear : Fun K "hear" "Trial.hear" s_Trial_hear A.f_Trial_hear A.d_Trial_hear
  b_Trial_hear : Binds K A.d_Trial_hear ["self", "verdict"] []
  M_Trial_hear : Meth K A.C_Trial "hear" A.f_Trial_hear
  F_Search_init : Fun K "__init__" "Search.__init__" s_Search_init A.f_Search_init A.d_Search_init
  b_Search_init : Binds K A.d_Search_init ["self", "tricks"] []
  M_Search_init : Meth K A.C_Search "__init__" A.f_Search_init
  F_Search_trial_of : Fun K "trial_of" "Search.trial_of" s_Search_trial_of A.f_Search_trial_of A.d_Search_trial_of
  b_Search_trial_of : Binds K A.d_Search_trial_of ["self", "position", "goal"] []
  M_Search_trial_of : Meth K A.C_Search "trial_of" A.f_Search_trial_of
  F_Search_keep : Fun K "keep" "Search.keep" s_Search_keep A.f_Search_keep A.d_Search_keep
  b_Search_keep : Binds K A.d_Search_keep ["self", "trial", "goal"] []
  M_Search_keep : Meth K A.C_Search "keep" A.f_Search_keep
  F_Search_reaches : Fun K "reaches" "Search.reaches" s_Search_reaches A.f_Search_reaches A.d_Search_reaches
  b_Search_reaches : Binds K A.d_Search_reaches ["self", "position", "goal"] []
  M_Search_reaches : Meth K A.C_Search "reaches" A.f_Search_reaches
  F_Search_worth : Fun K "worth" "Search.worth" s_Search_worth A.f_Search_worth A.d_Search_worth
  b_Search_worth : Binds K A.d_Search_worth ["self", "position"] []
  M_Search_worth : Meth K A.C_Search "worth" A.f_Search_worth
  F_Search_leaders_worth : Fun K "leaders_worth" "Search.leaders_worth" s_Search_leaders_worth A.f_Search_leaders_worth A.d_Search_leaders_worth
  b_Search_leaders_worth : Binds K A.d_Search_leaders_worth ["self", "start"] []
  M_Search_leaders_worth : Meth K A.C_Search "leaders_worth" A.f_Search_leaders_worth
  F_Search_best_card : Fun K "best_card" "Search.best_card" s_Search_best_card A.f_Search_best_card A.d_Search_best_card
  b_Search_best_card : Binds K A.d_Search_best_card ["self", "position"] []
  M_Search_best_card : Meth K A.C_Search "best_card" A.f_Search_best_card
  F_Search_best_line : Fun K "best_line" "Search.best_line" s_Search_best_line A.f_Search_best_line A.d_Search_best_line
  b_Search_best_line : Binds K A.d_Search_best_line ["self", "position"] []
  M_Search_best_line : Meth K A.C_Search "best_line" A.f_Search_best_line
  F_key_of : Fun K "key_of" "key_of" s_key_of A.f_key_of A.d_key_of
  b_key_of : Binds K A.d_key_of ["position", "goal"] []
  m_key_of : mg "key_of" = some (.ref A.f_key_of)
  F_best_play : Fun K "best_play" "best_play" s_best_play A.f_best_play A.d_best_play
  b_best_play : Binds K A.d_best_play ["trump", "leader", "hands"] []
  m_best_play : mg "best_play" = some (.ref A.f_best_play)
  F_best : Fun K "best" "best" s_best A.f_best A.d_best
  b_best : Binds K A.d_best ["trump", "leader", "text"] []
  m_best : mg "best" = some (.ref A.f_best)
  F_may_lead : Fun K "may_lead" "may_lead" s_may_lead A.f_may_lead A.d_may_lead
  b_may_lead : Binds K A.d_may_lead ["trump", "leader"] []
  m_may_lead : mg "may_lead" = some (.ref A.f_may_lead)
  F_refusal_to_search : Fun K "refusal_to_search" "refusal_to_search" s_refusal_to_search A.f_refusal_to_search A.d_refusal_to_search
  b_refusal_to_search : Binds K A.d_refusal_to_search ["reader"] []
  m_refusal_to_search : mg "refusal_to_search" = some (.ref A.f_refusal_to_search)
theorem sc_side_of : FnScope ["player"] ["player"] (defScope s_side_of) := ⟨rfl, rfl, rfl, by decide +kernel, rfl, by decide +kernel, by decide +kernel⟩
theorem sc_player_after : FnScope ["player"] ["player"] (defScope s_player_after) := ⟨rfl, rfl, rfl, by decide +kernel, rfl, by decide +kernel, by decide +kernel⟩
theorem sc_suit_of : FnScope ["card"] ["card"] (defScope s_suit_of) := ⟨rfl, rfl, rfl, by decide +kernel, rfl, by decide +kernel, by decide +kernel⟩
theorem sc_Position_init : FnScope ["self", "trump", "hands", "turn", "taken"] ["self", "trump", "hands", "turn", "taken"] (defScope s_Position_init) := ⟨rfl, rfl, rfl, by decide +kernel, rfl, by decide +kernel, by decide +kernel⟩
theorem sc_Position_choices : FnScope ["self", "hand", "following", "card"] ["self"] (defScope s_Position_choices) := ⟨rfl, rfl, rfl, by decide +kernel, rfl, by decide +kernel, by decide +kernel⟩
theorem sc_Position_after : FnScope ["self", "card", "leads", "wins", "holder", "hands", "position"] ["self", "card"] (defScope s_Position_after) := ⟨rfl, rfl, rfl, by decide +kernel, rfl, by decide +kernel, by decide +kernel⟩
theorem sc_Position_is_over : FnScope ["self"] ["self"] (defScope s_Position_is_over) := ⟨rfl, rfl, rfl, by decide +kernel, rfl, by decide +kernel, by decide +kernel⟩
theorem sc_start_of_play : FnScope ["trump", "leader", "hands", "hand"] ["trump", "leader", "hands"] (defScope s_start_of_play) := ⟨rfl, rfl, rfl, by decide +kernel, rfl, by decide +kernel, by decide +kernel⟩
theorem sc_beats : FnScope ["card", "top", "trump"] ["card", "top", "trump"] (defScope s_beats) := ⟨rfl, rfl, rfl, by decide +kernel, rfl, by decide +kernel, by decide +kernel⟩
theorem sc_without : FnScope ["hands", "player", "card", "left", "held"] ["hands", "player", "card"] (defScope s_without) := ⟨rfl, rfl, rfl, by decide +kernel, rfl, by decide +kernel, by decide +kernel⟩
theorem sc_one_more : FnScope ["taken", "player"] ["taken", "player"] (defScope s_one_more) := ⟨rfl, rfl, rfl, by decide +kernel, rfl, by decide +kernel, by decide +kernel⟩
theorem sc_Reader_init : FnScope ["self"] ["self"] (defScope s_Reader_init) := ⟨rfl, rfl, rfl, by decide +kernel, rfl, by decide +kernel, by decide +kernel⟩
theorem sc_Reader_open_suit : FnScope ["self", "suit"] ["self", "suit"] (defScope s_Reader_open_suit) := ⟨rfl, rfl, rfl, by decide +kernel, rfl, by decide +kernel, by decide +kernel⟩
theorem sc_Reader_take : FnScope ["self", "byte", "rank"] ["self", "byte"] (defScope s_Reader_take) := ⟨rfl, rfl, rfl, by decide +kernel, rfl, by decide +kernel, by decide +kernel⟩
theorem sc_Reader_may_end : FnScope ["self"] ["self"] (defScope s_Reader_may_end) := ⟨rfl, rfl, rfl, by decide +kernel, rfl, by decide +kernel, by decide +kernel⟩
theorem sc_read_deal : FnScope ["text", "reader", "place", "byte"] ["text"] (defScope s_read_deal) := ⟨rfl, rfl, rfl, by decide +kernel, rfl, by decide +kernel, by decide +kernel⟩
theorem sc_refusal_of_hands : FnScope ["hands", "each", "hand"] ["hands"] (defScope s_refusal_of_hands) := ⟨rfl, rfl, rfl, by decide +kernel, rfl, by decide +kernel, by decide +kernel⟩
theorem sc_has_shared_card : FnScope ["hands", "seen", "hand", "card"] ["hands"] (defScope s_has_shared_card) := ⟨rfl, rfl, rfl, by decide +kernel, rfl, by decide +kernel, by decide +kernel⟩
theorem sc_Trial_init : FnScope ["self", "position", "verdict"] ["self", "position", "verdict"] (defScope s_Trial_init) := ⟨rfl, rfl, rfl, by decide +kernel, rfl, by decide +kernel, by decide +kernel⟩
theorem sc_Trial_next_position : FnScope ["self"] ["self"] (defScope s_Trial_next_position) := ⟨rfl, rfl, rfl, by decide +kernel, rfl, by decide +kernel, by decide +kernel⟩
theorem sc_Trial_hear : FnScope ["self", "verdict", "wanted"] ["self", "verdict"] (defScope s_Trial_hear) := ⟨rfl, rfl, rfl, by decide +kernel, rfl, by decide +kernel, by decide +kernel⟩
theorem sc_Search_init : FnScope ["self", "tricks"] ["self", "tricks"] (defScope s_Search_init) := ⟨rfl, rfl, rfl, by decide +kernel, rfl, by decide +kernel, by decide +kernel⟩
theorem sc_Search_trial_of : FnScope ["self", "position", "goal"] ["self", "position", "goal"] (defScope s_Search_trial_of) := ⟨rfl, rfl, rfl, by decide +kernel, rfl, by decide +kernel, by decide +kernel⟩
theorem sc_Search_keep : FnScope ["self", "trial", "goal"] ["self", "trial", "goal"] (defScope s_Search_keep) := ⟨rfl, rfl, rfl, by decide +kernel, rfl, by decide +kernel, by decide +kernel⟩
theorem sc_Search_reaches : FnScope ["self", "position", "goal", "first", "path", "trial"] ["self", "position", "goal"] (defScope s_Search_reaches) := ⟨rfl, rfl, rfl, by decide +kernel, rfl, by decide +kernel, by decide +kernel⟩
theorem sc_Search_worth : FnScope ["self", "position", "goal"] ["self", "position"] (defScope s_Search_worth) := ⟨rfl, rfl, rfl, by decide +kernel, rfl, by decide +kernel, by decide +kernel⟩
theorem sc_Search_leaders_worth : FnScope ["self", "start"] ["self", "start"] (defScope s_Search_leaders_worth) := ⟨rfl, rfl, rfl, by decide +kernel, rfl, by decide +kernel, by decide +kernel⟩
theorem sc_Search_best_card : FnScope ["self", "position", "worth", "card"] ["self", "position"] (defScope s_Search_best_card) := ⟨rfl, rfl, rfl, by decide +kernel, rfl, by decide +kernel, by decide +kernel⟩
theorem sc_Search_best_line : FnScope ["self", "position", "cards", "card"] ["self", "position"] (defScope s_Search_best_line) := ⟨rfl, rfl, rfl, by decide +kernel, rfl, by decide +kernel, by decide +kernel⟩
theorem sc_key_of : FnScope ["position", "goal"] ["position", "goal"] (defScope s_key_of) := ⟨rfl, rfl, rfl, by decide +kernel, rfl, by decide +kernel, by decide +kernel⟩
theorem sc_best_play : FnScope ["trump", "leader", "hands", "search", "start"] ["trump", "leader", "hands"] (defScope s_best_play) := ⟨rfl, rfl, rfl, by decide +kernel, rfl, by decide +kernel, by decide +kernel⟩
theorem sc_best : FnScope ["trump", "leader", "text", "reader", "refusal"] ["trump", "leader", "text"] (defScope s_best) := ⟨rfl, rfl, rfl, by decide +kernel, rfl, by decide +kernel, by decide +kernel⟩
theorem sc_may_lead : FnScope ["trump", "leader"] ["trump", "leader"] (defScope s_may_lead) := ⟨rfl, rfl, rfl, by decide +kernel, rfl, by decide +kernel, by decide +kernel⟩
theorem sc_refusal_to_search : FnScope ["reader"] ["reader"] (defScope s_refusal_to_search) := ⟨rfl, rfl, rfl, by decide +kernel, rfl, by decide +kernel, by decide +kernel⟩

/-! ### the data -/
def rf (h : Addr) (r s b : Int) : List (Str × V) := [("hands", .ref h), ("refusal", .int r), ("suit", .int s), ("bound", .int b)]
section
variable (h : Addr) (r s b : Int)
theorem rf_hands : (rf h r s b).lookup ("hands" : Str) = some (.ref h) := lk_hd
theorem rf_refusal : (rf h r s b).lookup ("refusal" : Str) = some (.int r) := (lk_tl (by decide +kernel)).trans lk_hd
theorem rf_suit : (rf h r s b).lookup ("suit" : Str) = some (.int s) := (lk_tl (by decide +kernel)).trans ((lk_tl (by decide +kernel)).trans lk_hd)
theorem rf_bound : (rf h r s b).lookup ("bound" : Str) = some (.int b) := (lk_tl (by decide +kernel)).trans ((lk_tl (by decide +kernel)).trans ((lk_tl (by decide +kernel)).trans lk_hd))
theorem rf_no {m : Str} (h1 : ¬ m = "hands") (h2 : ¬ m = "refusal") (h3 : ¬ m = "suit") (h4 : ¬ m = "bound") : (rf h r s b).lookup m = none := (lk_tl h1).trans ((lk_tl h2).trans ((lk_tl h3).trans ((lk_tl h4).trans rfl)))
theorem rf_put_refusal (x : Int) : putF "refusal" (.int x) (rf h r s b) = rf h x s b := (pf_tl (by decide +kernel)).trans (congrArg _ pf_hd)
theorem rf_put_suit (x : Int) : putF "suit" (.int x) (rf h r s b) = rf h r x b := (pf_tl (by decide +kernel)).trans (congrArg _ ((pf_tl (by decide +kernel)).trans (congrArg _ pf_hd)))
theorem rf_put_bound (x : Int) : putF "bound" (.int x) (rf h r s b) = rf h r s x := (pf_tl (by decide +kernel)).trans (congrArg _ ((pf_tl (by decide +kernel)).trans (congrArg _ ((pf_tl (by decide +kernel)).trans (congrArg _ pf_hd)))))
theorem rf_two : putF "refusal" (.int r) (putF "hands" (.ref h) []) = ([("hands", V.ref h), ("refusal", V.int r)] : List (Str × V)) := (pf_tl (by decide +kernel)).trans rfl
theorem rf_three : putF "suit" (.int s) [("hands", .ref h), ("refusal", .int r)] = ([("hands", V.ref h), ("refusal", V.int r), ("suit", V.int s)] : List (Str × V)) := (pf_tl (by decide +kernel)).trans (congrArg _ ((pf_tl (by decide +kernel)).trans rfl))
theorem rf_four : putF "bound" (.int b) [("hands", .ref h), ("refusal", .int r), ("suit", .int s)] = rf h r s b :=
  (pf_tl (by decide +kernel)).trans (congrArg _ ((pf_tl (by decide +kernel)).trans (congrArg _ ((pf_tl (by decide +kernel)).trans rfl))))
theorem rf_made : putF "bound" (.int b) (putF "suit" (.int s) (putF "refusal" (.int r) (putF "hands" (.ref h) []))) = rf h r s b := by
  rw [rf_two, rf_three, rf_four]
end
/-- the reader at p, its list at hl, the hands that are whole at as, the one that is read at z -/
structure RdAt (C : Addr) (H : Hp) (p hl : Addr) (as : List Addr) (z : Addr) (r : Int) (x : Sc20.Reading) : Prop where
  ob : ∃ dx, H p = some (.ins C dx (rf hl r x.suit x.last))
  ls : H hl = some (.lst ((as ++ [z]).map V.ref))
  now : H z = some (.lst (hV x.now.reverse))
  old : At H as x.hands.reverse
  nd : (hl :: (as ++ [z])).Nodup
theorem RdAt.len {C : Addr} {H : Hp} {p hl : Addr} {as : List Addr} {z : Addr} {r : Int} {x : Sc20.Reading} (R : RdAt C H p hl as z r x) : as.length = x.hands.length := by
  have := R.old.length
  simpa using this
/-- hands as a list of lists -/
structure HsAt (H : Hp) (hl : Addr) (bs : List Addr) (hs : List (List Nat)) : Prop where
  ls : H hl = some (.lst (bs.map V.ref))
  at_ : At H bs hs
theorem HsAt.same {H H' : Hp} {hl : Addr} {bs : List Addr} {hs : List (List Nat)} (a : HsAt H hl bs hs) (s : Same H H') : HsAt H' hl bs hs := ⟨s _ _ a.ls, a.at_.same s⟩
theorem RdAt.hs {C : Addr} {H : Hp} {p hl : Addr} {as : List Addr} {z : Addr} {r : Int} {x : Sc20.Reading} (R : RdAt C H p hl as z r x) : HsAt H hl (as ++ [z]) (soFar x) := by
  refine ⟨R.ls, ?_⟩
  rw [soFar_eq]
  exact R.old.snoc R.now

/-! ### the promises -/
def spOpen (C : Addr) : Sp := fun vs H Q _ => ∃ (p dx : Addr) (fs : List (Str × V)) (s : Int), vs = [.ref p, .int s] ∧ H p = some (.ins C dx fs) ∧ fs.length < 900 ∧ (putF "suit" (.int s) fs).length < 900 ∧
  ∀ H' : Hp, H' p = some (.ins C dx (putF "bound" (.int 13) (putF "suit" (.int s) fs))) → (∀ b o, H b = some o → b ≠ p → H' b = some o) → Q .non H'
def spInit (C : Addr) : Sp := fun vs H Q _ => ∃ (p dx : Addr), vs = [.ref p] ∧ H p = some (.ins C dx []) ∧
  ∀ (hl z : Addr) (H' : Hp), RdAt C H' p hl [] z 0 ⟨[], [], 3, 13⟩ → H hl = none → H z = none → (∀ b o, H b = some o → b ≠ p → H' b = some o) → Q .non H'
def spTake (C : Addr) : Sp := fun vs H Q _ => ∃ (p hl : Addr) (as : List Addr) (z : Addr) (r : Int) (x : Sc20.Reading) (c k : Nat), vs = [.ref p, .int (c : Nat)] ∧ RdAt C H p hl as z r x ∧ ROk k x ∧ k < 900 ∧ c < 256 ∧
  (Sc20.take_ x c = none → Q (.bl false) H) ∧
  (∀ y, Sc20.take_ x c = some y → ∀ (as' : List Addr) (z' : Addr) (H' : Hp), RdAt C H' p hl as' z' r y → (∀ a ∈ as' ++ [z'], a ∈ as ++ [z] ∨ H a = none) →
    (∀ b o, H b = some o → b ≠ p → b ≠ hl → ¬ b ∈ as ++ [z] → H' b = some o) → Q (.bl true) H')
def spMay (C : Addr) : Sp := fun vs H Q _ => ∃ (p hl : Addr) (as : List Addr) (z : Addr) (r : Int) (x : Sc20.Reading), vs = [.ref p] ∧ RdAt C H p hl as z r x ∧ Q (.bl (decide (x.suit = 0 ∧ x.hands.length = 3))) H
def spShared : Sp := fun vs H Q _ => ∃ (hl : Addr) (bs : List Addr) (hs : List (List Nat)), vs = [.ref hl] ∧ HsAt H hl bs hs ∧ hs.flatten.length ≤ 2000 ∧ ∀ H', Same H H' → Q (.bl (decide (¬ hs.flatten.Nodup))) H'
def spRefusal : Sp := fun vs H Q _ => ∃ (hl : Addr) (bs : List Addr) (hs : List (List Nat)), vs = [.ref hl] ∧ HsAt H hl bs hs ∧ HOk4 hs ∧ ∀ H', Same H H' → Q (.int (refusal hs)) H'
def spRead (K : PySem.W.Frag) (C : Addr) : Sp := fun vs H Q _ => ∃ (a : Addr) (b : List Nat), vs = [.ref a] ∧ SqL K H a (hV b) ∧ b.length ≤ 300 ∧ (∀ c ∈ b, c < 256) ∧
  ∀ (p hl : Addr) (as : List Addr) (z : Addr) (r : Int) (x : Sc20.Reading) (H' : Hp), RdAt C H' p hl as z r x → Same H H' →
    (∀ e, Sc20.deal b = .error e → r = e ∧ e < 0) → (∀ h, Sc20.deal b = .ok h → r = 0 ∧ soFar x = h ∧ HOk4 h ∧ h.flatten.Nodup) → Q (.ref p) H'

section
variable {P : Program} {w : World} {K : PySem.W.Frag} {mg : Str → Option Value} {base : Heap} {A : Ad}
theorem ok_Reader_open_suit (T : Txt K mg A) : FnOk P w K mg base CX0 1 A.f_Reader_open_suit A.d_Reader_open_suit ["self", "suit"] (spOpen A.C_Reader) := by
  refine T.F_Reader_open_suit.ok sc_Reader_open_suit (fun vs H Q E h => ?_) (fun cdv A' outer s H vs Q E hr h => ?_)
  · obtain ⟨p, dx, fs, s, rfl, _⟩ := h
    rfl
  · obtain ⟨p, dx, fs, s, rfl, hp, hl, hl2, k⟩ := h
    refine ⟨_, (pss_cons (ps_fld (pv 0) (pv 1) rfl)
      (pss_one (ps_fld (pv 0) (gi T.g_RANKS) rfl))), ?_⟩
    refine ⟨_, rfl, _, rfl, p, A.C_Reader, dx, fs, rfl, hp, T.c_Reader, T.n_Reader_suit, by omega, ?_⟩
    refine ⟨_, rfl, p, A.C_Reader, dx, _, rfl, upd_same, T.c_Reader, T.n_Reader_bound, by omega, ?_⟩
    exact k _ upd_same fun b o e hb => by rw [upd_ne hb, upd_ne hb]; exact e
theorem ok_Reader_init (T : Txt K mg A) : FnOk P w K mg base CX0 2 A.f_Reader_init A.d_Reader_init ["self"] (spInit A.C_Reader) := by
  refine T.F_Reader_init.ok sc_Reader_init (fun vs H Q E h => ?_) (fun cdv A' outer s H vs Q E hr h => ?_)
  · obtain ⟨p, dx, rfl, _⟩ := h
    rfl
  · obtain ⟨p, dx, rfl, hp, k⟩ := h
    refine ⟨_, (pss_cons (ps_fld (pv 0) (pe_lst (pa_cons (pe_lst pa_nil) pa_nil)) rfl)
      (pss_cons (ps_fld (pv 0) pe_int rfl)
      (pss_one (ps_expr (pe_meth (pv 0) T.c_Reader T.M_Reader_open_suit (ok_Reader_open_suit T) (hr.mono (by decide)) T.b_Reader_open_suit .nil pass0 (pa_cons (gi T.g_SPADES) pa_nil)))))), ?_⟩
    refine ⟨(by show 0 ≤ sizeLine; decide), fun z hz => ⟨(by show 1 ≤ sizeLine; decide), fun hl hhl => ?_⟩⟩
    have hzh : hl ≠ z := fun e => by rw [e, upd_same] at hhl; cases hhl
    have hpz : p ≠ z := ne_of_none hp hz
    have hl0 : H hl = none := by rw [upd_ne hzh] at hhl; exact hhl
    have hph : p ≠ hl := ne_of_none hp hl0
    refine ⟨_, rfl, p, A.C_Reader, dx, [], rfl, by rw [upd_ne hph, upd_ne hpz]; exact hp, T.c_Reader, T.n_Reader_hands, (by show 0 < 1000; decide), ?_⟩
    refine ⟨_, rfl, p, A.C_Reader, dx, _, rfl, upd_same, T.c_Reader, T.n_Reader_refusal, (by show 1 < 1000; decide), ?_⟩
    refine ⟨_, rfl, p, dx, _, rfl, upd_same, (by rw [lookup_putF, if_neg (by decide +kernel), lookup_putF, if_neg (by decide +kernel)]; rfl), ?_⟩
    refine ⟨p, dx, _, _, rfl, upd_same, (by rw [rf_two]; show 2 < 900; decide), (by rw [rf_two, rf_three]; show 3 < 900; decide), fun H' h1 h2 => ?_⟩
    refine k hl z H' ⟨⟨dx, ?_⟩, ?_, ?_, .nil, ?_⟩ hl0 hz fun b o e hb => ?_
    · rw [h1]
      exact congrArg (fun q => some (HO.ins A.C_Reader dx q)) (rf_made hl 0 3 13)
    · exact h2 hl _ (by rw [upd_ne hph.symm, upd_ne hph.symm, upd_same]; rfl) hph.symm
    · exact h2 z _ (by rw [upd_ne hpz.symm, upd_ne hpz.symm, upd_ne hzh.symm, upd_same]; rfl) hpz.symm
    · simp [hzh]
    · exact h2 b o (by rw [upd_ne hb, upd_ne hb, upd_ne (ne_of_none e hl0), upd_ne (ne_of_none e hz)]; exact e) hb
def rankTab : List (Int × V) := [(50, V.int 0), (51, V.int 1), (52, V.int 2), (53, V.int 3), (54, V.int 4), (55, V.int 5), (56, V.int 6), (57, V.int 7), (84, V.int 8), (74, V.int 9), (81, V.int 10), (75, V.int 11), (65, V.int 12)]
theorem rankTab_at : ∀ c : Nat, c < 256 → (atD rankTab (c : Int)).getD (.int 13) = V.int ((rank c : Nat) : Int) := by decide +kernel
theorem nd3 {hl z : Addr} {as : List Addr} (nd : (hl :: (as ++ [z])).Nodup) : hl ≠ z ∧ (∀ a ∈ as, a ≠ hl ∧ a ≠ z) := by
  obtain ⟨h1, h2⟩ := List.nodup_cons.mp nd
  obtain ⟨_, _, h3⟩ := List.nodup_append.mp h2
  exact ⟨fun e => h1 (by simp [e]), fun a ha => ⟨fun e => h1 (by simp [← e, ha]), fun e => h3 a ha z (by simp) e⟩⟩
theorem ok_Reader_take (T : Txt K mg A) : FnOk P w K mg base CX0 2 A.f_Reader_take A.d_Reader_take ["self", "byte"] (spTake A.C_Reader) := by
  refine T.F_Reader_take.ok sc_Reader_take (fun vs H Q E h => ?_) (fun cdv A' outer s H vs Q E hr h => ?_)
  · obtain ⟨p, hl, as, z, r, x, c, k, rfl, _⟩ := h
    rfl
  · obtain ⟨p, hl, as, z, r, x, c, k, rfl, R, ok, hk, hc, k1, k2⟩ := h
    obtain ⟨⟨dx, h1⟩, hL, hN, hO, nd⟩ := id R
    have et := take_eq x c ok.last
    have hpl : p ≠ hl := ne_of h1 hL (by intro q; cases q)
    have hpz : p ≠ z := ne_of h1 hN (by intro q; cases q)
    obtain ⟨hlz, hasn⟩ := nd3 nd
    have hpa : ∀ a ∈ as, a ≠ p := fun a ha e => by
      obtain ⟨j, hj⟩ := List.getElem?_of_mem ha
      obtain ⟨hh, _, e2⟩ := hO.get hj
      rw [e, h1] at e2
      cases e2
    have hz : (hV x.now.reverse).length < sizeLine := by
      rw [hV_length, List.length_reverse]
      exact small1000 (by have := ok.nowL; omega)
    have has : ((as ++ [z]).map V.ref).length < sizeLine := by
      have := R.len
      have := ok.few
      rw [List.length_map, List.length_append]
      exact small1000 (by simp; omega)
    refine ⟨_, (pss_cons (st 2 sc_Reader_take.nd (pe_kget2 rfl T.g_RANK_OF_LETTER T.d_RANK_OF_LETTER (pv 1) (gi T.g_RANKS) ⟨rfl, rfl, rfl, rfl⟩))
      (pss_cons (ps_if (pt_cmpR op_lt (pv 2) (pe_fld (pv 0) rfl) (nomark _))
        (pss_cons (ps_expr (pe_bm PySem.F.plainAttrs_list PySem.F.slot_list_append PySem.F.type_list_append mt_append (pe_ix ix_list (pe_fld (pv 0) rfl) (pe_un un_neg pe_int) (fun _ _ => rfl)) (pa_cons (pe_op op_add (pe_op op_mul (gi T.g_RANKS) (pe_fld (pv 0) rfl)) (pv 2)) pa_nil)))
        (pss_one (ps_fld (pv 0) (pv 2) rfl)))
        (pss_one (ps_if (PW.pt (pw_and (pt_cmpR op_eq (pv 1) (gi T.g_POINT) (nomark _)) (pw_and1 (pt_cmpR op_gt (pe_fld (pv 0) rfl) (gi T.g_CLUBS) (nomark _)))))
          (pss_one (ps_expr (pe_meth (pv 0) T.c_Reader T.M_Reader_open_suit (ok_Reader_open_suit T) (hr.mono (by decide)) T.b_Reader_open_suit .nil pass0 (pa_cons (pe_op op_sub (pe_fld (pv 0) rfl) pe_int) pa_nil))))
          (pss_one (ps_if (PW.pt (pw_and (pt_cmpR op_eq (pv 1) (gi T.g_BLANK) (nomark _)) (pw_and (pt_cmpR op_eq (pe_fld (pv 0) rfl) (gi T.g_CLUBS) (nomark _)) (pw_and1 (pt_cmpR op_lt (ln K T.z_len (pe_fld (pv 0) rfl)) (gi T.g_PLAYERS) (nomark _))))))
            (pss_cons (ps_expr (pe_bm PySem.F.plainAttrs_list PySem.F.slot_list_append PySem.F.type_list_append mt_append (pe_fld (pv 0) rfl) (pa_cons (pe_lst pa_nil) pa_nil)))
            (pss_one (ps_expr (pe_meth (pv 0) T.c_Reader T.M_Reader_open_suit (ok_Reader_open_suit T) (hr.mono (by decide)) T.b_Reader_open_suit .nil pass0 (pa_cons (gi T.g_SPADES) pa_nil)))))
            (pss_one (ps_ret pe_bl)))))))
      (pss_one (ps_ret pe_bl)))), ?_⟩
    refine ⟨_, rfl, _, V.int ((rank c : Nat) : Int), rfl, rankTab_at c hc, ?_⟩
    refine ⟨_, rfl, _, rfl, p, A.C_Reader, dx, _, _, rfl, h1, T.c_Reader, T.n_Reader_bound, rf_bound _ _ _ _, _, _, rfl, rfl, _, rfl, ?_⟩
    refine ite2 (fun e => ?_) (fun e => ?_)
    · have e : rank c < x.last := by simpa using e
      rw [if_pos e] at et
      refine ⟨_, rfl, p, A.C_Reader, dx, _, _, rfl, h1, T.c_Reader, T.n_Reader_hands, rf_hands _ _ _ _, _, rfl, hl, _, _, V.ref z, rfl, rfl, SqL.of hL, (by rw [List.map_append]; exact atI_last _ _), ty_list (SqL.of hN),
        _, rfl, p, A.C_Reader, dx, _, _, rfl, h1, T.c_Reader, T.n_Reader_suit, rf_suit _ _ _ _, _, _, rfl, rfl, .inl ⟨by decide, by decide⟩, _, rfl, _, _, rfl, rfl, z, _, _, rfl, rfl, hN, hz, ?_⟩
      refine ⟨_, rfl, _, rfl, p, A.C_Reader, dx, _, rfl, (by rw [upd_ne hpz]; exact h1), T.c_Reader, T.n_Reader_bound, (by show 4 < 1000; decide), ?_⟩
      refine k2 _ et as z _ ⟨⟨dx, Eq.trans upd_same (congrArg (fun q => some (HO.ins A.C_Reader dx q)) (rf_put_bound _ _ _ _ _))⟩, ?_, ?_, ?_, nd⟩ (fun a ha => .inl ha) fun b o q hb1 hb2 hb3 => ?_
      · rw [upd_ne hpl.symm, upd_ne hlz]
        exact hL
      · rw [upd_ne hpz.symm, upd_same]
        show some (HO.lst _) = some (HO.lst (hV (((13 * x.suit + rank c) :: x.now).reverse)))
        rw [List.reverse_cons, hV_append]
        have e3 : hV [13 * x.suit + rank c] = [V.int (13 * (x.suit : Int) + ((rank c : Nat) : Int))] := by
          show [V.int (((13 * x.suit + rank c : Nat)) : Int)] = _
          rw [Int.natCast_add, Int.natCast_mul]
          rfl
        rw [e3]
      · exact hO.keep fun a ha o q => by rw [upd_ne (hpa a ha), upd_ne (hasn a ha).2]; exact q
      · rw [upd_ne hb1, upd_ne (fun q2 => hb3 (by simp [q2]))]
        exact q
    · have e : ¬ rank c < x.last := by simpa using e
      rw [if_neg e] at et
      refine tAnd_p (b := decide (V.int (c : Int) = V.int 46)) (c := decide (0 < (x.suit : Int))) (fun Q q => ⟨_, rfl, rfl, _, rfl, q⟩)
        (fun _ Q q => ⟨_, rfl, p, A.C_Reader, dx, _, _, rfl, h1, T.c_Reader, T.n_Reader_suit, rf_suit _ _ _ _, _, _, rfl, rfl, _, rfl, q⟩) ?_
      refine ite2 (fun e1 => ?_) (fun e1 => ?_)
      · have e1 : c = 46 ∧ 0 < x.suit := by
          rw [dV] at e1
          simp at e1
          omega
        rw [if_pos e1] at et
        refine ⟨_, rfl, p, dx, _, rfl, h1, rf_no _ _ _ _ (by decide +kernel) (by decide +kernel) (by decide +kernel) (by decide +kernel), _, rfl, p, A.C_Reader, dx, _, _, rfl, h1, T.c_Reader, T.n_Reader_suit, rf_suit _ _ _ _, _, _, rfl, rfl,
          p, dx, _, _, rfl, h1, (by show 4 < 900; decide), (by rw [rf_put_suit]; show 4 < 900; decide), fun H' g1 g2 => ?_⟩
        refine k2 _ et as z H' ⟨⟨dx, ?_⟩, g2 _ _ hL hpl.symm, g2 _ _ hN hpz.symm, hO.keep fun a ha o q => g2 a o q (hpa a ha), nd⟩ (fun a ha => .inl ha) fun b o q hb1 _ _ => g2 b o q hb1
        rw [g1, rf_put_suit, rf_put_bound]
        have e3 : ((x.suit : Int) - 1) = ((x.suit - 1 : Nat) : Int) := by omega
        rw [e3]
        rfl
      · have e1 : ¬ (c = 46 ∧ 0 < x.suit) := by
          intro q
          apply e1
          rw [dV]
          simp
          omega
        rw [if_neg e1] at et
        refine tAnd_p (b := decide (V.int (c : Int) = V.int 32)) (c := decide (V.int (x.suit : Int) = V.int 0) && decide ((((as ++ [z]).map V.ref).length : Int) < 4)) (fun Q q => ⟨_, rfl, rfl, _, rfl, q⟩)
          (fun _ Q q => tAnd_p (b := decide (V.int (x.suit : Int) = V.int 0)) (c := decide ((((as ++ [z]).map V.ref).length : Int) < 4)) (fun Q q => ⟨_, rfl, p, A.C_Reader, dx, _, _, rfl, h1, T.c_Reader, T.n_Reader_suit, rf_suit _ _ _ _, rfl, _, rfl, q⟩)
            (fun _ Q q => ⟨_, rfl, p, A.C_Reader, dx, _, _, rfl, h1, T.c_Reader, T.n_Reader_hands, rf_hands _ _ _ _, hl, _, rfl, .inl (SqL.of hL), _, _, rfl, rfl, _, rfl, q⟩) q) ?_
        have ec : (decide (V.int (c : Int) = V.int 32) && (decide (V.int (x.suit : Int) = V.int 0) && decide ((((as ++ [z]).map V.ref).length : Int) < 4))) = decide (c = 32 ∧ x.suit = 0 ∧ x.hands.length < 3) := by
          have hl := R.len
          rw [dV, dV, Bool.eq_iff_iff]
          simp
          omega
        refine ite2 (fun e2 => ?_) (fun e2 => ?_)
        · rw [ec] at e2
          have e2 : c = 32 ∧ x.suit = 0 ∧ x.hands.length < 3 := of_decide_eq_true e2
          rw [if_pos e2] at et
          refine ⟨_, rfl, p, A.C_Reader, dx, _, _, rfl, h1, T.c_Reader, T.n_Reader_hands, rf_hands _ _ _ _, ty_list (SqL.of hL), (by show 0 ≤ sizeLine; decide), fun z' hz' => ?_⟩
          have hlz' : hl ≠ z' := ne_of_none hL hz'
          have hpz' : p ≠ z' := ne_of_none h1 hz'
          have hzz' : z ≠ z' := ne_of_none hN hz'
          refine ⟨hl, _, _, rfl, rfl, (by rw [upd_ne hlz']; exact hL), has, ?_⟩
          refine ⟨_, rfl, p, dx, _, rfl, (by rw [upd_ne hpl, upd_ne hpz']; exact h1), rf_no _ _ _ _ (by decide +kernel) (by decide +kernel) (by decide +kernel) (by decide +kernel), p, dx, _, _, rfl, (by rw [upd_ne hpl, upd_ne hpz']; exact h1),
            (by show 4 < 900; decide), (by rw [rf_put_suit]; show 4 < 900; decide), fun H' g1 g2 => ?_⟩
          have fr : ∀ a o, H a = some o → a ≠ p → a ≠ hl → H' a = some o := fun a o q ha1 ha2 => g2 a o (by rw [upd_ne ha2, upd_ne (ne_of_none q hz')]; exact q) ha1
          refine k2 _ et (as ++ [z]) z' H' ⟨⟨dx, ?_⟩, ?_, ?_, ?_, ?_⟩ (fun a ha => ?_) fun b o q hb1 hb2 hb3 => fr b o q hb1 hb2
          · rw [g1, rf_put_suit, rf_put_bound]
            rfl
          · refine g2 hl _ ?_ hpl.symm
            rw [upd_same, List.map_append (l₁ := as ++ [z])]
            rfl
          · refine g2 z' _ ?_ hpz'.symm
            rw [upd_ne hlz'.symm, upd_same]
            rfl
          · show At H' (as ++ [z]) (x.now.reverse :: x.hands).reverse
            rw [List.reverse_cons]
            refine At.snoc (hO.keep fun a ha o q => fr a o q (hpa a ha) (hasn a ha).1) (fr z _ hN hpz.symm hlz.symm)
          · have h3 : ¬ z' ∈ hl :: (as ++ [z]) := fun q => by
              rcases List.mem_cons.mp q with q | q
              · exact hlz' q.symm
              · rcases List.mem_append.mp q with q | q
                · obtain ⟨j, hj⟩ := List.getElem?_of_mem q
                  obtain ⟨hh, _, e5⟩ := hO.get hj
                  rw [hz'] at e5
                  cases e5
                · exact hzz' (List.mem_singleton.mp q).symm
            show ((hl :: (as ++ [z])) ++ [z']).Nodup
            exact List.nodup_append.mpr ⟨nd, by simp, fun a ha b hb q => h3 (by rw [← List.mem_singleton.mp hb, ← q]; exact ha)⟩
          · rcases List.mem_append.mp ha with q | q
            · exact .inl q
            · exact .inr (by rw [List.mem_singleton.mp q]; exact hz')
        · rw [ec] at e2
          have e2 : ¬ (c = 32 ∧ x.suit = 0 ∧ x.hands.length < 3) := fun q => e2 (decide_eq_true q)
          rw [if_neg e2] at et
          exact k1 et
theorem ok_Reader_may_end (T : Txt K mg A) : FnOk P w K mg base CX0 1 A.f_Reader_may_end A.d_Reader_may_end ["self"] (spMay A.C_Reader) := by
  refine T.F_Reader_may_end.ok sc_Reader_may_end (fun vs H Q E h => ?_) (fun cdv A' outer s H vs Q E hr h => ?_)
  · obtain ⟨p, hl, as, z, r, x, rfl, _⟩ := h
    rfl
  · obtain ⟨p, hl, as, z, r, x, rfl, R, k⟩ := h
    obtain ⟨⟨dx, h1⟩, hL, hN, hO, nd⟩ := id R
    have hl' := R.len
    refine ⟨_, (pss_one (ps_ret (pe_and (pe_cmpR op_eq (pe_fld (pv 0) rfl) (gi T.g_CLUBS) (nomark _)) (pe_one (pe_cmpR op_eq (ln K T.z_len (pe_fld (pv 0) rfl)) (gi T.g_PLAYERS) (nomark _)))))), ?_⟩
    refine ⟨_, rfl, p, A.C_Reader, dx, _, _, rfl, h1, T.c_Reader, T.n_Reader_suit, rf_suit _ _ _ _, rfl, _, rfl, ?_⟩
    refine ite2 (fun e => ?_) (fun e => ?_)
    · refine ⟨_, rfl, p, A.C_Reader, dx, _, _, rfl, h1, T.c_Reader, T.n_Reader_hands, rf_hands _ _ _ _, hl, _, rfl, .inl (SqL.of hL), rfl, ?_⟩
      have e1 : decide (V.int ((((as ++ [z]).map V.ref).length : Nat) : Int) = V.int 4) = decide (x.suit = 0 ∧ x.hands.length = 3) := by
        rw [dV] at e ⊢
        rw [Bool.eq_iff_iff]
        simp at e ⊢
        omega
      show Q (.bl (decide (V.int ((((as ++ [z]).map V.ref).length : Nat) : Int) = V.int 4))) H
      rw [e1]
      exact k
    · have e1 : decide (x.suit = 0 ∧ x.hands.length = 3) = false := by
        rw [dV] at e
        simp at e ⊢
        omega
      rw [e1] at k
      exact k
/-! ### the search for a card that two hands have -/
def seenK (l : List Nat) : List (Key × V) := l.map fun (c : Nat) => ((Sum.inl (c : Int) : Key), V.bl true)
theorem seen_val (c : Nat) : ∀ l : List Nat, valV (seenK l) (Sum.inl (c : Int) : Key) = if c ∈ l then some (V.bl true) else none
  | [] => rfl
  | a :: l => by
    show valV (((Sum.inl (a : Int) : Key), V.bl true) :: seenK l) (Sum.inl (c : Int)) = _
    by_cases h : a = c
    · subst h
      rw [valV_pos rfl, if_pos (by simp)]
    · have h2 : ¬ ((Sum.inl (a : Int) : Key) = Sum.inl (c : Int)) := fun q => h (by cases q; rfl)
      have h3 : ¬ c = a := fun q => h q.symm
      rw [valV_neg h2, seen_val c l]
      simp [h3]
theorem seen_put {l : List Nat} {c : Nat} (h : ¬ c ∈ l) : putK (seenK l) (Sum.inl (c : Int) : Key) (V.bl true) = seenK (l ++ [c]) := by
  rw [putK_new _ (by rw [seen_val, if_neg h])]
  unfold seenK
  rw [List.map_append]
  rfl
theorem ok_has_shared_card (T : Txt K mg A) : FnOk P w K mg base CX0 1 A.f_has_shared_card A.d_has_shared_card ["hands"] spShared := by
  refine T.F_has_shared_card.ok sc_has_shared_card (fun vs H Q E h => ?_) (fun cdv A' outer s H vs Q E hr h => ?_)
  · obtain ⟨hl, bs, hs, rfl, _⟩ := h
    rfl
  · obtain ⟨hl, bs, hs, rfl, R, hsz, k⟩ := h
    have hu := hu_of hr
    refine ⟨_, (pss_cons (st 1 sc_has_shared_card.nd pe_dnewK)
      (pss_cons (ps_for PassesOwn.never rfl (pi_list (pv 0)) (tg 2 sc_has_shared_card.nd)
        (pss_one (ps_for PassesOwn.never rfl (pi_list (pv 2)) (tg 3 sc_has_shared_card.nd)
          (pss_cons (ps_if (pt_cmp (pc_din hu (pv 3) (pv 1)))
            (pss_one (ps_ret pe_bl))
            pss_nil)
          (pss_one (ps_dput hu (pv 1) (pv 3) pe_bl rfl))))))
      (pss_one (ps_ret pe_bl)))), ?_⟩
    intro d hd
    have s1 : Same H (upd H d (.dK [])) := Same.laid hd
    refine ⟨_, rfl, hl, rfl, ⟨_, SqL.of (s1 _ _ R.ls)⟩, for_list (K := K) (a := hl) (xs := bs.map V.ref)
      (fun i σ H2 => ∃ v2 v3, σ = [some (.ref hl), some (.ref d), v2, v3] ∧ Same H H2 ∧ H2 d = some (.dK (seenK (hs.take i).flatten)) ∧ (hs.take i).flatten.Nodup)
      ⟨none, none, rfl, s1, upd_same, by simp⟩ (fun i σ H2 _ ⟨_, _, _, s2, _⟩ => SqL.of (s2 _ _ R.ls)) ?_ ?_⟩
    · rintro i y σ H2 hi ⟨v2, v3, rfl, s2, hd2, nd⟩
      obtain ⟨b, hb, rfl⟩ := refs_get hi
      obtain ⟨h, hh, hbh⟩ := R.at_.get hb
      refine ⟨_, rfl, b, rfl, ⟨_, SqL.of (s2 _ _ hbh)⟩, for_list (K := K) (a := b) (xs := hV h)
        (fun j σ H3 => ∃ v3, σ = [some (.ref hl), some (.ref d), some (.ref b), v3] ∧ Same H H3 ∧ H3 d = some (.dK (seenK ((hs.take i).flatten ++ h.take j))) ∧ ((hs.take i).flatten ++ h.take j).Nodup)
        ⟨v3, rfl, s2, by simpa using hd2, by simpa using nd⟩ (fun j σ H3 _ ⟨_, _, s3, _⟩ => SqL.of (s3 _ _ hbh)) ?_ ?_⟩
      · rintro j y σ H3 hj ⟨v3, rfl, s3, hd3, nd3⟩
        obtain ⟨c, hc, rfl⟩ := hV_get hj
        obtain ⟨r, hr'⟩ := front (j := j + 1) hh
        rw [take_succ_get hc, ← List.append_assoc] at hr'
        refine ⟨_, rfl, _, rfl, d, _, rfl, DGet.k (k := Sum.inl (c : Int)) hd3, _, rfl, ?_⟩
        refine ite2 (fun e => ?_) (fun e => ?_)
        · have hm : c ∈ (hs.take i).flatten ++ h.take j := by
            rw [seen_val] at e
            by_cases hm : c ∈ (hs.take i).flatten ++ h.take j
            · exact hm
            · rw [if_neg hm] at e
              cases e
          have en : decide (¬ hs.flatten.Nodup) = true := decide_eq_true fun nd4 => by
            rw [hr'] at nd4
            exact nodup_front nd4 hm
          have := k H3 s3
          rw [en] at this
          exact this
        · have hm : ¬ c ∈ (hs.take i).flatten ++ h.take j := by
            rw [seen_val] at e
            intro hm
            rw [if_pos hm] at e
            exact e rfl
          have hlen : (seenK ((hs.take i).flatten ++ h.take j)).length < sizeLine := by
            have e3 := congrArg List.length hr'
            simp only [List.length_append] at e3
            unfold seenK
            rw [List.length_map, List.length_append]
            exact Nat.lt_of_le_of_lt (show _ ≤ 2000 by omega) (by decide)
          refine ⟨_, rfl, _, rfl, d, _, rfl, DPut.k (k := Sum.inl (c : Int)) hd3 hlen, ?_⟩
          refine ⟨some (.int (c : Int)), rfl, fun q o e2 => ?_, ?_, ?_⟩
          · rw [upd_ne (ne_of_none e2 hd)]
            exact s3 q o e2
          · rw [upd_same, seen_put hm, take_succ_get hc, List.append_assoc]
          · rw [take_succ_get hc, ← List.append_assoc]
            exact nodup_snoc nd3 hm
      · rintro σ H3 ⟨v3, rfl, s3, hd3, nd3⟩
        have e : (hs.take i).flatten ++ h.take (hV h).length = (hs.take (i + 1)).flatten := by
          rw [take_succ_get hh, List.flatten_append, hV_length, List.take_length]
          simp
        rw [e] at hd3 nd3
        exact ⟨some (.ref b), v3, rfl, s3, hd3, nd3⟩
    · rintro σ H2 ⟨v2, v3, rfl, s2, hd2, nd⟩
      have e : hs.take (bs.map V.ref).length = hs := by
        rw [List.length_map, R.at_.length]
        exact List.take_length
      rw [e] at nd
      have en : decide (¬ hs.flatten.Nodup) = false := decide_eq_false fun q => q nd
      have := k H2 s2
      rw [en] at this
      exact this
theorem ok_refusal_of_hands (T : Txt K mg A) : FnOk P w K mg base CX0 2 A.f_refusal_of_hands A.d_refusal_of_hands ["hands"] spRefusal := by
  refine T.F_refusal_of_hands.ok sc_refusal_of_hands (fun vs H Q E h => ?_) (fun cdv A' outer s H vs Q E hr h => ?_)
  · obtain ⟨hl, bs, hs, rfl, _⟩ := h
    rfl
  · obtain ⟨hl, bs, hs, rfl, R, ok, k⟩ := h
    have hu := hu_of hr
    obtain ⟨b0, br, eb⟩ : ∃ b0 br, bs = b0 :: br := by
      have := R.at_.length
      rw [ok.four] at this
      cases bs with
      | nil => simp at this
      | cons b0 br => exact ⟨b0, br, rfl⟩
    obtain ⟨h0, hh0, hb0⟩ := R.at_.get (j := 0) (a := b0) (by rw [eb]; rfl)
    have e0 : hs.headD [] = h0 := by
      cases hs with
      | nil => simp at hh0
      | cons a l => simpa using hh0
    refine ⟨_, (pss_cons (st 1 sc_refusal_of_hands.nd (ln K T.z_len (pe_ix ix_list (pv 0) pe_int (fun _ _ => rfl))))
      (pss_cons (ps_if (PW.pt (pw_or (pt_cmpR op_eq (pv 1) pe_int (nomark _)) (pw_or1 (pt_val (pe_callB (cr_any rfl) rfl T.z_any PyProof.Rows.boot_any (pa_cons (pe_lc (own := [("hand", 2)]) rfl sc_refusal_of_hands.nd (pi_list (pv 0)) (BlkOk.of (N' := ["hands", "each", "hand"]) (sc' := defScope s_refusal_of_hands) rfl rfl ⟨rfl, by decide +kernel, by decide +kernel, by decide +kernel, by decide +kernel⟩) (fun _ _ _ _ _ => (tg 2 sc_refusal_of_hands.nd)) (fun _ _ _ _ _ => pts_nil) (fun _ _ _ _ _ => (pe_cmpR op_ne (ln K T.z_len (pv 2)) (pv 1) (nomark _)))) pa_nil))))))
        (pss_one (ps_ret (gi T.g_UNEVEN)))
        pss_nil)
      (pss_cons (ps_if (pt_val (pe_call (ok_has_shared_card T) (hr.mono (by decide)) rfl T.m_has_shared_card T.F_has_shared_card.kp T.b_has_shared_card .nil pass0 (pa_cons (pv 0) pa_nil)))
        (pss_one (ps_ret (gi T.g_SHARED)))
        pss_nil)
      (pss_one (ps_ret pe_int))))), ?_⟩
    refine ⟨_, rfl, hl, _, _, V.ref b0, rfl, rfl, SqL.of R.ls, (by rw [eb]; exact atI_zero _ _), b0, _, rfl, .inl (SqL.of hb0), ?_⟩
    have uneven : ((hs.headD []).length = 0 ∨ (hs.all fun x => x.length == (hs.headD []).length) = false) → refusal hs = -5 := fun q => by
      unfold refusal
      rw [if_pos q]
    refine ⟨_, rfl, rfl, _, rfl, ?_⟩
    refine ite2 (fun e => iteT ?_) (fun e => ?_)
    · rw [dV] at e
      have := k H (Same.refl H)
      rw [uneven (.inl (by rw [e0]; simp [hV_length] at e; simpa using e))] at this
      exact this
    · refine ⟨_, rfl, hl, rfl, ⟨_, SqL.of R.ls⟩, fun D hD => ?_⟩
      let bl : List Bool := hs.map fun h => !decide (V.int (((hV h).length : Nat) : Int) = V.int (((hV h0).length : Nat) : Int))
      refine lc_list (K := K) (a := hl) (xs := bs.map V.ref) (fun i H' => Same H H' ∧ H' D = some (.lst ((bl.take i).map V.bl))) ⟨Same.laid hD, upd_same⟩ (fun i H' _ p => SqL.of (p.1 _ _ R.ls)) ?_ ?_
      · rintro i x H' hi ⟨s1, hD1⟩
        obtain ⟨b, hb, rfl⟩ := refs_get hi
        obtain ⟨h, hh, hbh⟩ := R.at_.get hb
        have hbl : bl[i]? = some (!decide (V.int (((hV h).length : Nat) : Int) = V.int (((hV h0).length : Nat) : Int))) := by
          show (hs.map _)[i]? = _
          rw [List.getElem?_map, hh]
          rfl
        refine ⟨rfl, _, rfl, b, _, rfl, .inl (SqL.of (s1 _ _ hbh)), _, rfl, rfl, _, hD1, ?_, ?_, ?_⟩
        · rw [List.length_map]
          have := List.length_take_le i bl
          have h2 : bl.length = 4 := by
            show (hs.map _).length = 4
            rw [List.length_map, ok.four]
          exact small1000 (by have := List.length_take_le' i bl; omega)
        · exact fun q o e2 => by rw [upd_ne (ne_of_none e2 hD)]; exact s1 q o e2
        · rw [upd_same, take_succ_get hbl, List.map_append]
          rfl
      · rintro H' ⟨s1, hD1⟩
        have et : bl.take (bs.map V.ref).length = bl := by
          rw [List.length_map, R.at_.length]
          show (hs.map _).take hs.length = hs.map _
          rw [← List.map_take, List.take_length]
        rw [et] at hD1
        refine ⟨D, bl, rfl, SqL.of hD1, _, rfl, ?_⟩
        have ea : bl.any id = !(hs.all fun x => x.length == (hs.headD []).length) := by
          rw [e0]
          show (hs.map _).any id = _
          rw [List.any_map, List.not_all_eq_any_not]
          congr 1
          funext h
          show (!decide (V.int (((hV h).length : Nat) : Int) = V.int (((hV h0).length : Nat) : Int))) = !(h.length == h0.length)
          rw [dV, hV_length, hV_length]
          congr 1
          rw [Bool.eq_iff_iff]
          simp
          omega
        rw [ea]
        refine ite2 (fun e1 => ?_) (fun e1 => ?_)
        · have := k H' s1
          rw [uneven (.inr (by simpa using e1))] at this
          exact this
        · refine ⟨_, rfl, hl, bs, hs, rfl, R.same s1, ?_, fun H2 s2 => ⟨_, rfl, ?_⟩⟩
          · have := flatten_len ok.size
            rw [ok.four] at this
            omega
          · have hne : ¬ ((hs.headD []).length = 0 ∨ (hs.all fun x => x.length == (hs.headD []).length) = false) := by
              rintro (q | q)
              · apply e
                rw [dV, hV_length]
                rw [e0] at q
                simp [q]
              · rw [q] at e1
                exact e1 rfl
            have hk := k H2 (s1.trans s2)
            unfold refusal at hk
            rw [if_neg hne] at hk
            refine ite2 (fun e2 => ?_) (fun e2 => ?_)
            · rw [if_neg (of_decide_eq_true e2)] at hk
              exact hk
            · have e3 : hs.flatten.Nodup := by simpa using e2
              rw [if_pos e3] at hk
              exact hk
theorem ok_read_deal (T : Txt K mg A) : FnOk P w K mg base CX0 4 A.f_read_deal A.d_read_deal ["text"] (spRead K A.C_Reader) := by
  refine T.F_read_deal.ok sc_read_deal (fun vs H Q E h => ?_) (fun cdv A' outer s H vs Q E hr h => ?_)
  · obtain ⟨a, b, rfl, _⟩ := h
    rfl
  · obtain ⟨a, b, rfl, hS, hlen, h256, k⟩ := h
    refine ⟨_, (pss_cons (st 1 sc_read_deal.nd (pe_make0 T.k_Reader (ok_Reader_init T) (hr.mono (by decide)) rfl T.m_Reader T.b_Reader_init .nil pass0))
      (pss_cons (ps_for PassesOwn.never rfl (pi_enum rfl T.z_enumerate (pa_cons (pv 0) pa_nil)) (pg_tup rfl (pgs_cons (tg 2 sc_read_deal.nd) (pgs_cons (tg 3 sc_read_deal.nd) pgs_nil)))
        (pss_one (ps_if (pt_not (pt_val (pe_meth (pv 1) T.c_Reader T.M_Reader_take (ok_Reader_take T) (hr.mono (by decide)) T.b_Reader_take .nil pass0 (pa_cons (pv 3) pa_nil))))
          (pss_cons (ps_fld (pv 1) (pe_op op_sub (gi T.g_MISPLACED) (pv 2)) rfl)
          (pss_one (ps_ret (pv 1))))
          pss_nil)))
      (pss_cons (ps_if (pt_val (pe_meth0 (pv 1) T.c_Reader T.M_Reader_may_end (ok_Reader_may_end T) (hr.mono (by decide)) T.b_Reader_may_end .nil pass0))
        (pss_one (ps_fld (pv 1) (pe_call (ok_refusal_of_hands T) (hr.mono (by decide)) rfl T.m_refusal_of_hands T.F_refusal_of_hands.kp T.b_refusal_of_hands .nil pass0 (pa_cons (pe_fld (pv 1) rfl) pa_nil)) rfl))
        (pss_one (ps_fld (pv 1) (pe_op op_sub (gi T.g_MISPLACED) (ln K T.z_len (pv 0))) rfl)))
      (pss_one (ps_ret (pv 1)))))), ?_⟩
    intro p dx np ndx nex
    refine ⟨p, dx, rfl, upd_same, fun hl z H1 R1 fl fz kp => ⟨rfl, ?_⟩⟩
    have s0 : Same H (upd (upd H dx (.own p)) p (.ins A.C_Reader dx [])) := fun q o e => by
      rw [upd_ne (ne_of_none e np), upd_ne (ne_of_none e ndx)]
      exact e
    have s1 : Same H H1 := Same.made np ndx kp
    have fl0 := s0.free fl
    have fz0 := s0.free fz
    refine ⟨_, rfl, a, _, rfl, s1.seq hS, for_enum (K := K) (a := a) (xs := hV b)
      (fun i σ H2 => ∃ v2 v3 as z x, σ = [some (.ref a), some (.ref p), v2, v3] ∧ Same H H2 ∧ RdAt A.C_Reader H2 p hl as z 0 x ∧ ROk i x ∧ Sc20.read 0 ⟨[], [], 3, 13⟩ b = Sc20.read i x (b.drop i) ∧ ∀ q ∈ as ++ [z], H q = none)
      ⟨none, none, [], z, _, rfl, s1, R1, ROk.start, rfl, fun q hq => by rw [List.mem_singleton.mp hq]; exact fz0⟩ (fun i σ H2 _ ⟨_, _, _, _, _, _, s2, _⟩ => s2.seq hS) ?_ ?_⟩
    · rintro i y σ H2 t hi ⟨v2, v3, as, z, x, rfl, s2, R, ok, er, fr⟩ ht
      obtain ⟨c, hc, rfl⟩ := hV_get hi
      have hil : i < b.length := (List.getElem?_eq_some_iff.mp hc).1
      have ed : b.drop i = c :: b.drop (i + 1) := by
        obtain ⟨h1, h2⟩ := List.getElem?_eq_some_iff.mp hc
        rw [List.drop_eq_getElem_cons h1, h2]
      have s3 : Same H2 (upd H2 t (.tup [.int (i : Nat), V.int (c : Int)])) := Same.laid ht
      have R3 : RdAt A.C_Reader (upd H2 t (.tup [.int (i : Nat), V.int (c : Int)])) p hl as z 0 x :=
        ⟨let ⟨dy, q⟩ := R.ob; ⟨dy, s3 _ _ q⟩, s3 _ _ R.ls, s3 _ _ R.now, R.old.same s3, R.nd⟩
      obtain ⟨dy, h1⟩ := R3.ob
      refine ⟨t, _, rfl, SqT.of upd_same, rfl, _, _, rfl, _, _, rfl, rfl, ?_⟩
      refine ⟨_, rfl, p, dy, _, rfl, h1, rf_no _ _ _ _ (by decide +kernel) (by decide +kernel) (by decide +kernel) (by decide +kernel), _, rfl, p, hl, as, z, 0, x, c, i, rfl, R3, ok, by omega, h256 c (List.mem_of_getElem? hc), fun en => ⟨_, rfl, iteT ?_⟩, fun y ey as' z' H4 R4 f4 k4 => ⟨_, rfl, iteF ?_⟩⟩
      · refine ⟨_, rfl, _, _, rfl, rfl, _, rfl, p, A.C_Reader, dy, _, rfl, h1, T.c_Reader, T.n_Reader_refusal, (by show 4 < 1000; decide), ?_⟩
        have hre : Sc20.read 0 ⟨[], [], 3, 13⟩ b = .error (-100 - (i : Int)) := by rw [er, ed, read_bad en]
        have hde : Sc20.deal b = .error (-100 - (i : Int)) := by rw [deal_eq, hre]
        have hpl : p ≠ hl := ne_of h1 R3.ls (by intro q; cases q)
        have hpz : p ≠ z := ne_of h1 R3.now (by intro q; cases q)
        have hpa : ∀ a ∈ as, a ≠ p := fun a ha e => by
          obtain ⟨j, hj⟩ := List.getElem?_of_mem ha
          obtain ⟨hh, _, e2⟩ := R3.old.get hj
          rw [e, h1] at e2
          cases e2
        refine ⟨_, rfl, k p hl as z (-100 - (i : Int)) x _ ⟨⟨dy, Eq.trans upd_same (congrArg (fun q => some (HO.ins A.C_Reader dy q)) (rf_put_refusal _ _ _ _ _))⟩, by rw [upd_ne hpl.symm]; exact R3.ls, by rw [upd_ne hpz.symm]; exact R3.now, R3.old.keep fun a ha o q => by rw [upd_ne (hpa a ha)]; exact q, R3.nd⟩
          (fun q o e2 => by rw [upd_ne (ne_of_none e2 np)]; exact s3 _ _ (s2 _ _ e2)) (fun e q => ?_) (fun h q => ?_)⟩
        · rw [hde] at q
          cases q
          exact ⟨rfl, by omega⟩
        · rw [hde] at q
          cases q
      · refine ⟨_, _, as', z', y, rfl, fun q o e2 => ?_, R4, ok.step ey, by rw [er, ed, read_cons ey], fun q hq => ?_⟩
        · refine k4 q o (s3 _ _ (s2 _ _ e2)) (ne_of_none e2 np) (ne_of_none e2 fl0) fun hm => ?_
          rw [fr q hm] at e2
          cases e2
        · rcases f4 q hq with m | m
          · exact fr q m
          · exact (s2.trans s3).free m
    · rintro σ H2 ⟨v2, v3, as, z, x, rfl, s2, R, ok, er, fr⟩
      obtain ⟨dy, h1⟩ := R.ob
      have hpl : p ≠ hl := ne_of h1 R.ls (by intro q; cases q)
      have hpz : p ≠ z := ne_of h1 R.now (by intro q; cases q)
      have hpa : ∀ a ∈ as, a ≠ p := fun a ha e => by
        obtain ⟨j, hj⟩ := List.getElem?_of_mem ha
        obtain ⟨hh, _, e2⟩ := R.old.get hj
        rw [e, h1] at e2
        cases e2
      rw [hV_length] at ok
      have er : Sc20.read 0 ⟨[], [], 3, 13⟩ b = if x.suit = 0 ∧ x.hands.length = 3 then .ok (soFar x) else .error (-100 - (b.length : Int)) := by
        rw [er, hV_length, List.drop_length, read_nil]
      have put : ∀ (v : Int) (H3 : Hp), Same H2 H3 → RdAt A.C_Reader (upd H3 p (.ins A.C_Reader dy (putF "refusal" (.int v) (rf hl 0 x.suit x.last)))) p hl as z v x := fun v H3 s3 =>
        ⟨⟨dy, Eq.trans upd_same (congrArg (fun q => some (HO.ins A.C_Reader dy q)) (rf_put_refusal _ _ _ _ _))⟩, by rw [upd_ne hpl.symm]; exact s3 _ _ R.ls, by rw [upd_ne hpz.symm]; exact s3 _ _ R.now,
          R.old.keep fun a ha o q => by rw [upd_ne (hpa a ha)]; exact s3 _ _ q, R.nd⟩
      refine ⟨_, rfl, p, dy, _, rfl, h1, rf_no _ _ _ _ (by decide +kernel) (by decide +kernel) (by decide +kernel) (by decide +kernel), p, hl, as, z, 0, x, rfl, R, _, rfl, ?_⟩
      refine ite2 (fun e => ?_) (fun e => ?_)
      · have e := of_decide_eq_true e
        rw [if_pos e] at er
        have h4 := ok.four (Nat.le_trans (Nat.le_refl _) hlen) e.2
        refine ⟨_, rfl, p, A.C_Reader, dy, _, _, rfl, h1, T.c_Reader, T.n_Reader_hands, rf_hands _ _ _ _, hl, _, soFar x, rfl, R.hs, h4, fun H3 s3 => ?_⟩
        refine ⟨_, rfl, p, A.C_Reader, dy, _, rfl, s3 _ _ h1, T.c_Reader, T.n_Reader_refusal, (by show 4 < 1000; decide), ?_⟩
        refine ⟨_, rfl, k p hl as z (refusal (soFar x)) x _ (put _ _ s3) (fun q o e2 => by rw [upd_ne (ne_of_none e2 np)]; exact s3 _ _ (s2 _ _ e2)) (fun e2 q => ?_) (fun h q => ?_)⟩
        · rw [deal_eq, er] at q
          have q : (if refusal (soFar x) = 0 then Except.ok (soFar x) else Except.error (refusal (soFar x))) = Except.error e2 := q
          have hle := refusal_le (soFar x)
          by_cases h0 : refusal (soFar x) = 0
          · rw [if_pos h0] at q
            cases q
          · rw [if_neg h0] at q
            cases q
            exact ⟨rfl, by omega⟩
        · rw [deal_eq, er] at q
          have q : (if refusal (soFar x) = 0 then Except.ok (soFar x) else Except.error (refusal (soFar x))) = Except.ok h := q
          by_cases h0 : refusal (soFar x) = 0
          · rw [if_pos h0] at q
            cases q
            refine ⟨h0, rfl, h4, ?_⟩
            unfold refusal at h0
            split at h0
            · cases h0
            · split at h0
              · assumption
              · cases h0
          · rw [if_neg h0] at q
            cases q
      · have e : ¬ (x.suit = 0 ∧ x.hands.length = 3) := fun q => e (decide_eq_true q)
        rw [if_neg e] at er
        have hde : Sc20.deal b = .error (-100 - (b.length : Int)) := by rw [deal_eq, er]
        refine ⟨_, rfl, a, _, rfl, .inl (s2.seq hS), _, _, rfl, rfl, _, rfl, p, A.C_Reader, dy, _, rfl, h1, T.c_Reader, T.n_Reader_refusal, (by show 4 < 1000; decide), ?_⟩
        refine ⟨_, rfl, k p hl as z _ x _ (put _ H2 (Same.refl H2)) (fun q o e2 => by rw [upd_ne (ne_of_none e2 np)]; exact s2 _ _ e2) (fun e2 q => ?_) (fun h q => ?_)⟩
        · rw [hde] at q
          cases q
          rw [hV_length]
          exact ⟨rfl, by omega⟩
        · rw [hde] at q
          cases q

end
theorem dL {n : Nat} {j : Int} (m : Nat) (h : j = (m : Int)) : decide (V.int (n : Int) = V.int j) = decide (n = m) := by
  rw [dV, h]
  by_cases e : n = m
  · rw [decide_eq_true e, decide_eq_true (by omega)]
  · rw [decide_eq_false e, decide_eq_false (by omega)]
def pf (x_trump x_hands x_turn x_taken x_laid x_led x_top x_holder : V) : List (Str × V) := [("trump", x_trump), ("hands", x_hands), ("turn", x_turn), ("taken", x_taken), ("laid", x_laid), ("led", x_led), ("top", x_top), ("holder", x_holder)]
section
variable {x_trump x_hands x_turn x_taken x_laid x_led x_top x_holder : V}
theorem pf_trump : (pf x_trump x_hands x_turn x_taken x_laid x_led x_top x_holder).lookup ("trump" : Str) = some x_trump := lk_hd
theorem pf_put_trump (y : V) : putF "trump" y (pf x_trump x_hands x_turn x_taken x_laid x_led x_top x_holder) = pf y x_hands x_turn x_taken x_laid x_led x_top x_holder := pf_hd
theorem pf_mk_0 : putF "trump" x_trump ([] : List (Str × V)) = ([("trump", x_trump)] : List (Str × V)) := rfl
theorem pf_hands : (pf x_trump x_hands x_turn x_taken x_laid x_led x_top x_holder).lookup ("hands" : Str) = some x_hands := (lk_tl (by decide +kernel)).trans (lk_hd)
theorem pf_put_hands (y : V) : putF "hands" y (pf x_trump x_hands x_turn x_taken x_laid x_led x_top x_holder) = pf x_trump y x_turn x_taken x_laid x_led x_top x_holder := (pf_tl (by decide +kernel)).trans (congrArg _ (pf_hd))
theorem pf_mk_1 : putF "hands" x_hands ([("trump", x_trump)] : List (Str × V)) = ([("trump", x_trump), ("hands", x_hands)] : List (Str × V)) := (pf_tl (by decide +kernel)).trans (congrArg _ (rfl))
theorem pf_turn : (pf x_trump x_hands x_turn x_taken x_laid x_led x_top x_holder).lookup ("turn" : Str) = some x_turn := (lk_tl (by decide +kernel)).trans ((lk_tl (by decide +kernel)).trans (lk_hd))
theorem pf_put_turn (y : V) : putF "turn" y (pf x_trump x_hands x_turn x_taken x_laid x_led x_top x_holder) = pf x_trump x_hands y x_taken x_laid x_led x_top x_holder := (pf_tl (by decide +kernel)).trans (congrArg _ ((pf_tl (by decide +kernel)).trans (congrArg _ (pf_hd))))
theorem pf_mk_2 : putF "turn" x_turn ([("trump", x_trump), ("hands", x_hands)] : List (Str × V)) = ([("trump", x_trump), ("hands", x_hands), ("turn", x_turn)] : List (Str × V)) := (pf_tl (by decide +kernel)).trans (congrArg _ ((pf_tl (by decide +kernel)).trans (congrArg _ (rfl))))
theorem pf_taken : (pf x_trump x_hands x_turn x_taken x_laid x_led x_top x_holder).lookup ("taken" : Str) = some x_taken := (lk_tl (by decide +kernel)).trans ((lk_tl (by decide +kernel)).trans ((lk_tl (by decide +kernel)).trans (lk_hd)))
theorem pf_put_taken (y : V) : putF "taken" y (pf x_trump x_hands x_turn x_taken x_laid x_led x_top x_holder) = pf x_trump x_hands x_turn y x_laid x_led x_top x_holder := (pf_tl (by decide +kernel)).trans (congrArg _ ((pf_tl (by decide +kernel)).trans (congrArg _ ((pf_tl (by decide +kernel)).trans (congrArg _ (pf_hd))))))
theorem pf_mk_3 : putF "taken" x_taken ([("trump", x_trump), ("hands", x_hands), ("turn", x_turn)] : List (Str × V)) = ([("trump", x_trump), ("hands", x_hands), ("turn", x_turn), ("taken", x_taken)] : List (Str × V)) := (pf_tl (by decide +kernel)).trans (congrArg _ ((pf_tl (by decide +kernel)).trans (congrArg _ ((pf_tl (by decide +kernel)).trans (congrArg _ (rfl))))))
theorem pf_laid : (pf x_trump x_hands x_turn x_taken x_laid x_led x_top x_holder).lookup ("laid" : Str) = some x_laid := (lk_tl (by decide +kernel)).trans ((lk_tl (by decide +kernel)).trans ((lk_tl (by decide +kernel)).trans ((lk_tl (by decide +kernel)).trans (lk_hd))))
theorem pf_put_laid (y : V) : putF "laid" y (pf x_trump x_hands x_turn x_taken x_laid x_led x_top x_holder) = pf x_trump x_hands x_turn x_taken y x_led x_top x_holder := (pf_tl (by decide +kernel)).trans (congrArg _ ((pf_tl (by decide +kernel)).trans (congrArg _ ((pf_tl (by decide +kernel)).trans (congrArg _ ((pf_tl (by decide +kernel)).trans (congrArg _ (pf_hd))))))))
theorem pf_mk_4 : putF "laid" x_laid ([("trump", x_trump), ("hands", x_hands), ("turn", x_turn), ("taken", x_taken)] : List (Str × V)) = ([("trump", x_trump), ("hands", x_hands), ("turn", x_turn), ("taken", x_taken), ("laid", x_laid)] : List (Str × V)) := (pf_tl (by decide +kernel)).trans (congrArg _ ((pf_tl (by decide +kernel)).trans (congrArg _ ((pf_tl (by decide +kernel)).trans (congrArg _ ((pf_tl (by decide +kernel)).trans (congrArg _ (rfl))))))))
theorem pf_led : (pf x_trump x_hands x_turn x_taken x_laid x_led x_top x_holder).lookup ("led" : Str) = some x_led := (lk_tl (by decide +kernel)).trans ((lk_tl (by decide +kernel)).trans ((lk_tl (by decide +kernel)).trans ((lk_tl (by decide +kernel)).trans ((lk_tl (by decide +kernel)).trans (lk_hd)))))
theorem pf_put_led (y : V) : putF "led" y (pf x_trump x_hands x_turn x_taken x_laid x_led x_top x_holder) = pf x_trump x_hands x_turn x_taken x_laid y x_top x_holder := (pf_tl (by decide +kernel)).trans (congrArg _ ((pf_tl (by decide +kernel)).trans (congrArg _ ((pf_tl (by decide +kernel)).trans (congrArg _ ((pf_tl (by decide +kernel)).trans (congrArg _ ((pf_tl (by decide +kernel)).trans (congrArg _ (pf_hd))))))))))
theorem pf_mk_5 : putF "led" x_led ([("trump", x_trump), ("hands", x_hands), ("turn", x_turn), ("taken", x_taken), ("laid", x_laid)] : List (Str × V)) = ([("trump", x_trump), ("hands", x_hands), ("turn", x_turn), ("taken", x_taken), ("laid", x_laid), ("led", x_led)] : List (Str × V)) := (pf_tl (by decide +kernel)).trans (congrArg _ ((pf_tl (by decide +kernel)).trans (congrArg _ ((pf_tl (by decide +kernel)).trans (congrArg _ ((pf_tl (by decide +kernel)).trans (congrArg _ ((pf_tl (by decide +kernel)).trans (congrArg _ (rfl))))))))))
theorem pf_top : (pf x_trump x_hands x_turn x_taken x_laid x_led x_top x_holder).lookup ("top" : Str) = some x_top := (lk_tl (by decide +kernel)).trans ((lk_tl (by decide +kernel)).trans ((lk_tl (by decide +kernel)).trans ((lk_tl (by decide +kernel)).trans ((lk_tl (by decide +kernel)).trans ((lk_tl (by decide +kernel)).trans (lk_hd))))))
theorem pf_put_top (y : V) : putF "top" y (pf x_trump x_hands x_turn x_taken x_laid x_led x_top x_holder) = pf x_trump x_hands x_turn x_taken x_laid x_led y x_holder := (pf_tl (by decide +kernel)).trans (congrArg _ ((pf_tl (by decide +kernel)).trans (congrArg _ ((pf_tl (by decide +kernel)).trans (congrArg _ ((pf_tl (by decide +kernel)).trans (congrArg _ ((pf_tl (by decide +kernel)).trans (congrArg _ ((pf_tl (by decide +kernel)).trans (congrArg _ (pf_hd))))))))))))
theorem pf_mk_6 : putF "top" x_top ([("trump", x_trump), ("hands", x_hands), ("turn", x_turn), ("taken", x_taken), ("laid", x_laid), ("led", x_led)] : List (Str × V)) = ([("trump", x_trump), ("hands", x_hands), ("turn", x_turn), ("taken", x_taken), ("laid", x_laid), ("led", x_led), ("top", x_top)] : List (Str × V)) := (pf_tl (by decide +kernel)).trans (congrArg _ ((pf_tl (by decide +kernel)).trans (congrArg _ ((pf_tl (by decide +kernel)).trans (congrArg _ ((pf_tl (by decide +kernel)).trans (congrArg _ ((pf_tl (by decide +kernel)).trans (congrArg _ ((pf_tl (by decide +kernel)).trans (congrArg _ (rfl))))))))))))
theorem pf_holder : (pf x_trump x_hands x_turn x_taken x_laid x_led x_top x_holder).lookup ("holder" : Str) = some x_holder := (lk_tl (by decide +kernel)).trans ((lk_tl (by decide +kernel)).trans ((lk_tl (by decide +kernel)).trans ((lk_tl (by decide +kernel)).trans ((lk_tl (by decide +kernel)).trans ((lk_tl (by decide +kernel)).trans ((lk_tl (by decide +kernel)).trans (lk_hd)))))))
theorem pf_put_holder (y : V) : putF "holder" y (pf x_trump x_hands x_turn x_taken x_laid x_led x_top x_holder) = pf x_trump x_hands x_turn x_taken x_laid x_led x_top y := (pf_tl (by decide +kernel)).trans (congrArg _ ((pf_tl (by decide +kernel)).trans (congrArg _ ((pf_tl (by decide +kernel)).trans (congrArg _ ((pf_tl (by decide +kernel)).trans (congrArg _ ((pf_tl (by decide +kernel)).trans (congrArg _ ((pf_tl (by decide +kernel)).trans (congrArg _ ((pf_tl (by decide +kernel)).trans (congrArg _ (pf_hd))))))))))))))
theorem pf_mk_7 : putF "holder" x_holder ([("trump", x_trump), ("hands", x_hands), ("turn", x_turn), ("taken", x_taken), ("laid", x_laid), ("led", x_led), ("top", x_top)] : List (Str × V)) = ([("trump", x_trump), ("hands", x_hands), ("turn", x_turn), ("taken", x_taken), ("laid", x_laid), ("led", x_led), ("top", x_top), ("holder", x_holder)] : List (Str × V)) := (pf_tl (by decide +kernel)).trans (congrArg _ ((pf_tl (by decide +kernel)).trans (congrArg _ ((pf_tl (by decide +kernel)).trans (congrArg _ ((pf_tl (by decide +kernel)).trans (congrArg _ ((pf_tl (by decide +kernel)).trans (congrArg _ ((pf_tl (by decide +kernel)).trans (congrArg _ ((pf_tl (by decide +kernel)).trans (congrArg _ (rfl))))))))))))))
theorem pf_no {m : Str} (h : ((["trump", "hands", "turn", "taken", "laid", "led", "top", "holder"] : List Str).all fun k => !decide (m = k)) = true) : (pf x_trump x_hands x_turn x_taken x_laid x_led x_top x_holder).lookup m = none := lk_none _ rfl h
theorem pf_made : (putF "holder" x_holder (putF "top" x_top (putF "led" x_led (putF "laid" x_laid (putF "taken" x_taken (putF "turn" x_turn (putF "hands" x_hands (putF "trump" x_trump [])))))))) = (pf x_trump x_hands x_turn x_taken x_laid x_led x_top x_holder) := by
  rw [pf_mk_0, pf_mk_1, pf_mk_2, pf_mk_3, pf_mk_4, pf_mk_5, pf_mk_6, pf_mk_7]
  rfl
end
def HdAt (H : Hp) (hp : Addr) (hs : List (List Nat)) : Prop := ∃ bs, H hp = some (.tup (bs.map V.ref)) ∧ AtT H bs hs
theorem HdAt.same {H H' : Hp} {hp : Addr} {hs : List (List Nat)} (a : HdAt H hp hs) (s : Same H H') : HdAt H' hp hs := by
  obtain ⟨bs, h1, h2⟩ := a
  exact ⟨bs, s _ _ h1, h2.same s⟩
theorem HdAt.get {H : Hp} {hp : Addr} {hs : List (List Nat)} (a : HdAt H hp hs) {i : Nat} {h : List Nat} (e : hs[i]? = some h) : ∃ (bs : List Addr) (b : Addr), H hp = some (.tup (bs.map V.ref)) ∧ (bs.map V.ref)[i]? = some (V.ref b) ∧ H b = some (.tup (hV h)) := by
  obtain ⟨bs, h1, h2⟩ := a
  obtain ⟨b, h3, h4⟩ := h2.get e
  exact ⟨bs, b, h1, by rw [List.getElem?_map, h3]; rfl, h4⟩
def pfs (trump : Nat) (p : Sc20.Pos) (hp tp : Addr) : List (Str × V) := pf (.int (trump : Nat)) (.ref hp) (.int (Sc20.turn p : Nat)) (.ref tp) (.int (p.trick.length : Nat)) (.int (cLed p)) (.int (cTop trump p)) (.int (cHold trump p : Nat))
structure PosAt (C : Addr) (H : Hp) (q : Addr) (trump : Nat) (p : Sc20.Pos) : Prop where
  ex : ∃ dx hp tp, H q = some (.ins C dx (pfs trump p hp tp)) ∧ HdAt H hp p.hands ∧ H tp = some (.tup [.int (p.won.1 : Nat), .int (p.won.2 : Nat)])
theorem PosAt.same {C : Addr} {H H' : Hp} {q : Addr} {trump : Nat} {p : Sc20.Pos} (a : PosAt C H q trump p) (s : Same H H') : PosAt C H' q trump p := by
  obtain ⟨dx, hp, tp, h1, h2, h3⟩ := a.ex
  exact ⟨dx, hp, tp, s _ _ h1, h2.same s, s _ _ h3⟩
def spSide : Sp := fun vs H Q _ => ∃ n : Nat, vs = [.int (n : Nat)] ∧ Q (.int ((n % 2 : Nat) : Int)) H
def spNext : Sp := fun vs H Q _ => ∃ n : Nat, vs = [.int (n : Nat)] ∧ Q (.int (((n + 1) % 4 : Nat) : Int)) H
def spSuit : Sp := fun vs H Q _ => ∃ n : Nat, vs = [.int (n : Nat)] ∧ Q (.int ((Sc20.suitOf n : Nat) : Int)) H
def spBeats : Sp := fun vs H Q _ => ∃ c b t : Nat, vs = [.int (c : Nat), .int (b : Nat), .int (t : Nat)] ∧ Q (.bl (Sc20.beats t c b)) H
def spPInit (C : Addr) : Sp := fun vs H Q _ => ∃ (q dx : Addr) (v1 v2 v3 v4 : V), vs = [.ref q, v1, v2, v3, v4] ∧ H q = some (.ins C dx []) ∧
  ∀ H' : Hp, H' q = some (.ins C dx (pf v1 v2 v3 v4 (.int 0) (.int (-1)) (.int (-1)) (.int 4))) → (∀ b o, H b = some o → b ≠ q → H' b = some o) → Q .non H'
def spWithout : Sp := fun vs H Q _ => ∃ (hp : Addr) (hs : List (List Nat)) (i c : Nat) (h : List Nat), vs = [.ref hp, .int (i : Nat), .int (c : Nat)] ∧ HdAt H hp hs ∧ hs[i]? = some h ∧ h.length ≤ 300 ∧ hs.length ≤ 4 ∧
  ∀ (hp' : Addr) (H' : Hp), Same H H' → HdAt H' hp' (hs.set i (h.filter fun x => x != c)) → Q (.ref hp') H'
def spOneMore : Sp := fun vs H Q _ => ∃ (tp : Addr) (a b i : Nat), vs = [.ref tp, .int (i : Nat)] ∧ H tp = some (.tup [.int (a : Nat), .int (b : Nat)]) ∧
  ∀ (tp' : Addr) (H' : Hp), Same H H' → H' tp' = some (.tup [.int (((if i % 2 = 0 then (a + 1, b) else (a, b + 1)).1 : Nat) : Int), .int (((if i % 2 = 0 then (a + 1, b) else (a, b + 1)).2 : Nat) : Int)]) → Q (.ref tp') H'
def spChoices (C : Addr) : Sp := fun vs H Q _ => ∃ (q : Addr) (trump T : Nat) (p : Sc20.Pos), vs = [.ref q] ∧ PosAt C H q trump p ∧ POk T p ∧ T ≤ 300 ∧
  ∀ (l : Addr) (H' : Hp), Same H H' → H l = none → H' l = some (.lst (hV (Sc20.playable p))) → Q (.ref l) H'
def spAfter (C : Addr) : Sp := fun vs H Q _ => ∃ (q : Addr) (trump T : Nat) (p : Sc20.Pos) (c : Nat), vs = [.ref q, .int (c : Nat)] ∧ PosAt C H q trump p ∧ POk T p ∧ T ≤ 300 ∧
  ∀ (q' : Addr) (H' : Hp), Same H H' → H q' = none → PosAt C H' q' trump (Sc20.played trump p c) → Q (.ref q') H'
def spPOver (C : Addr) : Sp := fun vs H Q _ => ∃ (q : Addr) (trump T : Nat) (p : Sc20.Pos), vs = [.ref q] ∧ PosAt C H q trump p ∧ POk T p ∧ Q (.bl (decide (Sc20.left p = 0))) H
def spStart (C : Addr) : Sp := fun vs H Q _ => ∃ (hl : Addr) (bs : List Addr) (hs : List (List Nat)) (trump leader : Nat), vs = [.int (trump : Nat), .int (leader : Nat), .ref hl] ∧ HsAt H hl bs hs ∧ hs.length = 4 ∧ leader < 4 ∧
  ∀ (q : Addr) (H' : Hp), Same H H' → H q = none → PosAt C H' q trump (Sc20.start hs leader) → Q (.ref q) H'
theorem POk.hdLen {T : Nat} {p : Sc20.Pos} (ok : POk T p) {i : Nat} (hi : i < 4) : (Fh.hd p i).length ≤ T := by
  obtain ⟨n, hn, hT⟩ := ok.len
  have := hn i hi
  omega
section
variable {P : Program} {w : World} {K : PySem.W.Frag} {mg : Str → Option Value} {base : Heap} {A : Ad}
theorem ok_side_of (T : Txt K mg A) : FnOk P w K mg base CX0 1 A.f_side_of A.d_side_of ["player"] spSide := by
  refine T.F_side_of.ok sc_side_of (fun vs H Q E h => ?_) (fun cdv A' outer s H vs Q E hr h => ?_)
  · obtain ⟨_, rfl, _⟩ := h
    rfl
  · obtain ⟨n, rfl, k⟩ := h
    refine ⟨_, (pss_one (ps_ret (pe_op op_mod (pv 0) pe_int))), ?_⟩
    refine ⟨_, rfl, _, _, rfl, rfl, (by show (0 : Int) < 2; decide), ?_⟩
    have e : ((n % 2 : Nat) : Int) = (n : Int) % 2 := by omega
    rw [e] at k
    exact k
theorem ok_player_after (T : Txt K mg A) : FnOk P w K mg base CX0 1 A.f_player_after A.d_player_after ["player"] spNext := by
  refine T.F_player_after.ok sc_player_after (fun vs H Q E h => ?_) (fun cdv A' outer s H vs Q E hr h => ?_)
  · obtain ⟨_, rfl, _⟩ := h
    rfl
  · obtain ⟨n, rfl, k⟩ := h
    refine ⟨_, (pss_one (ps_ret (pe_op op_mod (pe_op op_add (pv 0) pe_int) (gi T.g_PLAYERS)))), ?_⟩
    refine ⟨_, rfl, _, _, rfl, rfl, _, _, rfl, rfl, (by show (0 : Int) < 4; decide), ?_⟩
    have e : (((n + 1) % 4 : Nat) : Int) = ((n : Int) + 1) % 4 := by omega
    rw [e] at k
    exact k
theorem ok_suit_of (T : Txt K mg A) : FnOk P w K mg base CX0 1 A.f_suit_of A.d_suit_of ["card"] spSuit := by
  refine T.F_suit_of.ok sc_suit_of (fun vs H Q E h => ?_) (fun cdv A' outer s H vs Q E hr h => ?_)
  · obtain ⟨_, rfl, _⟩ := h
    rfl
  · obtain ⟨n, rfl, k⟩ := h
    refine ⟨_, (pss_one (ps_ret (pe_op op_fdiv (pv 0) (gi T.g_RANKS)))), ?_⟩
    refine ⟨_, rfl, _, _, rfl, rfl, ⟨by decide, by decide⟩, ?_⟩
    have e : ((Sc20.suitOf n : Nat) : Int) = (n : Int) / 13 := by
      unfold Sc20.suitOf
      omega
    rw [e] at k
    exact k
theorem ok_beats (T : Txt K mg A) : FnOk P w K mg base CX0 2 A.f_beats A.d_beats ["card", "top", "trump"] spBeats := by
  refine T.F_beats.ok sc_beats (fun vs H Q E h => ?_) (fun cdv A' outer s H vs Q E hr h => ?_)
  · obtain ⟨_, _, _, rfl, _⟩ := h
    rfl
  · obtain ⟨c, b, t, rfl, k⟩ := h
    rw [beats_eq] at k
    refine ⟨_, (pss_cons (ps_if (pt_cmpR op_eq (pe_call (ok_suit_of T) (hr.mono (by decide)) rfl T.m_suit_of T.F_suit_of.kp T.b_suit_of .nil pass0 (pa_cons (pv 0) pa_nil)) (pe_call (ok_suit_of T) (hr.mono (by decide)) rfl T.m_suit_of T.F_suit_of.kp T.b_suit_of .nil pass0 (pa_cons (pv 1) pa_nil)) (nomark _))
        (pss_one (ps_ret (pe_cmpR op_gt (pv 0) (pv 1) (nomark _))))
        pss_nil)
      (pss_one (ps_ret (pe_cmpR op_eq (pe_call (ok_suit_of T) (hr.mono (by decide)) rfl T.m_suit_of T.F_suit_of.kp T.b_suit_of .nil pass0 (pa_cons (pv 0) pa_nil)) (pv 2) (nomark _))))), ?_⟩
    refine ⟨_, rfl, c, rfl, _, rfl, b, rfl, rfl, _, rfl, ?_⟩
    rw [dL (j := ((Sc20.suitOf b : Nat) : Int)) (Sc20.suitOf b) rfl]
    refine ite2 (fun e => ?_) (fun e => ?_)
    · rw [if_pos (of_decide_eq_true e)] at k
      refine ⟨_, rfl, _, rfl, _, _, rfl, rfl, ?_⟩
      have e : decide (b < c) = decide ((b : Int) < (c : Int)) := by
        by_cases z : b < c
        · rw [decide_eq_true z, decide_eq_true (by omega)]
        · rw [decide_eq_false z, decide_eq_false (by omega)]
      rw [e] at k
      exact k
    · rw [if_neg (fun z => e (decide_eq_true z))] at k
      refine ⟨_, rfl, c, rfl, _, rfl, rfl, ?_⟩
      rw [dL (j := ((t : Nat) : Int)) t rfl]
      exact k
theorem ok_Position_init (T : Txt K mg A) : FnOk P w K mg base CX0 1 A.f_Position_init A.d_Position_init ["self", "trump", "hands", "turn", "taken"] (spPInit A.C_Position) := by
  refine T.F_Position_init.ok sc_Position_init (fun vs H Q E h => ?_) (fun cdv A' outer s H vs Q E hr h => ?_)
  · obtain ⟨_, _, _, _, _, _, rfl, _⟩ := h
    rfl
  · obtain ⟨q, dx, v1, v2, v3, v4, rfl, hq, k⟩ := h
    refine ⟨_, (pss_cons (ps_fld (pv 0) (pv 1) rfl)
      (pss_cons (ps_fld (pv 0) (pv 2) rfl)
      (pss_cons (ps_fld (pv 0) (pv 3) rfl)
      (pss_cons (ps_fld (pv 0) (pv 4) rfl)
      (pss_cons (ps_fld (pv 0) pe_int rfl)
      (pss_cons (ps_fld (pv 0) (gi T.g_NO_SUIT) rfl)
      (pss_cons (ps_fld (pv 0) (gi T.g_NO_CARD) rfl)
      (pss_one (ps_fld (pv 0) (gi T.g_NOBODY) rfl))))))))), ?_⟩
    refine ⟨_, rfl, _, rfl, q, A.C_Position, dx, _, rfl, hq, T.c_Position, T.n_Position_trump, (by show 0 < 1000; decide), ?_⟩
    refine ⟨_, rfl, _, rfl, q, A.C_Position, dx, _, rfl, upd_same, T.c_Position, T.n_Position_hands, (Nat.lt_of_lt_of_le (fl_put fl_nil) (by decide)), ?_⟩
    refine ⟨_, rfl, _, rfl, q, A.C_Position, dx, _, rfl, upd_same, T.c_Position, T.n_Position_turn, (Nat.lt_of_lt_of_le (fl_put (fl_put fl_nil)) (by decide)), ?_⟩
    refine ⟨_, rfl, _, rfl, q, A.C_Position, dx, _, rfl, upd_same, T.c_Position, T.n_Position_taken, (Nat.lt_of_lt_of_le (fl_put (fl_put (fl_put fl_nil))) (by decide)), ?_⟩
    refine ⟨_, rfl, q, A.C_Position, dx, _, rfl, upd_same, T.c_Position, T.n_Position_laid, (Nat.lt_of_lt_of_le (fl_put (fl_put (fl_put (fl_put fl_nil)))) (by decide)), ?_⟩
    refine ⟨_, rfl, q, A.C_Position, dx, _, rfl, upd_same, T.c_Position, T.n_Position_led, (Nat.lt_of_lt_of_le (fl_put (fl_put (fl_put (fl_put (fl_put fl_nil))))) (by decide)), ?_⟩
    refine ⟨_, rfl, q, A.C_Position, dx, _, rfl, upd_same, T.c_Position, T.n_Position_top, (Nat.lt_of_lt_of_le (fl_put (fl_put (fl_put (fl_put (fl_put (fl_put fl_nil)))))) (by decide)), ?_⟩
    refine ⟨_, rfl, q, A.C_Position, dx, _, rfl, upd_same, T.c_Position, T.n_Position_holder, (Nat.lt_of_lt_of_le (fl_put (fl_put (fl_put (fl_put (fl_put (fl_put (fl_put fl_nil))))))) (by decide)), ?_⟩
    refine k _ (ins_eq upd_same pf_made) fun b o e hb => ?_
    rw [upd_ne hb, upd_ne hb, upd_ne hb, upd_ne hb, upd_ne hb, upd_ne hb, upd_ne hb, upd_ne hb]
    exact e
theorem ok_one_more (T : Txt K mg A) : FnOk P w K mg base CX0 2 A.f_one_more A.d_one_more ["taken", "player"] spOneMore := by
  refine T.F_one_more.ok sc_one_more (fun vs H Q E h => ?_) (fun cdv A' outer s H vs Q E hr h => ?_)
  · obtain ⟨_, _, _, _, rfl, _⟩ := h
    rfl
  · obtain ⟨tp, a, b, i, rfl, ht, k⟩ := h
    refine ⟨_, (pss_cons (ps_if (pt_cmpR op_eq (pe_call (ok_side_of T) (hr.mono (by decide)) rfl T.m_side_of T.F_side_of.kp T.b_side_of .nil pass0 (pa_cons (pv 1) pa_nil)) pe_int (nomark _))
        (pss_one (ps_ret (pe_tup (pa_cons (pe_op op_add (pe_ix ix_tup (pv 0) pe_int (fun _ _ => rfl)) pe_int) (pa_cons (pe_ix ix_tup (pv 0) pe_int (fun _ _ => rfl)) pa_nil)))))
        pss_nil)
      (pss_one (ps_ret (pe_tup (pa_cons (pe_ix ix_tup (pv 0) pe_int (fun _ _ => rfl)) (pa_cons (pe_op op_add (pe_ix ix_tup (pv 0) pe_int (fun _ _ => rfl)) pe_int) pa_nil)))))), ?_⟩
    refine ⟨_, rfl, i, rfl, rfl, _, rfl, ?_⟩
    rw [dL (j := 0) 0 rfl]
    refine ite2 (fun e => ?_) (fun e => ?_)
    · have e := of_decide_eq_true e
      refine ⟨_, rfl, tp, _, _, V.int (a : Nat), rfl, rfl, SqT.of ht, atI_nat (j := 0) rfl, _, _, rfl, rfl, _, rfl, tp, _, _, V.int (b : Nat), rfl, rfl, SqT.of ht, atI_nat (j := 1) rfl, (by show 2 ≤ sizeLine; decide), fun t ht' => ?_⟩
      refine k t _ (Same.laid ht') ?_
      rw [upd_same, if_pos e]
      rfl
    · have e : ¬ i % 2 = 0 := fun z => e (decide_eq_true z)
      refine ⟨_, rfl, tp, _, _, V.int (a : Nat), rfl, rfl, SqT.of ht, atI_nat (j := 0) rfl, _, rfl, tp, _, _, V.int (b : Nat), rfl, rfl, SqT.of ht, atI_nat (j := 1) rfl, _, _, rfl, rfl, (by show 2 ≤ sizeLine; decide), fun t ht' => ?_⟩
      refine k t _ (Same.laid ht') ?_
      rw [upd_same, if_neg e]
      rfl
theorem ok_without (T : Txt K mg A) : FnOk P w K mg base CX0 1 A.f_without A.d_without ["hands", "player", "card"] spWithout := by
  refine T.F_without.ok sc_without (fun vs H Q E h => ?_) (fun cdv A' outer s H vs Q E hr h => ?_)
  · obtain ⟨_, _, _, _, _, rfl, _⟩ := h
    rfl
  · obtain ⟨hp, hs, i, c, h, rfl, hA, hi, hlen, h4, k⟩ := h
    obtain ⟨bs, h1, h2⟩ := id hA
    obtain ⟨b, h3, h5⟩ := h2.get hi
    have hib : i < bs.length := (List.getElem?_eq_some_iff.mp h3).1
    refine ⟨_, (pss_cons (st 3 sc_without.nd (pe_callTy call_list_of rfl T.z_list PyProof.Rows.boot_list (pa_cons (pv 0) pa_nil)))
      (pss_cons (ps_asg (pe_callTy call_tuple_of rfl T.z_tuple PyProof.Rows.boot_tuple (pa_cons (pe_lc (own := [("held", 4)]) rfl sc_without.nd (pi_tup (pe_ix ix_tup (pv 0) (pv 1) (fun _ _ => rfl))) (BlkOk.of (N' := ["hands", "player", "card", "left", "held"]) (sc' := defScope s_without) rfl rfl ⟨rfl, by decide +kernel, by decide +kernel, by decide +kernel, by decide +kernel⟩) (fun _ _ _ _ _ => (tg 4 sc_without.nd)) (fun _ _ _ _ _ => (pts_one (pt_cmpR op_ne (pv 4) (pv 2) (nomark _)))) (fun _ _ _ _ _ => (pv 4))) pa_nil)) (pg_sub (pv 3) (pv 1) set_list))
      (pss_one (ps_ret (pe_callTy call_tuple_of rfl T.z_tuple PyProof.Rows.boot_tuple (pa_cons (pv 3) pa_nil)))))), ?_⟩
    refine ⟨_, rfl, hp, _, rfl, .inr (SqT.of h1), fun l hl => ?_⟩
    have s1 : Same H (upd H l (.lst (bs.map V.ref))) := Same.laid hl
    refine ⟨_, rfl, _, rfl, hp, _, _, V.ref b, rfl, rfl, SqT.of (s1 _ _ h1), atI_nat (by rw [List.getElem?_map, h3]; rfl), b, rfl, ⟨_, SqT.of (s1 _ _ h5)⟩, fun D hD => ?_⟩
    have hD0 : H D = none := s1.free hD
    have hlD : l ≠ D := fun z => by rw [← z, upd_same] at hD; cases hD
    refine lc_tup (K := K) (a := b) (xs := hV h) (fun j H' => Same H H' ∧ H' l = some (.lst (bs.map V.ref)) ∧ H' D = some (.lst (hV ((h.take j).filter fun x => x != c)))) ⟨s1.trans (Same.laid hD), by rw [upd_ne hlD, upd_same], upd_same⟩ (fun j H' _ p => SqT.of (p.1 _ _ h5)) ?_ ?_
    · rintro j x H' hj ⟨s2, hl2, hD2⟩
      obtain ⟨y, hy, rfl⟩ := hV_get hj
      refine ⟨rfl, _, rfl, _, rfl, rfl, _, rfl, ?_⟩
      rw [dL (j := ((c : Nat) : Int)) c rfl]
      rw [take_succ_get hy, List.filter_append]
      by_cases e : y = c
      · have e2 : [y].filter (fun x => x != c) = [] := by simp [e]
        rw [decide_eq_true e, e2, List.append_nil]
        exact iteF ⟨s2, hl2, hD2⟩
      · have e2 : [y].filter (fun x => x != c) = [y] := by simp [e]
        rw [decide_eq_false e, e2]
        refine iteT ⟨_, rfl, _, hD2, ?_, ?_, ?_, ?_⟩
        · rw [hV_length]
          have h1 := List.length_filter_le (fun x => x != c) (h.take j)
          have h2 := List.length_take_le' j h
          exact small1000 (by omega)
        · exact fun q o e3 => by rw [upd_ne (ne_of_none e3 hD0)]; exact s2 q o e3
        · rw [upd_ne hlD]
          exact hl2
        · rw [upd_same, hV_append]
          rfl
    · rintro H' ⟨s2, hl2, hD2⟩
      rw [hV_length, List.take_length] at hD2
      refine ⟨D, _, rfl, .inl ⟨SqL.of hD2, fun t ht => ?_⟩⟩
      have s3 : Same H' (upd H' t (.tup (hV (h.filter fun x => x != c)))) := Same.laid ht
      refine ⟨_, rfl, _, rfl, l, _, _, i, rfl, rfl, s3 _ _ hl2, ixN_nat (by rw [List.length_map]; exact hib), ?_⟩
      refine ⟨_, rfl, l, _, rfl, .inl ⟨SqL.of upd_same, fun t2 ht2 => ?_⟩⟩
      have hl0 : H l = none := hl
      have s4 : Same H (upd (upd H' t (.tup (hV (h.filter fun x => x != c)))) l (.lst ((bs.map V.ref).set i (V.ref t)))) := fun q o e3 => by
        rw [upd_ne (ne_of_none e3 hl0)]
        exact s3 _ _ (s2 q o e3)
      have tl : t ≠ l := fun z => by
        rw [z] at ht
        rw [hl2] at ht
        cases ht
      have s5 := s4.trans (Same.laid (o := .tup ((bs.map V.ref).set i (V.ref t))) ht2)
      refine k t2 _ s5 ⟨bs.set i t, ?_, ?_⟩
      · rw [upd_same, List.map_set]
      · refine (h2.same s5).set i ?_
        have tt2 : t ≠ t2 := fun z => by
          rw [← z, upd_ne tl, upd_same] at ht2
          cases ht2
        rw [upd_ne tt2, upd_ne tl, upd_same]
theorem ok_Position_choices (T : Txt K mg A) : FnOk P w K mg base CX0 2 A.f_Position_choices A.d_Position_choices ["self"] (spChoices A.C_Position) := by
  refine T.F_Position_choices.ok sc_Position_choices (fun vs H Q E h => ?_) (fun cdv A' outer s H vs Q E hr h => ?_)
  · obtain ⟨_, _, _, _, rfl, _⟩ := h
    rfl
  · obtain ⟨q, trump, n, p, rfl, R, ok, hT, k⟩ := h
    obtain ⟨dx, hp, tp, h1, hH, h3⟩ := R.ex
    have ht := Fh.turn_lt p
    obtain ⟨bs, b, g1, g2, g3⟩ := hH.get (hd_get ok.four ht)
    have hlen := ok.hdLen ht
    rw [choices_eq] at k
    refine ⟨_, (pss_cons (st 1 sc_Position_choices.nd (pe_ix ix_tup (pe_fld (pv 0) rfl) (pe_fld (pv 0) rfl) (fun _ _ => rfl)))
      (pss_cons (ps_setLc (i := 2) (own := [("card", 3)]) rfl sc_Position_choices.nd rfl rfl (sw_true rfl rfl rfl rfl) (pi_tup (pv 1)) (BlkOk.of (N' := ["self", "hand", "following", "card"]) (sc' := defScope s_Position_choices) rfl rfl ⟨rfl, by decide +kernel, by decide +kernel, by decide +kernel, by decide +kernel⟩) (fun _ _ _ _ _ => (tg 3 sc_Position_choices.nd)) (fun _ _ _ _ _ => (pts_one (pt_cmpR op_eq (pe_call (ok_suit_of T) (hr.mono (by decide)) rfl T.m_suit_of T.F_suit_of.kp T.b_suit_of .nil pass0 (pa_cons (pv 3) pa_nil)) (fldK K (pv 0)) (nomark _)))) (fun _ _ _ _ _ => (pv 3)))
      (pss_cons (ps_if (pt_cmpR op_gt (ln K T.z_len (pv 2)) pe_int (nomark _))
        (pss_one (ps_ret (pv 2)))
        pss_nil)
      (pss_one (ps_ret (pe_callTy call_list_of rfl T.z_list PyProof.Rows.boot_list (pa_cons (pv 1) pa_nil))))))), ?_⟩
    refine ⟨_, rfl, q, A.C_Position, dx, _, _, rfl, h1, T.c_Position, T.n_Position_hands, pf_hands, _, rfl, q, A.C_Position, dx, _, _, rfl, h1, T.c_Position, T.n_Position_turn, pf_turn, hp, _, _, V.ref b, rfl, rfl, SqT.of g1, atI_nat g2, ?_⟩
    refine ⟨_, rfl, b, rfl, ⟨_, SqT.of g3⟩, fun D hD => ?_⟩
    refine lc_tup (K := K) (a := b) (xs := hV (Fh.hd p (Sc20.turn p))) (fun j H' => Same H H' ∧ H' D = some (.lst (hV (((Fh.hd p (Sc20.turn p)).take j).filter fun x => decide (((Sc20.suitOf x : Nat) : Int) = cLed p))))) ⟨Same.laid hD, upd_same⟩ (fun j H' _ z => SqT.of (z.1 _ _ g3)) ?_ ?_
    · rintro j x H' hj ⟨s2, hD2⟩
      obtain ⟨y, hy, rfl⟩ := hV_get hj
      refine ⟨rfl, _, rfl, y, rfl, _, rfl, q, A.C_Position, dx, _, _, rfl, s2 _ _ h1, T.c_Position, T.n_Position_led, pf_led, rfl, _, rfl, ?_⟩
      rw [dV]
      rw [take_succ_get hy, List.filter_append]
      by_cases e : ((Sc20.suitOf y : Nat) : Int) = cLed p
      · have e2 : [y].filter (fun x => decide (((Sc20.suitOf x : Nat) : Int) = cLed p)) = [y] := by simp [e]
        rw [decide_eq_true e, e2]
        refine iteT ⟨_, rfl, _, hD2, ?_, ?_, ?_⟩
        · rw [hV_length]
          have h1 := List.length_filter_le (fun x => decide (((Sc20.suitOf x : Nat) : Int) = cLed p)) ((Fh.hd p (Sc20.turn p)).take j)
          have h2 := List.length_take_le' j (Fh.hd p (Sc20.turn p))
          exact small1000 (by omega)
        · exact fun q o e3 => by rw [upd_ne (ne_of_none e3 hD)]; exact s2 q o e3
        · rw [upd_same, hV_append]
          rfl
      · have e2 : [y].filter (fun x => decide (((Sc20.suitOf x : Nat) : Int) = cLed p)) = [] := by simp [e]
        rw [decide_eq_false e, e2, List.append_nil]
        exact iteF ⟨s2, hD2⟩
    · rintro H' ⟨s2, hD2⟩
      rw [hV_length, List.take_length] at hD2
      refine ⟨_, rfl, D, _, rfl, .inl (SqL.of hD2), _, _, rfl, rfl, _, rfl, ite2 (fun e => ?_) (fun e => ?_)⟩
      · have e := of_decide_eq_true e
        rw [hV_length] at e
        refine ⟨_, rfl, k D H' s2 hD ?_⟩
        rw [if_pos]
        · exact hD2
        · intro z
          rw [z] at e
          simp at e
      · have e : ¬ (0 : Int) < ((hV ((Fh.hd p (Sc20.turn p)).filter fun x => decide (((Sc20.suitOf x : Nat) : Int) = cLed p))).length : Int) := fun z => e (decide_eq_true z)
        rw [hV_length] at e
        refine ⟨_, rfl, b, _, rfl, .inr (SqT.of (s2 _ _ g3)), fun l hl => k l _ (s2.trans (Same.laid hl)) (s2.free hl) ?_⟩
        rw [if_neg]
        · exact upd_same
        · intro z
          apply z
          apply List.eq_nil_of_length_eq_zero
          omega
theorem ok_Position_is_over (T : Txt K mg A) : FnOk P w K mg base CX0 1 A.f_Position_is_over A.d_Position_is_over ["self"] (spPOver A.C_Position) := by
  refine T.F_Position_is_over.ok sc_Position_is_over (fun vs H Q E h => ?_) (fun cdv A' outer s H vs Q E hr h => ?_)
  · obtain ⟨_, _, _, _, rfl, _⟩ := h
    rfl
  · obtain ⟨q, trump, n, p, rfl, R, ok, k⟩ := h
    obtain ⟨dx, hp, tp, h1, hH, h3⟩ := R.ex
    have ht := Fh.turn_lt p
    obtain ⟨bs, b, g1, g2, g3⟩ := hH.get (hd_get ok.four ht)
    refine ⟨_, (pss_one (ps_ret (pe_cmpR op_eq (ln K T.z_len (pe_ix ix_tup (pe_fld (pv 0) rfl) (pe_fld (pv 0) rfl) (fun _ _ => rfl))) pe_int (nomark _)))), ?_⟩
    refine ⟨_, rfl, q, A.C_Position, dx, _, _, rfl, h1, T.c_Position, T.n_Position_hands, pf_hands, _, rfl, q, A.C_Position, dx, _, _, rfl, h1, T.c_Position, T.n_Position_turn, pf_turn, hp, _, _, V.ref b, rfl, rfl, SqT.of g1, atI_nat g2, b, _, rfl, .inr (SqT.of g3), rfl, ?_⟩
    rw [dL (j := 0) 0 rfl, hV_length]
    have e : decide (Sc20.left p = 0) = decide ((Fh.hd p (Sc20.turn p)).length = 0) := by
      by_cases z : (Fh.hd p (Sc20.turn p)).length = 0
      · rw [decide_eq_true z, decide_eq_true ((left_zero ok).mpr z)]
      · rw [decide_eq_false z, decide_eq_false fun y => z ((left_zero ok).mp y)]
    rw [e] at k
    exact k
theorem ok_start_of_play (T : Txt K mg A) : FnOk P w K mg base CX0 3 A.f_start_of_play A.d_start_of_play ["trump", "leader", "hands"] (spStart A.C_Position) := by
  refine T.F_start_of_play.ok sc_start_of_play (fun vs H Q E h => ?_) (fun cdv A' outer s H vs Q E hr h => ?_)
  · obtain ⟨_, _, _, _, _, rfl, _⟩ := h
    rfl
  · obtain ⟨hl, bs, hs, trump, leader, rfl, R, h4, hld, k⟩ := h
    refine ⟨_, (pss_one (ps_ret (pe_make T.k_Position (ok_Position_init T) (hr.mono (by decide)) rfl T.m_Position T.b_Position_init .nil pass0 (pa_cons (pv 0) (pa_cons (pe_callTy call_tuple_of rfl T.z_tuple PyProof.Rows.boot_tuple (pa_cons (pe_lc (own := [("hand", 3)]) rfl sc_start_of_play.nd (pi_list (pv 2)) (BlkOk.of (N' := ["trump", "leader", "hands", "hand"]) (sc' := defScope s_start_of_play) rfl rfl ⟨rfl, by decide +kernel, by decide +kernel, by decide +kernel, by decide +kernel⟩) (fun _ _ _ _ _ => (tg 3 sc_start_of_play.nd)) (fun _ _ _ _ _ => pts_nil) (fun _ _ _ _ _ => (tpK K T.z_tuple (pv 3)))) pa_nil)) (pa_cons (pv 1) (pa_cons (pe_tup (pa_cons pe_int (pa_cons pe_int pa_nil))) pa_nil))))))), ?_⟩
    refine ⟨_, rfl, _, rfl, hl, rfl, ⟨_, SqL.of R.ls⟩, fun D hD => ?_⟩
    refine lc_list (K := K) (a := hl) (xs := bs.map V.ref) (fun j H' => Same H H' ∧ ∃ ts : List Addr, H' D = some (.lst (ts.map V.ref)) ∧ AtT H' ts (hs.take j)) ⟨Same.laid hD, [], upd_same, .nil⟩ (fun j H' _ z => SqL.of (z.1 _ _ R.ls)) ?_ ?_
    · rintro j x H' hj ⟨s2, ts, hD2, hA⟩
      obtain ⟨b, hb, rfl⟩ := refs_get hj
      obtain ⟨h, hh, hbh⟩ := R.at_.get hb
      refine ⟨rfl, _, rfl, b, _, rfl, .inl ⟨SqL.of (s2 _ _ hbh), fun t ht => ?_⟩⟩
      have hDt : D ≠ t := ne_of_none hD2 ht
      refine ⟨_, (upd_ne hDt).trans hD2, ?_, ?_, ts ++ [t], ?_, ?_⟩
      · rw [List.length_map, hA.length]
        have := List.length_take_le' j hs
        exact small1000 (by omega)
      · intro q o e3
        have := s2 q o e3
        rw [upd_ne (ne_of_none e3 hD), upd_ne (ne_of_none this ht)]
        exact this
      · rw [upd_same, List.map_append]
        rfl
      · rw [take_succ_get hh]
        refine (hA.keep fun a xs e3 => ?_).snoc ?_
        · rw [upd_ne (ne_of e3 hD2 (by intro z; cases z)), upd_ne (ne_of_none e3 ht)]
          exact e3
        · rw [upd_ne hDt.symm, upd_same]
    · rintro H' ⟨s2, ts, hD2, hA⟩
      have et : hs.take (bs.map V.ref).length = hs := by
        rw [List.length_map, R.at_.length, List.take_length]
      rw [et] at hA
      refine ⟨D, _, rfl, .inl ⟨SqL.of hD2, fun hp hhp => ?_⟩⟩
      refine ⟨_, rfl, (by show 2 ≤ sizeLine; decide), fun tp htp => ?_⟩
      intro x dx nx ndx nex
      have s3 := (s2.trans (Same.laid (o := .tup (ts.map V.ref)) hhp)).trans (Same.laid (o := .tup [V.int 0, V.int 0]) htp)
      refine ⟨x, dx, _, _, _, _, rfl, upd_same, fun H3 h3 kp => ⟨rfl, ?_⟩⟩
      have s4 : Same (upd (upd H' hp (.tup (ts.map V.ref))) tp (.tup [V.int 0, V.int 0])) H3 := Same.made nx ndx kp
      have hpt : hp ≠ tp := fun z => by rw [← z, upd_same] at htp; cases htp
      refine k x H3 (s3.trans s4) (s3.free nx) ⟨dx, hp, tp, ins_eq h3 ?_, ⟨ts, s4 _ _ ((upd_ne hpt).trans upd_same), ?_⟩, s4 _ _ upd_same⟩
      · have e : Sc20.turn (Sc20.start hs leader) = leader := by
          unfold Sc20.turn Sc20.start
          simp only [List.length_nil]
          omega
        unfold pfs
        rw [e]
        rfl
      · exact ((hA.same (Same.laid hhp)).same (Same.laid htp)).same s4
theorem ok_Position_after (T : Txt K mg A) : FnOk P w K mg base CX0 3 A.f_Position_after A.d_Position_after ["self", "card"] (spAfter A.C_Position) := by
  refine T.F_Position_after.ok sc_Position_after (fun vs H Q E h => ?_) (fun cdv A' outer s H vs Q E hr h => ?_)
  · obtain ⟨_, _, _, _, _, rfl, _⟩ := h
    rfl
  · obtain ⟨q, trump, n, p, c, rfl, R, ok, hT, k⟩ := h
    obtain ⟨dx, hp, tp, h1, hH, h3⟩ := R.ex
    have ht := Fh.turn_lt p
    have hlen := ok.hdLen ht
    have hg := hd_get ok.four ht
    rw [played_eq trump p c ok.few] at k
    refine ⟨_, (pss_cons (st 2 sc_Position_after.nd (pe_cmpR op_eq (pe_fld (pv 0) rfl) pe_int (nomark _)))
      (pss_cons (st 3 sc_Position_after.nd (pe_or (pv 2) (pe_one (pe_call (ok_beats T) (hr.mono (by decide)) rfl T.m_beats T.F_beats.kp T.b_beats .nil pass0 (pa_cons (pv 1) (pa_cons (pe_fld (pv 0) rfl) (pa_cons (pe_fld (pv 0) rfl) pa_nil)))))))
      (pss_cons (st 4 sc_Position_after.nd (pe_ifExp (pt_val (pv 3)) (pe_fld (pv 0) rfl) (pe_fld (pv 0) rfl)))
      (pss_cons (st 5 sc_Position_after.nd (pe_call (ok_without T) (hr.mono (by decide)) rfl T.m_without T.F_without.kp T.b_without .nil pass0 (pa_cons (pe_fld (pv 0) rfl) (pa_cons (pe_fld (pv 0) rfl) (pa_cons (pv 1) pa_nil)))))
      (pss_cons (ps_if (pt_cmpR op_eq (pe_op op_add (pe_fld (pv 0) rfl) pe_int) (gi T.g_PLAYERS) (nomark _))
        (pss_one (ps_ret (pe_make T.k_Position (ok_Position_init T) (hr.mono (by decide)) rfl T.m_Position T.b_Position_init .nil pass0 (pa_cons (pe_fld (pv 0) rfl) (pa_cons (pv 5) (pa_cons (pv 4) (pa_cons (pe_call (ok_one_more T) (hr.mono (by decide)) rfl T.m_one_more T.F_one_more.kp T.b_one_more .nil pass0 (pa_cons (pe_fld (pv 0) rfl) (pa_cons (pv 4) pa_nil))) pa_nil)))))))
        pss_nil)
      (pss_cons (st 6 sc_Position_after.nd (pe_make T.k_Position (ok_Position_init T) (hr.mono (by decide)) rfl T.m_Position T.b_Position_init .nil pass0 (pa_cons (pe_fld (pv 0) rfl) (pa_cons (pv 5) (pa_cons (pe_call (ok_player_after T) (hr.mono (by decide)) rfl T.m_player_after T.F_player_after.kp T.b_player_after .nil pass0 (pa_cons (pe_fld (pv 0) rfl) pa_nil)) (pa_cons (pe_fld (pv 0) rfl) pa_nil))))))
      (pss_cons (ps_fld (pv 6) (pe_op op_add (pe_fld (pv 0) rfl) pe_int) rfl)
      (pss_cons (ps_fld (pv 6) (pe_ifExp (pt_val (pv 2)) (pe_call (ok_suit_of T) (hr.mono (by decide)) rfl T.m_suit_of T.F_suit_of.kp T.b_suit_of .nil pass0 (pa_cons (pv 1) pa_nil)) (pe_fld (pv 0) rfl)) rfl)
      (pss_cons (ps_fld (pv 6) (pe_ifExp (pt_val (pv 3)) (pv 1) (pe_fld (pv 0) rfl)) rfl)
      (pss_cons (ps_fld (pv 6) (pv 4) rfl)
      (pss_one (ps_ret (pv 6))))))))))))), ?_⟩
    refine ⟨_, rfl, q, A.C_Position, dx, _, _, rfl, h1, T.c_Position, T.n_Position_laid, pf_laid, rfl, ?_⟩
    rw [dL (j := 0) 0 rfl]
    dsimp only [gName, tSeq, tAsg]
    refine tOrV_p (b := decide (p.trick.length = 0)) (c := Sc20.beats trump c (bt trump p.trick).1) (fun Q q => ⟨_, rfl, q⟩) (fun hb Q z => ?_) ?_
    · have hne : p.trick ≠ [] := fun y => by
        rw [y] at hb
        cases hb
      refine ⟨_, rfl, _, rfl, q, A.C_Position, dx, _, _, rfl, h1, T.c_Position, T.n_Position_top, pf_top, _, rfl, q, A.C_Position, dx, _, _, rfl, h1, T.c_Position, T.n_Position_trump, pf_trump, c, (bt trump p.trick).1, trump, ?_, z⟩
      show [V.int (c : Nat), V.int (cTop trump p), V.int (trump : Nat)] = _
      rw [top_some hne]
    have ewin : (decide (p.trick.length = 0) || Sc20.beats trump c (bt trump p.trick).1) = decide (p.trick = [] ∨ Sc20.beats trump c (bt trump p.trick).1 = true) := by
      by_cases z : p.trick = []
      · rw [decide_eq_true (show p.trick = [] ∨ Sc20.beats trump c (bt trump p.trick).1 = true from .inl z), z]
        rfl
      · have z2 : ¬ p.trick.length = 0 := fun y => z (List.eq_nil_of_length_eq_zero y)
        rw [decide_eq_false z2, Bool.false_or]
        by_cases y : Sc20.beats trump c (bt trump p.trick).1 = true
        · rw [decide_eq_true (show p.trick = [] ∨ Sc20.beats trump c (bt trump p.trick).1 = true from .inr y), y]
        · rw [decide_eq_false (by rintro (x | x); exact z x; exact y x)]
          simpa using y
    rw [ewin]
    refine tIf_p (b := decide (p.trick = [] ∨ Sc20.beats trump c (bt trump p.trick).1 = true)) (v := V.int (holder' trump p c : Nat)) (fun Q q => ⟨_, rfl, _, rfl, q⟩) (fun hb Q z => ?_) (fun hb Q z => ?_) ?_
    · refine ⟨_, rfl, q, A.C_Position, dx, _, _, rfl, h1, T.c_Position, T.n_Position_turn, pf_turn, ?_⟩
      have e : holder' trump p c = Sc20.turn p := by
        unfold holder'
        rw [if_pos (of_decide_eq_true hb)]
      rw [e] at z
      exact z
    · refine ⟨_, rfl, q, A.C_Position, dx, _, _, rfl, h1, T.c_Position, T.n_Position_holder, pf_holder, ?_⟩
      have hb := of_decide_eq_false hb
      have e : holder' trump p c = cHold trump p := by
        unfold holder'
        rw [if_neg hb, hold_some fun y => hb (.inl y)]
      rw [e] at z
      exact z
    refine ⟨_, rfl, q, A.C_Position, dx, _, _, rfl, h1, T.c_Position, T.n_Position_hands, pf_hands, _, rfl, q, A.C_Position, dx, _, _, rfl, h1, T.c_Position, T.n_Position_turn, pf_turn, _, rfl, hp, p.hands, Sc20.turn p, c, Fh.hd p (Sc20.turn p), rfl, hH, hg, by omega, Nat.le_of_eq ok.four, fun hp' H1 s1 hA => ?_⟩
    have hA : HdAt H1 hp' (hands' p c) := hA
    have h1' := s1 _ _ h1
    have h3' := s1 _ _ h3
    refine ⟨_, rfl, q, A.C_Position, dx, _, _, rfl, h1', T.c_Position, T.n_Position_laid, pf_laid, _, _, rfl, rfl, rfl, _, rfl, ?_⟩
    have e4 : decide (V.int ((p.trick.length : Int) + 1) = V.int 4) = decide (p.trick.length = 3) := by
      rw [dV]
      by_cases z : p.trick.length = 3
      · rw [decide_eq_true z, decide_eq_true (by omega)]
      · rw [decide_eq_false z, decide_eq_false (by omega)]
    refine ite2 (fun e => ?_) (fun e => ?_)
    · have e : p.trick.length = 3 := of_decide_eq_true (e4 ▸ e)
      rw [if_pos e] at k
      refine ⟨_, rfl, q, A.C_Position, dx, _, _, rfl, h1', T.c_Position, T.n_Position_trump, pf_trump, _, rfl, _, rfl, _, rfl, q, A.C_Position, dx, _, _, rfl, h1', T.c_Position, T.n_Position_taken, pf_taken, _, rfl, tp, p.won.1, p.won.2, holder' trump p c, rfl, h3', fun tp' H2 s2 htp => ?_⟩
      intro x dy nx ndx nex
      refine ⟨x, dy, _, _, _, _, rfl, upd_same, fun H3 g3 kp => ⟨rfl, ?_⟩⟩
      have s3 : Same H2 H3 := Same.made nx ndx kp
      have s12 := s1.trans s2
      refine k x H3 (s12.trans s3) (s12.free nx) ⟨dy, hp', tp', ins_eq g3 ?_, (hA.same s2).same s3, ?_⟩
      · rw [← holder_eq trump p c ok.lead]
        have et : Sc20.turn ⟨hands' p c, holder' trump p c, [], if holder' trump p c % 2 = 0 then (p.won.1 + 1, p.won.2) else (p.won.1, p.won.2 + 1)⟩ = holder' trump p c := by
          have : holder' trump p c < 4 := by
            rw [holder_eq trump p c ok.lead]
            omega
          unfold Sc20.turn
          simp only [List.length_nil]
          omega
        unfold pfs
        rw [et]
        rfl
      · rw [← holder_eq trump p c ok.lead]
        exact s3 _ _ htp
    · have e : ¬ p.trick.length = 3 := fun z => e (by rw [e4]; exact decide_eq_true z)
      rw [if_neg e] at k
      refine ⟨_, rfl, q, A.C_Position, dx, _, _, rfl, h1', T.c_Position, T.n_Position_trump, pf_trump, _, rfl, _, rfl, q, A.C_Position, dx, _, _, rfl, h1', T.c_Position, T.n_Position_turn, pf_turn, Sc20.turn p, rfl, _, rfl, q, A.C_Position, dx, _, _, rfl, h1', T.c_Position, T.n_Position_taken, pf_taken, ?_⟩
      intro x dy nx ndx nex
      refine ⟨x, dy, _, _, _, _, rfl, upd_same, fun H3 g3 kp => ⟨rfl, ?_⟩⟩
      have s3 : Same H1 H3 := Same.made nx ndx kp
      have h1'' := s3 _ _ h1'
      have hx0 : H x = none := s1.free nx
      have hqx : q ≠ x := ne_of_none h1' nx
      refine ⟨_, rfl, q, A.C_Position, dx, _, _, rfl, h1'', T.c_Position, T.n_Position_laid, pf_laid, _, _, rfl, rfl, _, rfl, x, A.C_Position, dy, _, rfl, g3, T.c_Position, T.n_Position_laid, (by show 8 < 1000; decide), ?_⟩
      dsimp only [tSeq]
      refine tIf_p (b := decide (p.trick.length = 0)) (v := V.int (if p.trick.length = 0 then ((Sc20.suitOf c : Nat) : Int) else cLed p)) (fun Q q => ⟨_, rfl, _, rfl, q⟩) (fun hb Q z => ?_) (fun hb Q z => ?_) ?_
      · rw [if_pos (of_decide_eq_true hb)] at z
        exact ⟨_, rfl, c, rfl, z⟩
      · rw [if_neg (of_decide_eq_false hb)] at z
        exact ⟨_, rfl, q, A.C_Position, dx, _, _, rfl, (upd_ne hqx).trans h1'', T.c_Position, T.n_Position_led, pf_led, z⟩
      refine ⟨_, rfl, x, A.C_Position, dy, _, rfl, ins_eq upd_same (pf_put_laid _), T.c_Position, T.n_Position_led, (by show 8 < 1000; decide), ?_⟩
      dsimp only [tSeq]
      refine tIf_p (b := decide (p.trick = [] ∨ Sc20.beats trump c (bt trump p.trick).1 = true)) (v := V.int (if p.trick = [] ∨ Sc20.beats trump c (bt trump p.trick).1 = true then (c : Int) else cTop trump p)) (fun Q q => ⟨_, rfl, _, rfl, q⟩) (fun hb Q z => ?_) (fun hb Q z => ?_) ?_
      · rw [if_pos (of_decide_eq_true hb)] at z
        exact ⟨_, rfl, z⟩
      · rw [if_neg (of_decide_eq_false hb)] at z
        exact ⟨_, rfl, q, A.C_Position, dx, _, _, rfl, (upd_ne hqx).trans ((upd_ne hqx).trans h1''), T.c_Position, T.n_Position_top, pf_top, z⟩
      refine ⟨_, rfl, x, A.C_Position, dy, _, rfl, ins_eq upd_same (pf_put_led _), T.c_Position, T.n_Position_top, (by show 8 < 1000; decide), ?_⟩
      refine ⟨_, rfl, _, rfl, x, A.C_Position, dy, _, rfl, ins_eq upd_same (pf_put_top _), T.c_Position, T.n_Position_holder, (by show 8 < 1000; decide), ?_⟩
      have s4 : Same H (upd (upd (upd (upd H3 x (.ins A.C_Position dy (putF "laid" (V.int ((p.trick.length : Int) + 1)) (pf (.int (trump : Nat)) (.ref hp') (.int (((Sc20.turn p + 1) % 4 : Nat) : Int)) (.ref tp) (.int 0) (.int (-1)) (.int (-1)) (.int 4))))) x
          (.ins A.C_Position dy (putF "led" (V.int (if p.trick.length = 0 then ((Sc20.suitOf c : Nat) : Int) else cLed p)) (pf (.int (trump : Nat)) (.ref hp') (.int (((Sc20.turn p + 1) % 4 : Nat) : Int)) (.ref tp) (.int ((p.trick.length : Int) + 1)) (.int (-1)) (.int (-1)) (.int 4))))) x
          (.ins A.C_Position dy (putF "top" (V.int (if p.trick = [] ∨ Sc20.beats trump c (bt trump p.trick).1 = true then (c : Int) else cTop trump p)) (pf (.int (trump : Nat)) (.ref hp') (.int (((Sc20.turn p + 1) % 4 : Nat) : Int)) (.ref tp) (.int ((p.trick.length : Int) + 1)) (.int (if p.trick.length = 0 then ((Sc20.suitOf c : Nat) : Int) else cLed p)) (.int (-1)) (.int 4))))) x
          (.ins A.C_Position dy (putF "holder" (V.int (holder' trump p c : Nat)) (pf (.int (trump : Nat)) (.ref hp') (.int (((Sc20.turn p + 1) % 4 : Nat) : Int)) (.ref tp) (.int ((p.trick.length : Int) + 1)) (.int (if p.trick.length = 0 then ((Sc20.suitOf c : Nat) : Int) else cLed p)) (.int (if p.trick = [] ∨ Sc20.beats trump c (bt trump p.trick).1 = true then (c : Int) else cTop trump p)) (.int 4))))) := fun b o e3 => by
        have hb := ne_of_none e3 hx0
        rw [upd_ne hb, upd_ne hb, upd_ne hb, upd_ne hb]
        exact s3 _ _ (s1 _ _ e3)
      have s5 : ∀ b o, H3 b = some o → b ≠ x → (upd (upd (upd (upd H3 x (.ins A.C_Position dy (putF "laid" (V.int ((p.trick.length : Int) + 1)) (pf (.int (trump : Nat)) (.ref hp') (.int (((Sc20.turn p + 1) % 4 : Nat) : Int)) (.ref tp) (.int 0) (.int (-1)) (.int (-1)) (.int 4))))) x
          (.ins A.C_Position dy (putF "led" (V.int (if p.trick.length = 0 then ((Sc20.suitOf c : Nat) : Int) else cLed p)) (pf (.int (trump : Nat)) (.ref hp') (.int (((Sc20.turn p + 1) % 4 : Nat) : Int)) (.ref tp) (.int ((p.trick.length : Int) + 1)) (.int (-1)) (.int (-1)) (.int 4))))) x
          (.ins A.C_Position dy (putF "top" (V.int (if p.trick = [] ∨ Sc20.beats trump c (bt trump p.trick).1 = true then (c : Int) else cTop trump p)) (pf (.int (trump : Nat)) (.ref hp') (.int (((Sc20.turn p + 1) % 4 : Nat) : Int)) (.ref tp) (.int ((p.trick.length : Int) + 1)) (.int (if p.trick.length = 0 then ((Sc20.suitOf c : Nat) : Int) else cLed p)) (.int (-1)) (.int 4))))) x
          (.ins A.C_Position dy (putF "holder" (V.int (holder' trump p c : Nat)) (pf (.int (trump : Nat)) (.ref hp') (.int (((Sc20.turn p + 1) % 4 : Nat) : Int)) (.ref tp) (.int ((p.trick.length : Int) + 1)) (.int (if p.trick.length = 0 then ((Sc20.suitOf c : Nat) : Int) else cLed p)) (.int (if p.trick = [] ∨ Sc20.beats trump c (bt trump p.trick).1 = true then (c : Int) else cTop trump p)) (.int 4))))) b = some o := fun b o e3 hb => by
        rw [upd_ne hb, upd_ne hb, upd_ne hb, upd_ne hb]
        exact e3
      refine ⟨_, rfl, k x _ s4 hx0 ⟨dy, hp', tp, ins_eq upd_same ((pf_put_holder _).trans ?_), ?_, ?_⟩⟩
      · unfold pfs
        rw [next_turn, next_led, next_top, next_hold trump p _ c ok.lead]
        have e5 : ((p.trick ++ [c]).length : Int) = (p.trick.length : Int) + 1 := by
          rw [List.length_append, List.length_singleton]
          omega
        simp only [e5]
      · obtain ⟨cs, f1, f2⟩ := hA
        refine ⟨cs, s5 _ _ (s3 _ _ f1) (ne_of_none f1 nx), f2.keep fun a xs e6 => s5 _ _ (s3 _ _ e6) (ne_of_none e6 nx)⟩
      · exact s5 _ _ (s3 _ _ h3') (ne_of_none h3' nx)

end
def tf (x_position x_verdict x_untried : V) : List (Str × V) := [("position", x_position), ("verdict", x_verdict), ("untried", x_untried)]
section
variable {x_position x_verdict x_untried : V}
theorem tf_position : (tf x_position x_verdict x_untried).lookup ("position" : Str) = some x_position := lk_hd
theorem tf_put_position (y : V) : putF "position" y (tf x_position x_verdict x_untried) = tf y x_verdict x_untried := pf_hd
theorem tf_mk_0 : putF "position" x_position ([] : List (Str × V)) = ([("position", x_position)] : List (Str × V)) := rfl
theorem tf_verdict : (tf x_position x_verdict x_untried).lookup ("verdict" : Str) = some x_verdict := (lk_tl (by decide +kernel)).trans (lk_hd)
theorem tf_put_verdict (y : V) : putF "verdict" y (tf x_position x_verdict x_untried) = tf x_position y x_untried := (pf_tl (by decide +kernel)).trans (congrArg _ (pf_hd))
theorem tf_mk_1 : putF "verdict" x_verdict ([("position", x_position)] : List (Str × V)) = ([("position", x_position), ("verdict", x_verdict)] : List (Str × V)) := (pf_tl (by decide +kernel)).trans (congrArg _ (rfl))
theorem tf_untried : (tf x_position x_verdict x_untried).lookup ("untried" : Str) = some x_untried := (lk_tl (by decide +kernel)).trans ((lk_tl (by decide +kernel)).trans (lk_hd))
theorem tf_put_untried (y : V) : putF "untried" y (tf x_position x_verdict x_untried) = tf x_position x_verdict y := (pf_tl (by decide +kernel)).trans (congrArg _ ((pf_tl (by decide +kernel)).trans (congrArg _ (pf_hd))))
theorem tf_mk_2 : putF "untried" x_untried ([("position", x_position), ("verdict", x_verdict)] : List (Str × V)) = ([("position", x_position), ("verdict", x_verdict), ("untried", x_untried)] : List (Str × V)) := (pf_tl (by decide +kernel)).trans (congrArg _ ((pf_tl (by decide +kernel)).trans (congrArg _ (rfl))))
theorem tf_no {m : Str} (h : ((["position", "verdict", "untried"] : List Str).all fun k => !decide (m = k)) = true) : (tf x_position x_verdict x_untried).lookup m = none := lk_none _ rfl h
theorem tf_made : (putF "untried" x_untried (putF "verdict" x_verdict (putF "position" x_position []))) = (tf x_position x_verdict x_untried) := by
  rw [tf_mk_0, tf_mk_1, tf_mk_2]
  rfl
end
def sf (x_tricks x_verdicts : V) : List (Str × V) := [("tricks", x_tricks), ("verdicts", x_verdicts)]
section
variable {x_tricks x_verdicts : V}
theorem sf_tricks : (sf x_tricks x_verdicts).lookup ("tricks" : Str) = some x_tricks := lk_hd
theorem sf_put_tricks (y : V) : putF "tricks" y (sf x_tricks x_verdicts) = sf y x_verdicts := pf_hd
theorem sf_mk_0 : putF "tricks" x_tricks ([] : List (Str × V)) = ([("tricks", x_tricks)] : List (Str × V)) := rfl
theorem sf_verdicts : (sf x_tricks x_verdicts).lookup ("verdicts" : Str) = some x_verdicts := (lk_tl (by decide +kernel)).trans (lk_hd)
theorem sf_put_verdicts (y : V) : putF "verdicts" y (sf x_tricks x_verdicts) = sf x_tricks y := (pf_tl (by decide +kernel)).trans (congrArg _ (pf_hd))
theorem sf_mk_1 : putF "verdicts" x_verdicts ([("tricks", x_tricks)] : List (Str × V)) = ([("tricks", x_tricks), ("verdicts", x_verdicts)] : List (Str × V)) := (pf_tl (by decide +kernel)).trans (congrArg _ (rfl))
theorem sf_no {m : Str} (h : ((["tricks", "verdicts"] : List Str).all fun k => !decide (m = k)) = true) : (sf x_tricks x_verdicts).lookup m = none := lk_none _ rfl h
theorem sf_made : (putF "verdicts" x_verdicts (putF "tricks" x_tricks [])) = (sf x_tricks x_verdicts) := by
  rw [sf_mk_0, sf_mk_1]
  rfl
end
theorem PosAt.nx {C : Addr} {H H' : Hp} {q : Addr} {trump : Nat} {p : Sc20.Pos} (a : PosAt C H q trump p) (s : NX H H') : PosAt C H' q trump p := by
  obtain ⟨dx, hp, tp, h1, ⟨bs, h2, h3⟩, h4⟩ := a.ex
  exact ⟨dx, hp, tp, s.ins h1, ⟨bs, s.tup _ _ h2, h3.keep s.tup⟩, s.tup _ _ h4⟩
structure RcAt (CT CP : Addr) (H : Hp) (trump : Nat) (r : Rc) : Prop where
  ob : ∃ dx, H r.t = some (.ins CT dx (tf (.ref r.q) (optB r.v) (.ref r.u)))
  li : H r.u = some (.lst (hV r.un))
  po : PosAt CP H r.q trump r.p
theorem RcAt.nx {CT CP : Addr} {H H' : Hp} {trump : Nat} {r : Rc} (a : RcAt CT CP H trump r) (s : NX H H') : RcAt CT CP H' trump r := by
  obtain ⟨dx, h1⟩ := a.ob
  exact ⟨⟨dx, s.ins h1⟩, s.lst a.li, a.po.nx s⟩
def SrAt (CS : Addr) (H : Hp) (s vd : Addr) (T : Nat) : Prop := ∃ dx, H s = some (.ins CS dx (sf (.int (T : Nat)) (.ref vd)))
theorem SrAt.nx {CS : Addr} {H H' : Hp} {s vd : Addr} {T : Nat} (a : SrAt CS H s vd T) (n : NX H H') : SrAt CS H' s vd T := by
  obtain ⟨dx, h1⟩ := a
  exact ⟨dx, n.ins h1⟩
theorem pos_ne {CP CT : Addr} {H : Hp} {q t dx : Addr} {trump : Nat} {p : Sc20.Pos} (a : PosAt CP H q trump p) (h : H t = some (.ins CT dx [])) : q ≠ t := by
  obtain ⟨dy, hp, tp, h1, _, _⟩ := a.ex
  refine ne_of h1 h ?_
  intro z
  injection z with _ _ z3
  exact absurd (congrArg List.length z3) (by show ¬ 8 = 0; decide)
/-- a position stays when an instance of another kind, or a list, or a dict, is changed -/
theorem PosAt.upd {C : Addr} {H : Hp} {q : Addr} {trump : Nat} {p : Sc20.Pos} (a : PosAt C H q trump p) {t : Addr} {o o' : HO} (h : H t = some o) (hn : q ≠ t) (ht : ∀ xs, o ≠ .tup xs) : PosAt C (upd H t o') q trump p := by
  obtain ⟨dx, hp, tp, h1, ⟨bs, h2, h3⟩, h4⟩ := a.ex
  have k : ∀ b xs, H b = some (.tup xs) → (L2.upd H t o') b = some (.tup xs) := fun b xs e => by
    rw [upd_ne (ne_of e h (fun z => ht xs z.symm))]
    exact e
  exact ⟨dx, hp, tp, (upd_ne hn).trans h1, ⟨bs, k _ _ h2, h3.keep k⟩, k _ _ h4⟩
theorem perm_nat {l : List Nat} {ns : List Int} (h : ns.Perm (l.map fun (c : Nat) => (c : Int))) : ∃ un : List Nat, un.Perm l ∧ ns = un.map fun (c : Nat) => (c : Int) := by
  refine ⟨ns.map Int.toNat, ?_, ?_⟩
  · have := h.map Int.toNat
    rw [List.map_map] at this
    have e : l.map (Int.toNat ∘ fun (c : Nat) => (c : Int)) = l := by
      conv => rhs; rw [← List.map_id l]
      exact List.map_congr_left fun c _ => by show ((c : Int)).toNat = c; omega
    rw [e] at this
    exact this
  · rw [List.map_map]
    conv => lhs; rw [← List.map_id ns]
    refine List.map_congr_left fun n hn => ?_
    obtain ⟨c, _, rfl⟩ := List.mem_map.mp (h.mem_iff.mp hn)
    show (c : Int) = (((c : Int).toNat : Nat) : Int)
    omega
theorem hV_ints (l : List Nat) : hV l = (l.map fun (c : Nat) => (c : Int)).map V.int := by
  unfold hV
  rw [List.map_map]
  rfl
def spKeyOf (C : Addr) : Sp := fun vs H Q _ => ∃ (q : Addr) (trump : Nat) (p : Sc20.Pos) (g : Nat), vs = [.ref q, .int (g : Nat)] ∧ PosAt C H q trump p ∧
  ∀ (b : Addr) (H' : Hp), Same H H' → H b = none → KeyAt H' b (p.hands, Sc20.turn p, (g : Int) - (p.won.1 : Int)) → Q (.ref b) H'
def spTInit (CT CP : Addr) : Sp := fun vs H Q _ => ∃ (t dx q : Addr) (ov : Option Bool) (trump T : Nat) (p : Sc20.Pos), vs = [.ref t, .ref q, optB ov] ∧ H t = some (.ins CT dx []) ∧ PosAt CP H q trump p ∧ POk T p ∧ T ≤ 60 ∧
  ∀ (u : Addr) (un : List Nat) (H' : Hp), H' t = some (.ins CT dx (tf (.ref q) (optB ov) (.ref u))) → H' u = some (.lst (hV un)) → H u = none → (∀ b o, H b = some o → b ≠ t → H' b = some o) → (ov = none → un.Perm (Sc20.playable p)) → (∀ b, ov = some b → un = []) → Q .non H'
def spNextPos (CT CP : Addr) : Sp := fun vs H Q _ => ∃ (r : Rc) (un' : List Nat) (c trump T : Nat), vs = [.ref r.t] ∧ RcAt CT CP H trump r ∧ r.un = un' ++ [c] ∧ POk T r.p ∧ T ≤ 300 ∧ r.t ≠ r.u ∧
  ∀ (q' : Addr) (H' : Hp), RcAt CT CP H' trump { r with un := un' } → PosAt CP H' q' trump (Sc20.played trump r.p c) → H q' = none → (∀ b o, H b = some o → b ≠ r.u → H' b = some o) → Q (.ref q') H'
def spHear (CT CP : Addr) : Sp := fun vs H Q _ => ∃ (r : Rc) (b : Bool) (trump : Nat), vs = [.ref r.t, .bl b] ∧ RcAt CT CP H trump r ∧ r.t ≠ r.u ∧ r.t ≠ r.q ∧
  ∀ H' : Hp, RcAt CT CP H' trump (heardR r b) → (∀ x o, H x = some o → x ≠ r.t → H' x = some o) → Q .non H'
def spSInit (CS : Addr) : Sp := fun vs H Q _ => ∃ (s dx : Addr) (T : Nat), vs = [.ref s, .int (T : Nat)] ∧ H s = some (.ins CS dx []) ∧
  ∀ (vd : Addr) (H' : Hp), SrAt CS H' s vd T → H' vd = some (vD vd []) → H vd = none → (∀ b o, H b = some o → b ≠ s → H' b = some o) → Q .non H'
/-- what the search has: its own attributes, the dict, a position that play comes to, a goal -/
structure SIn (CS CP : Addr) (H : Hp) (s vd q : Addr) (hs : Sc20.Hands) (T trump : Nat) (m : MapP) (p : Sc20.Pos) : Prop where
  sr : SrAt CS H s vd T
  me : Memo H vd hs T trump m
  po : PosAt CP H q trump p
  rp : RP hs T p
  hT : T ≤ 5
  hl : ∀ i, i < 4 → (hs.getD i []).length ≤ 5
theorem SIn.same {CS CP : Addr} {H H' : Hp} {s vd q : Addr} {hs : Sc20.Hands} {T trump : Nat} {m : MapP} {p : Sc20.Pos} (a : SIn CS CP H s vd q hs T trump m p) (e : Same H H') : SIn CS CP H' s vd q hs T trump m p :=
  ⟨a.sr.nx (NX.of e), a.me.same e, a.po.nx (NX.of e), a.rp, a.hT, a.hl⟩
def spTrialOf (CS CT CP : Addr) : Sp := fun vs H Q _ => ∃ (s vd q : Addr) (hs : Sc20.Hands) (T trump : Nat) (m : MapP) (p : Sc20.Pos) (g : Nat), vs = [.ref s, .ref q, .int (g : Nat)] ∧ SIn CS CP H s vd q hs T trump m p ∧ p.won.1 ≤ g ∧ g ≤ T + 1 ∧
  ∀ (r : Rc) (H' : Hp), r.q = q → r.p = p → Same H H' → H r.t = none → H r.u = none → RcAt CT CP H' trump r → TopOk hs T trump g r → Q (.ref r.t) H'
def spKeep (CS CT CP : Addr) : Sp := fun vs H Q _ => ∃ (s vd : Addr) (hs : Sc20.Hands) (T trump : Nat) (m : MapP) (r : Rc) (g : Nat), vs = [.ref s, .ref r.t, .int (g : Nat)] ∧ SIn CS CP H s vd r.q hs T trump m r.p ∧ RcAt CT CP H trump r ∧ r.v = some (vt trump g r.p) ∧ r.p.won.1 ≤ g ∧ g ≤ T + 1 ∧
  ∀ (m' : MapP) (H' : Hp), Memo H' vd hs T trump m' → NX H H' → Q .non H'
section
variable {P : Program} {w : World} {K : PySem.W.Frag} {mg : Str → Option Value} {base : Heap} {A : Ad}
theorem ok_key_of (T : Txt K mg A) : FnOk P w K mg base CX0 1 A.f_key_of A.d_key_of ["position", "goal"] (spKeyOf A.C_Position) := by
  refine T.F_key_of.ok sc_key_of (fun vs H Q E h => ?_) (fun cdv A' outer s H vs Q E hr h => ?_)
  · obtain ⟨_, _, _, _, rfl, _⟩ := h
    rfl
  · obtain ⟨q, trump, p, g, rfl, R, k⟩ := h
    obtain ⟨dx, hp, tp, h1, hH, h3⟩ := R.ex
    refine ⟨_, (pss_one (ps_ret (pe_tup (pa_cons (pe_fld (pv 0) rfl) (pa_cons (pe_fld (pv 0) rfl) (pa_cons (pe_op op_sub (pv 1) (pe_ix ix_tup (pe_fld (pv 0) rfl) pe_int (fun _ _ => rfl))) pa_nil)))))), ?_⟩
    refine ⟨_, rfl, q, A.C_Position, dx, _, _, rfl, h1, T.c_Position, T.n_Position_hands, pf_hands, _, rfl, q, A.C_Position, dx, _, _, rfl, h1, T.c_Position, T.n_Position_turn, pf_turn,
      _, rfl, _, rfl, q, A.C_Position, dx, _, _, rfl, h1, T.c_Position, T.n_Position_taken, pf_taken, tp, _, _, V.int (p.won.1 : Nat), rfl, rfl, SqT.of h3, atI_nat (j := 0) rfl, _, _, rfl, rfl, (by show 3 ≤ sizeLine; decide), fun b hb => ?_⟩
    exact k b _ (Same.laid hb) hb ⟨hp, upd_same, hH.same (Same.laid hb)⟩
theorem ok_Trial_init (T : Txt K mg A) : FnOk P w K mg base CX0 3 A.f_Trial_init A.d_Trial_init ["self", "position", "verdict"] (spTInit A.C_Trial A.C_Position) := by
  refine T.F_Trial_init.ok sc_Trial_init (fun vs H Q E h => ?_) (fun cdv A' outer s H vs Q E hr h => ?_)
  · obtain ⟨_, _, _, _, _, _, _, rfl, _⟩ := h
    rfl
  · obtain ⟨t, dx, q, ov, trump, n, p, rfl, ht, R, ok, hT, k⟩ := h
    have hqt := pos_ne R ht
    refine ⟨_, (pss_cons (ps_fld (pv 0) (pv 1) rfl)
      (pss_cons (ps_fld (pv 0) (pv 2) rfl)
      (pss_cons (ps_fld (pv 0) (pe_lst pa_nil) rfl)
      (pss_one (ps_if (pt_cmp (pc_isN (pv 2)))
        (pss_one (ps_fld (pv 0) (pe_callB cr_sorted rfl T.z_sorted PyProof.Rows.boot_sorted (pa_cons (pe_meth0 (pv 1) T.c_Position T.M_Position_choices (ok_Position_choices T) (hr.mono (by decide)) T.b_Position_choices .nil pass0) pa_nil)) rfl))
        pss_nil))))), ?_⟩
    refine ⟨_, rfl, _, rfl, t, A.C_Trial, dx, _, rfl, ht, T.c_Trial, T.n_Trial_position, (by show 0 < 1000; decide), ?_⟩
    refine ⟨_, rfl, _, rfl, t, A.C_Trial, dx, _, rfl, upd_same, T.c_Trial, T.n_Trial_verdict, (Nat.lt_of_lt_of_le (fl_put fl_nil) (by decide)), ?_⟩
    refine ⟨(by show 0 ≤ sizeLine; decide), fun u hu => ?_⟩
    have hut : t ≠ u := fun z => by rw [← z, upd_same] at hu; cases hu
    have hu0 : H u = none := by
      rw [upd_ne hut.symm, upd_ne hut.symm] at hu
      exact hu
    refine ⟨_, rfl, t, A.C_Trial, dx, _, rfl, (upd_ne hut).trans upd_same, T.c_Trial, T.n_Trial_untried, (Nat.lt_of_lt_of_le (fl_put (fl_put fl_nil)) (by decide)), ?_⟩
    have kp : ∀ b o, H b = some o → b ≠ t → (upd (upd (upd (upd H t (.ins A.C_Trial dx (putF "position" (.ref q) []))) t (.ins A.C_Trial dx (putF "verdict" (optB ov) (putF "position" (.ref q) [])))) u (.lst [])) t
        (.ins A.C_Trial dx (putF "untried" (.ref u) (putF "verdict" (optB ov) (putF "position" (.ref q) []))))) b = some o := fun b o e hb => by
      rw [upd_ne hb, upd_ne (ne_of_none e hu0), upd_ne hb, upd_ne hb]
      exact e
    refine ⟨_, rfl, _, rfl, ?_⟩
    cases ov with
    | some b =>
      refine ifF (by intro z; cases z) ?_
      exact k u [] _ (ins_eq upd_same tf_made) ((upd_ne hut.symm).trans upd_same) hu0 kp (fun z => by cases z) (fun _ _ => rfl)
    | none =>
      refine ifT rfl ?_
      have R2 : PosAt A.C_Position (upd (upd (upd (upd H t (.ins A.C_Trial dx (putF "position" (.ref q) []))) t (.ins A.C_Trial dx (putF "verdict" (optB none) (putF "position" (.ref q) [])))) u (.lst [])) t
        (.ins A.C_Trial dx (putF "untried" (.ref u) (putF "verdict" (optB none) (putF "position" (.ref q) []))))) q trump p := by
        obtain ⟨dy, hp, tp, g1, ⟨bs, g2, g3⟩, g4⟩ := R.ex
        have kt : ∀ b xs, H b = some (.tup xs) → _ := fun b xs e => kp b _ e (ne_of e ht (by intro z; cases z))
        exact ⟨dy, hp, tp, kp _ _ g1 hqt, ⟨bs, kt _ _ g2, g3.keep kt⟩, kt _ _ g4⟩
      obtain ⟨dy, hp, tp, g1, _, _⟩ := R2.ex
      refine ⟨_, rfl, q, dy, _, rfl, g1, pf_no (by decide +kernel), q, trump, n, p, rfl, R2, ok, by omega, fun l H3 s3 fl hl => ?_⟩
      refine ⟨l, (Sc20.playable p).map (fun (c : Nat) => (c : Int)), rfl, by rw [← hV_ints]; exact SqL.of hl, ?_, fun ns' u2 hperm _ hu2 => ?_⟩
      · rw [List.length_map]
        have := playable_len ok
        omega
      obtain ⟨un, hpm, rfl⟩ := perm_nat hperm
      have ht3 := s3 _ _ (upd_same (H := (upd (upd (upd H t (.ins A.C_Trial dx (putF "position" (.ref q) []))) t (.ins A.C_Trial dx (putF "verdict" (optB none) (putF "position" (.ref q) [])))) u (.lst []))) (a := t)
        (o := .ins A.C_Trial dx (putF "untried" (.ref u) (putF "verdict" (optB none) (putF "position" (.ref q) [])))))
      have htu2 : t ≠ u2 := ne_of_none ht3 hu2
      have hu20 : H u2 = none := by
        cases hh : H u2 with
        | none => rfl
        | some o =>
          exfalso
          have := s3 _ _ (kp u2 o hh (fun z => htu2 z.symm))
          rw [hu2] at this
          cases this
      refine ⟨_, rfl, t, A.C_Trial, dx, _, rfl, (upd_ne htu2).trans (ins_eq ht3 tf_made), T.c_Trial, T.n_Trial_untried, (by show 3 < 1000; decide), ?_⟩
      refine k u2 un _ (ins_eq upd_same (tf_put_untried _)) ?_ hu20 (fun b o e hb => ?_) (fun _ => hpm) (fun b z => by cases z)
      · rw [upd_ne htu2.symm, upd_same, hV_ints]
      · rw [upd_ne hb, upd_ne (ne_of_none e hu20)]
        exact s3 _ _ (kp b o e hb)
theorem ok_Trial_next_position (T : Txt K mg A) : FnOk P w K mg base CX0 4 A.f_Trial_next_position A.d_Trial_next_position ["self"] (spNextPos A.C_Trial A.C_Position) := by
  refine T.F_Trial_next_position.ok sc_Trial_next_position (fun vs H Q E h => ?_) (fun cdv A' outer s H vs Q E hr h => ?_)
  · obtain ⟨_, _, _, _, _, rfl, _⟩ := h
    rfl
  · obtain ⟨r, un', c, trump, n, rfl, R, hun, ok, hT, htu, k⟩ := h
    obtain ⟨dx, h1⟩ := R.ob
    obtain ⟨dy, hp, tp, g1, _, _⟩ := R.po.ex
    have hqu : r.q ≠ r.u := ne_of g1 R.li (by intro z; cases z)
    have hli := R.li
    rw [hun] at hli
    refine ⟨_, (pss_one (ps_ret (pe_meth (pe_fld (pv 0) rfl) T.c_Position T.M_Position_after (ok_Position_after T) (hr.mono (by decide)) T.b_Position_after .nil pass0 (pa_cons (pe_bm0 PySem.F.plainAttrs_list PySem.F.slot_list_pop PySem.F.type_list_pop mt_pop (pe_fld (pv 0) rfl)) pa_nil)))), ?_⟩
    have R2 : PosAt A.C_Position (upd H r.u (.lst ((hV (un' ++ [c])).dropLast))) r.q trump r.p := R.po.upd hli hqu (by intro xs z; cases z)
    refine ⟨_, rfl, r.t, A.C_Trial, dx, _, _, rfl, h1, T.c_Trial, T.n_Trial_position, tf_position, r.q, dy, _, rfl, g1, pf_no (by decide +kernel), _, rfl, r.t, A.C_Trial, dx, _, _, rfl, h1, T.c_Trial, T.n_Trial_untried, tf_untried, ty_list (SqL.of hli), r.u, _, V.int (c : Nat), rfl, rfl, hli, ?_,
      r.q, trump, n, r.p, c, rfl, R2, ok, hT, fun q' H' s' fq R' => ?_⟩
    · rw [hV_append, List.length_append]
      show (hV un' ++ [V.int (c : Nat)])[(hV un').length + 1 - 1]? = _
      rw [Nat.add_sub_cancel, List.getElem?_append_right (Nat.le_refl _), Nat.sub_self]
      rfl
    have ed : (hV (un' ++ [c])).dropLast = hV un' := by
      rw [hV_append]
      exact List.dropLast_concat
    refine k q' H' ⟨⟨dx, s' _ _ ((upd_ne htu).trans h1)⟩, s' _ _ (by rw [upd_same, ed]), R2.same s'⟩ R' ?_ fun b o e hb => s' _ _ ((upd_ne hb).trans e)
    by_cases z : q' = r.u
    · rw [z, upd_same] at fq
      cases fq
    · rw [upd_ne z] at fq
      exact fq
theorem ok_Trial_hear (T : Txt K mg A) : FnOk P w K mg base CX0 2 A.f_Trial_hear A.d_Trial_hear ["self", "verdict"] (spHear A.C_Trial A.C_Position) := by
  refine T.F_Trial_hear.ok sc_Trial_hear (fun vs H Q E h => ?_) (fun cdv A' outer s H vs Q E hr h => ?_)
  · obtain ⟨_, _, _, rfl, _⟩ := h
    rfl
  · obtain ⟨r, b, trump, rfl, R, htu, htq, k⟩ := h
    obtain ⟨dx, h1⟩ := R.ob
    obtain ⟨dy, hp, tp, g1, _, _⟩ := R.po.ex
    refine ⟨_, (pss_cons (st 2 sc_Trial_hear.nd (pe_cmpR op_eq (pe_call (ok_side_of T) (hr.mono (by decide)) rfl T.m_side_of T.F_side_of.kp T.b_side_of .nil pass0 (pa_cons (pe_fld (pe_fld (pv 0) rfl) rfl) pa_nil)) pe_int (nomark _)))
      (pss_one (ps_if (PW.pt (pw_or (pt_cmpR op_eq (pv 1) (pv 2) (nomark _)) (pw_or1 (pt_cmpR op_eq (ln K T.z_len (pe_fld (pv 0) rfl)) pe_int (nomark _)))))
        (pss_one (ps_fld (pv 0) (pv 1) rfl))
        pss_nil))), ?_⟩
    refine ⟨_, rfl, r.t, A.C_Trial, dx, _, _, rfl, h1, T.c_Trial, T.n_Trial_position, tf_position, r.q, A.C_Position, dy, _, _, rfl, g1, T.c_Position, T.n_Position_turn, pf_turn, Sc20.turn r.p, rfl, rfl, ?_⟩
    rw [dL (j := 0) 0 rfl]
    dsimp only [gName, tSeq, tAsg, tIfS]
    refine tOr_p (b := decide (V.bl b = V.bl (wanted r.p))) (c := decide (V.int (((hV r.un).length : Nat) : Int) = V.int 0)) (fun Q q => ⟨_, rfl, _, rfl, rfl, _, rfl, q⟩)
      (fun _ Q q => ⟨_, rfl, r.t, A.C_Trial, dx, _, _, rfl, h1, T.c_Trial, T.n_Trial_untried, tf_untried, r.u, _, rfl, .inl (SqL.of R.li), rfl, _, rfl, q⟩) ?_
    rw [dL (j := 0) 0 rfl, hV_length]
    have hc : (decide (V.bl b = V.bl (wanted r.p)) || decide (r.un.length = 0)) = decide (b = wanted r.p ∨ r.un = []) := by
      by_cases z1 : b = wanted r.p
      · rw [decide_eq_true (show V.bl b = V.bl (wanted r.p) by rw [z1]), decide_eq_true (show b = wanted r.p ∨ r.un = [] from .inl z1)]
        rfl
      · rw [decide_eq_false (show ¬ V.bl b = V.bl (wanted r.p) from fun z => z1 (by injection z)), Bool.false_or]
        by_cases z2 : r.un = []
        · rw [decide_eq_true (show b = wanted r.p ∨ r.un = [] from .inr z2), z2]
          rfl
        · rw [decide_eq_false (show ¬ r.un.length = 0 from fun z => z2 (List.eq_nil_of_length_eq_zero z)), decide_eq_false (show ¬ (b = wanted r.p ∨ r.un = []) from fun z => by rcases z with z | z; exact z1 z; exact z2 z)]
    rw [hc]
    unfold heardR at k
    refine ite2 (fun e => ?_) (fun e => ?_)
    · rw [if_pos (of_decide_eq_true e)] at k
      refine ⟨_, rfl, _, rfl, r.t, A.C_Trial, dx, _, rfl, h1, T.c_Trial, T.n_Trial_verdict, (by show 3 < 1000; decide), ?_⟩
      refine k _ ⟨⟨dx, ins_eq upd_same (tf_put_verdict _)⟩, (upd_ne htu.symm).trans R.li, R.po.upd h1 htq.symm (by intro xs z; cases z)⟩ fun x o e2 hx => (upd_ne hx).trans e2
    · rw [if_neg (fun z => e (decide_eq_true z))] at k
      exact k H R fun x o e2 _ => e2
theorem ok_Search_init (T : Txt K mg A) : FnOk P w K mg base CX0 1 A.f_Search_init A.d_Search_init ["self", "tricks"] (spSInit A.C_Search) := by
  refine T.F_Search_init.ok sc_Search_init (fun vs H Q E h => ?_) (fun cdv A' outer s H vs Q E hr h => ?_)
  · obtain ⟨_, _, _, rfl, _⟩ := h
    rfl
  · obtain ⟨s0, dx, n, rfl, hs, k⟩ := h
    refine ⟨_, (pss_cons (ps_fld (pv 0) (pv 1) rfl)
      (pss_one (ps_fld (pv 0) pe_pnew rfl))), ?_⟩
    refine ⟨_, rfl, _, rfl, s0, A.C_Search, dx, _, rfl, hs, T.c_Search, T.n_Search_tricks, (by show 0 < 1000; decide), ?_⟩
    intro vd hvd
    have hsv : s0 ≠ vd := fun z => by rw [← z, upd_same] at hvd; cases hvd
    refine ⟨_, rfl, s0, A.C_Search, dx, _, rfl, (upd_ne hsv).trans upd_same, T.c_Search, T.n_Search_verdicts, (Nat.lt_of_lt_of_le (fl_put fl_nil) (by decide)), ?_⟩
    have hv0 : H vd = none := by
      rw [upd_ne hsv.symm] at hvd
      exact hvd
    refine k vd _ ⟨dx, ins_eq upd_same sf_made⟩ ((upd_ne hsv.symm).trans upd_same) hv0 fun b o e hb => ?_
    rw [upd_ne hb, upd_ne (ne_of_none e hv0), upd_ne hb]
    exact e
theorem ok_Search_trial_of (T : Txt K mg A) : FnOk P w K mg base CX0 5 A.f_Search_trial_of A.d_Search_trial_of ["self", "position", "goal"] (spTrialOf A.C_Search A.C_Trial A.C_Position) := by
  refine T.F_Search_trial_of.ok sc_Search_trial_of (fun vs H Q E h => ?_) (fun cdv A' outer s H vs Q E hr h => ?_)
  · obtain ⟨_, _, _, _, _, _, _, _, _, rfl, _⟩ := h
    rfl
  · obtain ⟨s0, vd, q, hs, n, trump, m, p, g, rfl, S, hlo, hhi, k⟩ := h
    have hU := hr.units
    obtain ⟨ds, hsr⟩ := S.sr
    obtain ⟨dq, hp, tp, h1, hH, h3⟩ := S.po.ex
    have mk : ∀ (H1 : Hp) (ov : Option Bool), Same H H1 → (∀ b, ov = some b → b = vt trump g p) → (ov = none → p.won.1 < g ∧ Sc20.left p ≠ 0) → ∀ x dx, H1 x = none → H1 dx = none → dx ≠ x →
        spTInit A.C_Trial A.C_Position [.ref x, .ref q, optB ov] (upd (upd H1 dx (.own x)) x (.ins A.C_Trial dx [])) (fun v H2 => v = .non ∧ Q (.ref x) H2) E0 := fun H1 ov s1 c1 c2 x dx nx ndx nex => by
      have s0 : Same H1 (upd (upd H1 dx (.own x)) x (.ins A.C_Trial dx [])) := fun b o e => by
        rw [upd_ne (ne_of_none e nx), upd_ne (ne_of_none e ndx)]
        exact e
      refine ⟨x, dx, q, ov, trump, n, p, rfl, upd_same, S.po.same (s1.trans s0), S.rp.ok, by have := S.hT; omega, fun u un H2 g1 g2 fu kp p1 p2 => ⟨rfl, ?_⟩⟩
      have s2 : Same H1 H2 := Same.made nx ndx kp
      have hfu : H u = none := s1.free (s0.free fu)
      refine k ⟨x, u, q, ov, un, p⟩ H2 rfl rfl (s1.trans s2) (s1.free nx) hfu ⟨⟨dx, g1⟩, g2, S.po.same (s1.trans s2)⟩ ?_
      cases ov with
      | some b =>
        have := p2 b rfl
        subst this
        exact ⟨S.rp, hlo, fun b' e => by cases e; exact c1 b rfl, fun z => (by cases z), fun z => (by cases z), by simp, by simp, fun z => (by cases z)⟩
      | none =>
        obtain ⟨hlt, hl0⟩ := c2 rfl
        have hpm := p1 rfl
        refine ⟨S.rp, hlo, fun b' e => (by cases e), fun _ => hlt, fun _ z => ?_, fun c hc => hpm.mem_iff.mp hc, ?_, fun _ d hd => .inl (hpm.mem_iff.mpr hd)⟩
        · have z : un = [] := z
          rw [z] at hpm
          exact playable_ne S.rp.ok hl0 (List.nil_perm.mp hpm)
        · show un.length ≤ n
          rw [hpm.length_eq]
          exact playable_len S.rp.ok
    obtain ⟨b1, b2⟩ := W_bound trump _ S.rp.ok rfl
    refine ⟨_, (pss_cons (ps_if (pt_cmpR op_ge (pe_ix ix_tup (pe_fld (pv 1) rfl) pe_int (fun _ _ => rfl)) (pv 2) (nomark _))
        (pss_one (ps_ret (pe_make T.k_Trial (ok_Trial_init T) (hr.mono (by decide)) rfl T.m_Trial T.b_Trial_init .nil pass0 (pa_cons (pv 1) (pa_cons pe_bl pa_nil)))))
        pss_nil)
      (pss_cons (ps_if (pt_cmpR op_gt (pe_ix ix_tup (pe_fld (pv 1) rfl) pe_int (fun _ _ => rfl)) (pe_op op_sub (pe_fld (pv 0) rfl) (pv 2)) (nomark _))
        (pss_one (ps_ret (pe_make T.k_Trial (ok_Trial_init T) (hr.mono (by decide)) rfl T.m_Trial T.b_Trial_init .nil pass0 (pa_cons (pv 1) (pa_cons pe_bl pa_nil)))))
        pss_nil)
      (pss_cons (ps_if (pt_cmpR op_gt (pe_fld (pv 1) rfl) pe_int (nomark _))
        (pss_one (ps_ret (pe_make T.k_Trial (ok_Trial_init T) (hr.mono (by decide)) rfl T.m_Trial T.b_Trial_init .nil pass0 (pa_cons (pv 1) (pa_cons pe_non pa_nil)))))
        pss_nil)
      (pss_one (ps_ret (pe_make T.k_Trial (ok_Trial_init T) (hr.mono (by decide)) rfl T.m_Trial T.b_Trial_init .nil pass0 (pa_cons (pv 1) (pa_cons (pe_pget hU (pe_fld (pv 0) rfl) (pe_call (ok_key_of T) (hr.mono (by decide)) rfl T.m_key_of T.F_key_of.kp T.b_key_of .nil pass0 (pa_cons (pv 1) (pa_cons (pv 2) pa_nil))) ⟨rfl, rfl, rfl, rfl⟩) pa_nil)))))))), ?_⟩
    refine ⟨_, rfl, q, A.C_Position, dq, _, _, rfl, h1, T.c_Position, T.n_Position_taken, pf_taken, tp, _, _, V.int (p.won.1 : Nat), rfl, rfl, SqT.of h3, atI_nat (j := 0) rfl, _, rfl, _, _, rfl, rfl, _, rfl, ite2 (fun e => ?_) (fun e => ?_)⟩
    · have e := of_decide_eq_true e
      refine ⟨_, rfl, mk H (some true) (Same.refl H) (fun b z => ?_) (fun z => by cases z)⟩
      cases z
      unfold vt
      rw [decide_eq_true (by omega)]
    have hlt : p.won.1 < g := by
      have : ¬ (g : Int) ≤ (p.won.1 : Int) := fun z => e (decide_eq_true z)
      omega
    refine ⟨_, rfl, q, A.C_Position, dq, _, _, rfl, h1, T.c_Position, T.n_Position_taken, pf_taken, tp, _, _, V.int (p.won.2 : Nat), rfl, rfl, SqT.of h3, atI_nat (j := 1) rfl, _, rfl, s0, A.C_Search, ds, _, _, rfl, hsr, T.c_Search, T.n_Search_tricks, sf_tricks, _, rfl, _, _, rfl, rfl, _, _, rfl, rfl, _, rfl, ite2 (fun e => ?_) (fun e => ?_)⟩
    · have e := of_decide_eq_true e
      have e : (n : Int) - (g : Int) < (p.won.2 : Int) := e
      refine ⟨_, rfl, mk H (some false) (Same.refl H) (fun b z => ?_) (fun z => by cases z)⟩
      cases z
      unfold vt
      rw [decide_eq_false (by omega)]
    have hl0 : Sc20.left p ≠ 0 := fun z => by
      have h := all_told S.rp.ok z
      have : ¬ (n : Int) - (g : Int) < (p.won.2 : Int) := fun z => e (decide_eq_true z)
      omega
    refine ⟨_, rfl, q, A.C_Position, dq, _, _, rfl, h1, T.c_Position, T.n_Position_laid, pf_laid, _, _, rfl, rfl, _, rfl, ite2 (fun e => ?_) (fun e => ?_)⟩
    · exact ⟨_, rfl, mk H none (Same.refl H) (fun b z => by cases z) (fun _ => ⟨hlt, hl0⟩)⟩
    have ht : p.trick = [] := by
      have : ¬ (0 : Int) < (p.trick.length : Int) := fun z => e (decide_eq_true z)
      exact List.eq_nil_of_length_eq_zero (by omega)
    refine ⟨_, rfl, _, rfl, s0, A.C_Search, ds, _, _, rfl, hsr, T.c_Search, T.n_Search_verdicts, sf_verdicts, vd, m, rfl, S.me.at_, S.me.key, _, rfl, _, rfl, q, trump, p, g, rfl, S.po, fun b H2 s2 fb kb => ?_⟩
    refine ⟨b, _, m, rfl, s2 _ _ S.me.at_, (S.me.same s2).key, kb, ?_⟩
    cases hlk : lookP m (p.hands, Sc20.turn p, (g : Int) - (p.won.1 : Int)) with
    | none => exact mk H2 none s2 (fun b z => by cases z) (fun _ => ⟨hlt, hl0⟩)
    | some v => exact mk H2 (some v) s2 (fun b z => by cases z; exact S.me.look S.rp ht hlk) (fun z => by cases z)
theorem ok_Search_keep (T : Txt K mg A) : FnOk P w K mg base CX0 2 A.f_Search_keep A.d_Search_keep ["self", "trial", "goal"] (spKeep A.C_Search A.C_Trial A.C_Position) := by
  refine T.F_Search_keep.ok sc_Search_keep (fun vs H Q E h => ?_) (fun cdv A' outer s H vs Q E hr h => ?_)
  · obtain ⟨_, _, _, _, _, _, _, _, rfl, _⟩ := h
    rfl
  · obtain ⟨s0, vd, hs, n, trump, m, r, g, rfl, S, R, hv, hlo, hhi, k⟩ := h
    have hU := hr.units
    obtain ⟨ds, hsr⟩ := S.sr
    obtain ⟨dq, hp, tp, h1, hH, h3⟩ := S.po.ex
    obtain ⟨dt, ht⟩ := R.ob
    rw [hv] at ht
    refine ⟨_, (pss_one (ps_if (pt_cmpR op_eq (pe_fld (pe_fld (pv 1) rfl) rfl) pe_int (nomark _))
        (pss_one (ps_pput hU (pe_fld (pv 0) rfl) (pe_call (ok_key_of T) (hr.mono (by decide)) rfl T.m_key_of T.F_key_of.kp T.b_key_of .nil pass0 (pa_cons (pe_fld (pv 1) rfl) (pa_cons (pv 2) pa_nil))) (pe_fld (pv 1) rfl) rfl))
        pss_nil)), ?_⟩
    refine ⟨_, rfl, r.t, A.C_Trial, dt, _, _, rfl, ht, T.c_Trial, T.n_Trial_position, tf_position, r.q, A.C_Position, dq, _, _, rfl, h1, T.c_Position, T.n_Position_laid, pf_laid, rfl, _, rfl, ?_⟩
    rw [dL (j := 0) 0 rfl]
    refine ite2 (fun e => ?_) (fun e => ?_)
    · have htr : r.p.trick = [] := List.eq_nil_of_length_eq_zero (of_decide_eq_true e)
      refine ⟨_, rfl, r.t, A.C_Trial, dt, _, _, rfl, ht, T.c_Trial, T.n_Trial_verdict, tf_verdict, _, rfl, s0, A.C_Search, ds, _, _, rfl, hsr, T.c_Search, T.n_Search_verdicts, sf_verdicts, _, rfl, r.t, A.C_Trial, dt, _, _, rfl, ht, T.c_Trial, T.n_Trial_position, tf_position, _, rfl, r.q, trump, r.p, g, rfl, S.po, fun b H2 s2 fb kb => ?_⟩
      have M2 := S.me.same s2
      refine ⟨vd, b, _, m, vt trump g r.p, rfl, rfl, rfl, M2.at_, M2.key, kb, M2.size S.hT S.hl, ?_⟩
      refine k _ _ (M2.put S.rp htr hlo hhi kb) ⟨fun x o e2 hx => ?_, fun x e2 => ?_⟩
      · rw [upd_ne (ne_of (s2 _ _ e2) M2.at_ (hx _))]
        exact s2 _ _ e2
      · by_cases z : x = vd
        · rw [z, upd_same] at e2
          cases e2
        · rw [upd_ne z] at e2
          exact s2.free e2
    · exact k m H S.me (NX.refl H)

/-- what a call of the search hands on: the dict, changed; all else as it was -/
def spReaches (CS CP : Addr) : Sp := fun vs H Q _ => ∃ (s vd q : Addr) (hs : Sc20.Hands) (T trump : Nat) (m : MapP) (p : Sc20.Pos) (g : Nat), vs = [.ref s, .ref q, .int (g : Nat)] ∧ SIn CS CP H s vd q hs T trump m p ∧ p.won.1 ≤ g ∧ g ≤ T + 1 ∧
  ∀ (m' : MapP) (H' : Hp), Memo H' vd hs T trump m' → NX H H' → Q (.bl (vt trump g p)) H'
def spWorth (CS CP : Addr) : Sp := fun vs H Q _ => ∃ (s vd q : Addr) (hs : Sc20.Hands) (T trump : Nat) (m : MapP) (p : Sc20.Pos), vs = [.ref s, .ref q] ∧ SIn CS CP H s vd q hs T trump m p ∧
  ∀ (m' : MapP) (H' : Hp), Memo H' vd hs T trump m' → NX H H' → Q (.int (W trump p : Nat)) H'
def spLWorth (CS CP : Addr) : Sp := fun vs H Q _ => ∃ (s vd q : Addr) (hs : Sc20.Hands) (T trump : Nat) (m : MapP) (p : Sc20.Pos), vs = [.ref s, .ref q] ∧ SIn CS CP H s vd q hs T trump m p ∧
  ∀ (m' : MapP) (H' : Hp), Memo H' vd hs T trump m' → NX H H' → Q (.int ((if Sc20.turn p % 2 = 0 then W trump p else T - W trump p : Nat) : Int)) H'
theorem left_le {T : Nat} {p : Sc20.Pos} (ok : POk T p) : Sc20.left p ≤ 4 * T := by
  rw [left4 ok.four]
  have h0 := ok.hdLen (i := 0) (by decide)
  have h1 := ok.hdLen (i := 1) (by decide)
  have h2 := ok.hdLen (i := 2) (by decide)
  have h3 := ok.hdLen (i := 3) (by decide)
  omega
/-- the path, as it lies there -/
structure PathAt (CT CP : Addr) (H0 H : Hp) (trump : Nat) (pl fr : Addr) (hs : Sc20.Hands) (T g : Nat) (p : Sc20.Pos) (st : List Rc) : Prop where
  li : H pl = some (.lst ((st.map fun r => V.ref r.t).reverse))
  rc : ∀ r ∈ st, RcAt CT CP H trump r
  nt : (st.map (·.t)).Nodup
  nu : (st.map (·.u)).Nodup
  up : ∀ r ∈ st, r.u ≠ pl
  ft : ∀ r ∈ st, H0 r.t = none ∧ H0 r.u = none
  fp : H0 pl = none
  ff : H0 fr = none
  fi : st = [] → ∃ dx q u, H fr = some (.ins CT dx (tf (.ref q) (.bl (vt trump g p)) (.ref u)))
  la : st ≠ [] → ∃ r, st.getLast? = some r ∧ r.t = fr ∧ r.p = p
  lg : ∀ r st', st = r :: st' → TopOk hs T trump g r ∧ Bel hs T trump g r.p st' ∧ st'.length + Sc20.left r.p ≤ 4 * T
theorem rc_tu {CT CP : Addr} {H : Hp} {trump : Nat} {r r' : Rc} (a : RcAt CT CP H trump r) (b : RcAt CT CP H trump r') : r.t ≠ r'.u := by
  obtain ⟨dx, h1⟩ := a.ob
  exact ne_of h1 b.li (by intro z; cases z)
theorem tf_pf {trump : Nat} {p : Sc20.Pos} {a b : Addr} {x y z : V} : tf x y z ≠ pfs trump p a b := fun e => absurd (congrArg List.length e) (by show ¬ 3 = 8; decide)
theorem rc_tq {CT CP : Addr} {H : Hp} {trump : Nat} {r r' : Rc} (a : RcAt CT CP H trump r) (b : RcAt CT CP H trump r') : r.t ≠ r'.q := by
  obtain ⟨dx, h1⟩ := a.ob
  obtain ⟨dy, hp, tp, h2, _, _⟩ := b.po.ex
  exact ne_of h1 h2 (by intro z; injection z with _ _ z3; exact tf_pf z3)
theorem rc_uq {CT CP : Addr} {H : Hp} {trump : Nat} {r r' : Rc} (a : RcAt CT CP H trump r) (b : RcAt CT CP H trump r') : r.u ≠ r'.q := by
  obtain ⟨dy, hp, tp, h2, _, _⟩ := b.po.ex
  exact ne_of a.li h2 (by intro z; cases z)
/-- one trial stays when another's list, or the other itself, is changed -/
theorem RcAt.other {CT CP : Addr} {H H' : Hp} {trump : Nat} {r : Rc} (a : RcAt CT CP H trump r) {x : Addr} (hx1 : r.t ≠ x) (hx2 : r.u ≠ x) (hx3 : r.q ≠ x) (hx4 : ∀ xs, H x ≠ some (.tup xs)) (k : ∀ b o, H b = some o → b ≠ x → H' b = some o) : RcAt CT CP H' trump r := by
  obtain ⟨dx, h1⟩ := a.ob
  obtain ⟨dy, hp, tp, g1, ⟨bs, g2, g3⟩, g4⟩ := a.po.ex
  have kt : ∀ b xs, H b = some (.tup xs) → H' b = some (.tup xs) := fun b xs e => k b _ e fun z => hx4 xs (by rw [← z]; exact e)
  exact ⟨⟨dx, k _ _ h1 hx1⟩, k _ _ a.li hx2, dy, hp, tp, k _ _ g1 hx3, ⟨bs, kt _ _ g2, g3.keep kt⟩, kt _ _ g4⟩
theorem map_t_ne {st : List Rc} {r r' : Rc} (h : ((r :: st).map (·.t)).Nodup) (hm : r' ∈ st) : r'.t ≠ r.t := fun e => by
  have := (List.nodup_cons.mp h).1
  exact this (by show r.t ∈ _; rw [← e]; exact List.mem_map.mpr ⟨r', hm, rfl⟩)
theorem map_u_ne {st : List Rc} {r r' : Rc} (h : ((r :: st).map (·.u)).Nodup) (hm : r' ∈ st) : r'.u ≠ r.u := fun e => by
  have := (List.nodup_cons.mp h).1
  exact this (by show r.u ∈ _; rw [← e]; exact List.mem_map.mpr ⟨r', hm, rfl⟩)
theorem ok_Search_reaches (T : Txt K mg A) : FnOk P w K mg base CX0 6 A.f_Search_reaches A.d_Search_reaches ["self", "position", "goal"] (spReaches A.C_Search A.C_Position) := by
  refine T.F_Search_reaches.ok sc_Search_reaches (fun vs H Q E h => ?_) (fun cdv A' outer s H vs Q E hr h => ?_)
  · obtain ⟨_, _, _, _, _, _, _, _, _, rfl, _⟩ := h
    rfl
  · obtain ⟨s0, vd, q, hs, n, trump, m, p, g, rfl, S, hlo, hhi, k⟩ := h
    obtain ⟨ds, hsr⟩ := S.sr
    refine ⟨_, (pss_cons (st 3 sc_Search_reaches.nd (pe_meth (pv 0) T.c_Search T.M_Search_trial_of (ok_Search_trial_of T) (hr.mono (by decide)) T.b_Search_trial_of .nil pass0 (pa_cons (pv 1) (pa_cons (pv 2) pa_nil))))
      (pss_cons (st 4 sc_Search_reaches.nd (pe_lst (pa_cons (pv 3) pa_nil)))
      (pss_cons (ps_while PassesOwn.never (pt_cmpR op_gt (ln K T.z_len (pv 4)) pe_int (nomark _))
        (pss_cons (st 5 sc_Search_reaches.nd (pe_ix ix_list (pv 4) (pe_un un_neg pe_int) (fun _ _ => rfl)))
        (pss_one (ps_if (pt_cmp (pc_isN (pe_fld (pv 5) rfl)))
          (pss_one (ps_expr (pe_bm PySem.F.plainAttrs_list PySem.F.slot_list_append PySem.F.type_list_append mt_append (pv 4) (pa_cons (pe_meth (pv 0) T.c_Search T.M_Search_trial_of (ok_Search_trial_of T) (hr.mono (by decide)) T.b_Search_trial_of .nil pass0 (pa_cons (pe_meth0 (pv 5) T.c_Trial T.M_Trial_next_position (ok_Trial_next_position T) (hr.mono (by decide)) T.b_Trial_next_position .nil pass0) (pa_cons (pv 2) pa_nil))) pa_nil))))
          (pss_cons (ps_expr (pe_meth (pv 0) T.c_Search T.M_Search_keep (ok_Search_keep T) (hr.mono (by decide)) T.b_Search_keep .nil pass0 (pa_cons (pv 5) (pa_cons (pv 2) pa_nil))))
          (pss_cons (ps_expr (pe_bm0 PySem.F.plainAttrs_list PySem.F.slot_list_pop PySem.F.type_list_pop mt_pop (pv 4)))
          (pss_one (ps_if (pt_cmpR op_gt (ln K T.z_len (pv 4)) pe_int (nomark _))
            (pss_one (ps_expr (pe_meth (pe_ix ix_list (pv 4) (pe_un un_neg pe_int) (fun _ _ => rfl)) T.c_Trial T.M_Trial_hear (ok_Trial_hear T) (hr.mono (by decide)) T.b_Trial_hear .nil pass0 (pa_cons (pe_fld (pv 5) rfl) pa_nil))))
            pss_nil))))))))
      (pss_one (ps_ret (pe_fld (pv 3) rfl)))))), ?_⟩
    refine ⟨_, rfl, s0, ds, _, rfl, hsr, sf_no (by decide +kernel), _, rfl, _, rfl, s0, vd, q, hs, n, trump, m, p, g, rfl, S, hlo, hhi, fun r0 H1 eq ep s1 f1 f2 R1 O1 => ?_⟩
    refine ⟨_, rfl, (by show 1 ≤ sizeLine; decide), fun pl hpl => ?_⟩
    have s2 : Same H1 (upd H1 pl (.lst [V.ref r0.t])) := Same.laid hpl
    have s12 := s1.trans s2
    refine ⟨fun mm σ H2 => ∃ (st : List Rc) (m2 : MapP) (v5 : Option V), σ = [some (.ref s0), some (.ref q), some (.int (g : Nat)), some (.ref r0.t), some (.ref pl), v5] ∧ mm = mu n st ∧ NX H H2 ∧ Memo H2 vd hs n trump m2 ∧ PathAt A.C_Trial A.C_Position H H2 trump pl r0.t hs n g p st,
      ⟨_, [r0], m, none, rfl, rfl, NX.of s12, S.me.same s12, ⟨upd_same, ?_, by simp, by simp, ?_, ?_, s1.free hpl, f1, fun z => (by cases z), fun _ => ⟨r0, rfl, rfl, ep⟩, ?_⟩⟩, ?_⟩
    · intro r hm
      rw [List.mem_singleton.mp hm]
      exact R1.nx (NX.of s2)
    · intro r hm
      rw [List.mem_singleton.mp hm]
      exact ne_of_none R1.li hpl
    · intro r hm
      rw [List.mem_singleton.mp hm]
      exact ⟨f1, f2⟩
    · rintro r st' e
      cases e
      refine ⟨O1, trivial, ?_⟩
      rw [List.length_nil, ep]
      have := left_le S.rp.ok
      omega
    · rintro mm σ H2 ⟨st, m2, v5, rfl, rfl, nx, M, PA⟩
      have hsr2 := nx.ins hsr
      refine ⟨_, rfl, pl, _, rfl, .inl (SqL.of PA.li), _, _, rfl, rfl, _, rfl, ?_⟩
      rw [List.length_reverse, List.length_map]
      cases st with
      | nil =>
        refine ifF (by decide) ?_
        obtain ⟨dx, q1, u1, hf⟩ := PA.fi rfl
        exact ⟨_, rfl, r0.t, A.C_Trial, dx, _, _, rfl, hf, T.c_Trial, T.n_Trial_verdict, tf_verdict, k m2 H2 M nx⟩
      | cons r st =>
        obtain ⟨O, B, hln⟩ := PA.lg r st rfl
        have hli := PA.li
        rw [List.map_cons, List.reverse_cons] at hli
        have R := PA.rc r (by simp)
        obtain ⟨dt, ht⟩ := R.ob
        have htu := rc_tu R R
        have htq := rc_tq R R
        have hstl : st.length + 1 ≤ 1000 := by
          have := S.hT
          omega
        refine ifT (by rw [List.length_cons]; omega) ⟨_, fun _ _ z => z, ?_⟩
        refine ⟨_, rfl, _, rfl, pl, _, _, V.ref r.t, rfl, rfl, SqL.of hli, atI_last _ _, ?_⟩
        refine ⟨_, rfl, r.t, A.C_Trial, dt, _, _, rfl, ht, T.c_Trial, T.n_Trial_verdict, tf_verdict, _, rfl, ?_⟩
        cases hv : r.v with
        | none =>
          refine ifT rfl ?_
          obtain ⟨un', c, hun⟩ : ∃ un' c, r.un = un' ++ [c] := by
            rcases List.eq_nil_or_concat r.un with e | ⟨L, c, e⟩
            · exact absurd e (O.ne hv)
            · exact ⟨L, c, by rw [e, List.concat_eq_append]⟩
          have hc : c ∈ Sc20.playable r.p := O.sub c (by rw [hun]; simp)
          have hcl := left_played O.rp.ok trump (playable_sub hc)
          refine ⟨_, rfl, ty_list (SqL.of hli), _, rfl, s0, ds, _, rfl, hsr2, sf_no (by decide +kernel), _, rfl, r.t, dt, _, rfl, ht, tf_no (by decide +kernel), r, un', c, trump, n, rfl, R, hun, O.rp.ok, by have := S.hT; omega, htu, fun q' H3 R3 P3 fq3 k3 => ?_⟩
          have hu4 : ∀ xs, H2 r.u ≠ some (.tup xs) := fun xs z => by rw [R.li] at z; cases z
          have hvu : vd ≠ r.u := ne_of M.at_ R.li (by intro z; cases z)
          have M3 : Memo H3 vd hs n trump m2 := M.keep ((k3 _ _ M.at_ hvu).trans M.at_.symm) fun b xs e => k3 _ _ e fun z => hu4 xs (by rw [← z]; exact e)
          have nx3 : NX H H3 := by
            refine ⟨fun b o e hx => k3 _ _ (nx.kp b o e hx) fun z => ?_, fun b hb => ?_⟩
            · have := (PA.ft r (by simp)).2
              rw [← z, e] at this
              cases this
            · by_cases z : b = r.u
              · rw [z]
                exact (PA.ft r (by simp)).2
              · cases e : H2 b with
                | none => exact nx.dm b e
                | some o => rw [k3 _ _ e z] at hb; cases hb
          have rp' := O.rp.played trump (playable_sub hc)
          have hwn := won_played1 trump r.p c O.rp.ok.few
          have hlt := O.lt hv
          refine ⟨_, rfl, s0, vd, q', hs, n, trump, m2, _, g, rfl, ⟨⟨ds, nx3.ins hsr⟩, M3, P3, rp', S.hT, S.hl⟩, by omega, hhi, fun rn H4 eq4 ep4 s4 f4t f4u R4 O4 => ?_⟩
          have hpu : pl ≠ r.u := fun z => PA.up r (by simp) z.symm
          have hli3 : H3 pl = some (.lst ((st.map fun r => V.ref r.t).reverse ++ [V.ref r.t])) := k3 _ _ hli hpu
          have hli4 := s4 _ _ hli3
          refine ⟨pl, _, _, rfl, rfl, hli4, ?_, ?_⟩
          · rw [List.length_append, List.length_reverse, List.length_map]
            exact small1000 hstl
          have k4 : ∀ b o, H4 b = some o → b ≠ pl → (upd H4 pl (.lst ((st.map fun r => V.ref r.t).reverse ++ [V.ref r.t] ++ [V.ref rn.t]))) b = some o := fun b o e hb => (upd_ne hb).trans e
          have hpt : ∀ xs, H4 pl ≠ some (.tup xs) := fun xs z => by rw [hli4] at z; cases z
          have mv : ∀ r' : Rc, RcAt A.C_Trial A.C_Position H4 trump r' → r'.u ≠ pl → RcAt A.C_Trial A.C_Position (upd H4 pl (.lst ((st.map fun r => V.ref r.t).reverse ++ [V.ref r.t] ++ [V.ref rn.t]))) trump r' := fun r' a hu => by
            obtain ⟨dx, h1⟩ := a.ob
            obtain ⟨dy, hp, tp, g1, _, _⟩ := a.po.ex
            exact a.other (ne_of h1 hli4 (by intro z; cases z)) hu (ne_of g1 hli4 (by intro z; cases z)) hpt k4
          have R3' := R3.nx (NX.of s4)
          have old : ∀ r' ∈ st, RcAt A.C_Trial A.C_Position H4 trump r' := fun r' hm => by
            have a := PA.rc r' (by simp [hm])
            exact (a.other (rc_tu a R) (map_u_ne PA.nu hm) (fun z => rc_uq R a z.symm) hu4 k3).nx (NX.of s4)
          have fH2 : ∀ b, H3 b = none → b ≠ r.u → H2 b = none := fun b hb hn => by
            cases e : H2 b with
            | none => rfl
            | some o => rw [k3 _ _ e hn] at hb; cases hb
          have rnu : rn.u ≠ r.u := fun z => by rw [z, R3.li] at f4u; cases f4u
          have rnt : rn.t ≠ r.u := fun z => by rw [z, R3.li] at f4t; cases f4t
          have f2t := fH2 _ f4t rnt
          have f2u := fH2 _ f4u rnu
          refine ⟨mu n (rn :: { r with un := un' } :: st), push_mu O hv hun O4 ep4, rn :: { r with un := un' } :: st, m2, some (.ref r.t), rfl, rfl, ?_, ?_, ⟨?_, ?_, ?_, ?_, ?_, ?_, PA.fp, PA.ff, fun z => (by cases z), ?_, ?_⟩⟩
          · exact (nx3.trans (NX.of s4)).new PA.fp _
          · exact (M3.same s4).keep (upd_ne (ne_of (s4 _ _ M3.at_) hli4 (by intro z; cases z))) fun b xs e => by
              rw [upd_ne (ne_of e hli4 (by intro z; cases z))]
              exact e
          · rw [upd_same]
            simp
          · intro r' hm
            rcases List.mem_cons.mp hm with e | hm
            · rw [e]
              exact mv rn R4 (ne_of_none hli3 f4u).symm
            · rcases List.mem_cons.mp hm with e | hm
              · rw [e]
                exact mv _ R3' (PA.up r (by simp))
              · exact mv r' (old r' hm) (PA.up r' (by simp [hm]))
          · refine List.nodup_cons.mpr ⟨fun z => ?_, PA.nt⟩
            obtain ⟨r', hm, e⟩ := List.mem_map.mp z
            have e : r'.t = rn.t := e
            rcases List.mem_cons.mp hm with y | y
            · rw [y] at e
              have e : r.t = rn.t := e
              obtain ⟨dx, h1⟩ := R3.ob
              have h1 : H3 r.t = _ := h1
              rw [e, f4t] at h1
              cases h1
            · obtain ⟨dx, h1⟩ := (PA.rc r' (by simp [y])).ob
              rw [e, f2t] at h1
              cases h1
          · refine List.nodup_cons.mpr ⟨fun z => ?_, PA.nu⟩
            obtain ⟨r', hm, e⟩ := List.mem_map.mp z
            have e : r'.u = rn.u := e
            rcases List.mem_cons.mp hm with y | y
            · rw [y] at e
              exact rnu e.symm
            · have h1 := (PA.rc r' (by simp [y])).li
              rw [e, f2u] at h1
              cases h1
          · intro r' hm
            rcases List.mem_cons.mp hm with e | hm
            · rw [e]
              exact (ne_of_none hli3 f4u).symm
            · rcases List.mem_cons.mp hm with e | hm
              · rw [e]
                exact PA.up r (by simp)
              · exact PA.up r' (by simp [hm])
          · intro r' hm
            rcases List.mem_cons.mp hm with e | hm
            · rw [e]
              exact ⟨nx3.dm _ f4t, nx3.dm _ f4u⟩
            · rcases List.mem_cons.mp hm with e | hm
              · rw [e]
                exact PA.ft r (by simp)
              · exact PA.ft r' (by simp [hm])
          · intro _
            obtain ⟨rl, h1, h2, h3⟩ := PA.la (by simp)
            cases st with
            | nil =>
              have h1 : r = rl := by simpa using h1
              exact ⟨{ r with un := un' }, by simp, by rw [← h2, ← h1], by rw [← h3, ← h1]⟩
            | cons r1 st1 =>
              refine ⟨rl, ?_, h2, h3⟩
              simpa using h1
          · rintro r' st' e
            cases e
            refine ⟨O4, by rw [ep4]; exact push_bel O B hv hun, ?_⟩
            rw [ep4, List.length_cons]
            omega
        | some v =>
          refine ifF (by intro z; cases z) ?_
          have hvv : v = vt trump g r.p := O.got v hv
          refine ⟨_, rfl, s0, ds, _, rfl, hsr2, sf_no (by decide +kernel), _, rfl, _, rfl, s0, vd, hs, n, trump, m2, r, g, rfl, ⟨⟨ds, hsr2⟩, M, R.po, O.rp, S.hT, S.hl⟩, R, by rw [hv, hvv], O.le, hhi, fun m3 H3 M3 nx3 => ?_⟩
          have hli3 := nx3.lst hli
          have n03 := nx.trans nx3
          have ed : ((st.map fun r => V.ref r.t).reverse ++ [V.ref r.t]).dropLast = (st.map fun r => V.ref r.t).reverse := List.dropLast_concat
          refine ⟨_, rfl, ty_list (SqL.of hli3), pl, _, V.ref r.t, rfl, rfl, hli3, ?_, ?_⟩
          · rw [List.length_append, List.length_singleton, Nat.add_sub_cancel, List.getElem?_append_right (Nat.le_refl _), Nat.sub_self]
            rfl
          rw [ed]
          have M4 : Memo (upd H3 pl (.lst ((st.map fun r => V.ref r.t).reverse))) vd hs n trump m3 := M3.keep (upd_ne (ne_of M3.at_ hli3 (by intro z; cases z))) fun b xs e => by
            rw [upd_ne (ne_of e hli3 (by intro z; cases z))]
            exact e
          have n04 := n03.new PA.fp (.lst ((st.map fun r => V.ref r.t).reverse))
          have k4 : ∀ b o, H3 b = some o → b ≠ pl → (upd H3 pl (.lst ((st.map fun r => V.ref r.t).reverse))) b = some o := fun b o e hb => (upd_ne hb).trans e
          have hpt : ∀ xs, H3 pl ≠ some (.tup xs) := fun xs z => by rw [hli3] at z; cases z
          have mv : ∀ r' ∈ r :: st, RcAt A.C_Trial A.C_Position (upd H3 pl (.lst ((st.map fun r => V.ref r.t).reverse))) trump r' := fun r' hm => by
            have a := (PA.rc r' hm).nx nx3
            obtain ⟨dx, h1⟩ := a.ob
            obtain ⟨dy, hp, tp, g1, _, _⟩ := a.po.ex
            exact a.other (ne_of h1 hli3 (by intro z; cases z)) (PA.up r' hm) (ne_of g1 hli3 (by intro z; cases z)) hpt k4
          have R4 := mv r (by simp)
          obtain ⟨d4, ht4⟩ := R4.ob
          rw [hv] at ht4
          refine ⟨_, rfl, pl, _, rfl, .inl (SqL.of upd_same), _, _, rfl, rfl, _, rfl, ?_⟩
          rw [List.length_reverse, List.length_map]
          cases st with
          | nil =>
            refine ifF (by decide) ?_
            obtain ⟨rl, h1, h2, h3⟩ := PA.la (by simp)
            have h1 : r = rl := by simpa using h1
            subst h1
            refine ⟨mu n [], pop_mu1 hv, [], m3, some (.ref r.t), rfl, rfl, n04, M4, ⟨upd_same, by simp, by simp, by simp, by simp, by simp, PA.fp, PA.ff, fun _ => ⟨d4, r.q, r.u, ?_⟩, fun z => absurd rfl z, fun r' st' e => (by cases e)⟩⟩
            rw [← h2, ht4, hvv, h3]
            rfl
          | cons r1 st1 =>
            refine ifT (by rw [List.length_cons]; omega) ?_
            have R1' := mv r1 (by simp)
            obtain ⟨d1, ht1⟩ := R1'.ob
            have hB := id B
            obtain ⟨rp1, _, _, _, _, ⟨c1, hc1, hpc, _⟩, _⟩ := hB
            have hcl := left_played rp1.ok trump (playable_sub hc1)
            rw [← hpc] at hcl
            refine ⟨_, rfl, _, rfl, pl, _, _, V.ref r1.t, rfl, rfl, SqL.of upd_same, (by rw [List.map_cons, List.reverse_cons]; exact atI_last _ _), r1.t, d1, _, rfl, ht1, tf_no (by decide +kernel),
              _, rfl, r.t, A.C_Trial, d4, _, _, rfl, ht4, T.c_Trial, T.n_Trial_verdict, tf_verdict, r1, v, trump, rfl, R1', rc_tu R1' R1', rc_tq R1' R1', fun H5 R5 k5 => ?_⟩
            obtain ⟨e1, e2, e3, e4, e5⟩ := heardR_t r1 v
            have ht14 : ∀ xs, (upd H3 pl (.lst (((r1 :: st1).map fun r => V.ref r.t).reverse))) r1.t ≠ some (.tup xs) := fun xs z => by rw [ht1] at z; cases z
            have hpl1 : pl ≠ r1.t := ne_of (upd_same (H := H3) (a := pl)) ht1 (by intro z; cases z)
            have n05 : NX H H5 := by
              refine ⟨fun b o e hx => k5 _ _ (n04.kp b o e hx) fun z => ?_, fun b hb => ?_⟩
              · have := (PA.ft r1 (by simp)).1
                rw [← z, e] at this
                cases this
              · by_cases z : b = r1.t
                · rw [z]
                  exact (PA.ft r1 (by simp)).1
                · cases e : (upd H3 pl (.lst (((r1 :: st1).map fun r => V.ref r.t).reverse))) b with
                  | none => exact n04.dm b e
                  | some o => rw [k5 _ _ e z] at hb; cases hb
            have M5 : Memo H5 vd hs n trump m3 := M4.keep ((k5 _ _ M4.at_ (ne_of M4.at_ ht1 (by intro z; cases z))).trans M4.at_.symm) fun b xs e => k5 _ _ e fun z => ht14 xs (by rw [← z]; exact e)
            obtain ⟨O5, B5⟩ := pop_ok B
            rw [← hvv] at O5 B5
            refine ⟨mu n (heardR r1 v :: st1), pop_mu B hv, heardR r1 v :: st1, m3, some (.ref r.t), rfl, rfl, n05, M5, ⟨?_, ?_, ?_, ?_, ?_, ?_, PA.fp, PA.ff, fun z => (by cases z), ?_, ?_⟩⟩
            · rw [k5 _ _ upd_same hpl1, List.map_cons, List.map_cons, e1]
            · intro r' hm
              rcases List.mem_cons.mp hm with e | hm
              · rw [e]
                exact R5
              · have a := mv r' (by simp [hm])
                have hnt : ((r1 :: st1).map (·.t)).Nodup := (List.nodup_cons.mp PA.nt).2
                exact a.other (map_t_ne hnt hm) (fun z => rc_tu R1' a z.symm) (fun z => rc_tq R1' a z.symm) ht14 k5
            · have hnt : ((r1 :: st1).map (·.t)).Nodup := (List.nodup_cons.mp PA.nt).2
              rw [List.map_cons] at hnt ⊢
              rw [e1]
              exact hnt
            · have hnu : ((r1 :: st1).map (·.u)).Nodup := (List.nodup_cons.mp PA.nu).2
              rw [List.map_cons] at hnu ⊢
              rw [e2]
              exact hnu
            · intro r' hm
              rcases List.mem_cons.mp hm with e | hm
              · rw [e, e2]
                exact PA.up r1 (by simp)
              · exact PA.up r' (by simp [hm])
            · intro r' hm
              rcases List.mem_cons.mp hm with e | hm
              · rw [e, e1, e2]
                exact PA.ft r1 (by simp)
              · exact PA.ft r' (by simp [hm])
            · intro _
              obtain ⟨rl, h1, h2, h3⟩ := PA.la (by simp)
              cases st1 with
              | nil =>
                have h1 : r1 = rl := by simpa using h1
                exact ⟨heardR r1 v, rfl, by rw [e1, h1]; exact h2, by rw [e5, h1]; exact h3⟩
              | cons r2 st2 =>
                refine ⟨rl, ?_, h2, h3⟩
                simpa using h1
            · rintro r' st' e
              cases e
              refine ⟨O5, B5, ?_⟩
              rw [e5]
              rw [List.length_cons] at hln
              omega
theorem SIn.next {CS CP : Addr} {H H' : Hp} {s vd q q' : Addr} {hs : Sc20.Hands} {T trump : Nat} {m m' : MapP} {p p' : Sc20.Pos} (a : SIn CS CP H s vd q hs T trump m p) (nx : NX H H') (M : Memo H' vd hs T trump m') (po : PosAt CP H' q' trump p') (rp : RP hs T p') : SIn CS CP H' s vd q' hs T trump m' p' :=
  ⟨a.sr.nx nx, M, po, rp, a.hT, a.hl⟩
theorem ok_Search_worth (T : Txt K mg A) : FnOk P w K mg base CX0 7 A.f_Search_worth A.d_Search_worth ["self", "position"] (spWorth A.C_Search A.C_Position) := by
  refine T.F_Search_worth.ok sc_Search_worth (fun vs H Q E h => ?_) (fun cdv A' outer s H vs Q E hr h => ?_)
  · obtain ⟨_, _, _, _, _, _, _, _, rfl, _⟩ := h
    rfl
  · obtain ⟨s0, vd, q, hs, n, trump, m, p, rfl, S, k⟩ := h
    obtain ⟨ds, hsr⟩ := S.sr
    obtain ⟨dq, hp, tp, h1, hH, h3⟩ := S.po.ex
    obtain ⟨b1, b2⟩ := W_bound trump _ S.rp.ok rfl
    refine ⟨_, (pss_cons (st 2 sc_Search_worth.nd (pe_ix ix_tup (pe_fld (pv 1) rfl) pe_int (fun _ _ => rfl)))
      (pss_cons (ps_while PassesOwn.never (pt_val (pe_meth (pv 0) T.c_Search T.M_Search_reaches (ok_Search_reaches T) (hr.mono (by decide)) T.b_Search_reaches .nil pass0 (pa_cons (pv 1) (pa_cons (pe_op op_add (pv 2) pe_int) pa_nil))))
        (pss_one (ps_aug (i := 2) sc_Search_worth.nd rfl (Or.inl rfl) pe_int ip_add)))
      (pss_one (ps_ret (pv 2))))), ?_⟩
    refine ⟨_, rfl, q, A.C_Position, dq, _, _, rfl, h1, T.c_Position, T.n_Position_taken, pf_taken, tp, _, _, V.int (p.won.1 : Nat), rfl, rfl, SqT.of h3, atI_nat (j := 0) rfl, ?_⟩
    refine ⟨fun mm σ H2 => ∃ (g : Nat) (m2 : MapP), σ = [some (.ref s0), some (.ref q), some (.int (g : Nat))] ∧ p.won.1 ≤ g ∧ g ≤ W trump p ∧ mm = W trump p - g ∧ NX H H2 ∧ Memo H2 vd hs n trump m2, ⟨_, p.won.1, m, rfl, Nat.le_refl _, b1, rfl, NX.refl H, S.me⟩, ?_⟩
    rintro mm σ H2 ⟨g, m2, rfl, g1, g2, rfl, nx, M⟩
    refine ⟨_, rfl, s0, ds, _, rfl, nx.ins hsr, sf_no (by decide +kernel), _, rfl, _, rfl, _, _, rfl, rfl, s0, vd, q, hs, n, trump, m2, p, g + 1, rfl, S.next nx M (S.po.nx nx) S.rp, by omega, by omega, fun m3 H3 M3 nx3 => ⟨_, rfl, ?_⟩⟩
    unfold vt
    by_cases z : g + 1 ≤ W trump p
    · refine ifT z ⟨_, fun _ _ y => y, ?_⟩
      exact ⟨_, rfl, _, _, rfl, rfl, W trump p - (g + 1), by omega, g + 1, m3, rfl, by omega, z, rfl, nx.trans nx3, M3⟩
    · refine ifF z ?_
      have e : W trump p = g := by omega
      refine ⟨_, rfl, ?_⟩
      have := k m3 H3 M3 (nx.trans nx3)
      rw [e] at this
      exact this
theorem ok_Search_leaders_worth (T : Txt K mg A) : FnOk P w K mg base CX0 8 A.f_Search_leaders_worth A.d_Search_leaders_worth ["self", "start"] (spLWorth A.C_Search A.C_Position) := by
  refine T.F_Search_leaders_worth.ok sc_Search_leaders_worth (fun vs H Q E h => ?_) (fun cdv A' outer s H vs Q E hr h => ?_)
  · obtain ⟨_, _, _, _, _, _, _, _, rfl, _⟩ := h
    rfl
  · obtain ⟨s0, vd, q, hs, n, trump, m, p, rfl, S, k⟩ := h
    obtain ⟨ds, hsr⟩ := S.sr
    obtain ⟨dq, hp, tp, h1, hH, h3⟩ := S.po.ex
    obtain ⟨b1, b2⟩ := W_bound trump _ S.rp.ok rfl
    refine ⟨_, (pss_cons (ps_if (pt_cmpR op_eq (pe_call (ok_side_of T) (hr.mono (by decide)) rfl T.m_side_of T.F_side_of.kp T.b_side_of .nil pass0 (pa_cons (pe_fld (pv 1) rfl) pa_nil)) pe_int (nomark _))
        (pss_one (ps_ret (pe_meth (pv 0) T.c_Search T.M_Search_worth (ok_Search_worth T) (hr.mono (by decide)) T.b_Search_worth .nil pass0 (pa_cons (pv 1) pa_nil))))
        pss_nil)
      (pss_one (ps_ret (pe_op op_sub (pe_fld (pv 0) rfl) (pe_meth (pv 0) T.c_Search T.M_Search_worth (ok_Search_worth T) (hr.mono (by decide)) T.b_Search_worth .nil pass0 (pa_cons (pv 1) pa_nil)))))), ?_⟩
    refine ⟨_, rfl, q, A.C_Position, dq, _, _, rfl, h1, T.c_Position, T.n_Position_turn, pf_turn, Sc20.turn p, rfl, rfl, _, rfl, ?_⟩
    rw [dL (j := 0) 0 rfl]
    refine ite2 (fun e => ?_) (fun e => ?_)
    · have e := of_decide_eq_true e
      simp only [if_pos e] at k
      exact ⟨_, rfl, s0, ds, _, rfl, hsr, sf_no (by decide +kernel), _, rfl, s0, vd, q, hs, n, trump, m, p, rfl, S, k⟩
    · have e : ¬ Sc20.turn p % 2 = 0 := fun z => e (decide_eq_true z)
      simp only [if_neg e] at k
      refine ⟨_, rfl, s0, A.C_Search, ds, _, _, rfl, hsr, T.c_Search, T.n_Search_tricks, sf_tricks, _, rfl, s0, ds, _, rfl, hsr, sf_no (by decide +kernel), _, rfl, s0, vd, q, hs, n, trump, m, p, rfl, S, fun m3 H3 M3 nx3 => ⟨_, _, rfl, rfl, ?_⟩⟩
      have := k m3 H3 M3 nx3
      have e2 : ((n - W trump p : Nat) : Int) = (n : Int) - (W trump p : Int) := by omega
      rw [e2] at this
      exact this

def spBestCard (CS CP : Addr) : Sp := fun vs H Q _ => ∃ (s vd q : Addr) (hs : Sc20.Hands) (T trump : Nat) (m : MapP) (p : Sc20.Pos), vs = [.ref s, .ref q] ∧ SIn CS CP H s vd q hs T trump m p ∧ Sc20.left p ≠ 0 ∧
  ∀ (m' : MapP) (H' : Hp) (c : Nat), c ∈ (Sc20.playable p).filter (fun c => W trump (Sc20.played trump p c) == W trump p) → (∀ y ∈ (Sc20.playable p).filter (fun c => W trump (Sc20.played trump p c) == W trump p), y ≤ c) → Memo H' vd hs T trump m' → NX H H' → Q (.int (c : Nat)) H'
def spBestLine (CS CP : Addr) : Sp := fun vs H Q _ => ∃ (s vd q : Addr) (hs : Sc20.Hands) (T trump : Nat) (m : MapP) (p : Sc20.Pos), vs = [.ref s, .ref q] ∧ SIn CS CP H s vd q hs T trump m p ∧
  ∀ (l : Addr) (H' : Hp), H' l = some (.lst (hV (Sc20.line trump (Sc20.left p) p))) → NX H H' → H l = none → Q (.ref l) H'
theorem ok_Search_best_card (T : Txt K mg A) : FnOk P w K mg base CX0 8 A.f_Search_best_card A.d_Search_best_card ["self", "position"] (spBestCard A.C_Search A.C_Position) := by
  refine T.F_Search_best_card.ok sc_Search_best_card (fun vs H Q E h => ?_) (fun cdv A' outer s H vs Q E hr h => ?_)
  · obtain ⟨_, _, _, _, _, _, _, _, rfl, _⟩ := h
    rfl
  · obtain ⟨s0, vd, q, hs, n, trump, m, p, rfl, S, hl0, k⟩ := h
    obtain ⟨ds, hsr⟩ := S.sr
    obtain ⟨dq, hp, tp, h1, hH, h3⟩ := S.po.ex
    have hpl := playable_len S.rp.ok
    have hT := S.hT
    refine ⟨_, (pss_cons (st 2 sc_Search_best_card.nd (pe_meth (pv 0) T.c_Search T.M_Search_worth (ok_Search_worth T) (hr.mono (by decide)) T.b_Search_worth .nil pass0 (pa_cons (pv 1) pa_nil)))
      (pss_one (ps_ret (pe_callB (cr_max rfl) rfl T.z_max PyProof.Rows.boot_max (pa_cons (pe_lc (own := [("card", 3)]) rfl sc_Search_best_card.nd (pi_list (pe_meth0 (pv 1) T.c_Position T.M_Position_choices (ok_Position_choices T) (hr.mono (by decide)) T.b_Position_choices .nil pass0)) (BlkOk.of (N' := ["self", "position", "worth", "card"]) (sc' := defScope s_Search_best_card) rfl rfl ⟨rfl, by decide +kernel, by decide +kernel, by decide +kernel, by decide +kernel⟩) (fun _ _ _ _ _ => (tg 3 sc_Search_best_card.nd)) (fun _ _ _ _ _ => (pts_one (pt_cmpR op_eq (pe_meth (pv 0) T.c_Search T.M_Search_worth (ok_Search_worth T) (hr.mono (by decide)) T.b_Search_worth .nil pass0 (pa_cons (pe_meth (pv 1) T.c_Position T.M_Position_after (ok_Position_after T) (hr.mono (by decide)) T.b_Position_after .nil pass0 (pa_cons (pv 3) pa_nil)) pa_nil)) (pv 2) (nomark _)))) (fun _ _ _ _ _ => (pv 3))) pa_nil))))), ?_⟩
    refine ⟨_, rfl, s0, ds, _, rfl, hsr, sf_no (by decide +kernel), _, rfl, s0, vd, q, hs, n, trump, m, p, rfl, S, fun m1 H1 M1 nx1 => ?_⟩
    have po1 := S.po.nx nx1
    have h1' := nx1.ins h1
    refine ⟨_, rfl, q, dq, _, rfl, h1', pf_no (by decide +kernel), q, trump, n, p, rfl, po1, S.rp.ok, by omega, fun l H2 s2 fl hl => ?_⟩
    refine ⟨l, rfl, ⟨_, SqL.of hl⟩, fun D hD => ?_⟩
    have nx2 := nx1.trans (NX.of s2)
    have fD : H D = none := nx2.dm D hD
    have flH : H l = none := nx1.dm l fl
    have hlD : l ≠ D := ne_of_none hl hD
    refine lc_list (K := K) (a := l) (xs := hV (Sc20.playable p)) (fun j H' => NX H H' ∧ (∃ m', Memo H' vd hs n trump m') ∧ H' l = some (.lst (hV (Sc20.playable p))) ∧ H' D = some (.lst (hV (((Sc20.playable p).take j).filter fun c => W trump (Sc20.played trump p c) == W trump p))))
      ⟨nx2.new fD _, ⟨m1, (M1.same s2).same (Same.laid hD)⟩, (upd_ne hlD).trans hl, upd_same⟩ (fun j H' _ z => SqL.of z.2.2.1) ?_ ?_
    · rintro j x H' hj ⟨nx3, ⟨m3, M3⟩, hl3, hD3⟩
      obtain ⟨y, hy, rfl⟩ := hV_get hj
      have hyp : y ∈ Sc20.playable p := List.mem_of_getElem? hy
      have po3 := S.po.nx nx3
      refine ⟨rfl, _, rfl, s0, ds, _, rfl, nx3.ins hsr, sf_no (by decide +kernel), _, rfl, q, dq, _, rfl, nx3.ins h1, pf_no (by decide +kernel), _, rfl, q, trump, n, p, y, rfl, po3, S.rp.ok, by omega, fun q' H4 s4 fq R4 => ?_⟩
      have nx4 := nx3.trans (NX.of s4)
      refine ⟨s0, vd, q', hs, n, trump, m3, _, rfl, S.next nx4 (M3.same s4) R4 (S.rp.played trump (playable_sub hyp)), fun m5 H5 M5 nx5 => ?_⟩
      have nx45 := (NX.of s4).trans nx5
      have hl5 := nx45.lst hl3
      have hD5 := nx45.lst hD3
      refine ⟨_, rfl, rfl, _, rfl, ?_⟩
      rw [dL (j := ((W trump p : Nat) : Int)) (W trump p) rfl]
      rw [take_succ_get hy, List.filter_append]
      by_cases e : W trump (Sc20.played trump p y) = W trump p
      · have e2 : [y].filter (fun c => W trump (Sc20.played trump p c) == W trump p) = [y] := by simp [e]
        rw [e2]
        refine ifT e ⟨_, rfl, _, hD5, ?_, ?_, ⟨m5, ?_⟩, ?_, ?_⟩
        · rw [hV_length]
          have g1 := List.length_filter_le (fun c => W trump (Sc20.played trump p c) == W trump p) ((Sc20.playable p).take j)
          have g2 := List.length_take_le' j (Sc20.playable p)
          exact small1000 (by omega)
        · exact (nx4.trans nx5).new fD _
        · exact M5.keep (upd_ne (ne_of M5.at_ hD5 (by intro z; cases z))) fun b xs e3 => by
            rw [upd_ne (ne_of e3 hD5 (by intro z; cases z))]
            exact e3
        · exact (upd_ne hlD).trans hl5
        · rw [upd_same, hV_append]
          rfl
      · have e2 : [y].filter (fun c => W trump (Sc20.played trump p c) == W trump p) = [] := by simp [e]
        rw [e2, List.append_nil]
        exact ifF e ⟨nx4.trans nx5, ⟨m5, M5⟩, hl5, hD5⟩
    · rintro H' ⟨nx3, ⟨m3, M3⟩, hl3, hD3⟩
      rw [hV_length, List.take_length] at hD3
      refine ⟨D, ((Sc20.playable p).filter fun c => W trump (Sc20.played trump p c) == W trump p).map (fun (c : Nat) => (c : Int)), rfl, by rw [← hV_ints]; exact SqL.of hD3, ?_, fun c hc hmax => ?_⟩
      · rw [List.length_map]
        have := best_some S.rp (trump := trump) hl0
        exact List.length_pos_iff.mpr this
      · obtain ⟨c', hc', rfl⟩ := List.mem_map.mp hc
        refine k m3 H' c' hc' (fun y hy => ?_) M3 nx3
        have := hmax (y : Int) (List.mem_map.mpr ⟨y, hy, rfl⟩)
        omega
theorem ok_Search_best_line (T : Txt K mg A) : FnOk P w K mg base CX0 9 A.f_Search_best_line A.d_Search_best_line ["self", "position"] (spBestLine A.C_Search A.C_Position) := by
  refine T.F_Search_best_line.ok sc_Search_best_line (fun vs H Q E h => ?_) (fun cdv A' outer s H vs Q E hr h => ?_)
  · obtain ⟨_, _, _, _, _, _, _, _, rfl, _⟩ := h
    rfl
  · obtain ⟨s0, vd, q, hs, n, trump, m, p, rfl, S, k⟩ := h
    obtain ⟨ds, hsr⟩ := S.sr
    have hT := S.hT
    have hll := left_le S.rp.ok
    refine ⟨_, (pss_cons (st 2 sc_Search_best_line.nd (pe_lst pa_nil))
      (pss_cons (ps_while PassesOwn.never (pt_not (pt_val (pe_meth0 (pv 1) T.c_Position T.M_Position_is_over (ok_Position_is_over T) (hr.mono (by decide)) T.b_Position_is_over .nil pass0)))
        (pss_cons (st 3 sc_Search_best_line.nd (pe_meth (pv 0) T.c_Search T.M_Search_best_card (ok_Search_best_card T) (hr.mono (by decide)) T.b_Search_best_card .nil pass0 (pa_cons (pv 1) pa_nil)))
        (pss_cons (ps_expr (pe_bm PySem.F.plainAttrs_list PySem.F.slot_list_append PySem.F.type_list_append mt_append (pv 2) (pa_cons (pv 3) pa_nil)))
        (pss_one (st 1 sc_Search_best_line.nd (pe_meth (pv 1) T.c_Position T.M_Position_after (ok_Position_after T) (hr.mono (by decide)) T.b_Position_after .nil pass0 (pa_cons (pv 3) pa_nil)))))))
      (pss_one (ps_ret (pv 2))))), ?_⟩
    refine ⟨(by show 0 ≤ sizeLine; decide), fun l hl => ?_⟩
    refine ⟨fun mm σ H2 => ∃ (q2 : Addr) (p2 : Sc20.Pos) (m2 : MapP) (cs : List Nat) (v3 : Option V), σ = [some (.ref s0), some (.ref q2), some (.ref l), v3] ∧ mm = Sc20.left p2 ∧ NX H H2 ∧ SIn A.C_Search A.C_Position H2 s0 vd q2 hs n trump m2 p2 ∧ H2 l = some (.lst (hV cs)) ∧
      cs.length + Sc20.left p2 = Sc20.left p ∧ Sc20.line trump (Sc20.left p) p = cs ++ Sc20.line trump (Sc20.left p2) p2, ⟨_, q, p, m, [], none, rfl, rfl, NX.of (Same.laid hl), S.same (Same.laid hl), upd_same, by simp, by simp⟩, ?_⟩
    rintro mm σ H2 ⟨q2, p2, m2, cs, v3, rfl, rfl, nx, S2, hl2, hcl, hline⟩
    obtain ⟨dq, hp, tp, h1, hH, h3⟩ := S2.po.ex
    have hsr2 := nx.ins hsr
    refine ⟨_, rfl, q2, dq, _, rfl, h1, pf_no (by decide +kernel), q2, trump, n, p2, rfl, S2.po, S2.rp.ok, _, rfl, ?_⟩
    by_cases z : Sc20.left p2 = 0
    · rw [decide_eq_true z]
      refine iteF ⟨_, rfl, k l H2 ?_ nx hl⟩
      rw [line_nil z, List.append_nil] at hline
      rw [hline]
      exact hl2
    · rw [decide_eq_false z]
      refine iteT ⟨_, fun _ _ y => y, ?_⟩
      refine ⟨_, rfl, s0, ds, _, rfl, hsr2, sf_no (by decide +kernel), _, rfl, s0, vd, q2, hs, n, trump, m2, p2, rfl, S2, z, fun m3 H3 c hc hmax M3 nx3 => ?_⟩
      have hl3 := nx3.lst hl2
      have hcp : c ∈ Sc20.playable p2 := (List.mem_filter.mp hc).1
      have hlp := left_played S2.rp.ok trump (playable_sub hcp)
      refine ⟨_, rfl, ty_list (SqL.of hl3), _, rfl, l, _, _, rfl, rfl, hl3, ?_, ?_⟩
      · rw [hV_length]
        exact small1000 (by omega)
      have po4 : PosAt A.C_Position (upd H3 l (.lst (hV cs ++ [V.int (c : Nat)]))) q2 trump p2 := (S2.po.nx nx3).upd hl3 (ne_of (nx3.ins h1) hl3 (by intro z; cases z)) (by intro xs z; cases z)
      have M4 : Memo (upd H3 l (.lst (hV cs ++ [V.int (c : Nat)]))) vd hs n trump m3 := M3.keep (upd_ne (ne_of M3.at_ hl3 (by intro z; cases z))) fun b xs e => by
        rw [upd_ne (ne_of e hl3 (by intro z; cases z))]
        exact e
      have nx4 : NX H (upd H3 l (.lst (hV cs ++ [V.int (c : Nat)]))) := (nx.trans nx3).new hl _
      obtain ⟨dq4, hp4, tp4, h14, _, _⟩ := po4.ex
      refine ⟨_, rfl, q2, dq4, _, rfl, h14, pf_no (by decide +kernel), _, rfl, q2, trump, n, p2, c, rfl, po4, S2.rp.ok, by omega, fun q' H5 s5 fq R5 => ?_⟩
      refine ⟨Sc20.left (Sc20.played trump p2 c), by omega, q', Sc20.played trump p2 c, m3, cs ++ [c], some (.int (c : Nat)), rfl, rfl, nx4.trans (NX.of s5), S.next (nx4.trans (NX.of s5)) (M4.same s5) R5 (S2.rp.played trump (playable_sub hcp)), ?_, ?_, ?_⟩
      · rw [s5 _ _ upd_same, hV_append]
        rfl
      · rw [List.length_append, List.length_singleton]
        omega
      · rw [hline, line_step S2.rp z hc hmax, List.append_assoc]
        rfl
def spRefSearch (C : Addr) : Sp := fun vs H Q _ => ∃ (p hl : Addr) (as : List Addr) (z : Addr) (r : Int) (x : Sc20.Reading), vs = [.ref p] ∧ RdAt C H p hl as z r x ∧ r ≤ 0 ∧ (r = 0 → ∃ h0 hr, soFar x = h0 :: hr) ∧
  Q (.int (if r < 0 then r else if 8 < Sc20.cardsOf (soFar x) then -7 else 0)) H
theorem ok_refusal_to_search (T : Txt K mg A) : FnOk P w K mg base CX0 1 A.f_refusal_to_search A.d_refusal_to_search ["reader"] (spRefSearch A.C_Reader) := by
  refine T.F_refusal_to_search.ok sc_refusal_to_search (fun vs H Q E h => ?_) (fun cdv A' outer s H vs Q E hr h => ?_)
  · obtain ⟨_, _, _, _, _, _, rfl, _⟩ := h
    rfl
  · obtain ⟨p, hl, as, z, r, x, rfl, R, hr0, hx, k⟩ := h
    obtain ⟨dx, h1⟩ := R.ob
    refine ⟨_, (pss_cons (ps_if (pt_cmpR op_lt (pe_fld (pv 0) rfl) pe_int (nomark _))
        (pss_one (ps_ret (pe_fld (pv 0) rfl)))
        pss_nil)
      (pss_cons (ps_if (pt_cmpR op_gt (ln K T.z_len (pe_ix ix_list (pe_fld (pv 0) rfl) pe_int (fun _ _ => rfl))) (gi T.g_MOST_CARDS_SEARCHED) (nomark _))
        (pss_one (ps_ret (gi T.g_TOO_MANY_CARDS)))
        pss_nil)
      (pss_one (ps_ret pe_int)))), ?_⟩
    refine ⟨_, rfl, p, A.C_Reader, dx, _, _, rfl, h1, T.c_Reader, T.n_Reader_refusal, rf_refusal _ _ _ _, _, _, rfl, rfl, _, rfl, ite2 (fun e => ?_) (fun e => ?_)⟩
    · rw [if_pos (of_decide_eq_true e)] at k
      exact ⟨_, rfl, p, A.C_Reader, dx, _, _, rfl, h1, T.c_Reader, T.n_Reader_refusal, rf_refusal _ _ _ _, k⟩
    · have e : ¬ r < 0 := fun z => e (decide_eq_true z)
      rw [if_neg e] at k
      obtain ⟨h0, hr', ex⟩ := hx (by omega)
      have hs := R.hs
      rw [ex] at hs k
      obtain ⟨b0, br, eb⟩ : ∃ b0 br, as ++ [z] = b0 :: br := by
        cases as with
        | nil => exact ⟨z, [], rfl⟩
        | cons b0 br => exact ⟨b0, br ++ [z], rfl⟩
      obtain ⟨h0', hh0, hb0⟩ := hs.at_.get (j := 0) (a := b0) (by rw [eb]; rfl)
      have hh0 : h0 = h0' := by simpa using hh0
      subst hh0
      refine ⟨_, rfl, p, A.C_Reader, dx, _, _, rfl, h1, T.c_Reader, T.n_Reader_hands, rf_hands _ _ _ _, hl, _, _, V.ref b0, rfl, rfl, SqL.of R.ls, (by rw [eb]; exact atI_zero _ _), b0, _, rfl, .inl (SqL.of hb0), _, _, rfl, rfl, _, rfl, ?_⟩
      have ec : Sc20.cardsOf (h0 :: hr') = h0.length := rfl
      rw [ec] at k
      rw [hV_length]
      refine ite2 (fun e => ?_) (fun e => ?_)
      · rw [if_pos (by have := of_decide_eq_true e; omega)] at k
        exact k
      · rw [if_neg (fun y => e (decide_eq_true (by omega)))] at k
        exact k

def spMayLead : Sp := fun vs H Q _ => ∃ t l : Int, vs = [.int t, .int l] ∧ Q (.bl (decide ((0 ≤ t ∧ t ≤ 4) ∧ 0 ≤ l ∧ l ≤ 3))) H
theorem ok_may_lead (T : Txt K mg A) : FnOk P w K mg base CX0 1 A.f_may_lead A.d_may_lead ["trump", "leader"] spMayLead := by
  refine T.F_may_lead.ok sc_may_lead (fun vs H Q E h => ?_) (fun cdv A' outer s H vs Q E hr h => ?_)
  · obtain ⟨_, _, rfl, _⟩ := h
    rfl
  · obtain ⟨t, l, rfl, k⟩ := h
    refine ⟨_, (pss_one (ps_ret (pe_and (pe_chain op_le op_le pe_int (pv 0) (gi T.g_NO_TRUMP)) (pe_one (pe_chain op_le op_lt pe_int (pv 1) (gi T.g_PLAYERS)))))), ?_⟩
    have e : decide ((0 ≤ t ∧ t ≤ 4) ∧ 0 ≤ l ∧ l ≤ 3) = ((decide (0 ≤ t) && decide (t ≤ 4)) && (decide (0 ≤ l) && decide (l < 4))) := by
      by_cases z : (0 ≤ t ∧ t ≤ 4) ∧ 0 ≤ l ∧ l ≤ 3
      · rw [decide_eq_true z, decide_eq_true z.1.1, decide_eq_true z.1.2, decide_eq_true z.2.1, decide_eq_true (show l < 4 by omega)]
        rfl
      · rw [decide_eq_false z]
        symm
        rw [← Bool.not_eq_true]
        intro y
        simp only [Bool.and_eq_true, decide_eq_true_eq] at y
        exact z ⟨y.1, y.2.1, by omega⟩
    rw [e] at k
    dsimp only [tRet]
    refine tAndV_p (b := decide (0 ≤ t) && decide (t ≤ 4)) (c := decide (0 ≤ l) && decide (l < 4)) (fun Q q => ?_) (fun _ Q q => ?_) k
    · refine ⟨_, rfl, _, _, rfl, rfl, _, rfl, ?_⟩
      by_cases h0 : 0 ≤ t
      · rw [decide_eq_true h0, if_pos rfl]
        rw [decide_eq_true h0, Bool.true_and] at q
        exact ⟨_, _, rfl, rfl, q⟩
      · rw [decide_eq_false h0, if_neg (by decide)]
        rw [decide_eq_false h0, Bool.false_and] at q
        exact q
    · refine ⟨_, rfl, _, _, rfl, rfl, _, rfl, ?_⟩
      by_cases h0 : 0 ≤ l
      · rw [decide_eq_true h0, if_pos rfl]
        rw [decide_eq_true h0, Bool.true_and] at q
        exact ⟨_, _, rfl, rfl, q⟩
      · rw [decide_eq_false h0, if_neg (by decide)]
        rw [decide_eq_false h0, Bool.false_and] at q
        exact q
def bestOf (trump leader : Nat) (hs : Sc20.Hands) : List Int := ((Sc20.worthOf trump (Sc20.start hs leader) leader (Sc20.cardsOf hs) : Nat) : Int) :: (Sc20.line trump (Sc20.left (Sc20.start hs leader)) (Sc20.start hs leader)).map fun (n : Nat) => (n : Int)
def spBestPlay (C : Addr) : Sp := fun vs H Q _ => ∃ (hl : Addr) (bs : List Addr) (hs : List (List Nat)) (trump leader : Nat), vs = [.int (trump : Nat), .int (leader : Nat), .ref hl] ∧ HsAt H hl bs hs ∧ leader < 4 ∧ RP hs (Sc20.cardsOf hs) (Sc20.start hs leader) ∧ Sc20.cardsOf hs ≤ 5 ∧ (∀ x ∈ hs, x.length = Sc20.cardsOf hs) ∧
  ∀ (l : Addr) (H' : Hp), H' l = some (.lst ((bestOf trump leader hs).map V.int)) → Q (.ref l) H'
theorem ok_best_play (T : Txt K mg A) : FnOk P w K mg base CX0 10 A.f_best_play A.d_best_play ["trump", "leader", "hands"] (spBestPlay A.C_Position) := by
  refine T.F_best_play.ok sc_best_play (fun vs H Q E h => ?_) (fun cdv A' outer s H vs Q E hr h => ?_)
  · obtain ⟨_, _, _, _, _, rfl, _⟩ := h
    rfl
  · obtain ⟨hl, bs, hs, trump, leader, rfl, R, hld, rp, h5, heq, k⟩ := h
    have h4 : hs.length = 4 := rp.ok.four
    obtain ⟨h0, hr', eh⟩ : ∃ h0 hr', hs = h0 :: hr' := by
      cases hs with
      | nil => cases h4
      | cons a l => exact ⟨a, l, rfl⟩
    obtain ⟨b0, br, eb⟩ : ∃ b0 br, bs = b0 :: br := by
      have := R.at_.length
      rw [h4] at this
      cases bs with
      | nil => cases this
      | cons a l => exact ⟨a, l, rfl⟩
    obtain ⟨h0', hh0, hb0⟩ := R.at_.get (j := 0) (a := b0) (by rw [eb]; rfl)
    have hh0 : h0 = h0' := by
      rw [eh] at hh0
      simpa using hh0
    subst hh0
    have ec : Sc20.cardsOf hs = h0.length := by rw [eh]; rfl
    have hgl : ∀ i, i < 4 → (hs.getD i []).length ≤ 5 := fun i hi => by
      have hm := hd_mem (p := Sc20.start hs leader) h4 hi
      have := heq _ hm
      show (Fh.hd (Sc20.start hs leader) i).length ≤ 5
      omega
    refine ⟨_, (pss_cons (st 3 sc_best_play.nd (pe_make T.k_Search (ok_Search_init T) (hr.mono (by decide)) rfl T.m_Search T.b_Search_init .nil pass0 (pa_cons (ln K T.z_len (pe_ix ix_list (pv 2) pe_int (fun _ _ => rfl))) pa_nil)))
      (pss_cons (st 4 sc_best_play.nd (pe_call (ok_start_of_play T) (hr.mono (by decide)) rfl T.m_start_of_play T.F_start_of_play.kp T.b_start_of_play .nil pass0 (pa_cons (pv 0) (pa_cons (pv 1) (pa_cons (pv 2) pa_nil)))))
      (pss_one (ps_ret (pe_op op_cat (pe_lst (pa_cons (pe_meth (pv 3) T.c_Search T.M_Search_leaders_worth (ok_Search_leaders_worth T) (hr.mono (by decide)) T.b_Search_leaders_worth .nil pass0 (pa_cons (pv 4) pa_nil)) pa_nil)) (pe_meth (pv 3) T.c_Search T.M_Search_best_line (ok_Search_best_line T) (hr.mono (by decide)) T.b_Search_best_line .nil pass0 (pa_cons (pv 4) pa_nil))))))), ?_⟩
    refine ⟨_, rfl, hl, _, _, V.ref b0, rfl, rfl, SqL.of R.ls, (by rw [eb]; exact atI_zero _ _), b0, _, rfl, .inl (SqL.of hb0), ?_⟩
    rw [hV_length, ← ec]
    intro x dx nx ndx nex
    refine ⟨x, dx, Sc20.cardsOf hs, rfl, upd_same, fun vd H1 sr1 v1 fv kp => ⟨rfl, ?_⟩⟩
    have s1 : Same H H1 := Same.made nx ndx kp
    refine ⟨_, rfl, _, rfl, _, rfl, hl, bs, hs, trump, leader, rfl, R.same s1, h4, hld, fun q H2 s2 fq R2 => ?_⟩
    have S2 : SIn A.C_Search A.C_Position H2 x vd q hs (Sc20.cardsOf hs) trump [] (Sc20.start hs leader) := ⟨sr1.nx (NX.of s2), Memo.empty (s2 _ _ v1), R2, rp, h5, hgl⟩
    obtain ⟨d2, hsr⟩ := S2.sr
    refine ⟨_, rfl, x, d2, _, rfl, hsr, sf_no (by decide +kernel), _, rfl, x, vd, q, hs, _, trump, [], _, rfl, S2, fun m3 H3 M3 nx3 => ?_⟩
    refine ⟨(by show 1 ≤ sizeLine; decide), fun l1 hl1 => ?_⟩
    have s3 := Same.laid (o := .lst [V.int ((if Sc20.turn (Sc20.start hs leader) % 2 = 0 then W trump (Sc20.start hs leader) else Sc20.cardsOf hs - W trump (Sc20.start hs leader) : Nat) : Int)]) hl1
    have S4 := (S2.next nx3 M3 (R2.nx nx3) rp).same s3
    obtain ⟨d4, hsr4⟩ := S4.sr
    refine ⟨_, rfl, x, d4, _, rfl, hsr4, sf_no (by decide +kernel), _, rfl, x, vd, q, hs, _, trump, m3, _, rfl, S4, fun l2 H5 hl2 nx5 fl2 => ?_⟩
    refine ⟨l1, l2, _, _, rfl, rfl, nx5.lst upd_same, hl2, ?_, fun l3 hl3 => k l3 _ ?_⟩
    · show 1 + (hV (Sc20.line trump _ _)).length ≤ sizeLine
      rw [hV_length]
      have hll := left_le rp.ok
      have : (Sc20.line trump (Sc20.left (Sc20.start hs leader)) (Sc20.start hs leader)).length ≤ Sc20.left (Sc20.start hs leader) := line_len trump _ _
      exact Nat.le_of_lt (small1000 (by omega))
    · rw [upd_same]
      have et : Sc20.turn (Sc20.start hs leader) = leader := by
        unfold Sc20.turn Sc20.start
        simp only [List.length_nil]
        omega
      unfold bestOf Sc20.worthOf
      simp only [et]
      rw [hV_ints]
      rfl
def spBest (K : PySem.W.Frag) : Sp := fun vs H Q _ => ∃ (a : Addr) (ns : List Int) (t l : Int), vs = [.int t, .int l, .ref a] ∧ SqL K H a (ns.map V.int) ∧ ns.length ≤ 35 ∧ (∀ n ∈ ns, 0 ≤ n ∧ n ≤ 255) ∧
  ∀ (r : Addr) (H' : Hp), H' r = some (.lst ((PySc20.best t l ns).map V.int)) → Q (.ref r) H'
theorem nats_hV {ns : List Int} (hb : ∀ n ∈ ns, 0 ≤ n ∧ n ≤ 255) : ns.map V.int = hV (ns.map Int.toNat) := by
  unfold hV
  have := nats_back hb
  conv => lhs; rw [← this]
  rw [List.map_map]
  rfl
theorem ok_best (T : Txt K mg A) : FnOk P w K mg base CX0 11 A.f_best A.d_best ["trump", "leader", "text"] (spBest K) := by
  refine T.F_best.ok sc_best (fun vs H Q E h => ?_) (fun cdv A' outer s H vs Q E hr h => ?_)
  · obtain ⟨_, _, _, _, rfl, _⟩ := h
    rfl
  · obtain ⟨a, ns, t, l, rfl, hS, hlen, hb, k⟩ := h
    have hS' : SqL K H a (hV (ns.map Int.toNat)) := by rw [← nats_hV hb]; exact hS
    rw [due_best (Nat.le_trans hlen (by decide))] at k
    refine ⟨_, (pss_cons (ps_if (PW.pt (pw_or (pt_cmpR op_gt (ln K T.z_len (pv 2)) (gi T.g_LONGEST_TEXT) (nomark _)) (pw_or1 (pt_not (pt_val (pe_call (ok_may_lead T) (hr.mono (by decide)) rfl T.m_may_lead T.F_may_lead.kp T.b_may_lead .nil pass0 (pa_cons (pv 0) (pa_cons (pv 1) pa_nil))))))))
        (pss_one (ps_ret (pe_lst (pa_cons (gi T.g_OUT_OF_RANGE) pa_nil))))
        pss_nil)
      (pss_cons (st 3 sc_best.nd (pe_call (ok_read_deal T) (hr.mono (by decide)) rfl T.m_read_deal T.F_read_deal.kp T.b_read_deal .nil pass0 (pa_cons (pv 2) pa_nil)))
      (pss_cons (st 4 sc_best.nd (pe_call (ok_refusal_to_search T) (hr.mono (by decide)) rfl T.m_refusal_to_search T.F_refusal_to_search.kp T.b_refusal_to_search .nil pass0 (pa_cons (pv 3) pa_nil)))
      (pss_cons (ps_if (pt_cmpR op_lt (pv 4) pe_int (nomark _))
        (pss_one (ps_ret (pe_lst (pa_cons (pv 4) pa_nil))))
        pss_nil)
      (pss_one (ps_ret (pe_call (ok_best_play T) (hr.mono (by decide)) rfl T.m_best_play T.F_best_play.kp T.b_best_play .nil pass0 (pa_cons (pv 0) (pa_cons (pv 1) (pa_cons (pe_fld (pv 3) rfl) pa_nil)))))))))), ?_⟩
    refine tOr_p (b := decide ((300 : Int) < ((ns.map V.int).length : Int))) (c := !decide ((0 ≤ t ∧ t ≤ 4) ∧ 0 ≤ l ∧ l ≤ 3)) (fun Q q => ⟨_, rfl, a, _, rfl, .inl hS, _, _, rfl, rfl, _, rfl, q⟩) (fun _ Q q => ⟨_, rfl, _, rfl, t, l, rfl, _, rfl, q⟩) ?_
    rw [List.length_map, decide_eq_false (show ¬ (300 : Int) < (ns.length : Int) by omega), Bool.false_or]
    by_cases hd : (0 ≤ t ∧ t ≤ 4) ∧ 0 ≤ l ∧ l ≤ 3
    · rw [if_neg (fun z => z hd)] at k
      rw [decide_eq_true hd]
      refine iteF ?_
      obtain ⟨t', rfl⟩ := Int.eq_ofNat_of_zero_le hd.1.1
      obtain ⟨l', rfl⟩ := Int.eq_ofNat_of_zero_le hd.2.1
      refine ⟨_, rfl, a, ns.map Int.toNat, rfl, hS', by rw [List.length_map]; omega, ?_, fun p hl as z r x H1 R s1 e1 e2 => ?_⟩
      · intro c hc
        obtain ⟨n, hn, rfl⟩ := List.mem_map.mp hc
        have := hb n hn
        omega
      obtain ⟨dx, h1⟩ := R.ob
      cases q : Sc20.deal (ns.map Int.toNat) with
      | error e =>
        obtain ⟨rfl, hneg⟩ := e1 e q
        rw [q] at k
        refine ⟨_, rfl, p, hl, as, z, r, x, rfl, R, by omega, fun y => absurd y (by omega), ?_⟩
        rw [if_pos hneg]
        refine ⟨_, rfl, _, _, rfl, rfl, _, rfl, ifT hneg ?_⟩
        exact ⟨_, rfl, (by show 1 ≤ sizeLine; decide), fun l hl => k l _ upd_same⟩
      | ok h =>
        obtain ⟨rfl, eh, h4, nd⟩ := e2 h q
        rw [q] at k
        obtain ⟨hso, href, hcnt⟩ := deal_so q h4.four
        obtain ⟨_, heq⟩ := refusal_zero href
        rw [List.length_map] at hcnt
        have h5 : Sc20.cardsOf h ≤ 5 := by omega
        have hne : ∃ h0 hr, h = h0 :: hr := by
          have := h4.four
          cases h with
          | nil => cases this
          | cons a l => exact ⟨a, l, rfl⟩
        refine ⟨_, rfl, p, hl, as, z, 0, x, rfl, R, Int.le_refl _, fun _ => by rw [eh]; exact hne, ?_⟩
        rw [eh, if_neg (by decide), if_neg (show ¬ 8 < Sc20.cardsOf h by omega)]
        have k : ∀ (r : Addr) (H' : Hp), H' r = some (.lst ((bestOf t' l' h).map V.int)) → Q (.ref r) H' := by
          intro r H' hr
          refine k r H' ?_
          rw [hr]
          show _ = some (HO.lst (List.map V.int (if 8 < Sc20.cardsOf h then [-7] else _)))
          rw [if_neg (show ¬ 8 < Sc20.cardsOf h by omega)]
          rfl
        have hs := R.hs
        rw [eh] at hs
        refine ⟨_, rfl, _, _, rfl, rfl, _, rfl, ifF (by decide) ?_⟩
        have hl4 : l' < 4 := by omega
        exact ⟨_, rfl, _, rfl, _, rfl, p, A.C_Reader, dx, _, _, rfl, h1, T.c_Reader, T.n_Reader_hands, rf_hands _ _ _ _, hl, _, h, t', l', rfl, hs, hl4, RP.start (POk.start hl4 h4.four nd h4.lt heq) hso, h5, heq, k⟩
    · rw [if_pos hd] at k
      rw [decide_eq_false hd]
      exact iteT ⟨(by show 1 ≤ sizeLine; decide), fun l hl => k l _ upd_same⟩
end
theorem all_mk {K : PySem.W.Frag} {h : Heap} {mg : Str → Option Value} (X : K.In h) (G : h.Ns mainGlobals mg)
    {C_Position C_Reader C_Trial C_Search a_RANK_OF_LETTER f_side_of f_player_after f_suit_of f_Position_init f_Position_choices f_Position_after f_Position_is_over f_start_of_play f_beats f_without f_one_more f_Reader_init f_Reader_open_suit f_Reader_take f_Reader_may_end f_read_deal f_refusal_of_hands f_has_shared_card f_Trial_init f_Trial_next_position f_Trial_hear f_Search_init f_Search_trial_of f_Search_keep f_Search_reaches f_Search_worth f_Search_leaders_worth f_Search_best_card f_Search_best_line f_key_of f_best_play f_best f_may_lead f_refusal_to_search : Addr}
    {t_PLAYERS : Tok}
    {t_RANKS : Tok}
    {t_NO_SUIT : Tok}
    {t_NO_CARD : Tok}
    {t_NOBODY : Tok}
    {t_SPADES : Tok}
    {es_RANK_OF_LETTER : Array DictEntry} {ep_RANK_OF_LETTER : Nat}
    {t_POINT : Tok}
    {t_CLUBS : Tok}
    {t_BLANK : Tok}
    {t_MISPLACED : Tok}
    {t_UNEVEN : Tok}
    {t_SHARED : Tok}
    {t_LONGEST_TEXT : Tok}
    {t_OUT_OF_RANGE : Tok}
    {t_NO_TRUMP : Tok}
    {t_MOST_CARDS_SEARCHED : Tok}
    {t_TOO_MANY_CARDS : Tok}
    {od_side_of an_side_of : Option Addr} {sl_side_of : Array (Option Value)} {oc_side_of kV_side_of dc_side_of pm_side_of cd_side_of ct_side_of : Value}
    {od_player_after an_player_after : Option Addr} {sl_player_after : Array (Option Value)} {oc_player_after kV_player_after dc_player_after pm_player_after cd_player_after ct_player_after : Value}
    {od_suit_of an_suit_of : Option Addr} {sl_suit_of : Array (Option Value)} {oc_suit_of kV_suit_of dc_suit_of pm_suit_of cd_suit_of ct_suit_of : Value}
    {od_Position_init an_Position_init : Option Addr} {sl_Position_init : Array (Option Value)} {oc_Position_init kV_Position_init dc_Position_init pm_Position_init cd_Position_init ct_Position_init : Value}
    {od_Position_choices an_Position_choices : Option Addr} {sl_Position_choices : Array (Option Value)} {oc_Position_choices kV_Position_choices dc_Position_choices pm_Position_choices cd_Position_choices ct_Position_choices : Value}
    {od_Position_after an_Position_after : Option Addr} {sl_Position_after : Array (Option Value)} {oc_Position_after kV_Position_after dc_Position_after pm_Position_after cd_Position_after ct_Position_after : Value}
    {od_Position_is_over an_Position_is_over : Option Addr} {sl_Position_is_over : Array (Option Value)} {oc_Position_is_over kV_Position_is_over dc_Position_is_over pm_Position_is_over cd_Position_is_over ct_Position_is_over : Value}
    {od_start_of_play an_start_of_play : Option Addr} {sl_start_of_play : Array (Option Value)} {oc_start_of_play kV_start_of_play dc_start_of_play pm_start_of_play cd_start_of_play ct_start_of_play : Value}
    {od_beats an_beats : Option Addr} {sl_beats : Array (Option Value)} {oc_beats kV_beats dc_beats pm_beats cd_beats ct_beats : Value}
    {od_without an_without : Option Addr} {sl_without : Array (Option Value)} {oc_without kV_without dc_without pm_without cd_without ct_without : Value}
    {od_one_more an_one_more : Option Addr} {sl_one_more : Array (Option Value)} {oc_one_more kV_one_more dc_one_more pm_one_more cd_one_more ct_one_more : Value}
    {od_Reader_init an_Reader_init : Option Addr} {sl_Reader_init : Array (Option Value)} {oc_Reader_init kV_Reader_init dc_Reader_init pm_Reader_init cd_Reader_init ct_Reader_init : Value}
    {od_Reader_open_suit an_Reader_open_suit : Option Addr} {sl_Reader_open_suit : Array (Option Value)} {oc_Reader_open_suit kV_Reader_open_suit dc_Reader_open_suit pm_Reader_open_suit cd_Reader_open_suit ct_Reader_open_suit : Value}
    {od_Reader_take an_Reader_take : Option Addr} {sl_Reader_take : Array (Option Value)} {oc_Reader_take kV_Reader_take dc_Reader_take pm_Reader_take cd_Reader_take ct_Reader_take : Value}
    {od_Reader_may_end an_Reader_may_end : Option Addr} {sl_Reader_may_end : Array (Option Value)} {oc_Reader_may_end kV_Reader_may_end dc_Reader_may_end pm_Reader_may_end cd_Reader_may_end ct_Reader_may_end : Value}
    {od_read_deal an_read_deal : Option Addr} {sl_read_deal : Array (Option Value)} {oc_read_deal kV_read_deal dc_read_deal pm_read_deal cd_read_deal ct_read_deal : Value}
    {od_refusal_of_hands an_refusal_of_hands : Option Addr} {sl_refusal_of_hands : Array (Option Value)} {oc_refusal_of_hands kV_refusal_of_hands dc_refusal_of_hands pm_refusal_of_hands cd_refusal_of_hands ct_refusal_of_hands : Value}
    {od_has_shared_card an_has_shared_card : Option Addr} {sl_has_shared_card : Array (Option Value)} {oc_has_shared_card kV_has_shared_card dc_has_shared_card pm_has_shared_card cd_has_shared_card ct_has_shared_card : Value}
    {od_Trial_init an_Trial_init : Option Addr} {sl_Trial_init : Array (Option Value)} {oc_Trial_init kV_Trial_init dc_Trial_init pm_Trial_init cd_Trial_init ct_Trial_init : Value}
    {od_Trial_next_position an_Trial_next_position : Option Addr} {sl_Trial_next_position : Array (Option Value)} {oc_Trial_next_position kV_Trial_next_position dc_Trial_next_position pm_Trial_next_position cd_Trial_next_position ct_Trial_next_position : Value}
    {od_Trial_hear an_Trial_hear : Option Addr} {sl_Trial_hear : Array (Option Value)} {oc_Trial_hear kV_Trial_hear dc_Trial_hear pm_Trial_hear cd_Trial_hear ct_Trial_hear : Value}
    {od_Search_init an_Search_init : Option Addr} {sl_Search_init : Array (Option Value)} {oc_Search_init kV_Search_init dc_Search_init pm_Search_init cd_Search_init ct_Search_init : Value}
    {od_Search_trial_of an_Search_trial_of : Option Addr} {sl_Search_trial_of : Array (Option Value)} {oc_Search_trial_of kV_Search_trial_of dc_Search_trial_of pm_Search_trial_of cd_Search_trial_of ct_Search_trial_of : Value}
    {od_Search_keep an_Search_keep : Option Addr} {sl_Search_keep : Array (Option Value)} {oc_Search_keep kV_Search_keep dc_Search_keep pm_Search_keep cd_Search_keep ct_Search_keep : Value}
    {od_Search_reaches an_Search_reaches : Option Addr} {sl_Search_reaches : Array (Option Value)} {oc_Search_reaches kV_Search_reaches dc_Search_reaches pm_Search_reaches cd_Search_reaches ct_Search_reaches : Value}
    {od_Search_worth an_Search_worth : Option Addr} {sl_Search_worth : Array (Option Value)} {oc_Search_worth kV_Search_worth dc_Search_worth pm_Search_worth cd_Search_worth ct_Search_worth : Value}
    {od_Search_leaders_worth an_Search_leaders_worth : Option Addr} {sl_Search_leaders_worth : Array (Option Value)} {oc_Search_leaders_worth kV_Search_leaders_worth dc_Search_leaders_worth pm_Search_leaders_worth cd_Search_leaders_worth ct_Search_leaders_worth : Value}
    {od_Search_best_card an_Search_best_card : Option Addr} {sl_Search_best_card : Array (Option Value)} {oc_Search_best_card kV_Search_best_card dc_Search_best_card pm_Search_best_card cd_Search_best_card ct_Search_best_card : Value}
    {od_Search_best_line an_Search_best_line : Option Addr} {sl_Search_best_line : Array (Option Value)} {oc_Search_best_line kV_Search_best_line dc_Search_best_line pm_Search_best_line cd_Search_best_line ct_Search_best_line : Value}
    {od_key_of an_key_of : Option Addr} {sl_key_of : Array (Option Value)} {oc_key_of kV_key_of dc_key_of pm_key_of cd_key_of ct_key_of : Value}
    {od_best_play an_best_play : Option Addr} {sl_best_play : Array (Option Value)} {oc_best_play kV_best_play dc_best_play pm_best_play cd_best_play ct_best_play : Value}
    {od_best an_best : Option Addr} {sl_best : Array (Option Value)} {oc_best kV_best dc_best pm_best cd_best ct_best : Value}
    {od_may_lead an_may_lead : Option Addr} {sl_may_lead : Array (Option Value)} {oc_may_lead kV_may_lead dc_may_lead pm_may_lead cd_may_lead ct_may_lead : Value}
    {od_refusal_to_search an_refusal_to_search : Option Addr} {sl_refusal_to_search : Array (Option Value)} {oc_refusal_to_search kV_refusal_to_search dc_refusal_to_search pm_refusal_to_search cd_refusal_to_search ct_refusal_to_search : Value}
    (hg_PLAYERS : PySem.W.nsIn K mainGlobals "PLAYERS" = some (some (.int (4) t_PLAYERS)))
    (hg_RANKS : PySem.W.nsIn K mainGlobals "RANKS" = some (some (.int (13) t_RANKS)))
    (hg_NO_SUIT : PySem.W.nsIn K mainGlobals "NO_SUIT" = some (some (.int (-1) t_NO_SUIT)))
    (hg_NO_CARD : PySem.W.nsIn K mainGlobals "NO_CARD" = some (some (.int (-1) t_NO_CARD)))
    (hg_NOBODY : PySem.W.nsIn K mainGlobals "NOBODY" = some (some (.int (4) t_NOBODY)))
    (hg_SPADES : PySem.W.nsIn K mainGlobals "SPADES" = some (some (.int (3) t_SPADES)))
    (hg_RANK_OF_LETTER : PySem.W.nsIn K mainGlobals "RANK_OF_LETTER" = some (some (.ref a_RANK_OF_LETTER)))
    (hl_RANK_OF_LETTER : K.lookup a_RANK_OF_LETTER = some ⟨.type "dict", none, .dict es_RANK_OF_LETTER ep_RANK_OF_LETTER, #[]⟩)
    (he_RANK_OF_LETTER : entsOk es_RANK_OF_LETTER.toList [(50, 0), (51, 1), (52, 2), (53, 3), (54, 4), (55, 5), (56, 6), (57, 7), (84, 8), (74, 9), (81, 10), (75, 11), (65, 12)] = true)
    (ho_RANK_OF_LETTER : (a_RANK_OF_LETTER == sysModules) = false)
    (hg_POINT : PySem.W.nsIn K mainGlobals "POINT" = some (some (.int (46) t_POINT)))
    (hg_CLUBS : PySem.W.nsIn K mainGlobals "CLUBS" = some (some (.int (0) t_CLUBS)))
    (hg_BLANK : PySem.W.nsIn K mainGlobals "BLANK" = some (some (.int (32) t_BLANK)))
    (hg_MISPLACED : PySem.W.nsIn K mainGlobals "MISPLACED" = some (some (.int (-100) t_MISPLACED)))
    (hg_UNEVEN : PySem.W.nsIn K mainGlobals "UNEVEN" = some (some (.int (-5) t_UNEVEN)))
    (hg_SHARED : PySem.W.nsIn K mainGlobals "SHARED" = some (some (.int (-6) t_SHARED)))
    (hg_LONGEST_TEXT : PySem.W.nsIn K mainGlobals "LONGEST_TEXT" = some (some (.int (300) t_LONGEST_TEXT)))
    (hg_OUT_OF_RANGE : PySem.W.nsIn K mainGlobals "OUT_OF_RANGE" = some (some (.int (-2) t_OUT_OF_RANGE)))
    (hg_NO_TRUMP : PySem.W.nsIn K mainGlobals "NO_TRUMP" = some (some (.int (4) t_NO_TRUMP)))
    (hg_MOST_CARDS_SEARCHED : PySem.W.nsIn K mainGlobals "MOST_CARDS_SEARCHED" = some (some (.int (8) t_MOST_CARDS_SEARCHED)))
    (hg_TOO_MANY_CARDS : PySem.W.nsIn K mainGlobals "TOO_MANY_CARDS" = some (some (.int (-7) t_TOO_MANY_CARDS)))
    (hz_list : PySem.W.nsIn K mainGlobals "list" = some none)
    (hz_len : PySem.W.nsIn K mainGlobals "len" = some none)
    (hz_tuple : PySem.W.nsIn K mainGlobals "tuple" = some none)
    (hz_enumerate : PySem.W.nsIn K mainGlobals "enumerate" = some none)
    (hz_any : PySem.W.nsIn K mainGlobals "any" = some none)
    (hz_sorted : PySem.W.nsIn K mainGlobals "sorted" = some none)
    (hz_max : PySem.W.nsIn K mainGlobals "max" = some none)
    (hga_Position : PySem.W.nsIn K mainGlobals "Position" = some (some (.ref C_Position)))
    (hpg_Position : PySem.W.plainGet K C_Position Str.empty = true)
    (hhd_Position : PySem.W.hasDictIn K C_Position = true)
    (hpo_Position : PySem.W.plainOver K C_Position = true)
    (hsa_Position : PySem.W.findIn K (.ref C_Position) "__setattr__" = some (some (.builtin "object.__setattr__")))
    (hmk_Position : PySem.W.makesIn K C_Position = true)
    (hkc_Position : PySem.W.keepIn K (.ref C_Position) = true)
    (hn_Position_trump : PySem.W.findIn K (.ref C_Position) "trump" = some none)
    (hn_Position_hands : PySem.W.findIn K (.ref C_Position) "hands" = some none)
    (hn_Position_turn : PySem.W.findIn K (.ref C_Position) "turn" = some none)
    (hn_Position_taken : PySem.W.findIn K (.ref C_Position) "taken" = some none)
    (hn_Position_laid : PySem.W.findIn K (.ref C_Position) "laid" = some none)
    (hn_Position_led : PySem.W.findIn K (.ref C_Position) "led" = some none)
    (hn_Position_top : PySem.W.findIn K (.ref C_Position) "top" = some none)
    (hn_Position_holder : PySem.W.findIn K (.ref C_Position) "holder" = some none)
    (hga_Reader : PySem.W.nsIn K mainGlobals "Reader" = some (some (.ref C_Reader)))
    (hpg_Reader : PySem.W.plainGet K C_Reader Str.empty = true)
    (hhd_Reader : PySem.W.hasDictIn K C_Reader = true)
    (hpo_Reader : PySem.W.plainOver K C_Reader = true)
    (hsa_Reader : PySem.W.findIn K (.ref C_Reader) "__setattr__" = some (some (.builtin "object.__setattr__")))
    (hmk_Reader : PySem.W.makesIn K C_Reader = true)
    (hkc_Reader : PySem.W.keepIn K (.ref C_Reader) = true)
    (hn_Reader_hands : PySem.W.findIn K (.ref C_Reader) "hands" = some none)
    (hn_Reader_refusal : PySem.W.findIn K (.ref C_Reader) "refusal" = some none)
    (hn_Reader_suit : PySem.W.findIn K (.ref C_Reader) "suit" = some none)
    (hn_Reader_bound : PySem.W.findIn K (.ref C_Reader) "bound" = some none)
    (hga_Trial : PySem.W.nsIn K mainGlobals "Trial" = some (some (.ref C_Trial)))
    (hpg_Trial : PySem.W.plainGet K C_Trial Str.empty = true)
    (hhd_Trial : PySem.W.hasDictIn K C_Trial = true)
    (hpo_Trial : PySem.W.plainOver K C_Trial = true)
    (hsa_Trial : PySem.W.findIn K (.ref C_Trial) "__setattr__" = some (some (.builtin "object.__setattr__")))
    (hmk_Trial : PySem.W.makesIn K C_Trial = true)
    (hkc_Trial : PySem.W.keepIn K (.ref C_Trial) = true)
    (hn_Trial_position : PySem.W.findIn K (.ref C_Trial) "position" = some none)
    (hn_Trial_verdict : PySem.W.findIn K (.ref C_Trial) "verdict" = some none)
    (hn_Trial_untried : PySem.W.findIn K (.ref C_Trial) "untried" = some none)
    (hga_Search : PySem.W.nsIn K mainGlobals "Search" = some (some (.ref C_Search)))
    (hpg_Search : PySem.W.plainGet K C_Search Str.empty = true)
    (hhd_Search : PySem.W.hasDictIn K C_Search = true)
    (hpo_Search : PySem.W.plainOver K C_Search = true)
    (hsa_Search : PySem.W.findIn K (.ref C_Search) "__setattr__" = some (some (.builtin "object.__setattr__")))
    (hmk_Search : PySem.W.makesIn K C_Search = true)
    (hkc_Search : PySem.W.keepIn K (.ref C_Search) = true)
    (hn_Search_tricks : PySem.W.findIn K (.ref C_Search) "tricks" = some none)
    (hn_Search_verdicts : PySem.W.findIn K (.ref C_Search) "verdicts" = some none)
    (hq_side_of : PySem.W.nsIn K mainGlobals "side_of" = some (some (.ref f_side_of)))
    (hl_side_of : K.lookup f_side_of = some ⟨oc_side_of, od_side_of, .func (PySem.W.fnOf "side_of" "side_of" (defArgs s_side_of) (defBody s_side_of) (defScope s_side_of) .none kV_side_of dc_side_of pm_side_of an_side_of cd_side_of ct_side_of), sl_side_of⟩)
    (hc_side_of : PySem.W.codeIn K cd_side_of "side_of" = true)
    (hk_side_of : PySem.W.keepIn K (.ref f_side_of) = true)
    (hq_player_after : PySem.W.nsIn K mainGlobals "player_after" = some (some (.ref f_player_after)))
    (hl_player_after : K.lookup f_player_after = some ⟨oc_player_after, od_player_after, .func (PySem.W.fnOf "player_after" "player_after" (defArgs s_player_after) (defBody s_player_after) (defScope s_player_after) .none kV_player_after dc_player_after pm_player_after an_player_after cd_player_after ct_player_after), sl_player_after⟩)
    (hc_player_after : PySem.W.codeIn K cd_player_after "player_after" = true)
    (hk_player_after : PySem.W.keepIn K (.ref f_player_after) = true)
    (hq_suit_of : PySem.W.nsIn K mainGlobals "suit_of" = some (some (.ref f_suit_of)))
    (hl_suit_of : K.lookup f_suit_of = some ⟨oc_suit_of, od_suit_of, .func (PySem.W.fnOf "suit_of" "suit_of" (defArgs s_suit_of) (defBody s_suit_of) (defScope s_suit_of) .none kV_suit_of dc_suit_of pm_suit_of an_suit_of cd_suit_of ct_suit_of), sl_suit_of⟩)
    (hc_suit_of : PySem.W.codeIn K cd_suit_of "suit_of" = true)
    (hk_suit_of : PySem.W.keepIn K (.ref f_suit_of) = true)
    (hq_Position_init : PySem.W.findIn K (.ref C_Position) "__init__" = some (some (.ref f_Position_init)))
    (hi_Position_init : PySem.W.isFn K (.ref f_Position_init) = true)
    (hl_Position_init : K.lookup f_Position_init = some ⟨oc_Position_init, od_Position_init, .func (PySem.W.fnOf "__init__" "Position.__init__" (defArgs s_Position_init) (defBody s_Position_init) (defScope s_Position_init) .none kV_Position_init dc_Position_init pm_Position_init an_Position_init cd_Position_init ct_Position_init), sl_Position_init⟩)
    (hc_Position_init : PySem.W.codeIn K cd_Position_init "Position.__init__" = true)
    (hk_Position_init : PySem.W.keepIn K (.ref f_Position_init) = true)
    (hq_Position_choices : PySem.W.findIn K (.ref C_Position) "choices" = some (some (.ref f_Position_choices)))
    (hi_Position_choices : PySem.W.isFn K (.ref f_Position_choices) = true)
    (hl_Position_choices : K.lookup f_Position_choices = some ⟨oc_Position_choices, od_Position_choices, .func (PySem.W.fnOf "choices" "Position.choices" (defArgs s_Position_choices) (defBody s_Position_choices) (defScope s_Position_choices) .none kV_Position_choices dc_Position_choices pm_Position_choices an_Position_choices cd_Position_choices ct_Position_choices), sl_Position_choices⟩)
    (hc_Position_choices : PySem.W.codeIn K cd_Position_choices "Position.choices" = true)
    (hk_Position_choices : PySem.W.keepIn K (.ref f_Position_choices) = true)
    (hq_Position_after : PySem.W.findIn K (.ref C_Position) "after" = some (some (.ref f_Position_after)))
    (hi_Position_after : PySem.W.isFn K (.ref f_Position_after) = true)
    (hl_Position_after : K.lookup f_Position_after = some ⟨oc_Position_after, od_Position_after, .func (PySem.W.fnOf "after" "Position.after" (defArgs s_Position_after) (defBody s_Position_after) (defScope s_Position_after) .none kV_Position_after dc_Position_after pm_Position_after an_Position_after cd_Position_after ct_Position_after), sl_Position_after⟩)
    (hc_Position_after : PySem.W.codeIn K cd_Position_after "Position.after" = true)
    (hk_Position_after : PySem.W.keepIn K (.ref f_Position_after) = true)
    (hq_Position_is_over : PySem.W.findIn K (.ref C_Position) "is_over" = some (some (.ref f_Position_is_over)))
    (hi_Position_is_over : PySem.W.isFn K (.ref f_Position_is_over) = true)
    (hl_Position_is_over : K.lookup f_Position_is_over = some ⟨oc_Position_is_over, od_Position_is_over, .func (PySem.W.fnOf "is_over" "Position.is_over" (defArgs s_Position_is_over) (defBody s_Position_is_over) (defScope s_Position_is_over) .none kV_Position_is_over dc_Position_is_over pm_Position_is_over an_Position_is_over cd_Position_is_over ct_Position_is_over), sl_Position_is_over⟩)
    (hc_Position_is_over : PySem.W.codeIn K cd_Position_is_over "Position.is_over" = true)
    (hk_Position_is_over : PySem.W.keepIn K (.ref f_Position_is_over) = true)
    (hq_start_of_play : PySem.W.nsIn K mainGlobals "start_of_play" = some (some (.ref f_start_of_play)))
    (hl_start_of_play : K.lookup f_start_of_play = some ⟨oc_start_of_play, od_start_of_play, .func (PySem.W.fnOf "start_of_play" "start_of_play" (defArgs s_start_of_play) (defBody s_start_of_play) (defScope s_start_of_play) .none kV_start_of_play dc_start_of_play pm_start_of_play an_start_of_play cd_start_of_play ct_start_of_play), sl_start_of_play⟩)
    (hc_start_of_play : PySem.W.codeIn K cd_start_of_play "start_of_play" = true)
    (hk_start_of_play : PySem.W.keepIn K (.ref f_start_of_play) = true)
    (hq_beats : PySem.W.nsIn K mainGlobals "beats" = some (some (.ref f_beats)))
    (hl_beats : K.lookup f_beats = some ⟨oc_beats, od_beats, .func (PySem.W.fnOf "beats" "beats" (defArgs s_beats) (defBody s_beats) (defScope s_beats) .none kV_beats dc_beats pm_beats an_beats cd_beats ct_beats), sl_beats⟩)
    (hc_beats : PySem.W.codeIn K cd_beats "beats" = true)
    (hk_beats : PySem.W.keepIn K (.ref f_beats) = true)
    (hq_without : PySem.W.nsIn K mainGlobals "without" = some (some (.ref f_without)))
    (hl_without : K.lookup f_without = some ⟨oc_without, od_without, .func (PySem.W.fnOf "without" "without" (defArgs s_without) (defBody s_without) (defScope s_without) .none kV_without dc_without pm_without an_without cd_without ct_without), sl_without⟩)
    (hc_without : PySem.W.codeIn K cd_without "without" = true)
    (hk_without : PySem.W.keepIn K (.ref f_without) = true)
    (hq_one_more : PySem.W.nsIn K mainGlobals "one_more" = some (some (.ref f_one_more)))
    (hl_one_more : K.lookup f_one_more = some ⟨oc_one_more, od_one_more, .func (PySem.W.fnOf "one_more" "one_more" (defArgs s_one_more) (defBody s_one_more) (defScope s_one_more) .none kV_one_more dc_one_more pm_one_more an_one_more cd_one_more ct_one_more), sl_one_more⟩)
    (hc_one_more : PySem.W.codeIn K cd_one_more "one_more" = true)
    (hk_one_more : PySem.W.keepIn K (.ref f_one_more) = true)
    (hq_Reader_init : PySem.W.findIn K (.ref C_Reader) "__init__" = some (some (.ref f_Reader_init)))
    (hi_Reader_init : PySem.W.isFn K (.ref f_Reader_init) = true)
    (hl_Reader_init : K.lookup f_Reader_init = some ⟨oc_Reader_init, od_Reader_init, .func (PySem.W.fnOf "__init__" "Reader.__init__" (defArgs s_Reader_init) (defBody s_Reader_init) (defScope s_Reader_init) .none kV_Reader_init dc_Reader_init pm_Reader_init an_Reader_init cd_Reader_init ct_Reader_init), sl_Reader_init⟩)
    (hc_Reader_init : PySem.W.codeIn K cd_Reader_init "Reader.__init__" = true)
    (hk_Reader_init : PySem.W.keepIn K (.ref f_Reader_init) = true)
    (hq_Reader_open_suit : PySem.W.findIn K (.ref C_Reader) "open_suit" = some (some (.ref f_Reader_open_suit)))
    (hi_Reader_open_suit : PySem.W.isFn K (.ref f_Reader_open_suit) = true)
    (hl_Reader_open_suit : K.lookup f_Reader_open_suit = some ⟨oc_Reader_open_suit, od_Reader_open_suit, .func (PySem.W.fnOf "open_suit" "Reader.open_suit" (defArgs s_Reader_open_suit) (defBody s_Reader_open_suit) (defScope s_Reader_open_suit) .none kV_Reader_open_suit dc_Reader_open_suit pm_Reader_open_suit an_Reader_open_suit cd_Reader_open_suit ct_Reader_open_suit), sl_Reader_open_suit⟩)
    (hc_Reader_open_suit : PySem.W.codeIn K cd_Reader_open_suit "Reader.open_suit" = true)
    (hk_Reader_open_suit : PySem.W.keepIn K (.ref f_Reader_open_suit) = true)
    (hq_Reader_take : PySem.W.findIn K (.ref C_Reader) "take" = some (some (.ref f_Reader_take)))
    (hi_Reader_take : PySem.W.isFn K (.ref f_Reader_take) = true)
    (hl_Reader_take : K.lookup f_Reader_take = some ⟨oc_Reader_take, od_Reader_take, .func (PySem.W.fnOf "take" "Reader.take" (defArgs s_Reader_take) (defBody s_Reader_take) (defScope s_Reader_take) .none kV_Reader_take dc_Reader_take pm_Reader_take an_Reader_take cd_Reader_take ct_Reader_take), sl_Reader_take⟩)
    (hc_Reader_take : PySem.W.codeIn K cd_Reader_take "Reader.take" = true)
    (hk_Reader_take : PySem.W.keepIn K (.ref f_Reader_take) = true)
    (hq_Reader_may_end : PySem.W.findIn K (.ref C_Reader) "may_end" = some (some (.ref f_Reader_may_end)))
    (hi_Reader_may_end : PySem.W.isFn K (.ref f_Reader_may_end) = true)
    (hl_Reader_may_end : K.lookup f_Reader_may_end = some ⟨oc_Reader_may_end, od_Reader_may_end, .func (PySem.W.fnOf "may_end" "Reader.may_end" (defArgs s_Reader_may_end) (defBody s_Reader_may_end) (defScope s_Reader_may_end) .none kV_Reader_may_end dc_Reader_may_end pm_Reader_may_end an_Reader_may_end cd_Reader_may_end ct_Reader_may_end), sl_Reader_may_end⟩)
    (hc_Reader_may_end : PySem.W.codeIn K cd_Reader_may_end "Reader.may_end" = true)
    (hk_Reader_may_end : PySem.W.keepIn K (.ref f_Reader_may_end) = true)
    (hq_read_deal : PySem.W.nsIn K mainGlobals "read_deal" = some (some (.ref f_read_deal)))
    (hl_read_deal : K.lookup f_read_deal = some ⟨oc_read_deal, od_read_deal, .func (PySem.W.fnOf "read_deal" "read_deal" (defArgs s_read_deal) (defBody s_read_deal) (defScope s_read_deal) .none kV_read_deal dc_read_deal pm_read_deal an_read_deal cd_read_deal ct_read_deal), sl_read_deal⟩)
    (hc_read_deal : PySem.W.codeIn K cd_read_deal "read_deal" = true)
    (hk_read_deal : PySem.W.keepIn K (.ref f_read_deal) = true)
    (hq_refusal_of_hands : PySem.W.nsIn K mainGlobals "refusal_of_hands" = some (some (.ref f_refusal_of_hands)))
    (hl_refusal_of_hands : K.lookup f_refusal_of_hands = some ⟨oc_refusal_of_hands, od_refusal_of_hands, .func (PySem.W.fnOf "refusal_of_hands" "refusal_of_hands" (defArgs s_refusal_of_hands) (defBody s_refusal_of_hands) (defScope s_refusal_of_hands) .none kV_refusal_of_hands dc_refusal_of_hands pm_refusal_of_hands an_refusal_of_hands cd_refusal_of_hands ct_refusal_of_hands), sl_refusal_of_hands⟩)
    (hc_refusal_of_hands : PySem.W.codeIn K cd_refusal_of_hands "refusal_of_hands" = true)
    (hk_refusal_of_hands : PySem.W.keepIn K (.ref f_refusal_of_hands) = true)
    (hq_has_shared_card : PySem.W.nsIn K mainGlobals "has_shared_card" = some (some (.ref f_has_shared_card)))
    (hl_has_shared_card : K.lookup f_has_shared_card = some ⟨oc_has_shared_card, od_has_shared_card, .func (PySem.W.fnOf "has_shared_card" "has_shared_card" (defArgs s_has_shared_card) (defBody s_has_shared_card) (defScope s_has_shared_card) .none kV_has_shared_card dc_has_shared_card pm_has_shared_card an_has_shared_card cd_has_shared_card ct_has_shared_card), sl_has_shared_card⟩)
    (hc_has_shared_card : PySem.W.codeIn K cd_has_shared_card "has_shared_card" = true)
    (hk_has_shared_card : PySem.W.keepIn K (.ref f_has_shared_card) = true)
    (hq_Trial_init : PySem.W.findIn K (.ref C_Trial) "__init__" = some (some (.ref f_Trial_init)))
    (hi_Trial_init : PySem.W.isFn K (.ref f_Trial_init) = true)
    (hl_Trial_init : K.lookup f_Trial_init = some ⟨oc_Trial_init, od_Trial_init, .func (PySem.W.fnOf "__init__" "Trial.__init__" (defArgs s_Trial_init) (defBody s_Trial_init) (defScope s_Trial_init) .none kV_Trial_init dc_Trial_init pm_Trial_init an_Trial_init cd_Trial_init ct_Trial_init), sl_Trial_init⟩)
    (hc_Trial_init : PySem.W.codeIn K cd_Trial_init "Trial.__init__" = true)
    (hk_Trial_init : PySem.W.keepIn K (.ref f_Trial_init) = true)
    (hq_Trial_next_position : PySem.W.findIn K (.ref C_Trial) "next_position" = some (some (.ref f_Trial_next_position)))
    (hi_Trial_next_position : PySem.W.isFn K (.ref f_Trial_next_position) = true)
    (hl_Trial_next_position : K.lookup f_Trial_next_position = some ⟨oc_Trial_next_position, od_Trial_next_position, .func (PySem.W.fnOf "next_position" "Trial.next_position" (defArgs s_Trial_next_position) (defBody s_Trial_next_position) (defScope s_Trial_next_position) .none kV_Trial_next_position dc_Trial_next_position pm_Trial_next_position an_Trial_next_position cd_Trial_next_position ct_Trial_next_position), sl_Trial_next_position⟩)
    (hc_Trial_next_position : PySem.W.codeIn K cd_Trial_next_position "Trial.next_position" = true)
    (hk_Trial_next_position : PySem.W.keepIn K (.ref f_Trial_next_position) = true)
    (hq_Trial_hear : PySem.W.findIn K (.ref C_Trial) "hear" = some (some (.ref f_Trial_hear)))
    (hi_Trial_hear : PySem.W.isFn K (.ref f_Trial_hear) = true)
    (hl_Trial_hear : K.lookup f_Trial_hear = some ⟨oc_Trial_hear, od_Trial_hear, .func (PySem.W.fnOf "hear" "Trial.hear" (defArgs s_Trial_hear) (defBody s_Trial_hear) (defScope s_Trial_hear) .none kV_Trial_hear dc_Trial_hear pm_Trial_hear an_Trial_hear cd_Trial_hear ct_Trial_hear), sl_Trial_hear⟩)
    (hc_Trial_hear : PySem.W.codeIn K cd_Trial_hear "Trial.hear" = true)
    (hk_Trial_hear : PySem.W.keepIn K (.ref f_Trial_hear) = true)
    (hq_Search_init : PySem.W.findIn K (.ref C_Search) "__init__" = some (some (.ref f_Search_init)))
    (hi_Search_init : PySem.W.isFn K (.ref f_Search_init) = true)
    (hl_Search_init : K.lookup f_Search_init = some ⟨oc_Search_init, od_Search_init, .func (PySem.W.fnOf "__init__" "Search.__init__" (defArgs s_Search_init) (defBody s_Search_init) (defScope s_Search_init) .none kV_Search_init dc_Search_init pm_Search_init an_Search_init cd_Search_init ct_Search_init), sl_Search_init⟩)
    (hc_Search_init : PySem.W.codeIn K cd_Search_init "Search.__init__" = true)
    (hk_Search_init : PySem.W.keepIn K (.ref f_Search_init) = true)
    (hq_Search_trial_of : PySem.W.findIn K (.ref C_Search) "trial_of" = some (some (.ref f_Search_trial_of)))
    (hi_Search_trial_of : PySem.W.isFn K (.ref f_Search_trial_of) = true)
    (hl_Search_trial_of : K.lookup f_Search_trial_of = some ⟨oc_Search_trial_of, od_Search_trial_of, .func (PySem.W.fnOf "trial_of" "Search.trial_of" (defArgs s_Search_trial_of) (defBody s_Search_trial_of) (defScope s_Search_trial_of) .none kV_Search_trial_of dc_Search_trial_of pm_Search_trial_of an_Search_trial_of cd_Search_trial_of ct_Search_trial_of), sl_Search_trial_of⟩)
    (hc_Search_trial_of : PySem.W.codeIn K cd_Search_trial_of "Search.trial_of" = true)
    (hk_Search_trial_of : PySem.W.keepIn K (.ref f_Search_trial_of) = true)
    (hq_Search_keep : PySem.W.findIn K (.ref C_Search) "keep" = some (some (.ref f_Search_keep)))
    (hi_Search_keep : PySem.W.isFn K (.ref f_Search_keep) = true)
    (hl_Search_keep : K.lookup f_Search_keep = some ⟨oc_Search_keep, od_Search_keep, .func (PySem.W.fnOf "keep" "Search.keep" (defArgs s_Search_keep) (defBody s_Search_keep) (defScope s_Search_keep) .none kV_Search_keep dc_Search_keep pm_Search_keep an_Search_keep cd_Search_keep ct_Search_keep), sl_Search_keep⟩)
    (hc_Search_keep : PySem.W.codeIn K cd_Search_keep "Search.keep" = true)
    (hk_Search_keep : PySem.W.keepIn K (.ref f_Search_keep) = true)
    (hq_Search_reaches : PySem.W.findIn K (.ref C_Search) "reaches" = some (some (.ref f_Search_reaches)))
    (hi_Search_reaches : PySem.W.isFn K (.ref f_Search_reaches) = true)
    (hl_Search_reaches : K.lookup f_Search_reaches = some ⟨oc_Search_reaches, od_Search_reaches, .func (PySem.W.fnOf "reaches" "Search.reaches" (defArgs s_Search_reaches) (defBody s_Search_reaches) (defScope s_Search_reaches) .none kV_Search_reaches dc_Search_reaches pm_Search_reaches an_Search_reaches cd_Search_reaches ct_Search_reaches), sl_Search_reaches⟩)
    (hc_Search_reaches : PySem.W.codeIn K cd_Search_reaches "Search.reaches" = true)
    (hk_Search_reaches : PySem.W.keepIn K (.ref f_Search_reaches) = true)
    (hq_Search_worth : PySem.W.findIn K (.ref C_Search) "worth" = some (some (.ref f_Search_worth)))
    (hi_Search_worth : PySem.W.isFn K (.ref f_Search_worth) = true)
    (hl_Search_worth : K.lookup f_Search_worth = some ⟨oc_Search_worth, od_Search_worth, .func (PySem.W.fnOf "worth" "Search.worth" (defArgs s_Search_worth) (defBody s_Search_worth) (defScope s_Search_worth) .none kV_Search_worth dc_Search_worth pm_Search_worth an_Search_worth cd_Search_worth ct_Search_worth), sl_Search_worth⟩)
    (hc_Search_worth : PySem.W.codeIn K cd_Search_worth "Search.worth" = true)
    (hk_Search_worth : PySem.W.keepIn K (.ref f_Search_worth) = true)
    (hq_Search_leaders_worth : PySem.W.findIn K (.ref C_Search) "leaders_worth" = some (some (.ref f_Search_leaders_worth)))
    (hi_Search_leaders_worth : PySem.W.isFn K (.ref f_Search_leaders_worth) = true)
    (hl_Search_leaders_worth : K.lookup f_Search_leaders_worth = some ⟨oc_Search_leaders_worth, od_Search_leaders_worth, .func (PySem.W.fnOf "leaders_worth" "Search.leaders_worth" (defArgs s_Search_leaders_worth) (defBody s_Search_leaders_worth) (defScope s_Search_leaders_worth) .none kV_Search_leaders_worth dc_Search_leaders_worth pm_Search_leaders_worth an_Search_leaders_worth cd_Search_leaders_worth ct_Search_leaders_worth), sl_Search_leaders_worth⟩)
    (hc_Search_leaders_worth : PySem.W.codeIn K cd_Search_leaders_worth "Search.leaders_worth" = true)
    (hk_Search_leaders_worth : PySem.W.keepIn K (.ref f_Search_leaders_worth) = true)
    (hq_Search_best_card : PySem.W.findIn K (.ref C_Search) "best_card" = some (some (.ref f_Search_best_card)))
    (hi_Search_best_card : PySem.W.isFn K (.ref f_Search_best_card) = true)
    (hl_Search_best_card : K.lookup f_Search_best_card = some ⟨oc_Search_best_card, od_Search_best_card, .func (PySem.W.fnOf "best_card" "Search.best_card" (defArgs s_Search_best_card) (defBody s_Search_best_card) (defScope s_Search_best_card) .none kV_Search_best_card dc_Search_best_card pm_Search_best_card an_Search_best_card cd_Search_best_card ct_Search_best_card), sl_Search_best_card⟩)
    (hc_Search_best_card : PySem.W.codeIn K cd_Search_best_card "Search.best_card" = true)
    (hk_Search_best_card : PySem.W.keepIn K (.ref f_Search_best_card) = true)
    (hq_Search_best_line : PySem.W.findIn K (.ref C_Search) "best_line" = some (some (.ref f_Search_best_line)))
    (hi_Search_best_line : PySem.W.isFn K (.ref f_Search_best_line) = true)
    (hl_Search_best_line : K.lookup f_Search_best_line = some ⟨oc_Search_best_line, od_Search_best_line, .func (PySem.W.fnOf "best_line" "Search.best_line" (defArgs s_Search_best_line) (defBody s_Search_best_line) (defScope s_Search_best_line) .none kV_Search_best_line dc_Search_best_line pm_Search_best_line an_Search_best_line cd_Search_best_line ct_Search_best_line), sl_Search_best_line⟩)
    (hc_Search_best_line : PySem.W.codeIn K cd_Search_best_line "Search.best_line" = true)
    (hk_Search_best_line : PySem.W.keepIn K (.ref f_Search_best_line) = true)
    (hq_key_of : PySem.W.nsIn K mainGlobals "key_of" = some (some (.ref f_key_of)))
    (hl_key_of : K.lookup f_key_of = some ⟨oc_key_of, od_key_of, .func (PySem.W.fnOf "key_of" "key_of" (defArgs s_key_of) (defBody s_key_of) (defScope s_key_of) .none kV_key_of dc_key_of pm_key_of an_key_of cd_key_of ct_key_of), sl_key_of⟩)
    (hc_key_of : PySem.W.codeIn K cd_key_of "key_of" = true)
    (hk_key_of : PySem.W.keepIn K (.ref f_key_of) = true)
    (hq_best_play : PySem.W.nsIn K mainGlobals "best_play" = some (some (.ref f_best_play)))
    (hl_best_play : K.lookup f_best_play = some ⟨oc_best_play, od_best_play, .func (PySem.W.fnOf "best_play" "best_play" (defArgs s_best_play) (defBody s_best_play) (defScope s_best_play) .none kV_best_play dc_best_play pm_best_play an_best_play cd_best_play ct_best_play), sl_best_play⟩)
    (hc_best_play : PySem.W.codeIn K cd_best_play "best_play" = true)
    (hk_best_play : PySem.W.keepIn K (.ref f_best_play) = true)
    (hq_best : PySem.W.nsIn K mainGlobals "best" = some (some (.ref f_best)))
    (hl_best : K.lookup f_best = some ⟨oc_best, od_best, .func (PySem.W.fnOf "best" "best" (defArgs s_best) (defBody s_best) (defScope s_best) .none kV_best dc_best pm_best an_best cd_best ct_best), sl_best⟩)
    (hc_best : PySem.W.codeIn K cd_best "best" = true)
    (hk_best : PySem.W.keepIn K (.ref f_best) = true)
    (hq_may_lead : PySem.W.nsIn K mainGlobals "may_lead" = some (some (.ref f_may_lead)))
    (hl_may_lead : K.lookup f_may_lead = some ⟨oc_may_lead, od_may_lead, .func (PySem.W.fnOf "may_lead" "may_lead" (defArgs s_may_lead) (defBody s_may_lead) (defScope s_may_lead) .none kV_may_lead dc_may_lead pm_may_lead an_may_lead cd_may_lead ct_may_lead), sl_may_lead⟩)
    (hc_may_lead : PySem.W.codeIn K cd_may_lead "may_lead" = true)
    (hk_may_lead : PySem.W.keepIn K (.ref f_may_lead) = true)
    (hq_refusal_to_search : PySem.W.nsIn K mainGlobals "refusal_to_search" = some (some (.ref f_refusal_to_search)))
    (hl_refusal_to_search : K.lookup f_refusal_to_search = some ⟨oc_refusal_to_search, od_refusal_to_search, .func (PySem.W.fnOf "refusal_to_search" "refusal_to_search" (defArgs s_refusal_to_search) (defBody s_refusal_to_search) (defScope s_refusal_to_search) .none kV_refusal_to_search dc_refusal_to_search pm_refusal_to_search an_refusal_to_search cd_refusal_to_search ct_refusal_to_search), sl_refusal_to_search⟩)
    (hc_refusal_to_search : PySem.W.codeIn K cd_refusal_to_search "refusal_to_search" = true)
    (hk_refusal_to_search : PySem.W.keepIn K (.ref f_refusal_to_search) = true)
    : ∃ A : Ad, Txt K mg A := by
  exact ⟨⟨C_Position, C_Reader, C_Trial, C_Search, a_RANK_OF_LETTER, f_side_of, (PySem.W.fnOf "side_of" "side_of" (defArgs s_side_of) (defBody s_side_of) (defScope s_side_of) .none kV_side_of dc_side_of pm_side_of an_side_of cd_side_of ct_side_of), f_player_after, (PySem.W.fnOf "player_after" "player_after" (defArgs s_player_after) (defBody s_player_after) (defScope s_player_after) .none kV_player_after dc_player_after pm_player_after an_player_after cd_player_after ct_player_after), f_suit_of, (PySem.W.fnOf "suit_of" "suit_of" (defArgs s_suit_of) (defBody s_suit_of) (defScope s_suit_of) .none kV_suit_of dc_suit_of pm_suit_of an_suit_of cd_suit_of ct_suit_of), f_Position_init, (PySem.W.fnOf "__init__" "Position.__init__" (defArgs s_Position_init) (defBody s_Position_init) (defScope s_Position_init) .none kV_Position_init dc_Position_init pm_Position_init an_Position_init cd_Position_init ct_Position_init), f_Position_choices, (PySem.W.fnOf "choices" "Position.choices" (defArgs s_Position_choices) (defBody s_Position_choices) (defScope s_Position_choices) .none kV_Position_choices dc_Position_choices pm_Position_choices an_Position_choices cd_Position_choices ct_Position_choices), f_Position_after, (PySem.W.fnOf "after" "Position.after" (defArgs s_Position_after) (defBody s_Position_after) (defScope s_Position_after) .none kV_Position_after dc_Position_after pm_Position_after an_Position_after cd_Position_after ct_Position_after), f_Position_is_over, (PySem.W.fnOf "is_over" "Position.is_over" (defArgs s_Position_is_over) (defBody s_Position_is_over) (defScope s_Position_is_over) .none kV_Position_is_over dc_Position_is_over pm_Position_is_over an_Position_is_over cd_Position_is_over ct_Position_is_over), f_start_of_play, (PySem.W.fnOf "start_of_play" "start_of_play" (defArgs s_start_of_play) (defBody s_start_of_play) (defScope s_start_of_play) .none kV_start_of_play dc_start_of_play pm_start_of_play an_start_of_play cd_start_of_play ct_start_of_play), f_beats, (PySem.W.fnOf "beats" "beats" (defArgs s_beats) (defBody s_beats) (defScope s_beats) .none kV_beats dc_beats pm_beats an_beats cd_beats ct_beats), f_without, (PySem.W.fnOf "without" "without" (defArgs s_without) (defBody s_without) (defScope s_without) .none kV_without dc_without pm_without an_without cd_without ct_without), f_one_more, (PySem.W.fnOf "one_more" "one_more" (defArgs s_one_more) (defBody s_one_more) (defScope s_one_more) .none kV_one_more dc_one_more pm_one_more an_one_more cd_one_more ct_one_more), f_Reader_init, (PySem.W.fnOf "__init__" "Reader.__init__" (defArgs s_Reader_init) (defBody s_Reader_init) (defScope s_Reader_init) .none kV_Reader_init dc_Reader_init pm_Reader_init an_Reader_init cd_Reader_init ct_Reader_init), f_Reader_open_suit, (PySem.W.fnOf "open_suit" "Reader.open_suit" (defArgs s_Reader_open_suit) (defBody s_Reader_open_suit) (defScope s_Reader_open_suit) .none kV_Reader_open_suit dc_Reader_open_suit pm_Reader_open_suit an_Reader_open_suit cd_Reader_open_suit ct_Reader_open_suit), f_Reader_take, (PySem.W.fnOf "take" "Reader.take" (defArgs s_Reader_take) (defBody s_Reader_take) (defScope s_Reader_take) .none kV_Reader_take dc_Reader_take pm_Reader_take an_Reader_take cd_Reader_take ct_Reader_take), f_Reader_may_end, (PySem.W.fnOf "may_end" "Reader.may_end" (defArgs s_Reader_may_end) (defBody s_Reader_may_end) (defScope s_Reader_may_end) .none kV_Reader_may_end dc_Reader_may_end pm_Reader_may_end an_Reader_may_end cd_Reader_may_end ct_Reader_may_end), f_read_deal, (PySem.W.fnOf "read_deal" "read_deal" (defArgs s_read_deal) (defBody s_read_deal) (defScope s_read_deal) .none kV_read_deal dc_read_deal pm_read_deal an_read_deal cd_read_deal ct_read_deal), f_refusal_of_hands, (PySem.W.fnOf "refusal_of_hands" "refusal_of_hands" (defArgs s_refusal_of_hands) (defBody s_refusal_of_hands) (defScope s_refusal_of_hands) .none kV_refusal_of_hands dc_refusal_of_hands pm_refusal_of_hands an_refusal_of_hands cd_refusal_of_hands ct_refusal_of_hands), f_has_shared_card, (PySem.W.fnOf "has_shared_card" "has_shared_card" (defArgs s_has_shared_card) (defBody s_has_shared_card) (defScope s_has_shared_card) .none kV_has_shared_card dc_has_shared_card pm_has_shared_card an_has_shared_card cd_has_shared_card ct_has_shared_card), f_Trial_init, (PySem.W.fnOf "__init__" "Trial.__init__" (defArgs s_Trial_init) (defBody s_Trial_init) (defScope s_Trial_init) .none kV_Trial_init dc_Trial_init pm_Trial_init an_Trial_init cd_Trial_init ct_Trial_init), f_Trial_next_position, (PySem.W.fnOf "next_position" "Trial.next_position" (defArgs s_Trial_next_position) (defBody s_Trial_next_position) (defScope s_Trial_next_position) .none kV_Trial_next_position dc_Trial_next_position pm_Trial_next_position an_Trial_next_position cd_Trial_next_position ct_Trial_next_position), f_Trial_hear, (PySem.W.fnOf "hear" "Trial.hear" (defArgs s_Trial_hear) (defBody s_Trial_hear) (defScope s_Trial_hear) .none kV_Trial_hear dc_Trial_hear pm_Trial_hear an_Trial_hear cd_Trial_hear ct_Trial_hear), f_Search_init, (PySem.W.fnOf "__init__" "Search.__init__" (defArgs s_Search_init) (defBody s_Search_init) (defScope s_Search_init) .none kV_Search_init dc_Search_init pm_Search_init an_Search_init cd_Search_init ct_Search_init), f_Search_trial_of, (PySem.W.fnOf "trial_of" "Search.trial_of" (defArgs s_Search_trial_of) (defBody s_Search_trial_of) (defScope s_Search_trial_of) .none kV_Search_trial_of dc_Search_trial_of pm_Search_trial_of an_Search_trial_of cd_Search_trial_of ct_Search_trial_of), f_Search_keep, (PySem.W.fnOf "keep" "Search.keep" (defArgs s_Search_keep) (defBody s_Search_keep) (defScope s_Search_keep) .none kV_Search_keep dc_Search_keep pm_Search_keep an_Search_keep cd_Search_keep ct_Search_keep), f_Search_reaches, (PySem.W.fnOf "reaches" "Search.reaches" (defArgs s_Search_reaches) (defBody s_Search_reaches) (defScope s_Search_reaches) .none kV_Search_reaches dc_Search_reaches pm_Search_reaches an_Search_reaches cd_Search_reaches ct_Search_reaches), f_Search_worth, (PySem.W.fnOf "worth" "Search.worth" (defArgs s_Search_worth) (defBody s_Search_worth) (defScope s_Search_worth) .none kV_Search_worth dc_Search_worth pm_Search_worth an_Search_worth cd_Search_worth ct_Search_worth), f_Search_leaders_worth, (PySem.W.fnOf "leaders_worth" "Search.leaders_worth" (defArgs s_Search_leaders_worth) (defBody s_Search_leaders_worth) (defScope s_Search_leaders_worth) .none kV_Search_leaders_worth dc_Search_leaders_worth pm_Search_leaders_worth an_Search_leaders_worth cd_Search_leaders_worth ct_Search_leaders_worth), f_Search_best_card, (PySem.W.fnOf "best_card" "Search.best_card" (defArgs s_Search_best_card) (defBody s_Search_best_card) (defScope s_Search_best_card) .none kV_Search_best_card dc_Search_best_card pm_Search_best_card an_Search_best_card cd_Search_best_card ct_Search_best_card), f_Search_best_line, (PySem.W.fnOf "best_line" "Search.best_line" (defArgs s_Search_best_line) (defBody s_Search_best_line) (defScope s_Search_best_line) .none kV_Search_best_line dc_Search_best_line pm_Search_best_line an_Search_best_line cd_Search_best_line ct_Search_best_line), f_key_of, (PySem.W.fnOf "key_of" "key_of" (defArgs s_key_of) (defBody s_key_of) (defScope s_key_of) .none kV_key_of dc_key_of pm_key_of an_key_of cd_key_of ct_key_of), f_best_play, (PySem.W.fnOf "best_play" "best_play" (defArgs s_best_play) (defBody s_best_play) (defScope s_best_play) .none kV_best_play dc_best_play pm_best_play an_best_play cd_best_play ct_best_play), f_best, (PySem.W.fnOf "best" "best" (defArgs s_best) (defBody s_best) (defScope s_best) .none kV_best dc_best pm_best an_best cd_best ct_best), f_may_lead, (PySem.W.fnOf "may_lead" "may_lead" (defArgs s_may_lead) (defBody s_may_lead) (defScope s_may_lead) .none kV_may_lead dc_may_lead pm_may_lead an_may_lead cd_may_lead ct_may_lead), f_refusal_to_search, (PySem.W.fnOf "refusal_to_search" "refusal_to_search" (defArgs s_refusal_to_search) (defBody s_refusal_to_search) (defScope s_refusal_to_search) .none kV_refusal_to_search dc_refusal_to_search pm_refusal_to_search an_refusal_to_search cd_refusal_to_search ct_refusal_to_search)⟩,
    ⟨⟨_, PySem.W.mg_of X G hg_PLAYERS⟩,
    ⟨_, PySem.W.mg_of X G hg_RANKS⟩,
    ⟨_, PySem.W.mg_of X G hg_NO_SUIT⟩,
    ⟨_, PySem.W.mg_of X G hg_NO_CARD⟩,
    ⟨_, PySem.W.mg_of X G hg_NOBODY⟩,
    ⟨_, PySem.W.mg_of X G hg_SPADES⟩,
    PySem.W.mg_of X G hg_RANK_OF_LETTER,
    KD.mk' hl_RANK_OF_LETTER he_RANK_OF_LETTER ho_RANK_OF_LETTER (by decide),
    ⟨_, PySem.W.mg_of X G hg_POINT⟩,
    ⟨_, PySem.W.mg_of X G hg_CLUBS⟩,
    ⟨_, PySem.W.mg_of X G hg_BLANK⟩,
    ⟨_, PySem.W.mg_of X G hg_MISPLACED⟩,
    ⟨_, PySem.W.mg_of X G hg_UNEVEN⟩,
    ⟨_, PySem.W.mg_of X G hg_SHARED⟩,
    ⟨_, PySem.W.mg_of X G hg_LONGEST_TEXT⟩,
    ⟨_, PySem.W.mg_of X G hg_OUT_OF_RANGE⟩,
    ⟨_, PySem.W.mg_of X G hg_NO_TRUMP⟩,
    ⟨_, PySem.W.mg_of X G hg_MOST_CARDS_SEARCHED⟩,
    ⟨_, PySem.W.mg_of X G hg_TOO_MANY_CARDS⟩,
    PySem.W.mg_none_of X G hz_list,
    PySem.W.mg_none_of X G hz_len,
    PySem.W.mg_none_of X G hz_tuple,
    PySem.W.mg_none_of X G hz_enumerate,
    PySem.W.mg_none_of X G hz_any,
    PySem.W.mg_none_of X G hz_sorted,
    PySem.W.mg_none_of X G hz_max,
    ⟨hpg_Position, hhd_Position, hpo_Position, hsa_Position⟩,
    PySem.W.mg_of X G hga_Position,
    ⟨hmk_Position, hq_Position_init, hi_Position_init, hkc_Position⟩,
    hn_Position_trump,
    hn_Position_hands,
    hn_Position_turn,
    hn_Position_taken,
    hn_Position_laid,
    hn_Position_led,
    hn_Position_top,
    hn_Position_holder,
    ⟨hpg_Reader, hhd_Reader, hpo_Reader, hsa_Reader⟩,
    PySem.W.mg_of X G hga_Reader,
    ⟨hmk_Reader, hq_Reader_init, hi_Reader_init, hkc_Reader⟩,
    hn_Reader_hands,
    hn_Reader_refusal,
    hn_Reader_suit,
    hn_Reader_bound,
    ⟨hpg_Trial, hhd_Trial, hpo_Trial, hsa_Trial⟩,
    PySem.W.mg_of X G hga_Trial,
    ⟨hmk_Trial, hq_Trial_init, hi_Trial_init, hkc_Trial⟩,
    hn_Trial_position,
    hn_Trial_verdict,
    hn_Trial_untried,
    ⟨hpg_Search, hhd_Search, hpo_Search, hsa_Search⟩,
    PySem.W.mg_of X G hga_Search,
    ⟨hmk_Search, hq_Search_init, hi_Search_init, hkc_Search⟩,
    hn_Search_tricks,
    hn_Search_verdicts,
    fun_mk (st := s_side_of) hl_side_of hc_side_of hk_side_of,
    (fun_mk (st := s_side_of) hl_side_of hc_side_of hk_side_of).binds (ps := ["player"]) fun _ _ _ _ _ _ us hl => match us, hl with | [_], _ => rfl,
    PySem.W.mg_of X G hq_side_of,
    fun_mk (st := s_player_after) hl_player_after hc_player_after hk_player_after,
    (fun_mk (st := s_player_after) hl_player_after hc_player_after hk_player_after).binds (ps := ["player"]) fun _ _ _ _ _ _ us hl => match us, hl with | [_], _ => rfl,
    PySem.W.mg_of X G hq_player_after,
    fun_mk (st := s_suit_of) hl_suit_of hc_suit_of hk_suit_of,
    (fun_mk (st := s_suit_of) hl_suit_of hc_suit_of hk_suit_of).binds (ps := ["card"]) fun _ _ _ _ _ _ us hl => match us, hl with | [_], _ => rfl,
    PySem.W.mg_of X G hq_suit_of,
    fun_mk (st := s_Position_init) hl_Position_init hc_Position_init hk_Position_init,
    (fun_mk (st := s_Position_init) hl_Position_init hc_Position_init hk_Position_init).binds (ps := ["self", "trump", "hands", "turn", "taken"]) fun _ _ _ _ _ _ us hl => match us, hl with | [_, _, _, _, _], _ => rfl,
    ⟨hq_Position_init, hi_Position_init, hk_Position_init⟩,
    fun_mk (st := s_Position_choices) hl_Position_choices hc_Position_choices hk_Position_choices,
    (fun_mk (st := s_Position_choices) hl_Position_choices hc_Position_choices hk_Position_choices).binds (ps := ["self"]) fun _ _ _ _ _ _ us hl => match us, hl with | [_], _ => rfl,
    ⟨hq_Position_choices, hi_Position_choices, hk_Position_choices⟩,
    fun_mk (st := s_Position_after) hl_Position_after hc_Position_after hk_Position_after,
    (fun_mk (st := s_Position_after) hl_Position_after hc_Position_after hk_Position_after).binds (ps := ["self", "card"]) fun _ _ _ _ _ _ us hl => match us, hl with | [_, _], _ => rfl,
    ⟨hq_Position_after, hi_Position_after, hk_Position_after⟩,
    fun_mk (st := s_Position_is_over) hl_Position_is_over hc_Position_is_over hk_Position_is_over,
    (fun_mk (st := s_Position_is_over) hl_Position_is_over hc_Position_is_over hk_Position_is_over).binds (ps := ["self"]) fun _ _ _ _ _ _ us hl => match us, hl with | [_], _ => rfl,
    ⟨hq_Position_is_over, hi_Position_is_over, hk_Position_is_over⟩,
    fun_mk (st := s_start_of_play) hl_start_of_play hc_start_of_play hk_start_of_play,
    (fun_mk (st := s_start_of_play) hl_start_of_play hc_start_of_play hk_start_of_play).binds (ps := ["trump", "leader", "hands"]) fun _ _ _ _ _ _ us hl => match us, hl with | [_, _, _], _ => rfl,
    PySem.W.mg_of X G hq_start_of_play,
    fun_mk (st := s_beats) hl_beats hc_beats hk_beats,
    (fun_mk (st := s_beats) hl_beats hc_beats hk_beats).binds (ps := ["card", "top", "trump"]) fun _ _ _ _ _ _ us hl => match us, hl with | [_, _, _], _ => rfl,
    PySem.W.mg_of X G hq_beats,
    fun_mk (st := s_without) hl_without hc_without hk_without,
    (fun_mk (st := s_without) hl_without hc_without hk_without).binds (ps := ["hands", "player", "card"]) fun _ _ _ _ _ _ us hl => match us, hl with | [_, _, _], _ => rfl,
    PySem.W.mg_of X G hq_without,
    fun_mk (st := s_one_more) hl_one_more hc_one_more hk_one_more,
    (fun_mk (st := s_one_more) hl_one_more hc_one_more hk_one_more).binds (ps := ["taken", "player"]) fun _ _ _ _ _ _ us hl => match us, hl with | [_, _], _ => rfl,
    PySem.W.mg_of X G hq_one_more,
    fun_mk (st := s_Reader_init) hl_Reader_init hc_Reader_init hk_Reader_init,
    (fun_mk (st := s_Reader_init) hl_Reader_init hc_Reader_init hk_Reader_init).binds (ps := ["self"]) fun _ _ _ _ _ _ us hl => match us, hl with | [_], _ => rfl,
    ⟨hq_Reader_init, hi_Reader_init, hk_Reader_init⟩,
    fun_mk (st := s_Reader_open_suit) hl_Reader_open_suit hc_Reader_open_suit hk_Reader_open_suit,
    (fun_mk (st := s_Reader_open_suit) hl_Reader_open_suit hc_Reader_open_suit hk_Reader_open_suit).binds (ps := ["self", "suit"]) fun _ _ _ _ _ _ us hl => match us, hl with | [_, _], _ => rfl,
    ⟨hq_Reader_open_suit, hi_Reader_open_suit, hk_Reader_open_suit⟩,
    fun_mk (st := s_Reader_take) hl_Reader_take hc_Reader_take hk_Reader_take,
    (fun_mk (st := s_Reader_take) hl_Reader_take hc_Reader_take hk_Reader_take).binds (ps := ["self", "byte"]) fun _ _ _ _ _ _ us hl => match us, hl with | [_, _], _ => rfl,
    ⟨hq_Reader_take, hi_Reader_take, hk_Reader_take⟩,
    fun_mk (st := s_Reader_may_end) hl_Reader_may_end hc_Reader_may_end hk_Reader_may_end,
    (fun_mk (st := s_Reader_may_end) hl_Reader_may_end hc_Reader_may_end hk_Reader_may_end).binds (ps := ["self"]) fun _ _ _ _ _ _ us hl => match us, hl with | [_], _ => rfl,
    ⟨hq_Reader_may_end, hi_Reader_may_end, hk_Reader_may_end⟩,
    fun_mk (st := s_read_deal) hl_read_deal hc_read_deal hk_read_deal,
    (fun_mk (st := s_read_deal) hl_read_deal hc_read_deal hk_read_deal).binds (ps := ["text"]) fun _ _ _ _ _ _ us hl => match us, hl with | [_], _ => rfl,
    PySem.W.mg_of X G hq_read_deal,
    fun_mk (st := s_refusal_of_hands) hl_refusal_of_hands hc_refusal_of_hands hk_refusal_of_hands,
    (fun_mk (st := s_refusal_of_hands) hl_refusal_of_hands hc_refusal_of_hands hk_refusal_of_hands).binds (ps := ["hands"]) fun _ _ _ _ _ _ us hl => match us, hl with | [_], _ => rfl,
    PySem.W.mg_of X G hq_refusal_of_hands,
    fun_mk (st := s_has_shared_card) hl_has_shared_card hc_has_shared_card hk_has_shared_card,
    (fun_mk (st := s_has_shared_card) hl_has_shared_card hc_has_shared_card hk_has_shared_card).binds (ps := ["hands"]) fun _ _ _ _ _ _ us hl => match us, hl with | [_], _ => rfl,
    PySem.W.mg_of X G hq_has_shared_card,
    fun_mk (st := s_Trial_init) hl_Trial_init hc_Trial_init hk_Trial_init,
    (fun_mk (st := s_Trial_init) hl_Trial_init hc_Trial_init hk_Trial_init).binds (ps := ["self", "position", "verdict"]) fun _ _ _ _ _ _ us hl => match us, hl with | [_, _, _], _ => rfl,
    ⟨hq_Trial_init, hi_Trial_init, hk_Trial_init⟩,
    fun_mk (st := s_Trial_next_position) hl_Trial_next_position hc_Trial_next_position hk_Trial_next_position,
    (fun_mk (st := s_Trial_next_position) hl_Trial_next_position hc_Trial_next_position hk_Trial_next_position).binds (ps := ["self"]) fun _ _ _ _ _ _ us hl => match us, hl with | [_], _ => rfl,
    ⟨hq_Trial_next_position, hi_Trial_next_position, hk_Trial_next_position⟩,
    fun_mk (st := s_Trial_hear) hl_Trial_hear hc_Trial_hear hk_Trial_hear,
    (fun_mk (st := s_Trial_hear) hl_Trial_hear hc_Trial_hear hk_Trial_hear).binds (ps := ["self", "verdict"]) fun _ _ _ _ _ _ us hl => match us, hl with | [_, _], _ => rfl,
    ⟨hq_Trial_hear, hi_Trial_hear, hk_Trial_hear⟩,
    fun_mk (st := s_Search_init) hl_Search_init hc_Search_init hk_Search_init,
    (fun_mk (st := s_Search_init) hl_Search_init hc_Search_init hk_Search_init).binds (ps := ["self", "tricks"]) fun _ _ _ _ _ _ us hl => match us, hl with | [_, _], _ => rfl,
    ⟨hq_Search_init, hi_Search_init, hk_Search_init⟩,
    fun_mk (st := s_Search_trial_of) hl_Search_trial_of hc_Search_trial_of hk_Search_trial_of,
    (fun_mk (st := s_Search_trial_of) hl_Search_trial_of hc_Search_trial_of hk_Search_trial_of).binds (ps := ["self", "position", "goal"]) fun _ _ _ _ _ _ us hl => match us, hl with | [_, _, _], _ => rfl,
    ⟨hq_Search_trial_of, hi_Search_trial_of, hk_Search_trial_of⟩,
    fun_mk (st := s_Search_keep) hl_Search_keep hc_Search_keep hk_Search_keep,
    (fun_mk (st := s_Search_keep) hl_Search_keep hc_Search_keep hk_Search_keep).binds (ps := ["self", "trial", "goal"]) fun _ _ _ _ _ _ us hl => match us, hl with | [_, _, _], _ => rfl,
    ⟨hq_Search_keep, hi_Search_keep, hk_Search_keep⟩,
    fun_mk (st := s_Search_reaches) hl_Search_reaches hc_Search_reaches hk_Search_reaches,
    (fun_mk (st := s_Search_reaches) hl_Search_reaches hc_Search_reaches hk_Search_reaches).binds (ps := ["self", "position", "goal"]) fun _ _ _ _ _ _ us hl => match us, hl with | [_, _, _], _ => rfl,
    ⟨hq_Search_reaches, hi_Search_reaches, hk_Search_reaches⟩,
    fun_mk (st := s_Search_worth) hl_Search_worth hc_Search_worth hk_Search_worth,
    (fun_mk (st := s_Search_worth) hl_Search_worth hc_Search_worth hk_Search_worth).binds (ps := ["self", "position"]) fun _ _ _ _ _ _ us hl => match us, hl with | [_, _], _ => rfl,
    ⟨hq_Search_worth, hi_Search_worth, hk_Search_worth⟩,
    fun_mk (st := s_Search_leaders_worth) hl_Search_leaders_worth hc_Search_leaders_worth hk_Search_leaders_worth,
    (fun_mk (st := s_Search_leaders_worth) hl_Search_leaders_worth hc_Search_leaders_worth hk_Search_leaders_worth).binds (ps := ["self", "start"]) fun _ _ _ _ _ _ us hl => match us, hl with | [_, _], _ => rfl,
    ⟨hq_Search_leaders_worth, hi_Search_leaders_worth, hk_Search_leaders_worth⟩,
    fun_mk (st := s_Search_best_card) hl_Search_best_card hc_Search_best_card hk_Search_best_card,
    (fun_mk (st := s_Search_best_card) hl_Search_best_card hc_Search_best_card hk_Search_best_card).binds (ps := ["self", "position"]) fun _ _ _ _ _ _ us hl => match us, hl with | [_, _], _ => rfl,
    ⟨hq_Search_best_card, hi_Search_best_card, hk_Search_best_card⟩,
    fun_mk (st := s_Search_best_line) hl_Search_best_line hc_Search_best_line hk_Search_best_line,
    (fun_mk (st := s_Search_best_line) hl_Search_best_line hc_Search_best_line hk_Search_best_line).binds (ps := ["self", "position"]) fun _ _ _ _ _ _ us hl => match us, hl with | [_, _], _ => rfl,
    ⟨hq_Search_best_line, hi_Search_best_line, hk_Search_best_line⟩,
    fun_mk (st := s_key_of) hl_key_of hc_key_of hk_key_of,
    (fun_mk (st := s_key_of) hl_key_of hc_key_of hk_key_of).binds (ps := ["position", "goal"]) fun _ _ _ _ _ _ us hl => match us, hl with | [_, _], _ => rfl,
    PySem.W.mg_of X G hq_key_of,
    fun_mk (st := s_best_play) hl_best_play hc_best_play hk_best_play,
    (fun_mk (st := s_best_play) hl_best_play hc_best_play hk_best_play).binds (ps := ["trump", "leader", "hands"]) fun _ _ _ _ _ _ us hl => match us, hl with | [_, _, _], _ => rfl,
    PySem.W.mg_of X G hq_best_play,
    fun_mk (st := s_best) hl_best hc_best hk_best,
    (fun_mk (st := s_best) hl_best hc_best hk_best).binds (ps := ["trump", "leader", "text"]) fun _ _ _ _ _ _ us hl => match us, hl with | [_, _, _], _ => rfl,
    PySem.W.mg_of X G hq_best,
    fun_mk (st := s_may_lead) hl_may_lead hc_may_lead hk_may_lead,
    (fun_mk (st := s_may_lead) hl_may_lead hc_may_lead hk_may_lead).binds (ps := ["trump", "leader"]) fun _ _ _ _ _ _ us hl => match us, hl with | [_, _], _ => rfl,
    PySem.W.mg_of X G hq_may_lead,
    fun_mk (st := s_refusal_to_search) hl_refusal_to_search hc_refusal_to_search hk_refusal_to_search,
    (fun_mk (st := s_refusal_to_search) hl_refusal_to_search hc_refusal_to_search hk_refusal_to_search).binds (ps := ["reader"]) fun _ _ _ _ _ _ us hl => match us, hl with | [_], _ => rfl,
    PySem.W.mg_of X G hq_refusal_to_search⟩⟩
theorem said : PySem.Challenge.rw_fourhands_s05_best.wellSaid = true := by decide +kernel
theorem req (P : Params) (h : Heap) (args : List PySem.W.WData) (vals : List Value) (hpre : PySem.Challenge.rw_fourhands_s05_best.pre args = true) (hwl : PySem.W.WellAll P h vals args) :
    Req PySem.Challenge.rw_fourhands_s05_best 3 spBest args h vals := by
  obtain ⟨a, hw, _, rfl⟩ := (PySem.W.OpenSpec.pre_iff said _).mp hpre
  obtain ⟨t, l, ns, u⟩ := a
  have hpost := (PySem.W.OpenSpec.post_iff said hw (.list ((PySc20.best t l ns).map PySem.W.WData.int)) []).mpr rfl
  have hw2 := (Bool.and_eq_true_iff.mp hw).2
  have hw3 := (Bool.and_eq_true_iff.mp hw2).2
  have hw1 : (PySem.W.Codec.list 0 35 (.int 0 255)).within ns = true := (Bool.and_eq_true_iff.mp hw3).1
  obtain ⟨h1, h2⟩ := within_list hw1
  have hwl : PySem.W.WellAll P h vals [.int t, .int l, .list ((show List Int from ns).map PySem.W.WData.int)] := hwl
  cases hwl with
  | cons w1 hwl => cases hwl with
    | cons w2 hwl => cases hwl with
      | cons w3 hwl =>
        cases hwl
        obtain ⟨t1, rfl⟩ := well_int w1
        obtain ⟨t2, rfl⟩ := well_int w2
        obtain ⟨a, ws, rfl, ho, hi⟩ := well_list w3
        refine ⟨[.int t, .int l, .ref a], [(a, ns)], PySc20.best t l ns, .cons ⟨_, rfl⟩ (.cons ⟨_, rfl⟩ (.cons rfl .nil)), rfl, ?_, ?_, hpost⟩
        · intro p hp
          have e : p = (a, ns) := by simpa using hp
          subst e
          exact ⟨ws, ho, hi, Nat.le_trans h1 (by decide)⟩
        · intro K H hS
          exact ⟨a, ns, t, l, rfl, hS (a, ns) (by simp), h1, h2, fun l' H' q => ⟨l', rfl, q⟩⟩
end Fh
open PySem PySem.W PyProof.Rows
set_option maxRecDepth 100000 in
set_option maxHeartbeats 0 in
theorem PySem.Challenge.cw_fourhands_s05_best_holds : PySem.Challenge.rw_fourhands_s05_best.Holds := by
  w_on; k_headS; (case hw => exact ⟨[.int 0, .int 0, .list []], by decide +kernel, by decide +kernel⟩)
  k_fillS
  refine L2.walk_spec (r := PySem.Challenge.rw_fourhands_s05_best) (k := 11) (sp := Fh.spBest) (ps := ["trump", "leader", "text"]) rfl ⟨rfl, by decide, by decide⟩ (fun w h Y => PySem.W.kIn_of Y) ?F Fh.req
  case F =>
    intro w mg fa h KX G hmg
    have T : ∃ A, Fh.Txt (L2.KOf KX) mg A := by
      dsimp only [L2.KOf]
      refine' Fh.all_mk KX G ?hg_PLAYERS ?hg_RANKS ?hg_NO_SUIT ?hg_NO_CARD ?hg_NOBODY ?hg_SPADES ?hg_RANK_OF_LETTER ?hl_RANK_OF_LETTER ?he_RANK_OF_LETTER ?ho_RANK_OF_LETTER ?hg_POINT ?hg_CLUBS ?hg_BLANK ?hg_MISPLACED ?hg_UNEVEN ?hg_SHARED ?hg_LONGEST_TEXT ?hg_OUT_OF_RANGE ?hg_NO_TRUMP ?hg_MOST_CARDS_SEARCHED ?hg_TOO_MANY_CARDS ?hz_list ?hz_len ?hz_tuple ?hz_enumerate ?hz_any ?hz_sorted ?hz_max ?hga_Position ?hpg_Position ?hhd_Position ?hpo_Position ?hsa_Position ?hmk_Position ?hkc_Position ?hn_Position_trump ?hn_Position_hands ?hn_Position_turn ?hn_Position_taken ?hn_Position_laid ?hn_Position_led ?hn_Position_top ?hn_Position_holder ?hga_Reader ?hpg_Reader ?hhd_Reader ?hpo_Reader ?hsa_Reader ?hmk_Reader ?hkc_Reader ?hn_Reader_hands ?hn_Reader_refusal ?hn_Reader_suit ?hn_Reader_bound ?hga_Trial ?hpg_Trial ?hhd_Trial ?hpo_Trial ?hsa_Trial ?hmk_Trial ?hkc_Trial ?hn_Trial_position ?hn_Trial_verdict ?hn_Trial_untried ?hga_Search ?hpg_Search ?hhd_Search ?hpo_Search ?hsa_Search ?hmk_Search ?hkc_Search ?hn_Search_tricks ?hn_Search_verdicts ?hq_side_of ?hl_side_of ?hc_side_of ?hk_side_of ?hq_player_after ?hl_player_after ?hc_player_after ?hk_player_after ?hq_suit_of ?hl_suit_of ?hc_suit_of ?hk_suit_of ?hq_Position_init ?hi_Position_init ?hl_Position_init ?hc_Position_init ?hk_Position_init ?hq_Position_choices ?hi_Position_choices ?hl_Position_choices ?hc_Position_choices ?hk_Position_choices ?hq_Position_after ?hi_Position_after ?hl_Position_after ?hc_Position_after ?hk_Position_after ?hq_Position_is_over ?hi_Position_is_over ?hl_Position_is_over ?hc_Position_is_over ?hk_Position_is_over ?hq_start_of_play ?hl_start_of_play ?hc_start_of_play ?hk_start_of_play ?hq_beats ?hl_beats ?hc_beats ?hk_beats ?hq_without ?hl_without ?hc_without ?hk_without ?hq_one_more ?hl_one_more ?hc_one_more ?hk_one_more ?hq_Reader_init ?hi_Reader_init ?hl_Reader_init ?hc_Reader_init ?hk_Reader_init ?hq_Reader_open_suit ?hi_Reader_open_suit ?hl_Reader_open_suit ?hc_Reader_open_suit ?hk_Reader_open_suit ?hq_Reader_take ?hi_Reader_take ?hl_Reader_take ?hc_Reader_take ?hk_Reader_take ?hq_Reader_may_end ?hi_Reader_may_end ?hl_Reader_may_end ?hc_Reader_may_end ?hk_Reader_may_end ?hq_read_deal ?hl_read_deal ?hc_read_deal ?hk_read_deal ?hq_refusal_of_hands ?hl_refusal_of_hands ?hc_refusal_of_hands ?hk_refusal_of_hands ?hq_has_shared_card ?hl_has_shared_card ?hc_has_shared_card ?hk_has_shared_card ?hq_Trial_init ?hi_Trial_init ?hl_Trial_init ?hc_Trial_init ?hk_Trial_init ?hq_Trial_next_position ?hi_Trial_next_position ?hl_Trial_next_position ?hc_Trial_next_position ?hk_Trial_next_position ?hq_Trial_hear ?hi_Trial_hear ?hl_Trial_hear ?hc_Trial_hear ?hk_Trial_hear ?hq_Search_init ?hi_Search_init ?hl_Search_init ?hc_Search_init ?hk_Search_init ?hq_Search_trial_of ?hi_Search_trial_of ?hl_Search_trial_of ?hc_Search_trial_of ?hk_Search_trial_of ?hq_Search_keep ?hi_Search_keep ?hl_Search_keep ?hc_Search_keep ?hk_Search_keep ?hq_Search_reaches ?hi_Search_reaches ?hl_Search_reaches ?hc_Search_reaches ?hk_Search_reaches ?hq_Search_worth ?hi_Search_worth ?hl_Search_worth ?hc_Search_worth ?hk_Search_worth ?hq_Search_leaders_worth ?hi_Search_leaders_worth ?hl_Search_leaders_worth ?hc_Search_leaders_worth ?hk_Search_leaders_worth ?hq_Search_best_card ?hi_Search_best_card ?hl_Search_best_card ?hc_Search_best_card ?hk_Search_best_card ?hq_Search_best_line ?hi_Search_best_line ?hl_Search_best_line ?hc_Search_best_line ?hk_Search_best_line ?hq_key_of ?hl_key_of ?hc_key_of ?hk_key_of ?hq_best_play ?hl_best_play ?hc_best_play ?hk_best_play ?hq_best ?hl_best ?hc_best ?hk_best ?hq_may_lead ?hl_may_lead ?hc_may_lead ?hk_may_lead ?hq_refusal_to_search ?hl_refusal_to_search ?hc_refusal_to_search ?hk_refusal_to_search
      (case hg_PLAYERS => k_is)
      (case hg_RANKS => k_is)
      (case hg_NO_SUIT => k_is)
      (case hg_NO_CARD => k_is)
      (case hg_NOBODY => k_is)
      (case hg_SPADES => k_is)
      (case hg_RANK_OF_LETTER => k_is)
      (case hl_RANK_OF_LETTER => k_is)
      (case he_RANK_OF_LETTER => decide +kernel)
      (case ho_RANK_OF_LETTER => decide +kernel)
      (case hg_POINT => k_is)
      (case hg_CLUBS => k_is)
      (case hg_BLANK => k_is)
      (case hg_MISPLACED => k_is)
      (case hg_UNEVEN => k_is)
      (case hg_SHARED => k_is)
      (case hg_LONGEST_TEXT => k_is)
      (case hg_OUT_OF_RANGE => k_is)
      (case hg_NO_TRUMP => k_is)
      (case hg_MOST_CARDS_SEARCHED => k_is)
      (case hg_TOO_MANY_CARDS => k_is)
      (case hz_list => k_is)
      (case hz_len => k_is)
      (case hz_tuple => k_is)
      (case hz_enumerate => k_is)
      (case hz_any => k_is)
      (case hz_sorted => k_is)
      (case hz_max => k_is)
      (case hga_Position => k_is)
      (case hpg_Position => k_is)
      (case hhd_Position => k_is)
      (case hpo_Position => k_is)
      (case hsa_Position => k_is)
      (case hmk_Position => k_is)
      (case hkc_Position => k_is)
      (case hn_Position_trump => k_is)
      (case hn_Position_hands => k_is)
      (case hn_Position_turn => k_is)
      (case hn_Position_taken => k_is)
      (case hn_Position_laid => k_is)
      (case hn_Position_led => k_is)
      (case hn_Position_top => k_is)
      (case hn_Position_holder => k_is)
      (case hga_Reader => k_is)
      (case hpg_Reader => k_is)
      (case hhd_Reader => k_is)
      (case hpo_Reader => k_is)
      (case hsa_Reader => k_is)
      (case hmk_Reader => k_is)
      (case hkc_Reader => k_is)
      (case hn_Reader_hands => k_is)
      (case hn_Reader_refusal => k_is)
      (case hn_Reader_suit => k_is)
      (case hn_Reader_bound => k_is)
      (case hga_Trial => k_is)
      (case hpg_Trial => k_is)
      (case hhd_Trial => k_is)
      (case hpo_Trial => k_is)
      (case hsa_Trial => k_is)
      (case hmk_Trial => k_is)
      (case hkc_Trial => k_is)
      (case hn_Trial_position => k_is)
      (case hn_Trial_verdict => k_is)
      (case hn_Trial_untried => k_is)
      (case hga_Search => k_is)
      (case hpg_Search => k_is)
      (case hhd_Search => k_is)
      (case hpo_Search => k_is)
      (case hsa_Search => k_is)
      (case hmk_Search => k_is)
      (case hkc_Search => k_is)
      (case hn_Search_tricks => k_is)
      (case hn_Search_verdicts => k_is)
      (case hq_side_of => k_is)
      (case hl_side_of => k_is)
      (case hc_side_of => k_is)
      (case hk_side_of => k_is)
      (case hq_player_after => k_is)
      (case hl_player_after => k_is)
      (case hc_player_after => k_is)
      (case hk_player_after => k_is)
      (case hq_suit_of => k_is)
      (case hl_suit_of => k_is)
      (case hc_suit_of => k_is)
      (case hk_suit_of => k_is)
      (case hq_Position_init => k_is)
      (case hi_Position_init => k_is)
      (case hl_Position_init => k_is)
      (case hc_Position_init => k_is)
      (case hk_Position_init => k_is)
      (case hq_Position_choices => k_is)
      (case hi_Position_choices => k_is)
      (case hl_Position_choices => k_is)
      (case hc_Position_choices => k_is)
      (case hk_Position_choices => k_is)
      (case hq_Position_after => k_is)
      (case hi_Position_after => k_is)
      (case hl_Position_after => k_is)
      (case hc_Position_after => k_is)
      (case hk_Position_after => k_is)
      (case hq_Position_is_over => k_is)
      (case hi_Position_is_over => k_is)
      (case hl_Position_is_over => k_is)
      (case hc_Position_is_over => k_is)
      (case hk_Position_is_over => k_is)
      (case hq_start_of_play => k_is)
      (case hl_start_of_play => k_is)
      (case hc_start_of_play => k_is)
      (case hk_start_of_play => k_is)
      (case hq_beats => k_is)
      (case hl_beats => k_is)
      (case hc_beats => k_is)
      (case hk_beats => k_is)
      (case hq_without => k_is)
      (case hl_without => k_is)
      (case hc_without => k_is)
      (case hk_without => k_is)
      (case hq_one_more => k_is)
      (case hl_one_more => k_is)
      (case hc_one_more => k_is)
      (case hk_one_more => k_is)
      (case hq_Reader_init => k_is)
      (case hi_Reader_init => k_is)
      (case hl_Reader_init => k_is)
      (case hc_Reader_init => k_is)
      (case hk_Reader_init => k_is)
      (case hq_Reader_open_suit => k_is)
      (case hi_Reader_open_suit => k_is)
      (case hl_Reader_open_suit => k_is)
      (case hc_Reader_open_suit => k_is)
      (case hk_Reader_open_suit => k_is)
      (case hq_Reader_take => k_is)
      (case hi_Reader_take => k_is)
      (case hl_Reader_take => k_is)
      (case hc_Reader_take => k_is)
      (case hk_Reader_take => k_is)
      (case hq_Reader_may_end => k_is)
      (case hi_Reader_may_end => k_is)
      (case hl_Reader_may_end => k_is)
      (case hc_Reader_may_end => k_is)
      (case hk_Reader_may_end => k_is)
      (case hq_read_deal => k_is)
      (case hl_read_deal => k_is)
      (case hc_read_deal => k_is)
      (case hk_read_deal => k_is)
      (case hq_refusal_of_hands => k_is)
      (case hl_refusal_of_hands => k_is)
      (case hc_refusal_of_hands => k_is)
      (case hk_refusal_of_hands => k_is)
      (case hq_has_shared_card => k_is)
      (case hl_has_shared_card => k_is)
      (case hc_has_shared_card => k_is)
      (case hk_has_shared_card => k_is)
      (case hq_Trial_init => k_is)
      (case hi_Trial_init => k_is)
      (case hl_Trial_init => k_is)
      (case hc_Trial_init => k_is)
      (case hk_Trial_init => k_is)
      (case hq_Trial_next_position => k_is)
      (case hi_Trial_next_position => k_is)
      (case hl_Trial_next_position => k_is)
      (case hc_Trial_next_position => k_is)
      (case hk_Trial_next_position => k_is)
      (case hq_Trial_hear => k_is)
      (case hi_Trial_hear => k_is)
      (case hl_Trial_hear => k_is)
      (case hc_Trial_hear => k_is)
      (case hk_Trial_hear => k_is)
      (case hq_Search_init => k_is)
      (case hi_Search_init => k_is)
      (case hl_Search_init => k_is)
      (case hc_Search_init => k_is)
      (case hk_Search_init => k_is)
      (case hq_Search_trial_of => k_is)
      (case hi_Search_trial_of => k_is)
      (case hl_Search_trial_of => k_is)
      (case hc_Search_trial_of => k_is)
      (case hk_Search_trial_of => k_is)
      (case hq_Search_keep => k_is)
      (case hi_Search_keep => k_is)
      (case hl_Search_keep => k_is)
      (case hc_Search_keep => k_is)
      (case hk_Search_keep => k_is)
      (case hq_Search_reaches => k_is)
      (case hi_Search_reaches => k_is)
      (case hl_Search_reaches => k_is)
      (case hc_Search_reaches => k_is)
      (case hk_Search_reaches => k_is)
      (case hq_Search_worth => k_is)
      (case hi_Search_worth => k_is)
      (case hl_Search_worth => k_is)
      (case hc_Search_worth => k_is)
      (case hk_Search_worth => k_is)
      (case hq_Search_leaders_worth => k_is)
      (case hi_Search_leaders_worth => k_is)
      (case hl_Search_leaders_worth => k_is)
      (case hc_Search_leaders_worth => k_is)
      (case hk_Search_leaders_worth => k_is)
      (case hq_Search_best_card => k_is)
      (case hi_Search_best_card => k_is)
      (case hl_Search_best_card => k_is)
      (case hc_Search_best_card => k_is)
      (case hk_Search_best_card => k_is)
      (case hq_Search_best_line => k_is)
      (case hi_Search_best_line => k_is)
      (case hl_Search_best_line => k_is)
      (case hc_Search_best_line => k_is)
      (case hk_Search_best_line => k_is)
      (case hq_key_of => k_is)
      (case hl_key_of => k_is)
      (case hc_key_of => k_is)
      (case hk_key_of => k_is)
      (case hq_best_play => k_is)
      (case hl_best_play => k_is)
      (case hc_best_play => k_is)
      (case hk_best_play => k_is)
      (case hq_best => k_is)
      (case hl_best => k_is)
      (case hc_best => k_is)
      (case hk_best => k_is)
      (case hq_may_lead => k_is)
      (case hl_may_lead => k_is)
      (case hc_may_lead => k_is)
      (case hk_may_lead => k_is)
      (case hq_refusal_to_search => k_is)
      (case hl_refusal_to_search => k_is)
      (case hc_refusal_to_search => k_is)
      (case hk_refusal_to_search => k_is)
    obtain ⟨A, T⟩ := T
    have e := hmg.symm.trans T.m_best
    cases e
    exact ⟨_, T.b_best, fun base _ _ => Fh.ok_best T⟩
#print axioms PySem.Challenge.cw_fourhands_s05_best_holds

