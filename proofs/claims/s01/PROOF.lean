import PyProof.Rows.All
import Wide.All
import OpenK.AllK
import Wide.FinOn
import PyProof.EqAt
import PyProof.EqKinds
import PyProof.TupleCall
import KE.BitLaws
import PyRd09
import PyFlatLaws
import KE.OsGo
import Open.SpecLaws
import PySem.Challenge.RW_ruleturn_s01_answers
set_option Elab.async false
set_option linter.all false
set_option maxRecDepth 100000
set_option maxHeartbeats 8000000
-- CHANGE: your row's module here, as the last of these rows
/-! THE HAND LAYER, for ints, bools, texts, own classes, lists, tuples, dicts, comprehensions, walks over dicts, enumerate, zip, reversed, texts, calls, loops. Paste it whole ahead of your own text; what your proof does not reach may be deleted. -/
namespace L2
open PySem PySem.Spec PyProof.Rows

/-- a key: an int or a str -/
abbrev Key := Sum Int Str
def keyIs : Key → Value → Bool
  | .inl k, v => Value.isInt k v
  | .inr x, v => Value.isStrOf x v
def keyH (w : World) : Key → Int
  | .inl k => hashInt k
  | .inr x => hashStr w x
theorem keyIs_shape : ∀ {k : Key} {v : Value}, keyIs k v = true → (∃ i t, k = Sum.inl i ∧ v = Value.int i t) ∨ (∃ x t, k = Sum.inr x ∧ v = Value.str x t)
  | .inl i, v, h => by
    obtain ⟨t, e⟩ := Value.isInt_shape (k := i) (v := v) h
    exact .inl ⟨i, t, rfl, e⟩
  | .inr x, v, h => by
    obtain ⟨t, e⟩ := Value.isStrOf_shape (x := x) (v := v) h
    exact .inr ⟨x, t, rfl, e⟩
theorem keyIs_int (i : Int) (t : Tok) : keyIs (.inl i) (.int i t) = true := by simp [keyIs, Value.isInt]
theorem keyIs_str (x : Str) (t : Tok) : keyIs (.inr x) (.str x t) = true := by simp [keyIs, Value.isStrOf]
theorem key_ll (a b : Int) : decide ((Sum.inl a : Key) = Sum.inl b) = (a == b) := by
  by_cases e : a = b
  · subst e; simp
  · have h : ¬ (Sum.inl a : Key) = Sum.inl b := fun q => e (Sum.inl.inj q)
    rw [decide_eq_false h]
    exact (beq_eq_false_iff_ne.mpr e).symm
theorem key_rr (a b : Str) : decide ((Sum.inr a : Key) = Sum.inr b) = decide (a = b) := by
  by_cases e : a = b
  · subst e; simp
  · have h : ¬ (Sum.inr a : Key) = Sum.inr b := fun q => e (Sum.inr.inj q)
    rw [decide_eq_false h, decide_eq_false e]
theorem key_lr (a : Int) (b : Str) : decide ((Sum.inl a : Key) = Sum.inr b) = false := decide_eq_false (fun q => nomatch q)
theorem key_rl (a : Str) (b : Int) : decide ((Sum.inr a : Key) = Sum.inl b) = false := decide_eq_false (fun q => nomatch q)

def mixKind (prog : Program) (w : World) : PySem.KeyKind prog w Key where
  is := keyIs
  hash := keyH w
  inj := fun v a b ha hb => by
    rcases keyIs_shape ha with ⟨i, t, rfl, rfl⟩ | ⟨x, t, rfl, rfl⟩
    · rcases keyIs_shape hb with ⟨j, u, rfl, e⟩ | ⟨y, u, rfl, e⟩
      · injection e with e1 _; rw [e1]
      · exact nomatch e
    · rcases keyIs_shape hb with ⟨j, u, rfl, e⟩ | ⟨y, u, rfl, e⟩
      · exact nomatch e
      · injection e with e1 _; rw [e1]
  byValue := fun k v h => by
    rcases keyIs_shape h with ⟨i, t, rfl, rfl⟩ | ⟨x, t, rfl, rfl⟩ <;> rfl
  pyHash := fun hv h => by
    rcases keyIs_shape hv with ⟨i, t, rfl, rfl⟩ | ⟨x, t, rfl, rfl⟩
    · exact wpAny_pyHash_int h
    · exact wpAny_pyHash_str h
  eqBool := fun hu hv h => by
    rcases keyIs_shape hu with ⟨i, t, rfl, rfl⟩ | ⟨x, t, rfl, rfl⟩
    · rcases keyIs_shape hv with ⟨j, u, rfl, rfl⟩ | ⟨y, u, rfl, rfl⟩
      · rw [key_ll] at h; exact wpAny_eqBool_int h
      · rw [key_lr] at h; exact SeqAt.EqAt.int_str i t y u _ _ _ _ h
    · rcases keyIs_shape hv with ⟨j, u, rfl, rfl⟩ | ⟨y, u, rfl, rfl⟩
      · rw [key_rl] at h; exact SeqAt.EqAt.str_int x t j u _ _ _ _ h
      · rw [key_rr] at h; exact wpAny_eqBool_str h
  «strs» := fun k x t v h => by
    rcases keyIs_shape h with ⟨i, u, rfl, e⟩ | ⟨y, u, rfl, e⟩
    · exact nomatch e
    · injection e with e1 _
      subst e1
      cases v <;> rfl

theorem mixKind_int (prog : Program) (w : World) (i : Int) (t : Tok) : (mixKind prog w).is (.inl i) (.int i t) = true := keyIs_int i t
theorem mixKind_str (prog : Program) (w : World) (x : Str) (t : Tok) : (mixKind prog w).is (.inr x) (.str x t) = true := keyIs_str x t
end L2

namespace L2
open PySem PySem.Spec PyProof.Rows

/-- a value, without the heap -/
inductive V where
  | non | bl (b : Bool) | int (i : Int) | str (x : Str) | byt (b : Array UInt8) | flt (b : UInt64) | ref (a : Addr) | ty (n : String) | tok (x : Str) (t : Nat)
  deriving DecidableEq
def V.plain : V → Bool
  | .tok _ _ => false
  | _ => true

def RelV : V → Value → Prop
  | .non, u => u = Value.none
  | .bl b, u => u = Value.bool b
  | .int i, u => ∃ t, u = Value.int i t
  | .str x, u => ∃ t, u = Value.str x t
  | .byt b, u => ∃ t, u = Value.bytes b t
  | .flt b, u => ∃ t, u = Value.float b t
  | .ref a, u => u = Value.ref a
  | .ty n, u => u = Value.type n
  | .tok x t, u => u = Value.str x t

abbrev Vals : List V → List Value → Prop := Paired RelV
theorem Vals.length {xs : List V} {us : List Value} (r : Vals xs us) : xs.length = us.length := Paired.length r
theorem Vals.get : ∀ {xs : List V} {us : List Value} {i : Nat} {x : V}, Vals xs us → xs[i]? = some x → ∃ u, us[i]? = some u ∧ RelV x u
  | _, _, _, _, .nil, e => by simp at e
  | _, _, 0, _, .cons r _, e => by simp at e; subst e; exact ⟨_, rfl, r⟩
  | _, _, i + 1, x, .cons _ t, e => by
    obtain ⟨u, h1, h2⟩ := Vals.get (i := i) (x := x) t (by simpa using e)
    exact ⟨u, by simpa using h1, h2⟩
theorem Vals.set {x : V} {u : Value} (r : RelV x u) : ∀ {xs : List V} {us : List Value} (i : Nat), Vals xs us → Vals (xs.set i x) (us.set i u)
  | _, _, _, .nil => .nil
  | _, _, 0, .cons _ t => .cons r t
  | _, _, i + 1, .cons q t => .cons q (Vals.set r i t)
theorem Vals.append : ∀ {xs ys : List V} {us ws : List Value}, Vals xs us → Vals ys ws → Vals (xs ++ ys) (us ++ ws)
  | _, _, _, _, .nil, s => s
  | _, _, _, _, .cons r t, s => .cons r (Vals.append t s)
theorem Vals.take : ∀ {xs : List V} {us : List Value} (n : Nat), Vals xs us → Vals (xs.take n) (us.take n)
  | _, _, 0, _ => .nil
  | _, _, _ + 1, .nil => .nil
  | _, _, n + 1, .cons r t => .cons r (Vals.take n t)
theorem Vals.drop : ∀ {xs : List V} {us : List Value} (n : Nat), Vals xs us → Vals (xs.drop n) (us.drop n)
  | _, _, 0, r => r
  | _, _, _ + 1, .nil => .nil
  | _, _, n + 1, .cons _ t => Vals.drop n t
theorem Vals.none_of : ∀ {xs : List V} {us : List Value} {i : Nat}, Vals xs us → xs[i]? = none → us[i]? = none := fun {xs us i} r e => by
  have h1 := r.length
  have h2 : xs.length ≤ i := List.getElem?_eq_none_iff.mp e
  exact List.getElem?_eq_none_iff.mpr (by omega)

def RelO : Option V → Option Value → Prop
  | some v, some u => RelV v u
  | none, none => True
  | _, _ => False
def KV {κ : Type} : List (κ × V) → List (κ × Value) → Prop := Paired fun (p : κ × V) (q : κ × Value) => p.1 = q.1 ∧ RelV p.2 q.2

/-- a key of a dict (00_mix): an int or a text -/
def kV : Key → V
  | .inl i => .int i
  | .inr x => .str x

/-- what stands at a tracked address -/
inductive HO where
  /-- a list -/
  | lst (xs : List V)
  /-- a tuple (never changes) -/
  | tup (xs : List V)
  /-- a dict whose keys are ints and texts; one whose keys are tuples of ints and texts (the empty one is both) -/
  | dK (kvs : List (Key × V)) | dT (kvs : List (List Key × V))
  /-- a set of ints: its members, its size -/
  | set (S : Int → Bool) (n : Nat)
  /-- an instance of the class at C, its dict at dx, its attributes -/
  | ins (C dx : Addr) (fs : List (Str × V))
  /-- the dict of the instance at x -/
  | own (x : Addr)
  /-- the dict of an exception -/
  | xd (fs : List (Str × V))
  /-- a bound method, f of x -/
  | met (f x : Addr)
  /-- a range object lo, lo + 1, .. below hi -/
  | rng (lo hi : Int)
  /-- a thing that is known to the object (the script; a dict while a loop walks it): read, never written while it is so -/
  | frz (o : Obj) (u : HO)
  /-- a code object's table -/
  | tbl (ps : Array Value)
  /-- any other thing, by what is true of its one object (a def of one's own: SetO a S n := HO.ext fun h => ..) -/
  | ext (φ : Heap → Prop)

abbrev Hp := Addr → Option HO
def upd (H : Hp) (a : Addr) (o : HO) : Hp := fun b => if b = a then some o else H b
theorem upd_same {H : Hp} {a : Addr} {o : HO} : upd H a o a = some o := by unfold upd; rw [if_pos rfl]
theorem upd_ne {H : Hp} {a b : Addr} {o : HO} (h : b ≠ a) : upd H a o b = H b := by unfold upd; rw [if_neg h]
theorem upd_upd {H : Hp} {a : Addr} {o u : HO} : upd (upd H a o) a u = upd H a u := by
  funext b; unfold upd; split <;> rfl
/-- two objects of different content stand apart -/
theorem ne_of {H : Hp} {a b : Addr} {o u : HO} (h : H a = some o) (h' : H b = some u) (d : o ≠ u) : a ≠ b := by
  intro e; subst e; rw [h] at h'; exact d (Option.some.inj h')
theorem ne_of_none {H : Hp} {a b : Addr} {o : HO} (h : H a = some o) (h' : H b = none) : a ≠ b := by
  intro e; subst e; rw [h] at h'; cases h'

section
variable (P : Program) (w : World)
def ObjOk (H : Hp) (h : Heap) (a : Addr) : HO → Prop
  | .lst xs => xs.length ≤ sizeLine ∧ ∃ (its : List Value) (n : Nat), Vals xs its ∧ h.get? a = some { cls := .type "list", data := .seq its.toArray n }
  | .tup xs => xs.length ≤ sizeLine ∧ ∃ its : List Value, Vals xs its ∧ IsTup h a its.toArray
  | .dK kvs => kvs.length ≤ sizeLine ∧ (a == sysModules) = false ∧ ∃ vs, KV kvs vs ∧ h.DictOf (mixKind P w) a vs
  | .dT kvs => kvs.length ≤ sizeLine ∧ (a == sysModules) = false ∧ ∃ xs : List (List Key × Addr × Value),
      Paired (fun (p : List Key × V) (q : List Key × Addr × Value) => p.1 = q.1 ∧ H q.2.1 = some (.tup (p.1.map kV)) ∧ RelV p.2 q.2.2) kvs xs ∧
      ∃ o es ep, h.get? a = some o ∧ o.ExactDict ∧ o.data = .dict es ep ∧ es.toList = xs.map (entryOfKey (tupleKind (mixKind P w))) ∧ (xs.map (·.1)).Nodup
  | .set S n => h.SetOf (intKind P w) a S n
  | .ins C dx fs => H dx = some (.own a) ∧ fs.length ≤ 1000 ∧ dx ≠ a ∧ h.get? a = some (PySem.W.instObj C dx) ∧
      ∃ mA, h.Ns1 dx mA ∧ (∀ f, RelO (fs.lookup f) (mA f)) ∧ PySem.Within mA (fs.map (·.1))
  | .own _ => ∃ o, h.get? a = some o
  | .xd fs => ∃ mA, h.Ns1 a mA ∧ ∀ f, RelO (fs.lookup f) (mA f)
  | .rng lo hi => ∃ t u v, h.get? a = some { cls := .type "range", data := .fields #[.int lo t, .int hi u, .int 1 v] }
  | .frz o u => h.get? a = some o ∧ ObjOk H h a u
  | .tbl ps => h.get? a = some { cls := .none, data := .fields ps }
  | .met f x => h.get? a = some (PySem.W.methodObj (.ref f) (.ref x))
  | .ext φ => φ h ∧ (∃ o, h.get? a = some o) ∧ ∀ h1 h2 : Heap, φ h1 → (∀ o, h1.get? a = some o → h2.get? a = some o) → φ h2
/-- the abstract heap is held -/
def HOk (H : Hp) (h : Heap) : Prop := ∀ a o, H a = some o → ObjOk P w H h a o
end

section
variable {P : Program} {w : World} {H H' : Hp} {h h' : Heap} {a : Addr} {o : HO}
theorem ObjOk.lt (x : ObjOk P w H h a o) : a < h.objs.size := by
  cases o with
  | lst xs => obtain ⟨_, _, _, _, e⟩ := x; exact Heap.lt_size e
  | tup xs => obtain ⟨_, _, _, p⟩ := x; exact p.lt
  | dK kvs => obtain ⟨_, _, _, _, o, _, _, e, _⟩ := x; exact Heap.lt_size e
  | dT kvs => obtain ⟨_, _, _, _, o, _, _, e, _⟩ := x; exact Heap.lt_size e
  | set S n => obtain ⟨o, _, _, _, e, _⟩ := x; exact Heap.lt_size e
  | ins C dx fs => obtain ⟨_, _, _, e, _⟩ := x; exact Heap.lt_size e
  | own y => obtain ⟨_, e⟩ := x; exact Heap.lt_size e
  | xd fs => obtain ⟨_, ⟨_, _, _, e, _⟩, _⟩ := x; exact Heap.lt_size e
  | rng lo hi => obtain ⟨_, _, _, e⟩ := x; exact Heap.lt_size e
  | frz ob u => obtain ⟨e, _⟩ := x; exact Heap.lt_size e
  | tbl ps => exact Heap.lt_size (show h.get? a = some _ from x)
  | met f y => exact Heap.lt_size (show h.get? a = some _ from x)
  | ext φ => obtain ⟨_, ⟨_, e⟩, _⟩ := x; exact Heap.lt_size e
theorem Paired.mapP {α β : Type} {F G : α → β → Prop} : ∀ {l₁ : List α} {l₂ : List β}, Paired F l₁ l₂ → (∀ a b, F a b → G a b) → Paired G l₁ l₂
  | _, _, .nil, _ => .nil
  | _, _, .cons r t, f => .cons (f _ _ r) (Paired.mapP t f)
/-- what an object's description leans on: its own object, its own dict, the tuples -/
theorem ObjOk.stay (x : ObjOk P w H h a o) (k : ∀ b u, (b = a ∨ H b = some (.own a)) → h.get? b = some u → h'.get? b = some u)
    (ho : ∀ b, H b = some (.own a) → H' b = some (.own a)) (ht : ∀ b xs, H b = some (.tup xs) → H' b = some (.tup xs)) : ObjOk P w H' h' a o := by
  induction o with
  | lst xs => obtain ⟨z, its, n, r, e⟩ := x; exact ⟨z, its, n, r, k _ _ (.inl rfl) e⟩
  | tup xs => obtain ⟨z, its, r, ob, e, c⟩ := x; exact ⟨z, its, r, ob, k _ _ (.inl rfl) e, c⟩
  | dK kvs => obtain ⟨z, y, vs, r, ob, es, ep, e, c⟩ := x; exact ⟨z, y, vs, r, ob, es, ep, k _ _ (.inl rfl) e, c⟩
  | dT kvs =>
    obtain ⟨z, y, xs, r, ob, es, ep, e, c⟩ := x
    exact ⟨z, y, xs, Paired.mapP r fun p q z => ⟨z.1, ht _ _ z.2.1, z.2.2⟩, ob, es, ep, k _ _ (.inl rfl) e, c⟩
  | set S n => obtain ⟨ob, es, ep, t, e, c⟩ := x; exact ⟨ob, es, ep, t, k _ _ (.inl rfl) e, c⟩
  | ins C dx fs =>
    obtain ⟨d, z, ne, e, mA, ⟨od, es, ep, e2, c⟩, r⟩ := x
    exact ⟨ho _ d, z, ne, k _ _ (.inl rfl) e, mA, ⟨od, es, ep, k _ _ (.inr d) e2, c⟩, r⟩
  | own y => obtain ⟨ob, e⟩ := x; exact ⟨ob, k _ _ (.inl rfl) e⟩
  | xd fs => obtain ⟨mA, ⟨od, es, ep, e, c⟩, r⟩ := x; exact ⟨mA, ⟨od, es, ep, k _ _ (.inl rfl) e, c⟩, r⟩
  | rng lo hi => obtain ⟨t, u, v, e⟩ := x; exact ⟨t, u, v, k _ _ (.inl rfl) e⟩
  | frz ob u ih => obtain ⟨e, q⟩ := x; exact ⟨k _ _ (.inl rfl) e, ih q⟩
  | tbl ps =>
    have e : h.get? a = some { cls := .none, data := .fields ps } := x
    show h'.get? a = some { cls := .none, data := .fields ps }
    exact k a _ (.inl rfl) e
  | met f y =>
    have e : h.get? a = some (PySem.W.methodObj (.ref f) (.ref y)) := x
    show h'.get? a = some (PySem.W.methodObj (.ref f) (.ref y))
    exact k a _ (.inl rfl) e
  | ext φ => obtain ⟨p, ⟨o, e⟩, st⟩ := x; exact ⟨st _ _ p fun o q => k _ _ (.inl rfl) q, ⟨o, k _ _ (.inl rfl) e⟩, st⟩
theorem HOk.lt (x : HOk P w H h) (e : H a = some o) : a < h.objs.size := (x a o e).lt
theorem HOk.fresh (x : HOk P w H h) (e : h.objs.size ≤ a) : H a = none := by
  cases q : H a with
  | none => rfl
  | some u => exact absurd (Nat.lt_of_lt_of_le (x.lt q) e) (Nat.lt_irrefl _)
/-- every object of the heap is kept -/
theorem HOk.kept (x : HOk P w H h) (k : ∀ b u, h.get? b = some u → h'.get? b = some u) : HOk P w H h' := fun a o e =>
  (x a o e).stay (fun b u _ q => k b u q) (fun _ q => q) fun _ _ q => q
/-- a new object is laid and tracked -/
theorem HOk.laid (x : HOk P w H h) (k : ∀ b u, h.get? b = some u → h'.get? b = some u) (hp : h.objs.size ≤ a) (new : ObjOk P w (upd H a o) h' a o) : HOk P w (upd H a o) h' := fun b u e => by
  have hn := x.fresh hp
  by_cases hb : b = a
  · subst hb; rw [upd_same] at e; cases e; exact new
  · rw [upd_ne hb] at e
    exact (x b u e).stay (fun c v _ q => k c v q) (fun c q => by rw [upd_ne (ne_of_none q hn)]; exact q) fun c xs q => by rw [upd_ne (ne_of_none q hn)]; exact q
end

/-- what may be read as u: it is u, or a known u -/
def Rd (H : Hp) (a : Addr) (u : HO) : Prop := H a = some u ∨ ∃ o, H a = some (.frz o u)
theorem Rd.of {H : Hp} {a : Addr} {u : HO} (h : H a = some u) : Rd H a u := .inl h
theorem Rd.ok {P : Program} {w : World} {H : Hp} {h : Heap} {a : Addr} {u : HO} (r : Rd H a u) (x : HOk P w H h) : ObjOk P w H h a u := by
  rcases r with r | ⟨o, r⟩
  · exact x a u r
  · obtain ⟨_, q⟩ := x a _ r
    exact q
/-- what may be written -/
def Mut : Option HO → Prop
  | some (.lst _) => True
  | some (.dK _) => True
  | some (.dT _) => True
  | some (.set _ _) => True
  | some (.ins _ _ _) => True
  | some (.ext _) => True
  | _ => False
section
variable {P : Program} {w : World} {H : Hp} {h h' : Heap} {x e : Addr} {o' : HO}
/-- the object at e is changed: x itself, or the dict of the instance x -/
theorem HOk.write (ok : HOk P w H h) (mu : Mut (H x)) (he : e = x ∨ H e = some (.own x)) (k : ∀ b u, b ≠ e → h.get? b = some u → h'.get? b = some u) (heo : ∃ u, h'.get? e = some u)
    (new : ObjOk P w (upd H x o') h' x o') : HOk P w (upd H x o') h' := fun b u q => by
  have nown : ∀ c y, H c = some (.own y) → c ≠ x := fun c y r z => by subst z; rw [r] at mu; exact mu
  have ntup : ∀ c xs, H c = some (.tup xs) → c ≠ x := fun c xs r z => by subst z; rw [r] at mu; exact mu
  by_cases hb : b = x
  · subst hb; rw [upd_same] at q; cases q; exact new
  · rw [upd_ne hb] at q
    by_cases hbe : b = e
    · have q' : H b = some (.own x) := by
        rcases he with z | z
        · exact absurd (hbe.trans z) hb
        · rw [hbe]; exact z
      rw [q] at q'; cases q'
      obtain ⟨v, hv⟩ := heo
      exact ⟨v, by rw [hbe]; exact hv⟩
    · refine (ok b u q).stay (fun c v hc r => k c v ?_ r) (fun c r => by rw [upd_ne (nown c b r)]; exact r) fun c xs r => by rw [upd_ne (ntup c xs r)]; exact r
      rcases hc with rfl | hc
      · exact hbe
      · rintro rfl
        rcases he with z | z
        · exact nown c b hc z
        · rw [hc] at z; cases z; exact hb rfl
end

/-! ### kept unless tracked; of the frames at fs (the callers') the slots may change (an exception that passes writes there); of the records at ex (iterators) nothing is said -/
structure Un (fs ex : List Addr) (H H' : Hp) (h h' : Heap) : Prop where
  keep : ∀ b o, h.get? b = some o → H b = none → b ∉ fs → b ∉ ex → h'.get? b = some o
  slot : ∀ b o, h.get? b = some o → H b = none → b ∈ fs → b ∉ ex → ∃ sl, h'.get? b = some { o with slots := sl }
  free : ∀ b o, h.get? b = some o → H b = none → b ∉ ex → H' b = none
  there : ∀ b o, h.get? b = some o → b ∉ ex → ∃ o', h'.get? b = some o'
  tups : ∀ b xs, H b = some (.tup xs) → H' b = some (.tup xs)
  frzs : ∀ b o u, H b = some (.frz o u) → H' b = some (.frz o u)
  tbls : ∀ b ps, H b = some (.tbl ps) → ∃ more, H' b = some (.tbl (ps ++ more))
section
variable {fs fs' ex ex' : List Addr} {H H1 H2 : Hp} {h h1 h2 h' : Heap} {a x e : Addr} {o : HO}
theorem Un.any (u : Un fs ex H H1 h h1) {b : Addr} {ob : Obj} (q : h.get? b = some ob) (n : H b = none) (hx : b ∉ ex) : ∃ sl, h1.get? b = some { ob with slots := sl } := by
  by_cases hb : b ∈ fs
  · exact u.slot b ob q n hb hx
  · exact ⟨ob.slots, u.keep b ob q n hb hx⟩
theorem Un.trans (a : Un fs ex H H1 h h1) (b : Un fs ex H1 H2 h1 h2) : Un fs ex H H2 h h2 where
  keep := fun c ob q n hc hx => b.keep c ob (a.keep c ob q n hc hx) (a.free c ob q n hx) hc hx
  slot := fun c ob q n hc hx => by
    obtain ⟨sl, e1⟩ := a.slot c ob q n hc hx
    obtain ⟨sl', e2⟩ := b.slot c _ e1 (a.free c ob q n hx) hc hx
    exact ⟨sl', e2⟩
  free := fun c ob q n hx => by
    obtain ⟨o', e1⟩ := a.there c ob q hx
    exact b.free c o' e1 (a.free c ob q n hx) hx
  there := fun c ob q hx => by
    obtain ⟨o', e1⟩ := a.there c ob q hx
    exact b.there c o' e1 hx
  tups := fun c xs q => b.tups c xs (a.tups c xs q)
  frzs := fun c ob xs q => b.frzs c ob xs (a.frzs c ob xs q)
  tbls := fun c ps q => by
    obtain ⟨m1, e1⟩ := a.tbls c ps q
    obtain ⟨m2, e2⟩ := b.tbls c _ e1
    exact ⟨m1 ++ m2, by rw [e2, Array.append_assoc]⟩
theorem Un.kept (k : ∀ b u, h.get? b = some u → h'.get? b = some u) : Un fs ex H H h h' :=
  ⟨fun b ob q _ _ _ => k b ob q, fun b ob q _ _ _ => ⟨ob.slots, k b ob q⟩, fun _ _ _ n _ => n, fun b ob q _ => ⟨ob, k b ob q⟩, fun _ _ q => q, fun _ _ _ q => q, fun _ ps q => ⟨#[], by rw [q]; simp⟩⟩
theorem Un.refl : Un fs ex H H h h := Un.kept fun _ _ q => q
theorem Un.laid (k : ∀ b u, h.get? b = some u → h'.get? b = some u) (hp : h.objs.size ≤ a) (hn : H a = none) : Un fs ex H (upd H a o) h h' where
  keep := fun b u q _ _ _ => k b u q
  slot := fun b u q _ _ _ => ⟨u.slots, k b u q⟩
  free := fun b u q n _ => by rw [upd_ne (Nat.ne_of_lt (Nat.lt_of_lt_of_le (Heap.lt_size q) hp))]; exact n
  there := fun b u q _ => ⟨u, k b u q⟩
  tups := fun b xs q => by rw [upd_ne (ne_of_none q hn)]; exact q
  frzs := fun b u xs q => by rw [upd_ne (ne_of_none q hn)]; exact q
  tbls := fun b ps q => ⟨#[], by rw [upd_ne (ne_of_none q hn), q]; simp⟩
theorem Un.write (mu : Mut (H x)) (he : e = x ∨ H e = some (.own x)) (k : ∀ b u, b ≠ e → h.get? b = some u → h'.get? b = some u) (heo : ∃ u, h'.get? e = some u) : Un fs ex H (upd H x o) h h' := by
  have hx : ∀ b, H b = none → b ≠ x := fun b n z => by subst z; rw [n] at mu; exact mu
  have hb : ∀ b, H b = none → b ≠ e := fun b n z => by
    subst z
    rcases he with r | r
    · exact hx b n r
    · rw [n] at r; cases r
  have hm : ∀ b u, H b = some u → ¬ Mut (some u) → b ≠ x := fun b u q nm z => by subst z; rw [q] at mu; exact nm mu
  refine ⟨fun b u q n _ _ => k b u (hb b n) q, fun b u q n _ _ => ⟨u.slots, k b u (hb b n) q⟩, fun b u q n _ => by rw [upd_ne (hx b n)]; exact n, fun b u q _ => ?_,
    fun b xs q => by rw [upd_ne (hm b _ q fun z => z)]; exact q, fun b u xs q => by rw [upd_ne (hm b _ q fun z => z)]; exact q, fun b ps q => ⟨#[], by rw [upd_ne (hm b _ q fun z => z), q]; simp⟩⟩
  by_cases hbe : b = e
  · subst hbe; exact heo
  · exact ⟨u, k b u hbe q⟩
theorem Un.mono (u : Un fs ex H H1 h h1) (hs : ∀ b ∈ fs, b ∈ fs') (hx : ∀ b ∈ ex, b ∈ ex') : Un fs' ex' H H1 h h1 :=
  ⟨fun b ob q n hb he => u.keep b ob q n (fun z => hb (hs b z)) fun z => he (hx b z), fun _ _ q n _ he => u.any q n fun z => he (hx _ z), fun b ob q n he => u.free b ob q n fun z => he (hx b z), fun b ob q he => u.there b ob q fun z => he (hx b z), u.tups, u.frzs, u.tbls⟩
end

/-! ### the heap without what is tracked -/
def trk (h : Heap) (H : Hp) : List Addr := (List.range h.objs.size).filter fun a => (H a).isSome
def hidT (h : Heap) (H : Hp) : Heap := PySem.W.hideAll h (trk h H)
theorem hidT_size (h : Heap) (H : Hp) : (hidT h H).objs.size = h.objs.size := PySem.W.hideAll_size _ _
theorem hidT_get {h : Heap} {H : Hp} {b : Addr} {o : Obj} (e : h.get? b = some o) (n : H b = none) : (hidT h H).get? b = some o :=
  PySem.W.hideAll_get _ e fun hm => by
    have q : (H b).isSome = true := (List.mem_filter.mp hm).2
    rw [n] at q; simp at q
theorem of_hidT {h : Heap} {H : Hp} {b : Addr} {o : Obj} (e : (hidT h H).get? b = some o) : h.get? b = some o ∧ H b = none := by
  have e' : h.get? b = some o := PySem.W.of_hideAll (trk h H) e
  refine ⟨e', ?_⟩
  cases q : H b with
  | none => rfl
  | some x =>
    have hm : b ∈ trk h H := List.mem_filter.mpr ⟨List.mem_range.mpr (Heap.lt_size e'), by simp [q]⟩
    have z : (hidT h H).get? b = none := PySem.W.hideAll_none (trk h H) hm
    rw [z] at e; cases e

/-! ### OpenK's ledger, filled with every new object but one -/
def allNews (g h : Heap) (L : Addr) : List (Addr × Obj) := (List.range h.objs.size).filterMap fun a => if a = L ∨ (g.get? a).isSome = true then none else (h.get? a).map fun o => (a, o)
def rest (g h : Heap) (L d : Addr) : List (Addr × Obj) := (allNews g h L).filter fun p => decide (p.1 ≠ d)
end L2

namespace L2
open PySem PySem.Spec PyProof.Rows

/-- the module's facts, over the base: the heap at the law's entry without what is tracked there -/
structure Mod (K : PySem.W.Frag) (mg : Str → Option Value) (base : Heap) : Prop where
  kin : K.In base
  glob : base.Ns mainGlobals mg
  blt : ∃ mb, base.Ns builtinsNs mb ∧ ∀ x : Str, x ≠ "__name__" → mb x = bootBuiltins x
  nolimit : base.NoLimit

/-- the context: a def's body (or a comprehension's block) running. base: fixed through the whole law; s₀, H₀: the entry; outer: the frames whose slots others may change (a def's callers); stack: all frames that run;
   ex: iterators that were made ahead of the entry and are walked here (a comprehension's); fn: the names whose cells were made at the entry (a def: all; a comprehension's block: its own); calm: not within an except suite; pn: pins that every state bears; xe: what is wanted of an exception that leaves the code -/
structure Cx where
  prog : Program
  w : World
  K : PySem.W.Frag
  mg : Str → Option Value
  base : Heap
  A : Around
  N : List Str
  s₀ : Shared
  H₀ : Hp
  env : Env
  outer : List Env
  stack : List Env
  ex : List Addr
  fn : Str → Bool
  calm : Bool
  pn : List (Addr × Obj)
  xe : Value → Shared → Prop
/-- the callers' frames -/
def frs (l : List Env) : List Addr := l.filterMap (·.frame)
abbrev Cx.fs (X : Cx) : List Addr := frs X.outer

def Vis (sc : Scope) (x : Str) : Prop := sc.names.lookup x = some .local ∨ sc.names.lookup x = some .cell ∨ sc.names.lookup x = some .free
def Loc (sc : Scope) (x : Str) : Prop := sc.names.lookup x = some .local ∨ sc.names.lookup x = some .cell
def Look (env : Env) (h : Heap) (m : Str → Option Value) (x : Str) (u : Value) : Prop :=
  (env.kindOf x = some .local ∧ m x = some u) ∨ ((env.kindOf x = some .cell ∨ env.kindOf x = some .free) ∧ ∃ c, env.cells.lookup x = some c ∧ h.IsCell c (some u))

structure Cx.Ok (X : Cx) : Prop where
  mod : Mod X.K X.mg X.base
  kind : X.env.scope.kind = .function
  glob : X.env.globals = mainGlobals
  blt : X.env.builtins = builtinsNs
  above : X.s₀.heap.objs.size ≤ X.env.locals
  inj : ∀ x y c, X.env.cells.lookup x = some c → X.env.cells.lookup y = some c → x = y
  has : ∀ x, (X.env.kindOf x = some .cell ∨ X.env.kindOf x = some .free) → ∃ c, X.env.cells.lookup x = some c
  cab : ∀ x c, X.fn x = true → X.env.cells.lookup x = some c → X.s₀.heap.objs.size ≤ c
  hd : X.calm = true → X.A.handled = none
  frames : X.A.frames = some X.stack
  stk : X.stack = X.outer ∨ (X.stack = X.env :: X.outer ∧ X.env.frame = some X.env.locals)
  exf : ∀ b ∈ X.ex, b ≠ X.env.locals ∧ ∀ x c, X.env.cells.lookup x = some c → c ≠ b
  bs : ∀ b o, X.base.get? b = some o → X.s₀.heap.get? b = some o ∧ X.H₀ b = none
  bsz : X.base.objs.size ≤ X.s₀.heap.objs.size
  noex : ∀ b o, X.base.get? b = some o → b ∉ X.ex
  exfs : ∀ b ∈ X.ex, b ∉ X.fs
  funs : X.s₀.heap.FunFrames X.base X.outer
  frf : ∀ b ∈ X.fs, X.H₀ b = none

structure Inv (X : Cx) (pins : List (Addr × Obj)) (σ : List (Option V)) (H : Hp) (s : Shared) : Prop where
  ok : X.Ok
  os : s.os = X.s₀.os
  bare : AllBare s.gens
  base : Un X.fs X.ex X.H₀ H X.s₀.heap s.heap
  loc : ∃ m, s.heap.Ns X.env.locals m ∧ ∀ (i : Nat) (x : Str) (v : V), X.N[i]? = some x → σ[i]? = some (some v) → Vis X.env.scope x → ∃ u, RelV v u ∧ Look X.env s.heap m x u
  cell : ∀ x c, X.env.cells.lookup x = some c → ∃ v, s.heap.IsCell c v
  free : H X.env.locals = none
  freeC : ∀ x c, X.env.cells.lookup x = some c → H c = none
  pin : ∀ p ∈ X.pn ++ pins, s.heap.get? p.1 = some p.2 ∧ H p.1 = none ∧ p.1 ≠ X.env.locals ∧ p.1 ∉ X.fs ∧ ∀ v, p.2.data ≠ .cell v
  hok : HOk X.prog X.w H s.heap
  len : σ.length = X.N.length

section
variable {X : Cx} {pins : List (Addr × Obj)} {σ : List (Option V)} {H H' : Hp} {s : Shared} {h' : Heap}

theorem Cx.Ok.nofr (ok : X.Ok) {b : Addr} {o : Obj} (e : X.base.get? b = some o) : b ∉ X.fs := fun hb => by
  have := (ok.funs.mem hb).1
  rw [e] at this; cases this
theorem Inv.bs (I : Inv X pins σ H s) : ∀ b o, X.base.get? b = some o → s.heap.get? b = some o ∧ H b = none := fun b o e =>
  ⟨I.base.keep b o (I.ok.bs b o e).1 (I.ok.bs b o e).2 (I.ok.nofr e) (I.ok.noex b o e), I.base.free b o (I.ok.bs b o e).1 (I.ok.bs b o e).2 (I.ok.noex b o e)⟩
theorem Inv.bk (I : Inv X pins σ H s) : ∀ b o, X.base.get? b = some o → s.heap.get? b = some o := fun b o e => (I.bs b o e).1
theorem Inv.mod (I : Inv X pins σ H s) : Mod X.K X.mg X.base := I.ok.mod
theorem Inv.kIn (I : Inv X pins σ H s) : X.K.In s.heap := I.ok.mod.kin.keeps I.bk
theorem Inv.nolimit (I : Inv X pins σ H s) : s.heap.NoLimit := I.ok.mod.nolimit.keeps I.bk
/-- the frame over the base: for OpenK's rules (K.In X.base is I.mod.kin) -/
theorem Inv.fr (I : Inv X pins σ H s) : ∃ m, Fr X.base X.env.locals s.heap m :=
  let ⟨m, hn, _⟩ := I.loc
  ⟨m, hn, I.bk, Nat.le_trans I.ok.bsz I.ok.above⟩
theorem Inv.lt (I : Inv X pins σ H s) : X.env.locals < s.heap.objs.size := let ⟨_, hn, _⟩ := I.loc; hn.lt
theorem Inv.sz (I : Inv X pins σ H s) : X.s₀.heap.objs.size ≤ s.heap.objs.size := Nat.le_trans I.ok.above (Nat.le_of_lt I.lt)
theorem Inv.nofs (I : Inv X pins σ H s) {a : Addr} (h : s.heap.objs.size ≤ a) : a ∉ X.fs := fun hb => by
  obtain ⟨_, o, ho, _⟩ := I.ok.funs.mem hb
  exact absurd (Nat.lt_of_lt_of_le (Heap.lt_size ho) (Nat.le_trans I.sz h)) (Nat.lt_irrefl _)
theorem Inv.cne (I : Inv X pins σ H s) : ∀ x c, X.env.cells.lookup x = some c → c ≠ X.env.locals := fun x c e z => by
  obtain ⟨v, o, ho, hd⟩ := I.cell x c e
  obtain ⟨m, ⟨o', es, ep, ho', hd', _⟩, _⟩ := I.loc
  rw [z, ho'] at ho; cases ho; rw [hd'] at hd; cases hd
theorem Inv.funs (I : Inv X pins σ H s) : s.heap.FunFrames X.base X.outer := by
  have all : ∀ (l : List Env), (∀ b ∈ frs l, b ∈ X.fs) → X.s₀.heap.FunFrames X.base l → s.heap.FunFrames X.base l := by
    intro l
    induction l with
    | nil => intro _ _; trivial
    | cons env r ih =>
      intro hs hl
      obtain ⟨hk, ⟨L, o, hf, hn, ho, hd⟩, hr⟩ := hl
      have hL : L ∈ X.fs := hs L (by unfold frs; rw [List.filterMap_cons, hf]; exact List.mem_cons_self)
      obtain ⟨sl, e⟩ := I.base.slot L o ho (I.ok.frf L hL) hL fun z => I.ok.exfs L z hL
      exact ⟨hk, ⟨L, _, hf, hn, e, hd⟩, ih (fun b hb => hs b (by unfold frs; rw [List.filterMap_cons, hf]; exact List.mem_cons_of_mem _ hb)) hr⟩
  exact all X.outer (fun _ hb => hb) I.ok.funs

/-- the frames that run, for a call -/
theorem Inv.stack (I : Inv X pins σ H s) : s.heap.FunFrames X.base X.stack := by
  rcases I.ok.stk with e | ⟨e, hf⟩
  · rw [e]; exact I.funs
  · rw [e]
    obtain ⟨m, hn, _⟩ := I.loc
    refine .cons (by rw [I.ok.kind]; decide) hf hn ?_ I.funs
    exact Heap.get?_none_of_le (Nat.le_trans I.ok.bsz I.ok.above)
theorem Inv.stkSub (I : Inv X pins σ H s) : ∀ b ∈ frs X.stack, b ∈ X.env.locals :: X.fs := fun b hb => by
  rcases I.ok.stk with e | ⟨e, hf⟩
  · rw [e] at hb; exact List.mem_cons_of_mem _ hb
  · rw [e] at hb
    unfold frs at hb
    rw [List.filterMap_cons, hf] at hb
    exact hb
theorem Inv.stkFree (I : Inv X pins σ H s) : ∀ b ∈ frs X.stack, H b = none := fun b hb => by
  rcases List.mem_cons.mp (I.stkSub b hb) with e | hb
  · rw [e]; exact I.free
  · obtain ⟨_, o, ho, _⟩ := I.ok.funs.mem hb
    exact I.base.free b o ho (I.ok.frf b hb) fun z => I.ok.exfs b z hb

/-- THE STEP: the untracked objects but the frame and the records at ch are kept (the callers' frames up to slots), the frame's map is kept, the new abstract heap is held -/
theorem Inv.step {g' : Array GenState} {t' : Nat} {d' : Drawn} {ch : List Addr} (I : Inv X pins σ H s)
    (hch : ∀ b ∈ ch, (b ∈ X.ex ∨ X.s₀.heap.objs.size ≤ b) ∧ b ≠ X.env.locals ∧ (∀ x c, X.env.cells.lookup x = some c → c ≠ b) ∧ ∀ p ∈ X.pn ++ pins, p.1 ≠ b)
    (keep : ∀ b o, b ≠ X.env.locals → b ∉ X.fs → b ∉ ch → s.heap.get? b = some o → H b = none → h'.get? b = some o)
    (slot : ∀ b o, b ≠ X.env.locals → b ∈ X.fs → b ∉ ch → s.heap.get? b = some o → H b = none → ∃ sl, h'.get? b = some { o with slots := sl }) (free : ∀ b o, b ∉ ch → s.heap.get? b = some o → H b = none → H' b = none)
    (there : ∀ b o, b ∉ ch → s.heap.get? b = some o → ∃ o', h'.get? b = some o')
    (tups : ∀ b xs, H b = some (.tup xs) → H' b = some (.tup xs)) (frzs : ∀ b o u, H b = some (.frz o u) → H' b = some (.frz o u)) (tbls : ∀ b ps, H b = some (.tbl ps) → ∃ more, H' b = some (.tbl (ps ++ more)))
    (ns : ∀ m, s.heap.Ns X.env.locals m → h'.Ns X.env.locals m) (hok : HOk X.prog X.w H' h') (hg : AllBare g') :
    Inv X pins σ H' { s with heap := h', gens := g', drawn := d', toks := t' } := by
  have neL : ∀ b o, X.s₀.heap.get? b = some o → b ≠ X.env.locals := fun b o e => Nat.ne_of_lt (Nat.lt_of_lt_of_le (Heap.lt_size e) I.ok.above)
  have neC : ∀ b o, X.s₀.heap.get? b = some o → b ∉ X.ex → b ∉ ch := fun b o e hx hb => by
    rcases (hch b hb).1 with z | z
    · exact hx z
    · exact absurd (Nat.lt_of_lt_of_le (Heap.lt_size e) z) (Nat.lt_irrefl _)
  have cellK : ∀ x c, X.env.cells.lookup x = some c → ∀ v, s.heap.IsCell c v → h'.IsCell c v := fun x c e v ⟨o, ho, hd⟩ => by
    have nch : c ∉ ch := fun z => (hch c z).2.2.1 x c e rfl
    by_cases hc : c ∈ X.fs
    · obtain ⟨sl, q⟩ := slot c o (I.cne x c e) hc nch ho (I.freeC x c e)
      exact ⟨_, q, hd⟩
    · exact ⟨o, keep c o (I.cne x c e) hc nch ho (I.freeC x c e), hd⟩
  refine ⟨I.ok, I.os, hg, ⟨fun b o e n hb hx => ?_, fun b o e n hb hx => ?_, fun b o e n hx => ?_, fun b o e hx => ?_, fun b xs e => tups b xs (I.base.tups b xs e), fun b o xs e => frzs b o xs (I.base.frzs b o xs e), fun b ps e => ?_⟩, ?_, fun x c e => ?_, ?_, fun x c e => ?_, fun p hp => ?_, hok, I.len⟩
  · exact keep b o (neL b o e) hb (neC b o e hx) (I.base.keep b o e n hb hx) (I.base.free b o e n hx)
  · obtain ⟨sl, e1⟩ := I.base.slot b o e n hb hx
    obtain ⟨sl', e2⟩ := slot b _ (neL b o e) hb (neC b o e hx) e1 (I.base.free b o e n hx)
    exact ⟨sl', e2⟩
  · obtain ⟨o', e1⟩ := I.base.there b o e hx
    exact free b o' (neC b o e hx) e1 (I.base.free b o e n hx)
  · obtain ⟨o', e1⟩ := I.base.there b o e hx
    exact there b o' (neC b o e hx) e1
  · obtain ⟨m1, e1⟩ := I.base.tbls b ps e
    obtain ⟨m2, e2⟩ := tbls b _ e1
    exact ⟨m1 ++ m2, by rw [e2, Array.append_assoc]⟩
  · obtain ⟨m, hn, hl⟩ := I.loc
    refine ⟨m, ns m hn, fun i x v e1 e2 e3 => ?_⟩
    obtain ⟨u, r, l⟩ := hl i x v e1 e2 e3
    refine ⟨u, r, ?_⟩
    rcases l with l | ⟨k, c, e, z⟩
    · exact .inl l
    · exact .inr ⟨k, c, e, cellK x c e _ z⟩
  · obtain ⟨v, z⟩ := I.cell x c e
    exact ⟨v, cellK x c e v z⟩
  · obtain ⟨m, ⟨o, _, _, ho, _⟩, _⟩ := I.loc
    exact free _ o (fun z => (hch _ z).2.1 rfl) ho I.free
  · obtain ⟨v, o, ho, hd⟩ := I.cell x c e
    exact free c o (fun z => (hch c z).2.2.1 x c e rfl) ho (I.freeC x c e)
  · obtain ⟨e, n, ne, nf, d⟩ := I.pin p hp
    have nch : p.1 ∉ ch := fun z => (hch p.1 z).2.2.2 p hp rfl
    exact ⟨keep p.1 p.2 ne nf nch e n, free p.1 p.2 nch e n, ne, nf, d⟩
/-- .. where the frame's own object is kept too -/
theorem Inv.un {t' : Nat} (I : Inv X pins σ H s) (u : Un X.fs [] H H' s.heap h') (hok : HOk X.prog X.w H' h') : Inv X pins σ H' { s with heap := h', toks := t' } := by
  obtain ⟨m, ⟨o, es, ep, ho, r⟩, _⟩ := id I.loc
  obtain ⟨sl, hL⟩ := u.any ho I.free (by simp)
  exact I.step (g' := s.gens) (d' := s.drawn) (ch := []) (fun _ z => nomatch z) (fun b o _ hb _ e n => u.keep b o e n hb (by simp)) (fun b o _ hb _ e n => u.slot b o e n hb (by simp)) (fun b o _ e n => u.free b o e n (by simp)) (fun b o _ e => u.there b o e (by simp)) u.tups u.frzs u.tbls (fun m' hm => by
    obtain ⟨o', es', ep', ho', r'⟩ := hm
    rw [ho] at ho'; cases ho'
    exact ⟨_, es', ep', hL, r'⟩) hok I.bare
/-- behind a call (or a comprehension's block): the slots of this frame may have changed too, the records at ch may have turned -/
theorem Inv.call {g' : Array GenState} {t' : Nat} {d' : Drawn} {ch : List Addr} (I : Inv X pins σ H s) (u : Un (frs X.stack) ch H H' s.heap h') (hok : HOk X.prog X.w H' h') (hg : AllBare g')
    (hch : ∀ b ∈ ch, (b ∈ X.ex ∨ X.s₀.heap.objs.size ≤ b) ∧ b ≠ X.env.locals ∧ (∀ x c, X.env.cells.lookup x = some c → c ≠ b) ∧ ∀ p ∈ X.pn ++ pins, p.1 ≠ b) :
    Inv X pins σ H' { s with heap := h', gens := g', drawn := d', toks := t' } := by
  obtain ⟨m, ⟨o, es, ep, ho, r⟩, _⟩ := id I.loc
  obtain ⟨sl, hL⟩ := u.any ho I.free fun z => (hch _ z).2.1 rfl
  exact I.step (ch := ch) hch (fun b o hL hb hc e n => u.keep b o e n (fun z => (List.mem_cons.mp (I.stkSub b z)).elim hL hb) hc) (fun b o _ _ hc e n => u.any e n hc) (fun b o hc e n => u.free b o e n hc) (fun b o hc e => u.there b o e hc) u.tups u.frzs u.tbls (fun m' hm => by
    obtain ⟨o', es', ep', ho', r'⟩ := hm
    rw [ho] at ho'; cases ho'
    exact ⟨_, es', ep', hL, r'⟩) hok hg
/-- an untracked record of ours (an iterator) has turned -/
theorem Inv.turned {t' : Nat} {it : Addr} (I : Inv X pins σ H s) (k : ∀ b o, b ≠ it → s.heap.get? b = some o → h'.get? b = some o) (hn : H it = none) (hL : it ≠ X.env.locals)
    (h1 : it ∈ X.ex ∨ X.s₀.heap.objs.size ≤ it) (h2 : ∀ x c, X.env.cells.lookup x = some c → c ≠ it) (h3 : ∀ p ∈ X.pn ++ pins, p.1 ≠ it) : Inv X pins σ H { s with heap := h', toks := t' } := by
  have nit : ∀ b u, H b = some u → b ≠ it := fun b u e z => by rw [z, hn] at e; cases e
  refine I.step (g' := s.gens) (d' := s.drawn) (ch := [it]) (fun b hb => ?_) (fun b o _ _ hc e _ => k b o (fun z => hc (by simp [z])) e) (fun b o _ _ hc e _ => ⟨o.slots, k b o (fun z => hc (by simp [z])) e⟩) (fun _ _ _ _ n => n)
    (fun b o hc e => ⟨o, k b o (fun z => hc (by simp [z])) e⟩) (fun _ _ e => e) (fun _ _ _ e => e) (fun b ps e => ⟨#[], by rw [e]; simp⟩) (fun m hm => ?_) (fun b u e => ?_) I.bare
  · have e : b = it := by simpa using hb
    subst e
    exact ⟨h1, hL, h2, h3⟩
  · obtain ⟨o, es, ep, ho, r⟩ := hm
    exact ⟨o, es, ep, k _ o (Ne.symm hL) ho, r⟩
  · refine (I.hok b u e).stay (fun c v hc q => k c v ?_ q) (fun _ q => q) fun _ _ q => q
    rcases hc with z | z
    · rw [z]; exact nit b u e
    · exact nit c _ z
theorem Inv.tok (I : Inv X pins σ H s) (t : Nat) : Inv X pins σ H { s with toks := t } := I.un (h' := s.heap) (t' := t) Un.refl I.hok
/-- all objects kept -/
theorem Inv.kept {t' : Nat} (I : Inv X pins σ H s) (k : ∀ b u, s.heap.get? b = some u → h'.get? b = some u) : Inv X pins σ H { s with heap := h', toks := t' } := I.un (Un.kept k) (I.hok.kept k)
/-- a new object laid and tracked -/
theorem Inv.laid {a : Addr} {o : HO} {t' : Nat} (I : Inv X pins σ H s) (k : ∀ b u, s.heap.get? b = some u → h'.get? b = some u) (hp : s.heap.objs.size ≤ a) (new : ObjOk X.prog X.w (upd H a o) h' a o) :
    Inv X pins σ (upd H a o) { s with heap := h', toks := t' } := I.un (Un.laid k hp (I.hok.fresh hp)) (I.hok.laid k hp new)
/-- an object written -/
theorem Inv.write {x e : Addr} {o : HO} {t' : Nat} (I : Inv X pins σ H s) (mu : Mut (H x)) (he : e = x ∨ H e = some (.own x)) (k : ∀ b u, b ≠ e → s.heap.get? b = some u → h'.get? b = some u) (heo : ∃ u, h'.get? e = some u)
    (new : ObjOk X.prog X.w (upd H x o) h' x o) : Inv X pins σ (upd H x o) { s with heap := h', toks := t' } := I.un (Un.write mu he k heo) (I.hok.write mu he k heo new)
/-- forgetting slots, pins -/
theorem Inv.weak {σ' : List (Option V)} (I : Inv X pins σ H s) (hl : σ'.length = σ.length) (w : ∀ (i : Nat) v, σ'[i]? = some (some v) → σ[i]? = some (some v)) : Inv X pins σ' H s :=
  ⟨I.ok, I.os, I.bare, I.base, let ⟨m, hn, hl'⟩ := I.loc; ⟨m, hn, fun i x v e1 e2 e3 => hl' i x v e1 (w i v e2) e3⟩, I.cell, I.free, I.freeC, I.pin, I.hok, hl.trans I.len⟩
theorem Inv.pins_of {pins' : List (Addr × Obj)} (I : Inv X pins σ H s) (h : ∀ p ∈ pins', s.heap.get? p.1 = some p.2 ∧ H p.1 = none ∧ p.1 ≠ X.env.locals ∧ p.1 ∉ X.fs ∧ ∀ v, p.2.data ≠ .cell v) : Inv X pins' σ H s :=
  ⟨I.ok, I.os, I.bare, I.base, I.loc, I.cell, I.free, I.freeC, fun p hp => (List.mem_append.mp hp).elim (fun z => I.pin p (List.mem_append_left _ z)) (h p), I.hok, I.len⟩

theorem nodup_ix {N : List Str} (hN : N.Nodup) {i j : Nat} {x : Str} (a : N[i]? = some x) (b : N[j]? = some x) : i = j := by
  obtain ⟨h1, e1⟩ := List.getElem?_eq_some_iff.mp a
  obtain ⟨h2, e2⟩ := List.getElem?_eq_some_iff.mp b
  exact (List.getElem_inj hN).mp (e1.trans e2.symm)

/-- a name is stored; what changed -/
theorem store_ok2 {M : Model} {A : Around} {E : Value → Shared → Prop} {i : Nat} {x : Str} {v : V} {u : Value} {Q : Unit → Shared → Prop} (I : Inv X pins σ H s) (hN : X.N.Nodup) (hi : X.N[i]? = some x) (hx : Loc X.env.scope x) (r : RelV v u)
    (h : ∀ s', Inv X pins (σ.set i (some v)) H s' → (∃ a, Heap.SameBut a s.heap s'.heap ∧ (a = X.env.locals ∨ X.env.cells.lookup x = some a)) → Q () s') (hf : X.fn x = true ∨ X.env.scope.names.lookup x = some .local := by first | exact .inl rfl | exact .inr rfl | assumption) : wpAny M A (storeName X.env x u) Q E s := by
  obtain ⟨m, hn, hl⟩ := id I.loc
  have hcls : (X.env.scope.kind == .class || (X.env.scope.kind == .module && X.env.locals != X.env.globals)) = false := by rw [I.ok.kind]; rfl
  have hiσ : i < σ.length := by rw [I.len]; exact (List.getElem?_eq_some_iff.mp hi).1
  have cne := I.cne
  have tracked : ∀ {a : Addr} {h' : Heap}, (∃ o, s.heap.get? a = some o ∧ H a = none) → Heap.SameBut a s.heap h' → HOk X.prog X.w H h' := fun {a h'} ha hs b ob e => by
    obtain ⟨_, _, hfree⟩ := ha
    refine (I.hok b ob e).stay (fun c w' hc q => (hs.2 c ?_).trans q) (fun _ q => q) fun _ _ q => q
    rintro rfl
    rcases hc with rfl | hc
    · rw [hfree] at e; cases e
    · rw [hfree] at hc; cases hc
  rcases hx with hk | hk
  · refine wpAny_storeName_local hk hn (fun h' hn' hs => ?_) hcls
    obtain ⟨oL, _, _, hoL, _⟩ := id hn
    refine h _ ⟨I.ok, I.os, I.bare, ⟨fun b o e n hb hx => ?_, fun b o e n hb hx => ?_, I.base.free, fun b o e hx => ?_, I.base.tups, I.base.frzs, I.base.tbls⟩, ⟨_, hn', fun j y v' e1 e2 e3 => ?_⟩, fun y c e => ?_, I.free, I.freeC, fun p hp => ?_, tracked ⟨oL, hoL, I.free⟩ hs, by simpa using I.len⟩ ⟨_, hs, .inl rfl⟩
    · exact (hs.2 b (Nat.ne_of_lt (Nat.lt_of_lt_of_le (Heap.lt_size e) I.ok.above))).trans (I.base.keep b o e n hb hx)
    · obtain ⟨sl, e1⟩ := I.base.slot b o e n hb hx
      exact ⟨sl, (hs.2 b (Nat.ne_of_lt (Nat.lt_of_lt_of_le (Heap.lt_size e) I.ok.above))).trans e1⟩
    · obtain ⟨o', e1⟩ := I.base.there b o e hx
      exact ⟨o', (hs.2 b (Nat.ne_of_lt (Nat.lt_of_lt_of_le (Heap.lt_size e) I.ok.above))).trans e1⟩
    · by_cases hj : j = i
      · subst hj
        rw [hi] at e1; cases e1
        rw [List.getElem?_set_self hiσ] at e2
        cases e2
        exact ⟨u, r, .inl ⟨hk, by simp⟩⟩
      · rw [List.getElem?_set_ne (Ne.symm hj)] at e2
        obtain ⟨u', r', q⟩ := hl j y v' e1 e2 e3
        refine ⟨u', r', ?_⟩
        rcases q with ⟨k, e⟩ | ⟨k, c, e, z⟩
        · refine .inl ⟨k, ?_⟩
          have : y ≠ x := fun e => hj (nodup_ix hN e1 (e ▸ hi))
          simp [this, e]
        · exact .inr ⟨k, c, e, z.sameBut hs (cne y c e)⟩
    · obtain ⟨w', z⟩ := I.cell y c e
      exact ⟨w', z.sameBut hs (cne y c e)⟩
    · obtain ⟨e, n, ne, nf, d⟩ := I.pin p hp
      exact ⟨(hs.2 p.1 ne).trans e, n, ne, nf, d⟩
  · have hfn : X.fn x = true := by
      rcases hf with z | z
      · exact z
      · rw [z] at hk; cases hk
    obtain ⟨c, hc⟩ := I.ok.has x (.inl hk)
    obtain ⟨w', z⟩ := I.cell x c hc
    refine wpAny_storeName_cell I.ok.kind hk hc z (fun h' hc' hs => ?_)
    obtain ⟨oc, hoc, hocd⟩ := id z
    refine h { s with heap := h' } ⟨I.ok, I.os, I.bare, ⟨fun b o e n hb hx => ?_, fun b o e n hb hx => ?_, I.base.free, fun b o e hx => ?_, I.base.tups, I.base.frzs, I.base.tbls⟩, ⟨m, hn.sameBut hs (Ne.symm (cne x c hc)), fun j y v' e1 e2 e3 => ?_⟩, fun y c' e => ?_, I.free, I.freeC, fun p hp => ?_, tracked ⟨oc, hoc, I.freeC x c hc⟩ hs, by simpa using I.len⟩ ⟨c, hs, .inr hc⟩
    · exact (hs.2 b (Nat.ne_of_lt (Nat.lt_of_lt_of_le (Heap.lt_size e) (I.ok.cab x c hfn hc)))).trans (I.base.keep b o e n hb hx)
    · obtain ⟨sl, e1⟩ := I.base.slot b o e n hb hx
      exact ⟨sl, (hs.2 b (Nat.ne_of_lt (Nat.lt_of_lt_of_le (Heap.lt_size e) (I.ok.cab x c hfn hc)))).trans e1⟩
    · obtain ⟨o', e1⟩ := I.base.there b o e hx
      exact ⟨o', (hs.2 b (Nat.ne_of_lt (Nat.lt_of_lt_of_le (Heap.lt_size e) (I.ok.cab x c hfn hc)))).trans e1⟩
    · by_cases hj : j = i
      · subst hj
        rw [hi] at e1; cases e1
        rw [List.getElem?_set_self hiσ] at e2
        cases e2
        exact ⟨u, r, .inr ⟨.inl hk, c, hc, hc'⟩⟩
      · rw [List.getElem?_set_ne (Ne.symm hj)] at e2
        obtain ⟨u', r', q⟩ := hl j y v' e1 e2 e3
        refine ⟨u', r', ?_⟩
        rcases q with q | ⟨k, c', e, z'⟩
        · exact .inl q
        · refine .inr ⟨k, c', e, z'.sameBut hs ?_⟩
          rintro rfl
          exact hj (nodup_ix hN e1 (I.ok.inj _ _ _ e hc ▸ hi))
    · by_cases hcc : c' = c
      · subst hcc; exact ⟨_, hc'⟩
      · obtain ⟨w2, z2⟩ := I.cell y c' e
        exact ⟨w2, z2.sameBut hs hcc⟩
    · obtain ⟨e, n, ne, nf, d⟩ := I.pin p hp
      refine ⟨(hs.2 p.1 ?_).trans e, n, ne, nf, d⟩
      intro q
      rw [q, hoc] at e
      have q' : oc = p.2 := Option.some.inj e
      exact d w' (by rw [← q']; exact hocd)
theorem store_ok {M : Model} {A : Around} {E : Value → Shared → Prop} {i : Nat} {x : Str} {v : V} {u : Value} {Q : Unit → Shared → Prop} (I : Inv X pins σ H s) (hN : X.N.Nodup) (hi : X.N[i]? = some x) (hx : Loc X.env.scope x) (r : RelV v u)
    (h : ∀ s', Inv X pins (σ.set i (some v)) H s' → Q () s') (hf : X.fn x = true ∨ X.env.scope.names.lookup x = some .local := by first | exact .inl rfl | exact .inr rfl | assumption) : wpAny M A (storeName X.env x u) Q E s :=
  store_ok2 I hN hi hx r (fun s' I' _ => h s' I') hf
/-- behind a call or a block, the state as it is -/
theorem Inv.call' {s' : Shared} {ch : List Addr} (I : Inv X pins σ H s) (ho : s'.os = s.os) (u : Un (frs X.stack) ch H H' s.heap s'.heap) (hok : HOk X.prog X.w H' s'.heap) (hg : AllBare s'.gens)
    (hch : ∀ b ∈ ch, (b ∈ X.ex ∨ X.s₀.heap.objs.size ≤ b) ∧ b ≠ X.env.locals ∧ (∀ x c, X.env.cells.lookup x = some c → c ≠ b) ∧ ∀ p ∈ X.pn ++ pins, p.1 ≠ b) : Inv X pins σ H' s' := by
  obtain ⟨h', g', d', t', o'⟩ := s'
  have e : o' = s.os := ho
  subst e
  exact I.call (g' := g') (t' := t') (d' := d') u hok hg hch
end

/-! ### the judgements -/
/-- an exception: its class, its own dict's address (where it has one), the abstract heap behind it -/
abbrev XK := Value → Option Addr → Hp → Prop
abbrev St := List (Option V)
abbrev VK := V → Hp → Prop
/-- an expression's reading; a test's; an argument list's -/
abbrev TE := St → Hp → VK → Prop
abbrev TT := St → Hp → (Bool → Hp → Prop) → Prop
abbrev TA := St → Hp → (List V → Hp → Prop) → Prop
/-- what is wanted behind a statement -/
structure Ends where
  nx : St → Hp → Prop
  rt : VK
  bk : St → Hp → Prop := fun _ _ => False
  ct : St → Hp → Prop := fun _ _ => False
abbrev TS := Ends → St → Hp → Prop

def EP (X : Cx) (pins : List (Addr × Obj)) (σ : St) (Q : VK) (u : Value) (s' : Shared) : Prop := ∃ v H', Inv X pins σ H' s' ∧ RelV v u ∧ Q v H'
def TP (X : Cx) (pins : List (Addr × Obj)) (σ : St) (Q : Bool → Hp → Prop) (b : Bool) (s' : Shared) : Prop := ∃ H', Inv X pins σ H' s' ∧ Q b H'
def AP (X : Cx) (pins : List (Addr × Obj)) (σ : St) (Q : List V → Hp → Prop) (us : List Value) (s' : Shared) : Prop := ∃ vs H', Inv X pins σ H' s' ∧ Vals vs us ∧ Q vs H'
def SP (X : Cx) (pins : List (Addr × Obj)) (D : Ends) (f : Flow) (s' : Shared) : Prop :=
  match f with
  | .next => ∃ σ' H', Inv X pins σ' H' s' ∧ D.nx σ' H'
  | .brk => ∃ σ' H', Inv X pins σ' H' s' ∧ D.bk σ' H'
  | .cont => ∃ σ' H', Inv X pins σ' H' s' ∧ D.ct σ' H'
  | .ret u => ∃ v σ' H', Inv X pins σ' H' s' ∧ RelV v u ∧ D.rt v H'

def PE (X : Cx) (e : Expr) (t : TE) : Prop :=
  ∀ (pins : List (Addr × Obj)) (s : Shared) (σ : St) (H : Hp) (Q : VK), Inv X pins σ H s → t σ H Q → wpAny (model X.prog X.w) X.A (eval e X.env) (EP X pins σ Q) X.xe s
def PT (X : Cx) (e : Expr) (t : TT) : Prop :=
  ∀ (pins : List (Addr × Obj)) (s : Shared) (σ : St) (H : Hp) (Q : Bool → Hp → Prop), Inv X pins σ H s → t σ H Q → wpAny (model X.prog X.w) X.A (isTrue e X.env (eval e X.env)) (TP X pins σ Q) X.xe s
/-- a test whatever its 'whole' is (and, or) -/
def PW (X : Cx) (e : Expr) (t : TT) : Prop :=
  ∀ (whole : Sem Value) (pins : List (Addr × Obj)) (s : Shared) (σ : St) (H : Hp) (Q : Bool → Hp → Prop), Inv X pins σ H s → t σ H Q → wpAny (model X.prog X.w) X.A (isTrue e X.env whole) (TP X pins σ Q) X.xe s
theorem PW.pt {X : Cx} {e : Expr} {t : TT} (h : PW X e t) : PT X e t := h _
/-- an argument list (no star), from the left -/
def PA (X : Cx) (es : List Expr) (t : TA) : Prop :=
  ∀ (pos : Pos) (pins : List (Addr × Obj)) (s : Shared) (σ : St) (H : Hp) (Q : List V → Hp → Prop), Inv X pins σ H s → t σ H Q → wpAny (model X.prog X.w) X.A (spliced (backTo pos (starEach es X.env))) (AP X pins σ Q) X.xe s
def PS (X : Cx) (st : Stmt) (t : TS) : Prop :=
  ∀ (pins : List (Addr × Obj)) (s : Shared) (σ : St) (H : Hp) (D : Ends), Inv X pins σ H s → t D σ H → wpAny (model X.prog X.w) X.A (exec st X.env) (SP X pins D) X.xe s
def PSs (X : Cx) (st : List Stmt) (t : TS) : Prop :=
  ∀ (pins : List (Addr × Obj)) (s : Shared) (σ : St) (H : Hp) (D : Ends), Inv X pins σ H s → t D σ H → wpAny (model X.prog X.w) X.A (execs st X.env) (SP X pins D) X.xe s
/-- weaken the end -/
theorem thn {α : Type} {t : Sem α} {Q Q' : α → Shared → Prop} {M : Model} {A : Around} {E : Value → Shared → Prop} {s : Shared} (h : wpAny M A t Q E s) (hQ : ∀ a s, Q a s → Q' a s) : wpAny M A t Q' E s := wpAny_mono h hQ fun _ _ x => x
end L2

namespace L2
open PySem PySem.Spec PyProof.Rows
section
variable {X : Cx}

/-! ### names and constants -/
def tVar (i : Nat) : TE := fun σ H Q => ∃ v, σ[i]? = some (some v) ∧ Q v H
def tC (v : V) : TE := fun _ H Q => Q v H
theorem pe_var {i : Nat} {x : Str} {pos : Pos} (hN : X.N[i]? = some x) (hv : Vis X.env.scope x) (hd : (x == ("__debug__" : Str)) = false := by decide) (hcd : (x == ("__classdict__" : Str)) = false := by decide) : PE X (.Name x pos) (tVar i) := by
  intro pins s σ H Q I h
  obtain ⟨v, e, h⟩ := h
  obtain ⟨m, hn, hl⟩ := I.loc
  obtain ⟨u, r, l⟩ := hl i x v hN e hv
  have fin : EP X pins σ Q u s := ⟨v, H, I, r, h⟩
  rcases l with ⟨hk, hm⟩ | ⟨hk, c, hc, hcell⟩
  · exact wpAny_Name (wpAny_loadName_local I.ok.kind hk hn hm fin) hd
  · rcases hk with hk | hk
    · exact wpAny_Name (wpAny_loadName_cell I.ok.kind hk hc hcell fin) hd
    · exact wpAny_Name (wpAny_loadName_free I.ok.kind hk hc hcell fin hcd) hd
theorem pe_int {i j pos} : PE X (.Constant (.int i) j pos) (tC (.int i)) := fun _ _ _ H _ I h => wpAny_Constant_int ⟨.int i, H, I.tok _, ⟨_, rfl⟩, h⟩
theorem pe_bl {b j pos} : PE X (.Constant (.bool b) j pos) (tC (.bl b)) := fun _ _ _ H _ I h => Constant_bool ⟨.bl b, H, I, rfl, h⟩
theorem pe_non {j pos} : PE X (.Constant .none j pos) (tC .non) := fun _ _ _ H _ I h => Constant_none ⟨.non, H, I, rfl, h⟩
theorem pe_str {x j pos} : PE X (.Constant (.str x) j pos) (tC (.str x)) := fun _ _ _ H _ I h => Calls.Constant_str ⟨.str x, H, I.tok _, ⟨_, rfl⟩, h⟩

/-- a global name of the def -/
def Gl (X : Cx) (x : Str) : Prop := X.env.kindOf x = some .globalImplicit
theorem ld_glob {E : Value → Shared → Prop} {pins : List (Addr × Obj)} {s : Shared} {σ : St} {H : Hp} {x : Str} {u : Value} {pos : Pos} {Q : Value → Shared → Prop} (I : Inv X pins σ H s) (hg : Gl X x) (hm : X.mg x = some u) (h : Q u s)
    (hd : (x == ("__debug__" : Str)) = false := by decide) : wpAny (model X.prog X.w) X.A (eval (.Name x pos) X.env) Q E s :=
  Calls.Name_function_global I.ok.kind hg (Calls.loadGlobal_global (by rw [I.ok.glob]; exact I.mod.glob.keeps I.bk) hm h) hd
theorem ld_blt {E : Value → Shared → Prop} {pins : List (Addr × Obj)} {s : Shared} {σ : St} {H : Hp} {x : Str} {u : Value} {pos : Pos} {Q : Value → Shared → Prop} (I : Inv X pins σ H s) (hg : Gl X x) (hm : X.mg x = none) (hv : bootBuiltins x = some u) (h : Q u s)
    (hn : x ≠ "__name__" := by decide) (hd : (x == ("__debug__" : Str)) = false := by decide) : wpAny (model X.prog X.w) X.A (eval (.Name x pos) X.env) Q E s := by
  obtain ⟨mb, h1, h2⟩ := I.mod.blt
  exact Calls.Name_function_global I.ok.kind hg (Calls.loadGlobal_builtin (by rw [I.ok.glob]; exact I.mod.glob.keeps I.bk) hm (by rw [I.ok.blt]; exact h1.keeps I.bk) ((h2 x hn).trans hv) h) hd
/-- a module's constant, a class, a function, as a value -/
theorem pe_glob {x : Str} {v : V} {u : Value} {pos : Pos} (hg : Gl X x) (hm : X.mg x = some u) (r : RelV v u) (hd : (x == ("__debug__" : Str)) = false := by decide) : PE X (.Name x pos) (tC v) :=
  fun _ _ _ H _ I h => ld_glob I hg hm ⟨v, H, I, r, h⟩ hd
/-! ### arithmetic -/
variable {a b : Expr} {ta tb : TE} {pos : Pos}
/-! ### comparisons -/
def PC (X : Cx) (op : CmpOp) (a b : Expr) (t : TE) : Prop :=
  ∀ (pins : List (Addr × Obj)) (s : Shared) (σ : St) (H : Hp) (Q : VK), Inv X pins σ H s → t σ H Q →
    wpAny (model X.prog X.w) X.A (eval a X.env) (fun v s₁ => wpAny (model X.prog X.w) X.A (eval b X.env) (fun u s₂ => wpAny (model X.prog X.w) X.A (compareOp op v u) (EP X pins σ Q) X.xe s₂) X.xe s₁) X.xe s
theorem nobehind (b : Expr) {op : CmpOp} (h : op ≠ .In) (h2 : op ≠ .NotIn) : behindInMarks op b = false := by
  have e1 : (op == CmpOp.In) = false := by cases op <;> first | rfl | exact absurd rfl h
  have e2 : (op == CmpOp.NotIn) = false := by cases op <;> first | rfl | exact absurd rfl h2
  cases b <;> simp [behindInMarks, e1, e2]
/-- a comparison as a value, as a test -/
def tB (t : TE) : TT := fun σ H Q => t σ H fun x H1 => ∃ c, x = .bl c ∧ Q c H1
theorem pt_cmp {op : CmpOp} {t : TE} (h : PC X op a b t) (h1 : behindInMarks op b = false := by first | exact nobehind _ (by decide) (by decide) | rfl) : PT X (.Compare a [op] [b] pos) (tB t) := by
  intro pins s σ H Q I hw
  refine wpAny_isTrue_Compare1 (thn (h pins s σ H _ I hw) fun v s1 h1 => thn h1 fun u s2 h2 => thn h2 fun c s3 ⟨x, H1, I1, r1, q1⟩ => ?_) h1
  obtain ⟨d, rfl, q⟩ := q1
  cases r1
  exact wpAny_truthy_bool ⟨H1, I1, q⟩
/-- an expression whose value is a bool, as a test -/
theorem pt_val {e : Expr} {t : TE} (h : PE X e t) (he : ∀ whole, isTrue e X.env whole = (do let v ← whole; standAt e.pos; holding [v] (truthy v)) := by intro _; rfl) : PT X e (tB t) := by
  intro pins s σ H Q I hw
  refine isTrue_plain (thn (h pins s σ H _ I hw) fun v s1 ⟨x, H1, I1, r1, q1⟩ => ?_) (he _)
  obtain ⟨d, rfl, q⟩ := q1
  cases r1
  exact wpAny_truthy_bool ⟨H1, I1, q⟩

/-! ### and, or, not -/
variable {tA tB' : TT} {rest : List Expr}
def tAnd (t u : TT) : TT := fun σ H Q => t σ H fun c H1 => if c = true then u σ H1 Q else Q false H1
def tOr (t u : TT) : TT := fun σ H Q => t σ H fun c H1 => if c = true then Q true H1 else u σ H1 Q
def tNot (t : TT) : TT := fun σ H Q => t σ H fun c H1 => Q (!c) H1
theorem pw_and1 (ha : PT X a tA) : PW X (.BoolOp .And [a] pos) tA := by
  intro wh pins s σ H Q I h
  refine isTrue_and (thn (ha pins s σ H Q I h) fun c s1 e => ?_)
  cases c with
  | true => exact isTrue_and_nil e
  | false => exact e
theorem pw_or1 (ha : PT X a tA) : PW X (.BoolOp .Or [a] pos) tA := by
  intro wh pins s σ H Q I h
  refine isTrue_or (thn (ha pins s σ H Q I h) fun c s1 e => ?_)
  cases c with
  | false => exact isTrue_or_nil e
  | true => exact e
theorem pw_and (ha : PT X a tA) (hb : PW X (.BoolOp .And (b :: rest) pos) tB') : PW X (.BoolOp .And (a :: b :: rest) pos) (tAnd tA tB') := by
  intro wh pins s σ H Q I h
  refine isTrue_and (thn (ha pins s σ H _ I h) fun c s1 ⟨H1, I1, q1⟩ => ?_)
  cases c with
  | true => exact hb wh pins s1 σ H1 Q I1 q1
  | false => exact ⟨H1, I1, q1⟩
theorem pw_or (ha : PT X a tA) (hb : PW X (.BoolOp .Or (b :: rest) pos) tB') : PW X (.BoolOp .Or (a :: b :: rest) pos) (tOr tA tB') := by
  intro wh pins s σ H Q I h
  refine isTrue_or (thn (ha pins s σ H _ I h) fun c s1 ⟨H1, I1, q1⟩ => ?_)
  cases c with
  | true => exact ⟨H1, I1, q1⟩
  | false => exact hb wh pins s1 σ H1 Q I1 q1
theorem pt_not (ha : PT X a tA) : PT X (.UnaryOp .Not a pos) (tNot tA) := by
  intro pins s σ H Q I h
  exact isTrue_not (ha pins s σ H (fun c H1 => Q (!c) H1) I h)
def tOrV (ta tb : TE) : TE := fun σ H Q => ta σ H fun x H1 => ∃ c, x = .bl c ∧ if c = true then Q (.bl true) H1 else tb σ H1 Q
theorem pe_one {op} {t : TE} (h : PE X a t) : PE X (.BoolOp op [a] pos) t := fun pins s σ H Q I hw => BoolOp_one (h pins s σ H Q I hw)
theorem pe_or (ha : PE X a ta) (hb : PE X (.BoolOp .Or (b :: rest) pos) tb) : PE X (.BoolOp .Or (a :: b :: rest) pos) (tOrV ta tb) := by
  intro pins s σ H Q I h
  refine BoolOp_or (thn (ha pins s σ H _ I h) fun v s1 ⟨x, H1, I1, r1, q1⟩ => ?_)
  obtain ⟨c, rfl, q1⟩ := q1
  cases r1
  refine wpAny_truthy_bool ?_
  cases c with
  | false => exact hb pins s1 σ H1 Q I1 q1
  | true => exact ⟨.bl true, H1, I1, rfl, q1⟩
/-- a if t else b -/
def tIf (t : TT) (ta tb : TE) : TE := fun σ H Q => t σ H fun c H1 => if c = true then ta σ H1 Q else tb σ H1 Q
theorem pe_ifExp {c : Expr} (hc : PT X c tA) (ha : PE X a ta) (hb : PE X b tb) : PE X (.IfExp c a b pos) (tIf tA ta tb) := by
  intro pins s σ H Q I h
  refine wpAny_IfExp (thn (hc pins s σ H _ I h) fun d s1 ⟨H1, I1, q1⟩ => ?_)
  cases d with
  | true => exact ha pins s1 σ H1 Q I1 q1
  | false => exact hb pins s1 σ H1 Q I1 q1
end
end L2

namespace L2
open PySem PySem.Spec PyProof.Rows

/-! ### a list, a tuple that is read: tracked, frozen, or an object of the module -/
def SqL (K : PySem.W.Frag) (H : Hp) (a : Addr) (xs : List V) : Prop :=
  Rd H a (.lst xs) ∨
    ∃ (o : Obj) (its : Array Value) (n : Nat), K.lookup a = some o ∧ o.cls = .type "list" ∧ o.dict = none ∧ o.data = .seq its n ∧ its.size ≤ sizeLine ∧ Vals xs its.toList ∧ ∀ v ∈ xs, v.plain = true
def SqT (K : PySem.W.Frag) (H : Hp) (a : Addr) (xs : List V) : Prop :=
  Rd H a (.tup xs) ∨
    ∃ (o : Obj) (its : Array Value) (n : Nat), K.lookup a = some o ∧ o.cls = .type "tuple" ∧ o.data = .seq its n ∧ its.size ≤ sizeLine ∧ Vals xs its.toList ∧ ∀ v ∈ xs, v.plain = true
def absV : Value → Option V
  | .none => some .non
  | .bool b => some (.bl b)
  | .int i _ => some (.int i)
  | .str x _ => some (.str x)
  | .bytes b _ => some (.byt b)
  | .float b _ => some (.flt b)
  | .ref a => some (.ref a)
  | .type n => some (.ty n)
  | _ => none
theorem RelV.abs {x : V} {u : Value} (r : RelV x u) (p : x.plain = true) : absV u = some x := by
  cases x with
  | tok _ _ => cases p
  | non => cases r; rfl
  | bl _ => cases r; rfl
  | int _ => obtain ⟨t, rfl⟩ := r; rfl
  | str _ => obtain ⟨t, rfl⟩ := r; rfl
  | byt _ => obtain ⟨t, rfl⟩ := r; rfl
  | flt _ => obtain ⟨t, rfl⟩ := r; rfl
  | ref _ => cases r; rfl
  | ty _ => cases r; rfl
theorem RelV.inj {x y : V} {u : Value} (r : RelV x u) (q : RelV y u) (p : x.plain = true) (p' : y.plain = true) : x = y := Option.some.inj ((r.abs p).symm.trans (q.abs p'))
theorem Vals.inj : ∀ {xs ys : List V} {us : List Value}, Vals xs us → Vals ys us → (∀ v ∈ xs, v.plain = true) → (∀ v ∈ ys, v.plain = true) → xs = ys
  | _, _, _, .nil, .nil, _, _ => rfl
  | _, _, _, .cons r t, .cons r' t', p, p' => by rw [r.inj r' (p _ (List.mem_cons_self)) (p' _ (List.mem_cons_self)), Vals.inj t t' (fun v h => p v (List.mem_cons_of_mem _ h)) (fun v h => p' v (List.mem_cons_of_mem _ h))]
section
variable {X : Cx} {pins : List (Addr × Obj)} {σ : St} {H : Hp} {s : Shared} {a : Addr} {xs ys : List V}
theorem SqL.of {K : PySem.W.Frag} (h : H a = some (.lst xs)) : SqL K H a xs := .inl (.inl h)
theorem SqT.of {K : PySem.W.Frag} (h : H a = some (.tup xs)) : SqT K H a xs := .inl (.inl h)
theorem Inv.list (I : Inv X pins σ H s) (h : SqL X.K H a xs) : ∃ its : List Value, Vals xs its ∧ PlainL s.heap a its.toArray ∧ xs.length ≤ sizeLine := by
  rcases h with h | ⟨o, its, n, hk, hc, hd, hs, hz, r, _⟩
  · obtain ⟨z, its, n, r, e⟩ := h.ok I.hok
    exact ⟨its, r, ⟨_, n, e, rfl, rfl, rfl⟩, z⟩
  · refine ⟨its.toList, r, ⟨o, n, I.kIn a o hk, hc, hd, by simpa using hs⟩, ?_⟩
    have e := r.length
    simp only [Array.length_toList] at e
    omega
theorem Inv.tuple (I : Inv X pins σ H s) (h : SqT X.K H a xs) : ∃ its : List Value, Vals xs its ∧ IsTup s.heap a its.toArray ∧ xs.length ≤ sizeLine := by
  rcases h with h | ⟨o, its, n, hk, hc, hs, hz, r, _⟩
  · obtain ⟨z, its, r, p⟩ := h.ok I.hok
    exact ⟨its, r, p, z⟩
  · refine ⟨its.toList, r, ⟨o, I.kIn a o hk, hc, n, by simpa using hs⟩, ?_⟩
    have e := r.length
    simp only [Array.length_toList] at e
    omega
theorem Inv.kNone (I : Inv X pins σ H s) {o : Obj} (h : X.K.lookup a = some o) : H a = none := (I.bs a o (I.ok.mod.kin a o h)).2
theorem Inv.list_inj (I : Inv X pins σ H s) (h : SqL X.K H a xs) (h' : SqL X.K H a ys) : xs = ys := by
  rcases h with (h | ⟨o, h⟩) | ⟨o, its, n, hk, hc, hd, hs, hz, r, p⟩ <;> rcases h' with (h' | ⟨o', h'⟩) | ⟨o', its', n', hk', hc', hd', hs', hz', r', p'⟩
  · rw [h] at h'; cases h'; rfl
  · rw [h] at h'; cases h'
  · rw [I.kNone hk'] at h; cases h
  · rw [h] at h'; cases h'
  · rw [h] at h'; cases h'; rfl
  · rw [I.kNone hk'] at h; cases h
  · rw [I.kNone hk] at h'; cases h'
  · rw [I.kNone hk] at h'; cases h'
  · rw [hk] at hk'; cases hk'
    rw [hs] at hs'; cases hs'
    exact r.inj r' p p'
end

/-! ### another wish about exceptions -/
abbrev Cx.wish (X : Cx) (E : Value → Shared → Prop) : Cx := { X with xe := E }
/-- no exception leaves -/
abbrev Cx.nox (X : Cx) : Cx := X.wish fun _ _ => False
theorem Cx.Ok.wish {X : Cx} (ok : X.Ok) (E : Value → Shared → Prop) : (X.wish E).Ok :=
  ⟨ok.mod, ok.kind, ok.glob, ok.blt, ok.above, ok.inj, ok.has, ok.cab, ok.hd, ok.frames, ok.stk, ok.exf, ok.bs, ok.bsz, ok.noex, ok.exfs, ok.funs, ok.frf⟩
theorem Cx.Ok.unwish {X : Cx} {E : Value → Shared → Prop} (ok : (X.wish E).Ok) : X.Ok :=
  ⟨ok.mod, ok.kind, ok.glob, ok.blt, ok.above, ok.inj, ok.has, ok.cab, ok.hd, ok.frames, ok.stk, ok.exf, ok.bs, ok.bsz, ok.noex, ok.exfs, ok.funs, ok.frf⟩
section
variable {X : Cx} {pins : List (Addr × Obj)} {σ : St} {H : Hp} {s : Shared} {E : Value → Shared → Prop}
theorem Inv.wish (I : Inv X pins σ H s) (E : Value → Shared → Prop) : Inv (X.wish E) pins σ H s := ⟨I.ok.wish E, I.os, I.bare, I.base, I.loc, I.cell, I.free, I.freeC, I.pin, I.hok, I.len⟩
theorem Inv.unwish (I : Inv (X.wish E) pins σ H s) : Inv X pins σ H s := ⟨I.ok.unwish, I.os, I.bare, I.base, I.loc, I.cell, I.free, I.freeC, I.pin, I.hok, I.len⟩
theorem SP.unwish {D : Ends} {f : Flow} {s' : Shared} (h : SP (X.wish E) pins D f s') : SP X pins D f s' := by
  cases f with
  | next => obtain ⟨σ', H', I, q⟩ := h; exact ⟨σ', H', I.unwish, q⟩
  | brk => obtain ⟨σ', H', I, q⟩ := h; exact ⟨σ', H', I.unwish, q⟩
  | cont => obtain ⟨σ', H', I, q⟩ := h; exact ⟨σ', H', I.unwish, q⟩
  | ret u => obtain ⟨v, σ', H', I, r, q⟩ := h; exact ⟨v, σ', H', I.unwish, r, q⟩
theorem PE.nox {e : Expr} {t : TE} (h : PE X.nox e t) : PE X e t := fun pins s σ H Q I hw =>
  wpAny_mono (h pins s σ H Q (I.wish _) hw) (fun _ _ ⟨v, H', I', r, q⟩ => ⟨v, H', I'.unwish, r, q⟩) fun _ _ z => False.elim z
theorem PT.nox {e : Expr} {t : TT} (h : PT X.nox e t) : PT X e t := fun pins s σ H Q I hw =>
  wpAny_mono (h pins s σ H Q (I.wish _) hw) (fun _ _ ⟨H', I', q⟩ => ⟨H', I'.unwish, q⟩) fun _ _ z => False.elim z
theorem PSs.nox {st : List Stmt} {t : TS} (h : PSs X.nox st t) : PSs X st t := fun pins s σ H D I hw =>
  wpAny_mono (h pins s σ H D (I.wish _) hw) (fun _ _ q => q.unwish) fun _ _ z => False.elim z
end

/-! ### blocks and small statements -/
section
variable {X : Cx} {st : Stmt} {rest : List Stmt} {t u : TS} {e : Expr} {te : TE} {pos : Pos}
def tNext : TS := fun D σ H => D.nx σ H
def tSeq (t u : TS) : TS := fun D σ H => t { D with nx := u D } σ H
theorem pss_nil : PSs X [] tNext := fun _ _ σ H _ I h => wpAny_execs_nil ⟨σ, H, I, h⟩
theorem pss_cons (h1 : PS X st t) (h2 : PSs X rest u) : PSs X (st :: rest) (tSeq t u) := by
  intro pins s σ H D I h
  refine wpAny_execs_cons (thn (h1 pins s σ H { D with nx := u D } I h) fun f s1 q => ?_)
  cases f with
  | next =>
    obtain ⟨σ', H', I', q⟩ := q
    exact h2 pins s1 σ' H' D I' q
  | ret v => exact q
  | brk => exact q
  | cont => exact q
theorem pss_one (h1 : PS X st t) : PSs X [st] t := by
  intro pins s σ H D I h
  refine wpAny_execs_cons (thn (h1 pins s σ H D I h) fun f s1 q => ?_)
  cases f with
  | next => exact wpAny_execs_nil q
  | ret v => exact q
  | brk => exact q
  | cont => exact q
/-- in a def's body nothing is shown -/
theorem Inv.quiet {pins : List (Addr × Obj)} {σ : St} {H : Hp} {s : Shared} (I : Inv X pins σ H s) : interactive X.env = false := by simp [interactive, I.ok.kind]
/-- an expression whose value is dropped -/
def tDrop (te : TE) : TS := fun D σ H => te σ H fun _ H1 => D.nx σ H1
theorem ps_expr (he : PE X e te) (hs : swapsWith e none pos.line X.env = pure false := by rfl) : PS X (.Expr e pos) (tDrop te) := by
  intro pins s σ H D I h
  exact wpAny_Expr_any (thn (he pins s σ H _ I h) fun v s1 ⟨x, H1, I1, r1, q1⟩ => ⟨σ, H1, I1, q1⟩) I.quiet hs
def tRet (te : TE) : TS := fun D σ H => te σ H D.rt
theorem ps_ret (he : PE X e te) : PS X (.Return (some e) pos) (tRet te) := by
  intro pins s σ H D I h
  exact wpAny_Return_some (thn (he pins s σ H _ I h) fun v s1 ⟨x, H1, I1, r1, q1⟩ => ⟨x, σ, H1, I1, r1, q1⟩)
def tIfS (c : TT) (t u : TS) : TS := fun D σ H => c σ H fun b H1 => if b = true then t D σ H1 else u D σ H1
theorem ps_if {c : Expr} {a b : List Stmt} {tc : TT} (hc : PT X c tc) (ha : PSs X a t) (hb : PSs X b u) : PS X (.If c a b pos) (tIfS tc t u) := by
  intro pins s σ H D I h
  refine wpAny_If (thn (hc pins s σ H _ I h) fun d s1 ⟨H1, I1, q1⟩ => ?_)
  cases d with
  | true => exact ha pins s1 σ H1 D I1 q1
  | false => exact hb pins s1 σ H1 D I1 q1
/-- code that the proof never comes to -/
def tNever : TS := fun _ _ _ => False
theorem ps_never : PS X st tNever := fun _ _ _ _ _ _ h => h.elim
theorem pss_never {sts : List Stmt} : PSs X sts tNever := fun _ _ _ _ _ _ h => h.elim
end

/-! ### targets -/
abbrev TG := V → St → Hp → (St → Hp → Prop) → Prop
abbrev TGs := List V → St → Hp → (St → Hp → Prop) → Prop
def PG (X : Cx) (target : Expr) (t : TG) : Prop :=
  ∀ (pins : List (Addr × Obj)) (s : Shared) (σ : St) (H : Hp) (v : V) (u : Value) (Q : St → Hp → Prop), Inv X pins σ H s → RelV v u → t v σ H Q →
    wpAny (model X.prog X.w) X.A (assign target X.env u) (fun _ s' => ∃ σ' H', Inv X pins σ' H' s' ∧ Q σ' H') X.xe s
/-- several targets, one after another -/
def PGs (X : Cx) (ts : List Expr) (t : TGs) : Prop :=
  ∀ (pins : List (Addr × Obj)) (s : Shared) (σ : St) (H : Hp) (vs : List V) (us : List Value) (Q : St → Hp → Prop), Inv X pins σ H s → Vals vs us → t vs σ H Q →
    wpAny (model X.prog X.w) X.A (assignInOrder ((assignEach ts X.env).map (·.2)) us) (fun _ s' => ∃ σ' H', Inv X pins σ' H' s' ∧ Q σ' H') X.xe s
section
variable {X : Cx} {pos : Pos}
def gName (i : Nat) : TG := fun v σ H Q => Q (σ.set i (some v)) H
theorem pg_name {i : Nat} {x : Str} (hN : X.N.Nodup) (hi : X.N[i]? = some x) (hx : Loc X.env.scope x) (hf : X.fn x = true ∨ X.env.scope.names.lookup x = some .local := by first | exact .inl rfl | exact .inr rfl | assumption) : PG X (.Name x pos) (gName i) := by
  intro pins s σ H v u Q I r h
  exact wpAny_assign_Name (store_ok I hN hi hx r (fun s' I' => ⟨_, H, I', h⟩) hf)
def gNil : TGs := fun vs σ H Q => vs = [] ∧ Q σ H
def gCons (t : TG) (u : TGs) : TGs := fun vs σ H Q => ∃ v r, vs = v :: r ∧ t v σ H fun σ' H' => u r σ' H' Q
theorem pgs_nil : PGs X [] gNil := by
  intro pins s σ H vs us Q I r h
  obtain ⟨e, h⟩ := h
  subst e
  cases r
  exact assignInOrder_nil ⟨σ, H, I, h⟩
theorem pgs_cons {e : Expr} {es : List Expr} {t : TG} {u : TGs} (h1 : PG X e t) (h2 : PGs X es u)
    (hs : (assignEach (e :: es) X.env).map (·.2) = assign e X.env :: (assignEach es X.env).map (·.2) := by rfl) : PGs X (e :: es) (gCons t u) := by
  intro pins s σ H vs us Q I r h
  obtain ⟨v, vr, e1, h⟩ := h
  subst e1
  cases r with
  | cons r rr =>
    rw [hs]
    refine assignInOrder_cons (thn (h1 pins s σ H _ _ _ I r h) fun _ s1 ⟨σ1, H1, I1, q1⟩ => ?_)
    exact h2 pins s1 σ1 H1 _ _ Q I1 rr q1
/-- (a, b, ..) = a tuple of that length -/
def gTup (K : PySem.W.Frag) (n : Nat) (t : TGs) : TG := fun v σ H Q => ∃ a xs, v = .ref a ∧ SqT K H a xs ∧ xs.length = n ∧ t xs σ H Q
theorem pg_tup {es : List Expr} {k : Nat} {t : TGs} {n : Nat} (hc : X.calm = true) (h : PGs X es t)
    (hn : (assignEach es X.env).length = n := by rfl) (hst : (assignEach es X.env).findIdx? (·.1) = none := by rfl) : PG X (.Tuple es k pos) (gTup X.K n t) := by
  intro pins s σ H v u Q I r hw
  obtain ⟨a, xs, e1, hq, hl, hw⟩ := hw
  subst e1
  cases r
  obtain ⟨its, rv, ht, hz⟩ := I.tuple hq
  refine assign_Tuple_tuple (I.ok.hd hc) ht (by simp [hn, ← hl, rv.length]) hst fun h' hx => ?_
  have I1 : Inv X pins σ H { s with heap := h' } := I.kept (t' := s.toks) fun b o e => hx b o (Nat.ne_of_lt (Heap.lt_size e)) e
  exact h pins _ σ H xs _ Q I1 (by simpa using rv) hw
/-- target = value -/
def tAsg (te : TE) (g : TG) : TS := fun D σ H => te σ H fun x H1 => g x σ H1 D.nx
/-- name = value -/
theorem ps_set {i : Nat} {x : Str} {e : Expr} {te : TE} {pos' : Pos} (hN : X.N.Nodup) (hi : X.N[i]? = some x) (hx : Loc X.env.scope x) (he : PE X e te) (hs : swapsWith e (some (.Name x pos')) pos.line X.env = pure false := by rfl) (hf : X.fn x = true ∨ X.env.scope.names.lookup x = some .local := by first | exact .inl rfl | exact .inr rfl | assumption) :
    PS X (.Assign [.Name x pos'] e pos) (tAsg te (gName i)) := by
  intro pins s σ H D I h
  refine wpAny_Assign_Name (thn (he pins s σ H _ I h) fun v s1 ⟨y, H1, I1, r1, q1⟩ => ?_) hs
  exact store_ok I1 hN hi hx r1 (fun s2 I2 => ⟨_, H1, I2, q1⟩) hf
end

/-! ### while -/
section
variable {X : Cx} {pos : Pos}
/-- the invariant W with its measure -/
def tWhile (c : TT) (tb : TS) : TS := fun D σ H => ∃ W : Nat → St → Hp → Prop, (∃ m, W m σ H) ∧ ∀ m σ H, W m σ H →
  c σ H fun b H1 => if b = true then ∃ N : St → Hp → Prop, (∀ σ' H', N σ' H' → ∃ m', m' < m ∧ W m' σ' H') ∧ tb { D with nx := N, ct := N, bk := D.nx } σ H1 else D.nx σ H1
theorem ps_while {c : Expr} {body : List Stmt} {tc : TT} {tb : TS} (hp : PassesOwn (model X.prog X.w) X.A X.env X.xe) (hc : PT X c tc) (hb : PSs X body tb) : PS X (.While c body [] pos) (tWhile tc tb) := by
  intro pins s σ H D I h
  obtain ⟨W, ⟨m0, w0⟩, turn⟩ := h
  refine wpAny_While (codeAny_whileLoop (fun n s' => ∃ σ' H', Inv X pins σ' H' s' ∧ W n σ' H') ?_ m0 ⟨σ, H, I, w0⟩)
  rintro n s1 ⟨σ1, H1, I1, w1⟩
  refine wpAny_passesOwn hp (thn (hc pins s1 σ1 H1 _ I1 (turn n σ1 H1 w1)) fun b s2 ⟨H2, I2, q2⟩ => ?_)
  cases b with
  | true =>
    obtain ⟨N, hN, q2⟩ := q2
    rw [if_pos rfl]
    refine wpAny_passesOwn hp (thn (hb pins s2 σ1 H2 _ I2 q2) fun f s3 q3 => ?_)
    cases f with
    | next =>
      obtain ⟨σ3, H3, I3, n3⟩ := q3
      obtain ⟨m', hm, w3⟩ := hN σ3 H3 n3
      exact ⟨m', hm, σ3, H3, I3, w3⟩
    | cont =>
      obtain ⟨σ3, H3, I3, n3⟩ := q3
      obtain ⟨m', hm, w3⟩ := hN σ3 H3 n3
      exact ⟨m', hm, σ3, H3, I3, w3⟩
    | brk => exact q3
    | ret v => exact q3
  | false =>
    rw [if_neg Bool.false_ne_true]
    exact wpAny_execs_nil ⟨σ1, H2, I2, q2⟩
end

/-! ### what a loop or a comprehension walks -/
/-- at turn i: it yields x (the heap may grow), or it stops -/
structure It where
  go : Nat → Hp → Prop
  yld : Nat → Hp → V → Hp → Prop
  stop : Nat → Hp → Prop
/-- the iterator's own objects may turn: they are not the frame's, not pinned, younger than the entry (or a comprehension's own) -/
def FpOk (X : Cx) (pins : List (Addr × Obj)) (H : Hp) (b : Addr) : Prop :=
  H b = none ∧ b ≠ X.env.locals ∧ b ∉ X.fs ∧ (b ∈ X.ex ∨ X.s₀.heap.objs.size ≤ b) ∧ (∀ x c, X.env.cells.lookup x = some c → c ≠ b) ∧ ∀ p ∈ X.pn ++ pins, p.1 ≠ b
theorem Inv.fpOk {X : Cx} {pins : List (Addr × Obj)} {σ : St} {H H' : Hp} {s : Shared} {b : Addr} (I : Inv X pins σ H s) (hb : s.heap.objs.size ≤ b) (hn : H' b = none) : FpOk X pins H' b := by
  refine ⟨hn, Nat.ne_of_gt (Nat.lt_of_lt_of_le I.lt hb), I.nofs hb, .inr (Nat.le_trans I.sz hb), fun x c e z => ?_, fun p hp z => ?_⟩
  · obtain ⟨v, q⟩ := I.cell x c e
    exact absurd (Nat.lt_of_lt_of_le q.lt (by rw [z]; exact hb)) (Nat.lt_irrefl _)
  · exact absurd (Nat.lt_of_lt_of_le (Heap.lt_size (I.pin p hp).1) (by rw [z]; exact hb)) (Nat.lt_irrefl _)
structure Turn (P : Program) (w : World) (K : PySem.W.Frag) (tg : Expr) (J : It) (fp : List Addr) (it : Addr) (tn : Nat → Heap → Prop) : Prop where
  mem : it ∈ fp
  obj : ∀ i h, tn i h → ∀ b ∈ fp, ∃ o, h.get? b = some o ∧ ∀ v, o.data ≠ .cell v
  keep : ∀ i h h', tn i h → (∀ b ∈ fp, ∀ o, h.get? b = some o → h'.get? b = some o) → tn i h'
  item : ∀ (X : Cx), X.prog = P → X.w = w → X.K = K → X.calm = true → ∀ (i : Nat) (pins : List (Addr × Obj)) (s : Shared) (σ : St) (H : Hp) (E : Value → Shared → Prop), Inv X pins σ H s → (∀ b ∈ fp, FpOk X pins H b) → tn i s.heap → J.go i H →
    wpAny (model P w) X.A (pyNext (.ref it)) (fun r s1 => ∃ u, r = some u ∧
      wpAny (model P w) X.A (letOwnedTupleGo tg (.ref it) u) (fun _ s2 => ∃ x H', Inv X pins σ H' s2 ∧ RelV x u ∧ J.yld i H x H' ∧ tn (i + 1) s2.heap ∧ ∀ b ∈ fp, H' b = none) E s1) E s
  done : ∀ (X : Cx), X.prog = P → X.w = w → X.K = K → X.calm = true → ∀ (i : Nat) (pins : List (Addr × Obj)) (s : Shared) (σ : St) (H : Hp) (E : Value → Shared → Prop), Inv X pins σ H s → (∀ b ∈ fp, FpOk X pins H b) → tn i s.heap → J.stop i H →
    wpAny (model P w) X.A (pyNext (.ref it)) (fun r s1 => r = none ∧ Inv X pins σ H s1) E s
  self : ∀ (A : Around) (i : Nat) (s : Shared) (Q : Value → Shared → Prop) (E : Value → Shared → Prop), tn i s.heap → Q (.ref it) s → wpAny (model P w) A (pyIter (.ref it)) Q E s
abbrev TI := St → Hp → (It → Hp → Prop) → Prop
/-- an iterator has come -/
def PIE (X : Cx) (pins : List (Addr × Obj)) (σ : St) (tg : Expr) (R : It → Hp → Prop) (itv : Value) (s2 : Shared) : Prop :=
  ∃ (it : Addr) (fp : List Addr) (tn : Nat → Heap → Prop) (J : It) (H' : Hp), itv = .ref it ∧ Inv X pins σ H' s2 ∧ Turn X.prog X.w X.K tg J fp it tn ∧ tn 0 s2.heap ∧ (∀ b ∈ fp, FpOk X pins H' b) ∧ R J H'
def PI (X : Cx) (tg iter : Expr) (wi : TI) : Prop :=
  ∀ (pins : List (Addr × Obj)) (s : Shared) (σ : St) (H : Hp) (R : It → Hp → Prop), Inv X pins σ H s → wi σ H R →
    wpAny (model X.prog X.w) X.A (eval iter X.env) (fun v s1 => wpAny (model X.prog X.w) X.A (pyIter v) (PIE X pins σ tg R) X.xe s1) X.xe s

/-- the step ahead of the store is nothing for an iterator that keeps no tuple -/
theorem go_of {M : Model} {A : Around} {E : Value → Shared → Prop} {s : Shared} {tg : Expr} {it : Addr} {u : Value} {o : Obj} {n : String} {vs : Array Value} {Q : Unit → Shared → Prop} (ho : s.heap.get? it = some o) (hc : o.cls = .type n) (hd : o.data = .fields vs)
    (hn : ["enumerate", "zip", "dict_itemiterator", "dict_reverseitemiterator", "odict_iterator", "itertools.zip_longest", "itertools.pairwise"].contains n = false) (hQ : Q () s) : wpAny M A (letOwnedTupleGo tg (.ref it) u) Q E s := by
  unfold letOwnedTupleGo
  cases tg <;> first
    | exact wpAny_pure hQ
    | (cases u <;> first
        | exact wpAny_pure hQ
        | (refine wpAny_bind (wpAny_load ho ?_)
           rw [hc, hd]
           show wpAny M A (if (["enumerate", "zip", "dict_itemiterator", "dict_reverseitemiterator", "odict_iterator", "itertools.zip_longest", "itertools.pairwise"].contains n && vs[0]? == some (rawInt _)) = true then _ else _) Q E s
           rw [if_neg (by intro h; rw [hn, Bool.false_and] at h; cases h)]
           exact wpAny_pure hQ))

/-- the list at a, as it stands at each turn (a loop may append to it) -/
def Itl (K : PySem.W.Frag) (a : Addr) : It :=
  ⟨fun i H => ∃ xs x, SqL K H a xs ∧ xs[i]? = some x, fun i H x H' => H' = H ∧ ∀ xs, SqL K H a xs → xs[i]? = some x, fun i H => ∃ xs, SqL K H a xs ∧ xs.length ≤ i⟩
theorem turn_list {P : Program} {w : World} {K : PySem.W.Frag} {tg : Expr} (a it : Addr) : Turn P w K tg (Itl K a) [it] it (fun i h => h.IsListIter it a i) where
  mem := by simp
  obj := fun i h st b hb => by
    have e : b = it := by simpa using hb
    subst e
    obtain ⟨o, e, c, d⟩ := st
    exact ⟨o, e, fun v z => by rw [d] at z; cases z⟩
  keep := fun i h h' st k => st.at fun o e => k it (by simp) o e
  item := by
    intro X hP hw hK hc i pins s σ H E I hf st hg
    subst hP hw hK
    obtain ⟨xs, x, hq, hx⟩ := hg
    obtain ⟨its, rv, p, hz⟩ := I.list hq
    obtain ⟨u, hu, ru⟩ := rv.get hx
    obtain ⟨f0, f1, f2, f3, f4, f5⟩ := hf it (by simp)
    refine wpAny_pyNext_list_item st p.isList (x := u) (by simpa using hu) fun h' st' sb => ?_
    have I1 : Inv X pins σ H { s with heap := h' } := I.turned (t' := s.toks) (fun b o hb e => (sb.2 b hb).trans e) f0 f1 f3 f4 f5
    obtain ⟨o, e, c, d⟩ := id st'
    exact ⟨u, rfl, go_of (s := { s with heap := h' }) e c d (by decide) ⟨x, H, I1, ru, ⟨rfl, fun ys hy => by rw [I.list_inj hy hq]; exact hx⟩, st', fun b hb => (hf b hb).1⟩⟩
  done := by
    intro X hP hw hK hc i pins s σ H E I hf st hg
    subst hP hw hK
    obtain ⟨xs, hq, hx⟩ := hg
    obtain ⟨its, rv, p, hz⟩ := I.list hq
    obtain ⟨f0, f1, f2, f3, f4, f5⟩ := hf it (by simp)
    have hl := rv.length
    exact wpAny_pyNext_list_end (I.ok.hd hc) st p.isList (by simp; omega) fun h' eb => ⟨rfl, I.turned (t' := s.toks) (fun b o hb e => eb b o hb e) f0 f1 f3 f4 f5⟩
  self := fun _ _ _ _ _ st h => wpAny_pyIter_listiter st h
end L2

namespace L2
open PySem PySem.Spec PyProof.Rows
section
variable {X : Cx} {tg : Expr}
def iList (K : PySem.W.Frag) (tl : TE) : TI := fun σ H R => tl σ H fun x H1 => ∃ a, x = .ref a ∧ (∃ xs, SqL K H1 a xs) ∧ R (Itl K a) H1
theorem pi_list {l : Expr} {tl : TE} (hl : PE X l tl) : PI X tg l (iList X.K tl) := by
  intro pins s σ H R I h
  refine thn (hl pins s σ H _ I h) fun v s1 ⟨x, H1, I1, r1, q1⟩ => ?_
  obtain ⟨a, e, ⟨xs, hq⟩, q⟩ := q1
  subst e
  cases r1
  obtain ⟨its, rv, p, hz⟩ := I1.list hq
  refine wpAny_pyIter_list p.isList ?_
  refine ⟨s1.heap.objs.size, [s1.heap.objs.size], _, _, H1, rfl, I1.kept (t' := s1.toks) fun b o e => Heap.get?_push_of_some _ e, turn_list a _, ⟨_, Heap.get?_push_size _ rfl, rfl, rfl⟩, fun b hb => ?_, q⟩
  have e : b = s1.heap.objs.size := by simpa using hb
  subst e
  exact I1.fpOk (Nat.le_refl _) (I1.hok.fresh (Nat.le_refl _))
/-! ### for -/
/-- W: the invariant by the turn and a measure; N: what the body is to reach -/
def tFor (wi : TI) (g : TG) (tb : TS) : TS := fun D σ H => wi σ H fun J H1 => ∃ W : Nat → Nat → St → Hp → Prop, (∃ m, W 0 m σ H1) ∧ ∀ i m σ H, W i m σ H →
  (J.stop i H ∧ D.nx σ H) ∨ (J.go i H ∧ ∃ N : St → Hp → Prop, (∀ σ' H', N σ' H' → ∃ m', m' < m ∧ W (i + 1) m' σ' H') ∧ ∀ x H', J.yld i H x H' → g x σ H' fun σ2 H2 => tb { D with nx := N, ct := N, bk := D.nx } σ2 H2)
/-- the records at fp as they stand -/
def pinsAt (fp : List Addr) (h : Heap) : List (Addr × Obj) := fp.filterMap fun b => (h.get? b).map fun o => (b, o)
theorem mem_pinsAt {fp : List Addr} {h : Heap} {b : Addr} {o : Obj} (hb : b ∈ fp) (e : h.get? b = some o) : (b, o) ∈ pinsAt fp h := List.mem_filterMap.mpr ⟨b, hb, by rw [e]; rfl⟩
theorem of_pinsAt {fp : List Addr} {h : Heap} {p : Addr × Obj} (hp : p ∈ pinsAt fp h) : p.1 ∈ fp ∧ h.get? p.1 = some p.2 := by
  obtain ⟨b, hb, e⟩ := List.mem_filterMap.mp hp
  cases q : h.get? b with
  | none => rw [q] at e; cases e
  | some o =>
    rw [q] at e
    have e' : (b, o) = p := Option.some.inj e
    subst e'
    exact ⟨hb, q⟩
theorem Inv.pinned {pins : List (Addr × Obj)} {σ : St} {H : Hp} {s : Shared} {fp : List Addr} (I : Inv X pins σ H s) (hf : ∀ b ∈ fp, FpOk X pins H b) (ho : ∀ b ∈ fp, ∃ o, s.heap.get? b = some o ∧ ∀ v, o.data ≠ .cell v) : Inv X (pins ++ pinsAt fp s.heap) σ H s :=
  I.pins_of fun p hp => (List.mem_append.mp hp).elim (fun z => I.pin p (List.mem_append_right _ z)) fun z => by
    obtain ⟨hb, e⟩ := of_pinsAt z
    obtain ⟨f0, f1, f2, _⟩ := hf p.1 hb
    obtain ⟨o, e', d⟩ := ho p.1 hb
    rw [e] at e'; cases e'
    exact ⟨e, f0, f1, f2, d⟩
theorem Inv.unpinned {pins pl : List (Addr × Obj)} {σ : St} {H : Hp} {s : Shared} (I : Inv X (pins ++ pl) σ H s) : Inv X pins σ H s := I.pins_of fun p hp => I.pin p (List.mem_append_right _ (List.mem_append_left _ hp))
theorem ps_for {iter : Expr} {body : List Stmt} {wi : TI} {g : TG} {tb : TS} {pos : Pos} (hp : PassesOwn (model X.prog X.w) X.A X.env X.xe) (hc : X.calm = true) (hi : PI X tg iter wi) (hg : PG X tg g) (hb : PSs X body tb)
    (hs : ∀ x, foldedSetIterable iter X.env x = pure x := by intro _; rfl) : PS X (.For tg iter body [] pos) (tFor wi g tb) := by
  intro pins s σ H D I h
  refine wpAny_For (thn (hi pins s σ H _ I h) fun v s1 h1 => thn h1 fun itv s2 h2 => ?_) hs
  obtain ⟨it, fp, tn, J, H2, e, I2, T, st2, f2, W, ⟨m0, w0⟩, turn⟩ := h2
  subst e
  -- what stays true of the iterator's objects through the loop
  have stat : ∀ {H' : Hp}, (∀ b ∈ fp, H' b = none) → ∀ b ∈ fp, FpOk X pins H' b := fun hn b hb => ⟨hn b hb, (f2 b hb).2⟩
  refine codeAny_forLoop_any (fun n s' => ∃ i σ' H', Inv X pins σ' H' s' ∧ tn i s'.heap ∧ (∀ b ∈ fp, H' b = none) ∧ W i n σ' H') ?_ m0 ⟨0, σ, H2, I2, st2, fun b hb => (f2 b hb).1, w0⟩
  rintro n s3 ⟨i, σ3, H3, I3, st3, fr3, w3⟩
  rcases turn i n σ3 H3 w3 with ⟨stop, qn⟩ | ⟨go, N, hN, step⟩
  · refine wpAny_passesOwn hp (thn (T.done X rfl rfl rfl hc i pins s3 σ3 H3 X.xe I3 (stat fr3) st3 stop) fun r s4 ⟨hr, I4⟩ => ?_)
    subst hr
    exact wpAny_execs_nil ⟨σ3, H3, I4, qn⟩
  · refine wpAny_passesOwn hp (thn (T.item X rfl rfl rfl hc i pins s3 σ3 H3 X.xe I3 (stat fr3) st3 go) fun r s4 ⟨u, hr, h4⟩ => ?_)
    subst hr
    refine wpAny_passesOwn hp (thn h4 fun _ s5 ⟨x, H5, I5, r5, y5, st5, fr5⟩ => ?_)
    have I5' := I5.pinned (stat fr5) (T.obj _ _ st5)
    refine wpAny_passesOwn hp (thn (hg _ s5 σ3 H5 x u _ I5' r5 (step x H5 y5)) fun _ s6 ⟨σ6, H6, I6, q6⟩ => ?_)
    refine wpAny_passesOwn hp (thn (hb _ s6 σ6 H6 _ I6 q6) fun f s7 q7 => ?_)
    have again : ∀ {σ7 : St} {H7 : Hp}, Inv X (pins ++ pinsAt fp s5.heap) σ7 H7 s7 → N σ7 H7 → ∃ m, m < n ∧ ∃ i σ' H', Inv X pins σ' H' s7 ∧ tn i s7.heap ∧ (∀ b ∈ fp, H' b = none) ∧ W i m σ' H' := fun {σ7 H7} I7 n7 => by
      obtain ⟨m', hm, w7⟩ := hN σ7 H7 n7
      refine ⟨m', hm, i + 1, σ7, H7, I7.unpinned, T.keep _ _ _ st5 fun b hb o e => (I7.pin (b, o) (List.mem_append_right _ (List.mem_append_right _ (mem_pinsAt hb e)))).1, fun b hb => ?_, w7⟩
      obtain ⟨o, e, d⟩ := T.obj _ _ st5 b hb
      exact (I7.pin (b, o) (List.mem_append_right _ (List.mem_append_right _ (mem_pinsAt hb e)))).2.1
    cases f with
    | next => obtain ⟨σ7, H7, I7, n7⟩ := q7; exact again I7 n7
    | cont => obtain ⟨σ7, H7, I7, n7⟩ := q7; exact again I7 n7
    | brk => obtain ⟨σ7, H7, I7, q7⟩ := q7; exact ⟨σ7, H7, I7.unpinned, q7⟩
    | ret v => obtain ⟨x7, σ7, H7, I7, r7, q7⟩ := q7; exact ⟨x7, σ7, H7, I7.unpinned, r7, q7⟩
end

/-! ### the forms one uses -/
/-- over a list that the body leaves as it is -/
theorem for_list {K : PySem.W.Frag} {a : Addr} {xs : List V} {g : TG} {tb : TS} {D : Ends} {σ : St} {H : Hp} (Pv : Nat → St → Hp → Prop) (h0 : Pv 0 σ H) (hl : ∀ i σ H, i ≤ xs.length → Pv i σ H → SqL K H a xs)
    (hs : ∀ i x σ H, xs[i]? = some x → Pv i σ H → g x σ H fun σ2 H2 => tb { D with nx := Pv (i + 1), ct := Pv (i + 1), bk := D.nx } σ2 H2) (hd : ∀ σ H, Pv xs.length σ H → D.nx σ H) :
    ∃ W : Nat → Nat → St → Hp → Prop, (∃ m, W 0 m σ H) ∧ ∀ i m σ H, W i m σ H →
      ((Itl K a).stop i H ∧ D.nx σ H) ∨ ((Itl K a).go i H ∧ ∃ N : St → Hp → Prop, (∀ σ' H', N σ' H' → ∃ m', m' < m ∧ W (i + 1) m' σ' H') ∧ ∀ x H', (Itl K a).yld i H x H' → g x σ H' fun σ2 H2 => tb { D with nx := N, ct := N, bk := D.nx } σ2 H2) := by
  refine ⟨fun i m σ H => m = xs.length - i ∧ i ≤ xs.length ∧ Pv i σ H, ⟨xs.length, by simp, Nat.zero_le _, h0⟩, ?_⟩
  rintro i m σ H ⟨rfl, hi, p⟩
  have q := hl i σ H hi p
  by_cases hlt : i < xs.length
  · refine .inr ⟨⟨xs, xs[i], q, by simp [hlt]⟩, Pv (i + 1), fun σ' H' p' => ⟨xs.length - (i + 1), by omega, rfl, hlt, p'⟩, fun x H' y => ?_⟩
    obtain ⟨e, y⟩ := y
    subst e
    exact hs i x σ _ (y xs q) p
  · have e : i = xs.length := by omega
    subst e
    exact .inl ⟨⟨xs, q, Nat.le_refl _⟩, hd σ H p⟩
end L2

namespace L2
open PySem PySem.Spec PyProof.Rows

abbrev R2 := V → V → Hp → VK → Prop
/-- a two-place operation on values: f is binaryOp op, inplaceOp op or compareOp op -/
def OpR (X : Cx) (f : Value → Value → Sem Value) (r : R2) : Prop :=
  ∀ (pins : List (Addr × Obj)) (s : Shared) (σ : St) (H : Hp) (x y : V) (v u : Value) (Q : VK), Inv X pins σ H s → RelV x v → RelV y u → r x y H Q →
    wpAny (model X.prog X.w) X.A (f v u) (EP X pins σ Q) X.xe s
/-- a one-place operation -/
def UnR (X : Cx) (f : Value → Sem Value) (r : V → Hp → VK → Prop) : Prop :=
  ∀ (pins : List (Addr × Obj)) (s : Shared) (σ : St) (H : Hp) (x : V) (v : Value) (Q : VK), Inv X pins σ H s → RelV x v → r x H Q →
    wpAny (model X.prog X.w) X.A (f v) (EP X pins σ Q) X.xe s
/-- a call of a value that is known (a builtin, a type) with values -/
def CallR (X : Cx) (f : Value) (r : List V → Hp → VK → Prop) : Prop :=
  ∀ (pins : List (Addr × Obj)) (s : Shared) (σ : St) (H : Hp) (xs : List V) (us : List Value) (Q : VK), Inv X pins σ H s → Vals xs us → r xs H Q →
    wpAny (model X.prog X.w) X.A (call f us) (EP X pins σ Q) X.xe s
def tOp (r : R2) (ta tb : TE) : TE := fun σ H Q => ta σ H fun x H1 => tb σ H1 fun y H2 => r x y H2 Q
def tUn (r : V → Hp → VK → Prop) (ta : TE) : TE := fun σ H Q => ta σ H fun x H1 => r x H1 Q
/-- ints in, under C, and a value out -/
def rI (C : Int → Int → Prop) (g : Int → Int → V) : R2 := fun x y H Q => ∃ i j, x = .int i ∧ y = .int j ∧ C i j ∧ Q (g i j) H
def rI0 (g : Int → Int → V) : R2 := fun x y H Q => ∃ i j, x = .int i ∧ y = .int j ∧ Q (g i j) H
def rU (g : Int → V) : V → Hp → VK → Prop := fun x H Q => ∃ i, x = .int i ∧ Q (g i) H

section
variable {X : Cx} {a b c : Expr} {ta tb tc : TE} {pos : Pos}

theorem binT (ha : PE X a ta) (hb : PE X b tb) {pins : List (Addr × Obj)} {s : Shared} {σ : St} {H : Hp} {R : V → V → Hp → Prop} (I : Inv X pins σ H s)
    (h : ta σ H fun x H1 => tb σ H1 fun y H2 => R x y H2) {Q : Value → Shared → Prop} {f : Value → Value → Sem Value}
    (hf : ∀ v u s2 x y H2, Inv X pins σ H2 s2 → RelV x v → RelV y u → R x y H2 → wpAny (model X.prog X.w) X.A (f v u) Q X.xe s2) :
    wpAny (model X.prog X.w) X.A (eval a X.env) (fun v s₁ => wpAny (model X.prog X.w) X.A (eval b X.env) (fun u s₂ => wpAny (model X.prog X.w) X.A (f v u) Q X.xe s₂) X.xe s₁) X.xe s := by
  refine thn (ha pins s σ H _ I h) fun v s1 ⟨x, H1, I1, r1, q1⟩ => ?_
  refine thn (hb pins s1 σ H1 _ I1 q1) fun u s2 ⟨y, H2, I2, r2, q2⟩ => ?_
  exact hf v u s2 x y H2 I2 r1 r2 q2

theorem pe_op {op : Operator} {r : R2} (ho : OpR X (binaryOp op) r) (ha : PE X a ta) (hb : PE X b tb) : PE X (.BinOp a op b pos) (tOp r ta tb) := by
  intro pins s σ H Q I h
  exact wpAny_BinOp (binT ha hb I h fun v u s2 x y H2 I2 rx ry q => ho pins s2 σ H2 x y v u Q I2 rx ry q)
theorem pe_un {op : UnaryOp} {r : V → Hp → VK → Prop} (ho : UnR X (unaryOp op) r) (ha : PE X a ta) : PE X (.UnaryOp op a pos) (tUn r ta) := by
  intro pins s σ H Q I h
  exact UnaryOp_ (thn (ha pins s σ H _ I h) fun v s1 ⟨x, H1, I1, r1, q1⟩ => ho pins s1 σ H1 x v Q I1 r1 q1)
/-! ### ints -/
theorem opI {f : Value → Value → Sem Value} {C : Int → Int → Prop} {g : Int → Int → Int}
    (rule : ∀ (i j : Int) (t u : Tok) (s : Shared) (Q : Value → Shared → Prop) (E : Value → Shared → Prop), C i j → Q (.int (g i j) s.toks) { s with toks := s.toks + 1 } → wpAny (model X.prog X.w) X.A (f (.int i t) (.int j u)) Q E s) :
    OpR X f (rI C fun i j => .int (g i j)) := by
  intro pins s σ H x y v u Q I rx ry h
  obtain ⟨i, j, rfl, rfl, hc, q⟩ := h
  obtain ⟨t, rfl⟩ := rx
  obtain ⟨t', rfl⟩ := ry
  exact rule i j t t' s _ _ hc ⟨.int (g i j), H, I.tok _, ⟨_, rfl⟩, q⟩
theorem opI0 {f : Value → Value → Sem Value} {g : Int → Int → Int}
    (rule : ∀ (i j : Int) (t u : Tok) (s : Shared) (Q : Value → Shared → Prop) (E : Value → Shared → Prop), Q (.int (g i j) s.toks) { s with toks := s.toks + 1 } → wpAny (model X.prog X.w) X.A (f (.int i t) (.int j u)) Q E s) :
    OpR X f (rI0 fun i j => .int (g i j)) := by
  intro pins s σ H x y v u Q I rx ry h
  obtain ⟨i, j, rfl, rfl, q⟩ := h
  obtain ⟨t, rfl⟩ := rx
  obtain ⟨t', rfl⟩ := ry
  exact rule i j t t' s _ _ ⟨.int (g i j), H, I.tok _, ⟨_, rfl⟩, q⟩
theorem opB0 {f : Value → Value → Sem Value} {g : Int → Int → Bool}
    (rule : ∀ (i j : Int) (t u : Tok) (s : Shared) (Q : Value → Shared → Prop) (E : Value → Shared → Prop), Q (.bool (g i j)) s → wpAny (model X.prog X.w) X.A (f (.int i t) (.int j u)) Q E s) :
    OpR X f (rI0 fun i j => .bl (g i j)) := by
  intro pins s σ H x y v u Q I rx ry h
  obtain ⟨i, j, rfl, rfl, q⟩ := h
  obtain ⟨t, rfl⟩ := rx
  obtain ⟨t', rfl⟩ := ry
  exact rule i j t t' s _ _ ⟨.bl (g i j), H, I, rfl, q⟩

def CDiv (i j : Int) : Prop := 0 < j ∧ j < 1073741824
def CMul (i j : Int) : Prop := (-(2 ^ 64) < i ∧ i < 2 ^ 64) ∨ (-(2 ^ 64) < j ∧ j < 2 ^ 64)
theorem CMul.ok {i j : Int} (h : CMul i j) : IntMulOk i j := by
  rcases h with ⟨h1, h2⟩ | ⟨h1, h2⟩
  · exact .of_left (intBits_le_64 h1 h2)
  · exact .of_right (intBits_le_64 h1 h2)
theorem op_add : OpR X (binaryOp .Add) (rI0 fun i j => .int (i + j)) := opI0 fun _ _ _ _ _ _ _ q => add_int q
theorem op_sub : OpR X (binaryOp .Sub) (rI0 fun i j => .int (i - j)) := opI0 fun _ _ _ _ _ _ _ q => sub_int q
theorem op_mul : OpR X (binaryOp .Mult) (rI CMul fun i j => .int (i * j)) := opI fun _ _ _ _ _ _ _ hc q => mul_int q hc.ok
/-- // by a positive divisor -/
theorem op_fdiv : OpR X (binaryOp .FloorDiv) (rI CDiv fun i j => .int (i / j)) := opI fun i j _ _ _ _ _ hc q => by
  have h1 : (0 : Int) < j := hc.1
  have h2 : j < 1073741824 := hc.2
  exact floordiv_int (by omega) (by rw [Int.fdiv_eq_ediv_of_nonneg i (by omega)]; exact q) (.inl (PyProof.noPylong_small (by omega)))
/-- % by a positive divisor of any size -/
theorem op_mod : OpR X (binaryOp .Mod) (rI (fun _ j => 0 < j) fun i j => .int (i % j)) := opI fun i j _ _ _ _ _ hc q => by
  have h1 : (0 : Int) < j := hc
  exact mod_int' (by omega) (by rw [Int.fmod_eq_emod_of_nonneg i (by omega)]; exact q)
theorem unI {f : Value → Sem Value} {g : Int → Int}
    (rule : ∀ (i : Int) (t : Tok) (s : Shared) (Q : Value → Shared → Prop) (E : Value → Shared → Prop), Q (.int (g i) s.toks) { s with toks := s.toks + 1 } → wpAny (model X.prog X.w) X.A (f (.int i t)) Q E s) :
    UnR X f (rU fun i => .int (g i)) := by
  intro pins s σ H x v Q I rx h
  obtain ⟨i, rfl, q⟩ := h
  obtain ⟨t, rfl⟩ := rx
  exact rule i t s _ _ ⟨.int (g i), H, I.tok _, ⟨_, rfl⟩, q⟩
theorem un_neg : UnR X (unaryOp .USub) (rU fun i => .int (-i)) := unI fun _ _ _ _ _ q => neg_int q
/-! ### bools among ints: n += (a < b) -/
end

/-! ### comparisons -/
/-- the scalars that == tells apart as data does -/
def scal : V → V → Bool
  | .non, .non => true | .non, .int _ => true | .int _, .non => true | .non, .bl _ => true | .bl _, .non => true | .non, .str _ => true | .str _, .non => true
  | .int _, .int _ => true | .bl _, .bl _ => true | .str _, .str _ => true | .byt _, .byt _ => true
  | .int _, .str _ => true | .str _, .int _ => true | .bl _, .str _ => true | .str _, .bl _ => true
  | _, _ => false
def rEq : R2 := fun x y H Q => scal x y = true ∧ Q (.bl (decide (x = y))) H
def rNe : R2 := fun x y H Q => scal x y = true ∧ Q (.bl (!decide (x = y))) H

theorem dec_int {i j : Int} : decide (V.int i = V.int j) = (i == j) := by
  rw [Bool.eq_iff_iff]
  simp
theorem dec_bl {i j : Bool} : decide (V.bl i = V.bl j) = (i == j) := by
  rw [Bool.eq_iff_iff]
  simp
theorem dec_str {i j : Str} : decide (V.str i = V.str j) = (i == j) := by
  rw [Bool.eq_iff_iff]
  simp
theorem dec_byt {i j : Array UInt8} : decide (V.byt i = V.byt j) = (i.toList == j.toList) := by
  rw [Bool.eq_iff_iff]
  cases i
  cases j
  simp

section
variable {X : Cx} {a b c : Expr} {ta tb tc : TE} {pos : Pos}
theorem fin_bl {pins : List (Addr × Obj)} {σ : St} {H : Hp} {s : Shared} {Q : VK} {k k' : Bool} (I : Inv X pins σ H s) (q : Q (.bl k) H) (e : k = k') : EP X pins σ Q (.bool k') s := by
  subst e
  exact ⟨.bl k, H, I, rfl, q⟩
theorem op_eq : OpR X (compareOp .Eq) rEq := by
  intro pins s σ H x y v u Q I rx ry h
  obtain ⟨hs, q⟩ := h
  cases x with
  | non =>
    cases rx
    cases y with
    | non => cases ry; exact PySem.EqNone.eq_none_none (fin_bl I q (by simp))
    | bl j => cases ry; exact PySem.EqNone.eq_none_bool (fin_bl I q (by simp))
    | int j => obtain ⟨t', rfl⟩ := ry; exact PySem.EqNone.eq_none_int (fin_bl I q (by simp))
    | str j => obtain ⟨t', rfl⟩ := ry; exact PySem.EqNone.eq_none_str (fin_bl I q (by simp))
    | _ => exact absurd (show false = true from hs) Bool.false_ne_true
  | bl i =>
    cases rx
    cases y with
    | non => cases ry; exact PySem.EqNone.eq_bool_none (fin_bl I q (by simp))
    | bl j => cases ry; exact eq_bool (fin_bl I q dec_bl)
    | str j => obtain ⟨t', rfl⟩ := ry; exact PySem.EqMixed.eq_bool_str (fin_bl I q (by simp))
    | _ => exact absurd (show false = true from hs) Bool.false_ne_true
  | int i =>
    obtain ⟨t, rfl⟩ := rx
    cases y with
    | non => cases ry; exact PySem.EqNone.eq_int_none (fin_bl I q (by simp))
    | int j => obtain ⟨t', rfl⟩ := ry; exact eq_int (fin_bl I q dec_int)
    | str j => obtain ⟨t', rfl⟩ := ry; exact PySem.EqMixed.eq_int_str (fin_bl I q (by simp))
    | _ => exact absurd (show false = true from hs) Bool.false_ne_true
  | str i =>
    obtain ⟨t, rfl⟩ := rx
    cases y with
    | non => cases ry; exact PySem.EqNone.eq_str_none (fin_bl I q (by simp))
    | bl j => cases ry; exact PySem.EqMixed.eq_str_bool (fin_bl I q (by simp))
    | int j => obtain ⟨t', rfl⟩ := ry; exact PySem.EqMixed.eq_str_int (fin_bl I q (by simp))
    | str j => obtain ⟨t', rfl⟩ := ry; exact eq_str (fin_bl I q dec_str)
    | _ => exact absurd (show false = true from hs) Bool.false_ne_true
  | byt i =>
    obtain ⟨t, rfl⟩ := rx
    cases y with
    | byt j => obtain ⟨t', rfl⟩ := ry; exact PySem.W.eq_bytes (fin_bl I q dec_byt)
    | _ => exact absurd (show false = true from hs) Bool.false_ne_true
  | _ => cases y <;> exact absurd (show false = true from hs) Bool.false_ne_true
theorem op_ne : OpR X (compareOp .NotEq) rNe := by
  intro pins s σ H x y v u Q I rx ry h
  obtain ⟨hs, q⟩ := h
  cases x with
  | non =>
    cases rx
    cases y with
    | non => cases ry; exact PySem.EqNone.ne_none_none (fin_bl I q (by simp))
    | bl j => cases ry; exact PySem.EqNone.ne_none_bool (fin_bl I q (by simp))
    | int j => obtain ⟨t', rfl⟩ := ry; exact PySem.EqNone.ne_none_int (fin_bl I q (by simp))
    | str j => obtain ⟨t', rfl⟩ := ry; exact PySem.EqNone.ne_none_str (fin_bl I q (by simp))
    | _ => exact absurd (show false = true from hs) Bool.false_ne_true
  | bl i =>
    cases rx
    cases y with
    | non => cases ry; exact PySem.EqNone.ne_bool_none (fin_bl I q (by simp))
    | bl j => cases ry; exact ne_bool (fin_bl I q (congrArg not dec_bl))
    | str j => obtain ⟨t', rfl⟩ := ry; exact PySem.EqMixed.ne_bool_str (fin_bl I q (by simp))
    | _ => exact absurd (show false = true from hs) Bool.false_ne_true
  | int i =>
    obtain ⟨t, rfl⟩ := rx
    cases y with
    | non => cases ry; exact PySem.EqNone.ne_int_none (fin_bl I q (by simp))
    | int j => obtain ⟨t', rfl⟩ := ry; exact ne_int (fin_bl I q (congrArg not dec_int))
    | str j => obtain ⟨t', rfl⟩ := ry; exact PySem.EqMixed.ne_int_str (fin_bl I q (by simp))
    | _ => exact absurd (show false = true from hs) Bool.false_ne_true
  | str i =>
    obtain ⟨t, rfl⟩ := rx
    cases y with
    | non => cases ry; exact PySem.EqNone.ne_str_none (fin_bl I q (by simp))
    | bl j => cases ry; exact PySem.EqMixed.ne_str_bool (fin_bl I q (by simp))
    | int j => obtain ⟨t', rfl⟩ := ry; exact PySem.EqMixed.ne_str_int (fin_bl I q (by simp))
    | str j => obtain ⟨t', rfl⟩ := ry; exact ne_str (fin_bl I q (congrArg not dec_str))
    | _ => exact absurd (show false = true from hs) Bool.false_ne_true
  | byt i =>
    obtain ⟨t, rfl⟩ := rx
    cases y with
    | byt j => obtain ⟨t', rfl⟩ := ry; exact PySem.W.ne_bytes (fin_bl I q (congrArg not dec_byt))
    | _ => exact absurd (show false = true from hs) Bool.false_ne_true
  | _ => cases y <;> exact absurd (show false = true from hs) Bool.false_ne_true

theorem op_lt : OpR X (compareOp .Lt) (rI0 fun i j => .bl (decide (i < j))) := opB0 fun _ _ _ _ _ _ _ q => lt_int q
theorem op_gt : OpR X (compareOp .Gt) (rI0 fun i j => .bl (decide (j < i))) := opB0 fun _ _ _ _ _ _ _ q => gt_int q
theorem op_ge : OpR X (compareOp .GtE) (rI0 fun i j => .bl (decide (j ≤ i))) := opB0 fun _ _ _ _ _ _ _ q => ge_int q
/-- the one string within the other -/
theorem op_in_str : OpR X (compareOp .In) (fun x y H Q => ∃ i j, x = .str i ∧ y = .str j ∧ Q (.bl (!(Builtin.Str.occurrences j i 0 j.length 1).isEmpty)) H) := by
  intro pins s σ H x y v u Q I rx ry h
  obtain ⟨i, j, rfl, rfl, q⟩ := h
  obtain ⟨t, rfl⟩ := rx
  obtain ⟨t', rfl⟩ := ry
  exact in_str (fin_bl I q rfl)

/-- is None, is not None: the right side a value none -/
theorem op_isN : OpR X (compareOp .Is) (fun x y H Q => y = .non ∧ Q (.bl (decide (x = .non))) H) := by
  intro pins s σ H x y v u Q I rx ry h
  obtain ⟨rfl, q⟩ := h
  cases ry
  refine is_none_gen (fin_bl I q ?_)
  cases x <;> first
    | (cases rx; rfl)
    | (obtain ⟨t, rfl⟩ := rx; rfl)
theorem op_notN : OpR X (compareOp .IsNot) (fun x y H Q => y = .non ∧ Q (.bl (!decide (x = .non))) H) := by
  intro pins s σ H x y v u Q I rx ry h
  obtain ⟨rfl, q⟩ := h
  cases ry
  refine isnot_none_gen (fin_bl I q ?_)
  cases x <;> first
    | (cases rx; rfl)
    | (obtain ⟨t, rfl⟩ := rx; rfl)

/-- two rules for one operation: by cases -/
theorem OpR.or {f : Value → Value → Sem Value} {r r' : R2} (h : OpR X f r) (h' : OpR X f r') : OpR X f (fun x y H Q => r x y H Q ∨ r' x y H Q) := by
  intro pins s σ H x y v u Q I rx ry q
  rcases q with q | q
  · exact h pins s σ H x y v u Q I rx ry q
  · exact h' pins s σ H x y v u Q I rx ry q

theorem nomark (b : Expr) {op : CmpOp} (h : op ≠ .In := by decide) (h2 : op ≠ .NotIn := by decide) : behindInMarks op b = false := by
  have e1 : (op == CmpOp.In) = false := by cases op <;> first | rfl | exact absurd rfl h
  have e2 : (op == CmpOp.NotIn) = false := by cases op <;> first | rfl | exact absurd rfl h2
  cases b <;> simp [behindInMarks, e1, e2]
/-- a comparison as a value; hm: nomark b, or (for in, not in) by with_unfolding_all rfl -/
theorem pe_cmpR {op : CmpOp} {r : R2} (ho : OpR X (compareOp op) r) (ha : PE X a ta) (hb : PE X b tb) (hm : behindInMarks op b = false) : PE X (.Compare a [op] [b] pos) (tOp r ta tb) := by
  intro pins s σ H Q I h
  exact wpAny_Compare1 (binT ha hb I h fun v u s2 x y H2 I2 rx ry q => ho pins s2 σ H2 x y v u Q I2 rx ry q) hm
/-- a reading of a value as a test -/
def tTest (t : TE) : TT := fun σ H Q => t σ H fun x H' => ∃ k, x = .bl k ∧ Q k H'
theorem pt_cmpR {op : CmpOp} {r : R2} (ho : OpR X (compareOp op) r) (ha : PE X a ta) (hb : PE X b tb) (hm : behindInMarks op b = false) : PT X (.Compare a [op] [b] pos) (tTest (tOp r ta tb)) := by
  intro pins s σ H Q I h
  refine wpAny_isTrue_Compare1 (thn (ha pins s σ H _ I h) fun v s1 ⟨x, H1, I1, r1, q1⟩ => thn (hb pins s1 σ H1 _ I1 q1) fun u s2 ⟨y, H2, I2, r2, q2⟩ =>
    thn (ho pins s2 σ H2 x y v u _ I2 r1 r2 q2) fun c s3 ⟨z, H3, I3, r3, k, e, q3⟩ => ?_) hm
  subst e
  cases r3
  exact wpAny_truthy_bool ⟨H3, I3, q3⟩
/-! ### truth -/
theorem line63 : (sizeLine : Nat) < 2 ^ 63 := by rw [sizeLine_eq]; decide
/-! ### strs and bytes -/
theorem op_add_str : OpR X (binaryOp .Add) (fun x y H Q => ∃ i j, x = .str i ∧ y = .str j ∧ i.length + j.length ≤ sizeLine ∧ Q (.str (i ++ j)) H) := by
  intro pins s σ H x y v u Q I rx ry h
  obtain ⟨i, j, rfl, rfl, hz, q⟩ := h
  obtain ⟨t, rfl⟩ := rx
  obtain ⟨t', rfl⟩ := ry
  exact add_str (fun t' tk => ⟨.str (i ++ j), H, I.tok _, ⟨_, rfl⟩, q⟩) hz
/-! ### scalar builtins, by CallR -/
theorem vals1 {x : V} {us : List Value} (r : Vals [x] us) : ∃ u, us = [u] ∧ RelV x u := by
  cases r with
  | cons r1 r2 => cases r2; exact ⟨_, rfl, r1⟩
theorem vals2 {x y : V} {us : List Value} (r : Vals [x, y] us) : ∃ u w', us = [u, w'] ∧ RelV x u ∧ RelV y w' := by
  cases r with
  | cons r1 r2 =>
    cases r2 with
    | cons r3 r4 => cases r4; exact ⟨_, _, rfl, r1, r3⟩
theorem call_max2 (hc : X.calm = true) : CallR X (.builtin "max") (fun xs H Q => ∃ i j, xs = [.int i, .int j] ∧ Q (.int (if j > i then j else i)) H) := by
  intro pins s σ H xs us Q I r h
  obtain ⟨i, j, rfl, q⟩ := h
  obtain ⟨u, w', rfl, ⟨t, rfl⟩, ⟨t', rfl⟩⟩ := vals2 r
  refine max_two_ints (I.ok.hd hc) fun h' tk k => ⟨_, H, I.kept k, ?_, q⟩
  by_cases hj : j > i
  · rw [if_pos hj, if_pos hj]; exact ⟨_, rfl⟩
  · rw [if_neg hj, if_neg hj]; exact ⟨_, rfl⟩
theorem call_min2 (hc : X.calm = true) : CallR X (.builtin "min") (fun xs H Q => ∃ i j, xs = [.int i, .int j] ∧ Q (.int (if j < i then j else i)) H) := by
  intro pins s σ H xs us Q I r h
  obtain ⟨i, j, rfl, q⟩ := h
  obtain ⟨u, w', rfl, ⟨t, rfl⟩, ⟨t', rfl⟩⟩ := vals2 r
  refine min_two_ints (I.ok.hd hc) fun h' tk k => ⟨_, H, I.kept k, ?_, q⟩
  by_cases hj : j < i
  · rw [if_pos hj, if_pos hj]; exact ⟨_, rfl⟩
  · rw [if_neg hj, if_neg hj]; exact ⟨_, rfl⟩
end
end L2

namespace L2
open PySem PySem.Spec PyProof.Rows

/-! ### an instance, its attributes a map -/
structure ObjM (h : Heap) (x dx C : Addr) (mA : Str → Option Value) : Prop where
  obj : h.get? x = some (PySem.W.instObj C dx)
  ns : h.Ns1 dx mA
  ne : dx ≠ x

theorem lookIn_ns {h : Heap} {dx : Addr} {mA : Str → Option Value} (n : h.Ns1 dx mA) : ∃ od, h.get? dx = some od ∧ ∀ name, PySem.W.lookIn name od = some (mA name) := by
  obtain ⟨o, es, ep, ho, hd, hk, _, hm⟩ := n
  refine ⟨o, ho, fun name => ?_⟩
  have e := hm name
  unfold nsFind findBy at e
  rw [← Array.find?_toList] at e
  unfold PySem.W.lookIn
  rw [hd]
  dsimp only
  split
  · rename_i y q
    rw [q] at e
    exact congrArg some e
  · rename_i q
    rw [q] at e
    have a : es.toList.any (·.refKey) = false := by
      rw [List.any_eq_false]
      intro y hy
      obtain ⟨z, t, hkey⟩ := hk y (Array.mem_toList_iff.mp hy)
      simp [DictEntry.refKey, hkey]
    have a' : ¬ es.toList.any (·.refKey) = true := by rw [a]; exact Bool.false_ne_true
    rw [if_neg a']
    exact congrArg some e

theorem ObjM.look {h : Heap} {x dx C : Addr} {mA : Str → Option Value} (I : ObjM h x dx C mA) : ∃ od, PySem.W.InstAt h x (PySem.W.instObj C dx) C (some od) ∧ ∀ name, PySem.W.lookIn name od = some (mA name) :=
  let ⟨od, ho, hl⟩ := lookIn_ns I.ns
  ⟨od, ⟨I.obj, rfl, rfl, ho⟩, hl⟩

section
variable {prog : Program} {w : World} {A : Around} {E : Value → Shared → Prop} {s : Shared} {K : PySem.W.Frag} {x dx C f : Addr} {mA : Str → Option Value} {name : Str} {v : Value}

theorem get_map {expr : Bool} {Q : Value → Shared → Prop} (X : K.In s.heap) (I : ObjM s.heap x dx C mA) (hg : PySem.W.plainGet K C name = true) (hh : PySem.W.hasDictIn K C = true)
    (ha : PySem.W.findIn K (.ref C) name = some none) (hv : mA name = some v) (hv' : PySem.W.handedIn v = true) (h : Q v { s with toks := s.toks + 1 }) :
    wpAny (model prog w) A (getAttr (.ref x) name expr) Q E s := by
  obtain ⟨od, J, hl⟩ := I.look
  exact PySem.W.get_value X J (PySem.W.plainGet_of hg).1 (PySem.W.findObj_own hh ha rfl (by rw [hl, hv])) hv' h

theorem get_meth {pl : Sem Bool} {Q : Value × List Value → Shared → Prop} (X : K.In s.heap) (I : ObjM s.heap x dx C mA) (hg : PySem.W.plainGet K C name = true)
    (hf : PySem.W.findIn K (.ref C) name = some (some (.ref f))) (ht : PySem.W.isFn K (.ref f) = true) (hv : mA name = none) (h : Q (.ref f, [.ref x]) s) :
    wpAny (model prog w) A (getMethod (.ref x) name pl) Q E s := by
  obtain ⟨od, J, hl⟩ := I.look
  exact PySem.W.method_fn X J (PySem.W.plainGet_of hg).1 (PySem.W.plainGet_of hg).2 hf (beq_iff_eq.mp ht) (by show (PySem.W.lookIn name od).map (·.isSome) = some false; rw [hl, hv]; rfl) h

theorem set_map {ns : List Str} {Q : Unit → Shared → Prop} (X : K.In s.heap) (I : ObjM s.heap x dx C mA)
    (hs : PySem.W.findIn K (.ref C) "__setattr__" = some (some (.builtin "object.__setattr__"))) (hp : PySem.W.plainOver K C = true) (ht : PySem.W.takerIn K C name = some none) (hh : PySem.W.hasDictIn K C = true)
    (hw : PySem.Within mA ns) (hsz : ns.length ≤ sizeLine)
    (h : ∀ h', ObjM h' x dx C (fun y => if y = name then some v else mA y) → Heap.SameBut dx s.heap h' → Q () { s with heap := h', toks := s.toks + 2 }) :
    wpAny (model prog w) A (setAttr (.ref x) name v) Q E s := by
  obtain ⟨od, J, hl⟩ := I.look
  refine PySem.W.set_plain X J hs (PySem.W.osa_open (s := { s with toks := s.toks + 1 }) (r := none) X J hp ht fun b => ?_)
  obtain ⟨cd, hc, hd'⟩ := PySem.W.any_some hh
  have hx : s.heap.get? x = some ⟨.ref C, some dx, .plain, #[]⟩ := I.obj
  refine wpAny_bind (wpAny_pure (wpAny_bind (wpAny_bind (wpAny_loadPart hx (wpAny_bind (PySem.W.Looks.here (s := { s with toks := s.toks + 1 }) (PySem.W.looks_clsIn X hc) ?_))))))
  rw [hd']
  refine wpAny_pure (a := some dx) (wpAny_bind (wpAny_pure (wpAny_bind ?_)))
  refine wpAny_nsSet1 (s := { s with toks := s.toks + 1 }) I.ns fun h' hn2 hs2 => ?_
  obtain ⟨oD, esD, epD, hoD, hdD, hcD⟩ := hn2.count (PySem.Within.cons name v hw)
  refine wpAny_bind (wpAny_lookBehind hoD (by rw [hdD]; exact pastItsLine_dict (Nat.le_trans hcD (by rw [List.length_cons]; omega))) ?_)
  exact wpAny_pure (h _ ⟨(hs2.2 _ (Ne.symm I.ne)).trans I.obj, hn2, I.ne⟩ hs2)

/-- C(..): the dict at the heap's end, the instance behind it; then its __init__ -/
theorem make_map {R : Result → Shared → Prop} {vs : List Value} {kw : List (Str × Value)} (X : K.In s.heap) (hm : PySem.W.makesIn K C = true)
    (hi : PySem.W.findIn K (.ref C) "__init__" = some (some (.ref f))) (hf : PySem.W.typeIn K (.ref f) = some (.type "function"))
    (h : codeAny (model prog w) (A.under (.builtin "type.__call__" ⟨.ref C :: vs, kw⟩)) (.call (.ref f) ⟨.ref (s.heap.objs.size + 1) :: vs, kw⟩) (PySem.W.InitBack (s.heap.objs.size + 1) R)
      { s with heap := (s.heap.push PySem.W.emptyDict).push (PySem.W.instObj C s.heap.objs.size) }) :
    codeAny (model prog w) A (.call (.ref C) ⟨vs, kw⟩) R s := by
  obtain ⟨hh, g, d, t, os⟩ := s
  exact PySem.W.make_core (PySem.W.makes_of X hm) (PySem.W.looks_findIn X hi) (fun self => PySem.W.bind_fn X self hf) (.inl rfl) h
end

/-! ### the attributes as a list of pairs -/
def putF (f : Str) (v : V) : List (Str × V) → List (Str × V)
  | [] => [(f, v)]
  | (g, x) :: r => if g = f then (g, v) :: r else (g, x) :: putF f v r
theorem lookup_putF (f g : Str) (v : V) : ∀ fs : List (Str × V), (putF f v fs).lookup g = if g = f then some v else fs.lookup g
  | [] => by
    show List.lookup g [(f, v)] = _
    by_cases h : g = f
    · have hb : (g == f) = true := beq_iff_eq.mpr h
      simp only [List.lookup, hb, if_pos h]
    · have hb : (g == f) = false := beq_eq_false_iff_ne.mpr h
      simp only [List.lookup, hb, if_neg h]
  | (k, x) :: r => by
    have ih := lookup_putF f g v r
    rw [show putF f v ((k, x) :: r) = (if k = f then (k, v) :: r else (k, x) :: putF f v r) from rfl]
    by_cases hk : k = f
    · rw [if_pos hk]
      by_cases h : g = k
      · have hb : (g == k) = true := beq_iff_eq.mpr h
        simp only [List.lookup, hb, if_pos (h.trans hk)]
      · have hb : (g == k) = false := beq_eq_false_iff_ne.mpr h
        simp only [List.lookup, hb, if_neg (fun e : g = f => h (e.trans hk.symm))]
    · rw [if_neg hk]
      by_cases h : g = k
      · have hb : (g == k) = true := beq_iff_eq.mpr h
        simp only [List.lookup, hb, if_neg (fun e : g = f => hk (h.symm.trans e))]
      · have hb : (g == k) = false := beq_eq_false_iff_ne.mpr h
        simp only [List.lookup, hb]
        exact ih
theorem keys_putF (f : Str) (v : V) : ∀ fs : List (Str × V), f ∈ (putF f v fs).map (·.1) ∧ ∀ g, g ∈ fs.map (·.1) → g ∈ (putF f v fs).map (·.1)
  | [] => ⟨by simp [putF], fun g h => by simp at h⟩
  | (k, x) :: r => by
    obtain ⟨i1, i2⟩ := keys_putF f v r
    rw [show putF f v ((k, x) :: r) = (if k = f then (k, v) :: r else (k, x) :: putF f v r) from rfl]
    by_cases hk : k = f
    · rw [if_pos hk]
      subst hk
      exact ⟨by simp, fun g h => by simpa using h⟩
    · rw [if_neg hk]
      refine ⟨?_, fun g h => ?_⟩
      · rw [List.map_cons]
        exact List.mem_cons_of_mem _ i1
      · rw [List.map_cons] at h ⊢
        rcases List.mem_cons.mp h with e | e
        · exact List.mem_cons.mpr (.inl e)
        · exact List.mem_cons_of_mem _ (i2 g e)
theorem length_putF (f : Str) (v : V) : ∀ fs : List (Str × V), (putF f v fs).length ≤ fs.length + 1
  | [] => by simp [putF]
  | (k, x) :: r => by
    have ih := length_putF f v r
    rw [show putF f v ((k, x) :: r) = (if k = f then (k, v) :: r else (k, x) :: putF f v r) from rfl]
    by_cases hk : k = f
    · rw [if_pos hk, List.length_cons, List.length_cons]; omega
    · rw [if_neg hk, List.length_cons, List.length_cons]; omega

theorem RelO.some_of {v : V} {o : Option Value} (r : RelO (some v) o) : ∃ u, o = some u ∧ RelV v u := by
  cases o with
  | none => exact (show False from r).elim
  | some u => exact ⟨u, rfl, r⟩
theorem RelO.none_of {o : Option Value} (r : RelO none o) : o = none := by
  cases o with
  | none => rfl
  | some u => exact (show False from r).elim
theorem handed_of {v : V} {u : Value} (r : RelV v u) : PySem.W.handedIn u = true := by
  cases v with
  | non => cases (show u = Value.none from r); rfl
  | bl b => cases (show u = Value.bool b from r); rfl
  | int i => obtain ⟨t, e⟩ := (show ∃ t, u = Value.int i t from r); cases e; rfl
  | str x => obtain ⟨t, e⟩ := (show ∃ t, u = Value.str x t from r); cases e; rfl
  | byt b => obtain ⟨t, e⟩ := (show ∃ t, u = Value.bytes b t from r); cases e; rfl
  | flt b => obtain ⟨t, e⟩ := (show ∃ t, u = Value.float b t from r); cases e; rfl
  | ref a => cases (show u = Value.ref a from r); rfl
  | ty n => cases (show u = Value.type n from r); rfl
  | tok x t => cases (show u = Value.str x t from r); rfl

section
variable {P : Program} {w : World} {H H' : Hp} {h h' : Heap} {a C dx : Addr} {fs fs' : List (Str × V)}
theorem ins_get (hok : HOk P w H h) (e : H a = some (.ins C dx fs)) : ∃ mA, ObjM h a dx C mA ∧ (∀ f, RelO (fs.lookup f) (mA f)) ∧ PySem.Within mA (fs.map (·.1)) ∧ fs.length ≤ 1000 ∧ H dx = some (.own a) := by
  obtain ⟨d, z, ne, ob, mA, n, r, q⟩ := (show ObjOk P w H h a (.ins C dx fs) from hok a _ e)
  exact ⟨mA, ⟨ob, n, ne⟩, r, q, z, d⟩
end

/-! ### what of the text a class must have -/
structure Cls (K : PySem.W.Frag) (C : Addr) : Prop where
  pg : PySem.W.plainGet K C Str.empty = true
  hd : PySem.W.hasDictIn K C = true
  po : PySem.W.plainOver K C = true
  sa : PySem.W.findIn K (.ref C) "__setattr__" = some (some (.builtin "object.__setattr__"))
theorem Cls.get {K : PySem.W.Frag} {C : Addr} (c : Cls K C) (f : Str) : PySem.W.plainGet K C f = true := c.pg
/-- no class of it has the name -/
def NoAttr (K : PySem.W.Frag) (C : Addr) (f : Str) : Prop := PySem.W.findIn K (.ref C) f = some none
theorem NoAttr.taker {K : PySem.W.Frag} {C : Addr} {f : Str} (n : NoAttr K C f) : PySem.W.takerIn K C f = some none := by
  unfold PySem.W.takerIn
  rw [show PySem.W.findIn K (.ref C) f = some none from n]
  rfl
/-- a constant of the class -/
structure Con (K : PySem.W.Frag) (C : Addr) (f : Str) (v : V) (u : Value) : Prop where
  at_ : PySem.W.findIn K (.ref C) f = some (some u)
  rel : RelV v u
  get : PySem.W.specialIn K u "__get__" = some none
  cp : PySem.W.copiedNames.contains f = false
/-- a method: a plain def of the class or of one above it -/
structure Meth (K : PySem.W.Frag) (C : Addr) (m : Str) (f : Addr) : Prop where
  at_ : PySem.W.findIn K (.ref C) m = some (some (.ref f))
  fn : PySem.W.isFn K (.ref f) = true
  kp : PySem.W.keepIn K (.ref f) = true

section
variable {X : Cx} {pins : List (Addr × Obj)} {σ : St} {H : Hp} {s : Shared} {a C dx : Addr} {fs : List (Str × V)} {f : Str} {v : V} {A : Around} {E : Value → Shared → Prop}

theorem getattr_ok {b : Bool} {Q : Value → Shared → Prop} (I : Inv X pins σ H s) (e : H a = some (.ins C dx fs)) (c : Cls X.K C) (n : NoAttr X.K C f) (l : fs.lookup f = some v)
    (h : ∀ u s', Inv X pins σ H s' → RelV v u → Q u s') : wpAny (model X.prog X.w) A (getAttr (.ref a) f b) Q E s := by
  obtain ⟨mA, O, r, _, _, _⟩ := ins_get I.hok e
  obtain ⟨u, hu, ru⟩ := RelO.some_of (v := v) (o := mA f) (by rw [← l]; exact r f)
  exact get_map I.kIn O (c.get f) c.hd n hu (handed_of ru) (h u _ (I.tok _) ru)

theorem getmeth_ok {m : Str} {g : Addr} {pl : Sem Bool} {Q : Value × List Value → Shared → Prop} (I : Inv X pins σ H s) (e : H a = some (.ins C dx fs)) (c : Cls X.K C) (k : Meth X.K C m g) (l : fs.lookup m = none)
    (h : Q (.ref g, [.ref a]) s) : wpAny (model X.prog X.w) A (getMethod (.ref a) m pl) Q E s := by
  obtain ⟨mA, O, r, _, _, _⟩ := ins_get I.hok e
  have hn : mA m = none := RelO.none_of (by rw [← l]; exact r m)
  exact get_meth I.kIn O (c.get m) k.at_ k.fn hn h

theorem setattr_ok {y : V} {u : Value} {Q : Unit → Shared → Prop} (I : Inv X pins σ H s) (e : H a = some (.ins C dx fs)) (c : Cls X.K C) (n : NoAttr X.K C f) (hl : fs.length < 1000) (ry : RelV y u)
    (h : ∀ s', Inv X pins σ (upd H a (.ins C dx (putF f y fs))) s' → Q () s') : wpAny (model X.prog X.w) A (setAttr (.ref a) f u) Q E s := by
  obtain ⟨mA, O, r, wi, _, ho⟩ := ins_get I.hok e
  have hz : (fs.map (·.1)).length ≤ sizeLine := by rw [List.length_map, sizeLine_eq]; omega
  refine set_map I.kIn O c.sa c.po n.taker c.hd wi hz fun h' O' sb => h _ ?_
  have hd : ∃ o, h'.get? dx = some o := let ⟨o, _, _, e', _⟩ := O'.ns; ⟨o, e'⟩
  refine I.write (x := a) (e := dx) (by rw [e]; exact True.intro) (.inr ho) (fun b q hb z => (sb.2 b hb).trans z) hd ?_
  refine ⟨by rw [upd_ne O.ne]; exact ho, ?_, O.ne, O'.obj, _, O'.ns, fun g => ?_, fun g hg => ?_⟩
  · have := length_putF f y fs; omega
  · show RelO ((putF f y fs).lookup g) (if g = f then some u else mA g)
    rw [lookup_putF]
    by_cases q : g = f
    · rw [if_pos q, if_pos q]; exact ry
    · rw [if_neg q, if_neg q]; exact r g
  · by_cases q : g = f
    · rw [q]; exact (keys_putF f y fs).1
    · refine (keys_putF f y fs).2 g (wi g fun z => hg ?_)
      show (if g = f then some u else mA g) = none
      rw [if_neg q]; exact z

/-- a new instance, tracked, without attributes -/
theorem Inv.made (I : Inv X pins σ H s) : Inv X pins σ (upd (upd H s.heap.objs.size (.own (s.heap.objs.size + 1))) (s.heap.objs.size + 1) (.ins C s.heap.objs.size []))
    { s with heap := (s.heap.push PySem.W.emptyDict).push (PySem.W.instObj C s.heap.objs.size) } := by
  have e1 : (s.heap.push PySem.W.emptyDict).get? s.heap.objs.size = some PySem.W.emptyDict := Heap.get?_push_size s.heap rfl
  have e2 : ((s.heap.push PySem.W.emptyDict).push (PySem.W.instObj C s.heap.objs.size)).get? (s.heap.objs.size + 1) = some (PySem.W.instObj C s.heap.objs.size) := by
    have := Heap.get?_push_size (s.heap.push PySem.W.emptyDict) (o := PySem.W.instObj C s.heap.objs.size) rfl
    rwa [Heap.size_push] at this
  have e3 : (s.heap.push PySem.W.emptyDict).Ns s.heap.objs.size (fun _ => none) := ⟨PySem.W.emptyDict, #[], _, e1, rfl, (fun e he => absurd he (by simp)), fun _ => rfl⟩
  have I1 := I.laid (a := s.heap.objs.size) (o := .own (s.heap.objs.size + 1)) (h' := s.heap.push PySem.W.emptyDict) (t' := s.toks) (fun b u q => Heap.get?_push_of_some _ q) (Nat.le_refl _) ⟨_, e1⟩
  refine I1.laid (a := s.heap.objs.size + 1) (o := .ins C s.heap.objs.size []) (t' := s.toks) (fun b u q => Heap.get?_push_of_some _ q) (Nat.le_of_eq (Heap.size_push _ _)) ?_
  have ne : s.heap.objs.size ≠ s.heap.objs.size + 1 := Nat.ne_of_lt (Nat.lt_succ_self _)
  refine ⟨by rw [upd_ne ne, upd_same], Nat.zero_le _, ne, e2, fun _ => none, (Heap.Ns1.of_empty e3).at fun o q => Heap.get?_push_of_some _ q, fun _ => True.intro, fun y hy => absurd rfl hy⟩

/-- e.f where nothing but the object is asked: through attributeBase (super) and the last hold -/
theorem attr_of {prog : Program} {w : World} {env : Env} {e : Expr} {f : Str} {pos : Pos} {s : Shared} {Q : Value → Shared → Prop} (hb : attributeBase e f env (eval e env) = eval e env)
    (h : wpAny (model prog w) A (eval e env) (fun o s₁ => wpAny (model prog w) A (getAttr o f true) Q E s₁) E s) : wpAny (model prog w) A (eval (.Attribute e f pos) env) Q E s :=
  Attribute_any_ h (by rw [arm_eval_Attribute, hb])
end

/-! ### readings and rules -/
/-- e.f, an attribute of the instance -/
def tFld (K : PySem.W.Frag) (ta : TE) (f : Str) : TE := fun σ H Q => ta σ H fun x H1 => ∃ a C dx fs v, x = .ref a ∧ H1 a = some (.ins C dx fs) ∧ Cls K C ∧ NoAttr K C f ∧ fs.lookup f = some v ∧ Q v H1
/-- e.f = value -/
def sFld (K : PySem.W.Frag) (ta tv : TE) (f : Str) : TS := fun D σ H => tv σ H fun y H1 => ta σ H1 fun x H2 => ∃ a C dx fs, x = .ref a ∧ H2 a = some (.ins C dx fs) ∧ Cls K C ∧ NoAttr K C f ∧ fs.length < 1000 ∧
  D.nx σ (upd H2 a (.ins C dx (putF f y fs)))
section
variable {X : Cx} {o e value : Expr} {f : Str} {pos pos' tpos : Pos} {ta tv : TE}
theorem pe_fld (he : PE X e ta) (hb : attributeBase e f X.env (eval e X.env) = eval e X.env) : PE X (.Attribute e f pos) (tFld X.K ta f) := by
  intro pins s σ H Q I h
  refine attr_of hb (thn (he pins s σ H _ I h) fun u s1 ⟨x, H1, I1, rx, a, C, dx, fs, v, ex, ea, c, n, l, q⟩ => ?_)
  subst ex
  obtain rfl : u = Value.ref a := rx
  exact getattr_ok I1 ea c n l fun u' s2 I2 ru => ⟨v, H1, I2, ru, q⟩
theorem ps_fld (ha : PE X o ta) (hv : PE X value tv) (hs : swapsWith value (some (.Attribute o f pos')) pos.line X.env = pure false) : PS X (.Assign [.Attribute o f pos'] value pos) (sFld X.K ta tv f) := by
  intro pins s σ H D I h
  refine plainObj_wpAny_Assign_Attribute (thn (hv pins s σ H _ I h) fun u s1 ⟨y, H1, I1, ry, q⟩ => thn (ha pins s1 σ H1 _ I1 q) fun ov s2 ⟨x, H2, I2, rx, a, C, dx, fs, ex, ea, c, n, l, q2⟩ => ?_) hs
  subst ex
  obtain rfl : ov = Value.ref a := rx
  exact setattr_ok I2 ea c n l ry fun s3 I3 => ⟨σ, _, I3, q2⟩
end

/-! ### isinstance -/
section
variable {X : Cx} {pins : List (Addr × Obj)} {σ : St} {H : Hp} {s : Shared} {A : Around} {E : Value → Shared → Prop} {Q : Value → Shared → Prop} {c : Value} {b : Bool}
/-- the type of a value, as the fragment's deciders take it; for an instance its class -/
inductive TyOf (K : PySem.W.Frag) (H : Hp) : V → Value → Prop where
  | non : TyOf K H .non (.type "NoneType")
  | bl (x : Bool) : TyOf K H (.bl x) (.type "bool")
  | int (i : Int) : TyOf K H (.int i) (.type "int")
  | str (x : Str) : TyOf K H (.str x) (.type "str")
  | flt (x : UInt64) : TyOf K H (.flt x) (.type "float")
  | lst {a : Addr} {xs : List V} (e : H a = some (.lst xs)) : TyOf K H (.ref a) (.type "list")
  | frz {a : Addr} {o : Obj} {xs : List V} (e : H a = some (.frz o (.lst xs))) : TyOf K H (.ref a) (.type "list")
  | tup {a : Addr} {xs : List V} (e : H a = some (.tup xs)) : TyOf K H (.ref a) (.type "tuple")
  | dK {a : Addr} {kvs : List (Key × V)} (e : H a = some (.dK kvs)) : TyOf K H (.ref a) (.type "dict")
  | dT {a : Addr} {kvs : List (List Key × V)} (e : H a = some (.dT kvs)) : TyOf K H (.ref a) (.type "dict")
  | ins {a C dx : Addr} {fs : List (Str × V)} (e : H a = some (.ins C dx fs)) (cl : Cls K C) (ha : PySem.W.findIn K (.ref C) "__class__" = some (some (.builtin "object.__class__")))
      (hn : PySem.W.specialIn K (.builtin "object.__class__") "__get__" = some (some (.builtin "getset_descriptor.__get__"))) (htk : PySem.W.takesIn K (.builtin "object.__class__") = some true)
      (hm : PySem.W.mroIn K C (.type "object") = some true) : TyOf K H (.ref a) (.ref C)
end
end L2

namespace L2
open PySem PySem.Spec PyProof.Rows

/-! ### room -/
structure Room (k : Nat) (A : Around) : Prop where
  hd : A.handled = none
  dp : A.depth + 3 * k + 5 < recursionLimit
  un : A.units + 16 * k + 200 < cLine
theorem Room.mono {j k : Nat} {A : Around} (r : Room k A) (h : j ≤ k) : Room j A := ⟨r.hd, by have := r.dp; omega, by have := r.un; omega⟩
theorem Room.deeper {k : Nat} {A : Around} (r : Room (k + 1) A) (env : Env) : Room k (A.deeper env) :=
  ⟨r.hd, by have := r.dp; show A.depth + 1 + 3 * k + 5 < _; omega, by have := r.un; show A.units + 3 + 16 * k + 200 < _; omega⟩
theorem make_depth {A : Around} {C : Addr} {us : List Value} {kw : List (Str × Value)} : (A.under (.builtin "type.__call__" ⟨.ref C :: us, kw⟩)).depth = A.depth + 1 := by
  first | rfl | simp [Around.under, Code.weight, Code.isCreation, Code.isGuard, Code.isCaller, Code.frames, Code.isFrame, guardIds]
theorem make_units {A : Around} {C : Addr} {us : List Value} {kw : List (Str × Value)} : (A.under (.builtin "type.__call__" ⟨.ref C :: us, kw⟩)).units = A.units + 1 := by
  first | rfl | simp [Around.under, Code.cUnits, Code.frames, Code.isFrame]
theorem Room.make {k : Nat} {A : Around} (r : Room (k + 1) A) (C : Addr) (us : List Value) (kw : List (Str × Value)) : Room k (A.under (.builtin "type.__call__" ⟨.ref C :: us, kw⟩)) :=
  ⟨r.hd, by have := r.dp; rw [make_depth]; omega, by have := r.un; rw [make_units]; omega⟩
theorem Room.depth {k : Nat} {A : Around} (r : Room k A) : A.depth < recursionLimit := by have := r.dp; omega
theorem Room.units {k : Nat} {A : Around} (r : Room k A) : A.units + 64 < cLine := by have := r.un; omega
/-! ### argument lists and displays -/
def tNil : TA := fun _ H Q => Q [] H
def tCons (ta : TE) (tr : TA) : TA := fun σ H Q => ta σ H fun x H1 => tr σ H1 fun xs H2 => Q (x :: xs) H2
section
variable {X : Cx} {e : Expr} {es : List Expr} {te : TE} {t : TA} {pos : Pos}
theorem pa_nil : PA X [] tNil := fun _ _ _ _ H Q I h => Calls.spliced_nil ⟨[], H, I, .nil, h⟩
theorem pa_cons (ha : PE X e te) (hr : PA X es t) (hs : starEach (e :: es) X.env = (false, eval e X.env) :: starEach es X.env := by rfl) : PA X (e :: es) (tCons te t) := by
  intro pos pins s σ H Q I h
  rw [hs]
  show wpAny _ _ (spliced ((false, eval e X.env) :: backTo pos (starEach es X.env))) _ _ s
  refine Calls.spliced_cons (thn (ha pins s σ H _ I h) fun u s1 ⟨x, H1, I1, r1, q1⟩ => ?_)
  exact thn (hr pos pins s1 σ H1 _ I1 q1) fun us s2 ⟨xs, H2, I2, r2, q2⟩ => ⟨x :: xs, H2, I2, .cons r1 r2, q2⟩

/-- a tuple, a list of written items -/
def tTup (t : TA) : TE := fun σ H Q => t σ H fun xs H1 => xs.length ≤ sizeLine ∧ ∀ p, H1 p = none → Q (.ref p) (upd H1 p (.tup xs))
def tLst (t : TA) : TE := fun σ H Q => t σ H fun xs H1 => xs.length ≤ sizeLine ∧ ∀ p, H1 p = none → Q (.ref p) (upd H1 p (.lst xs))
theorem pe_tup {x1} (h : PA X es t) : PE X (.Tuple es x1 pos) (tTup t) := by
  intro pins s σ H Q I hq
  refine wpAny_Tuple_spliced (thn (h pos pins s σ H _ I hq) fun us s1 ⟨xs, H1, I1, r, z, q⟩ => ⟨by rw [← r.length]; exact z, ?_⟩)
  have hf : H1 s1.heap.objs.size = none := I1.hok.fresh (Nat.le_refl _)
  refine ⟨.ref s1.heap.objs.size, upd H1 s1.heap.objs.size (.tup xs), I1.laid (t' := s1.toks) (fun b u e => Heap.get?_push_of_some _ e) (Nat.le_refl _) ?_, rfl, q _ hf⟩
  exact ⟨z, us, r, ⟨_, Heap.get?_push_size _ rfl, rfl, _, rfl⟩⟩
theorem pe_lst (h : PA X es t) : PE X (.List es pos) (tLst t) := by
  intro pins s σ H Q I hq
  refine wpAny_List_spliced (thn (h pos pins s σ H _ I hq) fun us s1 ⟨xs, H1, I1, r, z, q⟩ => ⟨by rw [← r.length]; exact z, ?_⟩)
  have hf : H1 s1.heap.objs.size = none := I1.hok.fresh (Nat.le_refl _)
  refine ⟨.ref s1.heap.objs.size, upd H1 s1.heap.objs.size (.lst xs), I1.laid (t' := s1.toks) (fun b u e => Heap.get?_push_of_some _ e) (Nat.le_refl _) ?_, rfl, q _ hf⟩
  exact ⟨z, us, 0, r, Heap.get?_push_size _ rfl⟩
end

/-! ### what a def promises -/
/-- a def's promise: the bound arguments in the parameters' order, the heap, the wanted end, the wanted exception -/
abbrev Sp := List V → Hp → VK → XK → Prop
/-- how an exception lies behind a call (file 08 gives it): the callers' frames, abstract heap and state ahead of the call, the wish, the exception, the state -/
abbrev CXT := List Env → Hp → Shared → XK → Value → Shared → Prop

/-- the state at a call -/
structure Env0 (P : Program) (w : World) (K : PySem.W.Frag) (mg : Str → Option Value) (base : Heap) (A : Around) (outer : List Env) (s : Shared) (H : Hp) : Prop where
  frames : A.frames = some outer
  mod : Mod K mg base
  bs : ∀ b o, base.get? b = some o → s.heap.get? b = some o ∧ H b = none
  bsz : base.objs.size ≤ s.heap.objs.size
  funs : s.heap.FunFrames base outer
  frf : ∀ b ∈ frs outer, H b = none
  hok : HOk P w H s.heap
  bare : AllBare s.gens
/-- a call's end -/
def CE (outer : List Env) (P : Program) (w : World) (H : Hp) (s : Shared) (Q : VK) (u : Value) (s' : Shared) : Prop :=
  ∃ v H', s'.os = s.os ∧ AllBare s'.gens ∧ Un (frs outer) [] H H' s.heap s'.heap ∧ HOk P w H' s'.heap ∧ RelV v u ∧ Q v H'
def CR (CX : CXT) (outer : List Env) (P : Program) (w : World) (H : Hp) (s : Shared) (Q : VK) (E : XK) (r : Result) (s' : Shared) : Prop :=
  match r with
  | .ok (.ret u) => CE outer P w H s Q u s'
  | .ok _ => False
  | .error e => CX outer H s E e s'
structure FnOk (P : Program) (w : World) (K : PySem.W.Frag) (mg : Str → Option Value) (base : Heap) (CX : CXT) (k : Nat) (f : Addr) (fd : FuncData) (ps : List Str) (sp : Sp) : Prop where
  len : ∀ vs H Q E, sp vs H Q E → vs.length = ps.length
  run : ∀ (A : Around) (outer : List Env) (s : Shared) (H : Hp) (args : Args) (us : List Value) (vs : List V) (Q : VK) (E : XK), Room k A → Env0 P w K mg base A outer s H → BindsTo s fd args (ps.zip us) → Vals vs us → sp vs H Q E →
    codeAny (model P w) A (.call (.ref f) args) (CR CX outer P w H s Q E) s
theorem FnOk.mono {P : Program} {w : World} {K : PySem.W.Frag} {mg : Str → Option Value} {base : Heap} {CX : CXT} {j k : Nat} {f : Addr} {fd : FuncData} {ps : List Str} {sp : Sp} (F : FnOk P w K mg base CX j f fd ps sp) (h : j ≤ k) :
    FnOk P w K mg base CX k f fd ps sp := ⟨F.len, fun A outer s H args us vs Q E hr => F.run A outer s H args us vs Q E (hr.mono h)⟩
/-- a weaker promise -/
theorem FnOk.imp {P : Program} {w : World} {K : PySem.W.Frag} {mg : Str → Option Value} {base : Heap} {CX : CXT} {k : Nat} {f : Addr} {fd : FuncData} {ps : List Str} {sp sp' : Sp} (F : FnOk P w K mg base CX k f fd ps sp)
    (h : ∀ vs H Q E, sp' vs H Q E → sp vs H Q E) : FnOk P w K mg base CX k f fd ps sp' :=
  ⟨fun vs H Q E q => F.len vs H Q E (h _ _ _ _ q), fun A outer s H args us vs Q E hr he hb hv hs => F.run A outer s H args us vs Q E hr he hb hv (h _ _ _ _ hs)⟩

theorem Env0.make {P : Program} {w : World} {K : PySem.W.Frag} {mg : Str → Option Value} {base : Heap} {A : Around} {outer : List Env} {s : Shared} {H : Hp} (e : Env0 P w K mg base A outer s H) (C : Addr) (us : List Value) (kw : List (Str × Value)) :
    Env0 P w K mg base (A.under (.builtin "type.__call__" ⟨.ref C :: us, kw⟩)) outer s H := ⟨by first | exact e.frames | (simpa [Around.under, Code.envs, Code.isFrame, pushEnvs] using e.frames), e.mod, e.bs, e.bsz, e.funs, e.frf, e.hok, e.bare⟩
section
variable {X : Cx} {pins : List (Addr × Obj)} {σ : St} {H : Hp} {s s' : Shared}
/-- from a body: what a callee wants -/
theorem Inv.env0 (I : Inv X pins σ H s) : Env0 X.prog X.w X.K X.mg X.base X.A X.stack s H :=
  ⟨I.ok.frames, I.ok.mod, I.bs, Nat.le_trans I.ok.bsz I.sz, I.stack, I.stkFree, I.hok, I.bare⟩
/-- behind a call -/
theorem Inv.after {Q : VK} {u : Value} (I : Inv X pins σ H s) (h : CE X.stack X.prog X.w H s Q u s') : EP X pins σ Q u s' := by
  obtain ⟨v, H', os, bare, un, hok, r, q⟩ := h
  obtain ⟨hh, g, d, t, os'⟩ := s'
  obtain rfl : os' = s.os := os
  exact ⟨v, H', I.call (h' := hh) (g' := g) (d' := d) (t' := t) (ch := []) un hok bare (fun b z => absurd z (by simp)), r, q⟩
end

/-! ### calls -/
/-- f(..): the written arguments, then the defaults dvs; E: what is wanted of an exception -/
def tCall (sp : Sp) (dvs : List V) (E : XK) (t : TA) : TE := fun σ H Q => t σ H fun vs H1 => sp (vs ++ dvs) H1 Q E
/-- o.m(..) of an instance of the class at C -/
def tMeth (C : Addr) (m : Str) (sp : Sp) (dvs : List V) (E : XK) (ta : TE) (t : TA) : TE := fun σ H Q => ta σ H fun x H1 => ∃ a dx fs, x = .ref a ∧ H1 a = some (.ins C dx fs) ∧ fs.lookup m = none ∧
  t σ H1 fun vs H2 => sp (x :: (vs ++ dvs)) H2 Q E
/-- C(..): a new instance and its dict, then __init__ -/
def tMake (C : Addr) (sp : Sp) (dvs : List V) (E : XK) (t : TA) : TE := fun σ H Q => t σ H fun vs H1 => ∀ x dx, H1 x = none → H1 dx = none → dx ≠ x →
  sp (.ref x :: (vs ++ dvs)) (upd (upd H1 dx (.own x)) x (.ins C dx [])) (fun v H2 => v = .non ∧ Q (.ref x) H2) E

/-- how the parameters are bound: us the positional arguments, kw the keywords' values by name, ds the defaults that fill up -/
def Binds (K : PySem.W.Frag) (fd : FuncData) (ps : List Str) (ds : List Value) : Prop :=
  ∀ (s : Shared) (us : List Value), K.In s.heap → (us ++ ds).length = ps.length → BindsTo s fd ⟨us, []⟩ (ps.zip (us ++ ds))
/-- every parameter is given -/
theorem Binds.all {K : PySem.W.Frag} {fd : FuncData} {ps : List Str} (h : ∀ us : List Value, us.length = ps.length → bindArgs fd ⟨us, []⟩ = pure (ps.zip us)) : Binds K fd ps [] := fun s us _ hl => by
  rw [List.append_nil] at hl ⊢
  exact .of_eq (h us hl)

/-- an exception of a callee reaches what this body wants of exceptions -/
def Passes (CX : CXT) (X : Cx) (E : XK) : Prop := ∀ (pins : List (Addr × Obj)) (σ : St) (H : Hp) (s : Shared) (e : Value) (s' : Shared), Inv X pins σ H s → CX X.stack H s E e s' → X.xe e s'

section
variable {X : Cx} {CX : CXT} {k : Nat} {f C : Addr} {fd : FuncData} {ps : List Str} {sp : Sp} {dvs : List V} {ds : List Value} {E : XK} {x m : Str} {p pos apos : Pos} {e o : Expr} {es : List Expr} {ta : TE} {t : TA}

/-- the callee runs -/
theorem run_fn {pins : List (Addr × Obj)} {σ : St} {H : Hp} {s : Shared} {Q : VK} {us : List Value} {vs : List V} (F : FnOk X.prog X.w X.K X.mg X.base CX k f fd ps sp) (hr : Room k X.A) (hb : Binds X.K fd ps ds) (hd : Vals dvs ds) (hx : Passes CX X E)
    (I : Inv X pins σ H s) (r : Vals vs us) (h : sp (vs ++ dvs) H Q E) : wpAny (model X.prog X.w) X.A (call (.ref f) us) (EP X pins σ Q) X.xe s := by
  have r2 : Vals (vs ++ dvs) (us ++ ds) := r.append hd
  have hl : (us ++ ds).length = ps.length := by rw [← r2.length]; exact F.len _ _ _ _ h
  refine wpAny_call (codeAny_mono (F.run X.A X.stack s H ⟨us, []⟩ (us ++ ds) (vs ++ dvs) Q E hr I.env0 (hb s us I.kIn hl) r2 h) fun r s' hq => ?_)
  cases r with
  | error e => exact hx pins σ H s e s' I hq
  | ok fl =>
    cases fl with
    | ret u => exact I.after hq
    | next => exact False.elim hq
    | brk => exact False.elim hq
    | cont => exact False.elim hq

theorem pe_call (F : FnOk X.prog X.w X.K X.mg X.base CX k f fd ps sp) (hr : Room k X.A) (hg : Gl X x) (hm : X.mg x = some (.ref f)) (hk : PySem.W.keepIn X.K (.ref f) = true) (hb : Binds X.K fd ps ds) (hd : Vals dvs ds) (hx : Passes CX X E)
    (ha : PA X (e :: es) t) (hdb : (x == ("__debug__" : Str)) = false := by decide) (he : starEach (e :: es) X.env = (false, eval e X.env) :: starEach es X.env := by rfl) (hpl : (backTo pos (starEach es X.env)).any (·.1) = false := by rfl) :
    PE X (.Call (.Name x p) (e :: es) [] pos) (tCall sp dvs E t) := by
  intro pins s σ H Q I h
  refine wpAny_Call_Name_kw (ld_glob I hg hm ?_ hdb)
  refine PySem.W.callWith_K (h₀ := X.base) I.ok.mod.kin hk (thn (ha pos pins s σ H _ I h) fun us s1 ⟨vs, H1, I1, r, q⟩ => ⟨I1.kIn, ?_⟩) he hpl
  exact run_fn F hr hb hd hx I1 r q
/-- o.m(e, ..) -/
theorem pe_meth {pl : Sem Bool} (he : PE X o ta) (c : Cls X.K C) (hm : Meth X.K C m f) (F : FnOk X.prog X.w X.K X.mg X.base CX k f fd ps sp) (hr : Room k X.A) (hb : Binds X.K fd ps ds) (hd : Vals dvs ds) (hx : Passes CX X E) (ha : PA X (e :: es) t)
    (hst : starEach (e :: es) X.env = (false, eval e X.env) :: starEach es X.env := by rfl) (hpl : (backTo pos (starEach es X.env)).any (·.1) = false := by rfl)
    (ht : eval (.Call (.Attribute o m apos) (e :: es) [] pos) X.env = (do
      let ov ← eval o X.env
      standAt apos.atName
      let (f, first) ← holding [ov] (getMethod ov m pl)
      callWith pos f first (backTo pos (starEach (e :: es) X.env)) (backToKw pos (keywordEach [] X.env))) := by rfl) :
    PE X (.Call (.Attribute o m apos) (e :: es) [] pos) (tMeth C m sp dvs E ta t) := by
  intro pins s σ H Q I h
  refine PySem.W.methodCall_KW (pl := pl) (thn (he pins s σ H _ I h) fun u s1 ⟨x, H1, I1, rx, a, dx, fs, ex, ea, l, q⟩ => ?_) ht
  subst ex
  obtain rfl : u = Value.ref a := rx
  refine getmeth_ok I1 ea c hm l ?_
  refine PySem.W.callWith_K (first := [.ref a]) (h₀ := X.base) I.ok.mod.kin hm.kp (thn (ha pos pins s1 σ H1 _ I1 q) fun us s2 ⟨vs, H2, I2, r, q2⟩ => ⟨I2.kIn, ?_⟩) hst hpl
  exact run_fn (us := .ref a :: us) (vs := .ref a :: vs) F hr hb hd hx I2 (.cons rfl r) q2
/-- o.m() -/
theorem pe_meth0 {pl : Sem Bool} (he : PE X o ta) (c : Cls X.K C) (hm : Meth X.K C m f) (F : FnOk X.prog X.w X.K X.mg X.base CX k f fd ps sp) (hr : Room k X.A) (hb : Binds X.K fd ps ds) (hd : Vals dvs ds) (hx : Passes CX X E)
    (ht : eval (.Call (.Attribute o m apos) [] [] pos) X.env = (do
      let ov ← eval o X.env
      standAt apos.atName
      let (f, first) ← holding [ov] (getMethod ov m pl)
      callWith pos f first (backTo pos (starEach [] X.env)) (backToKw pos (keywordEach [] X.env))) := by rfl) :
    PE X (.Call (.Attribute o m apos) [] [] pos) (tMeth C m sp dvs E ta tNil) := by
  intro pins s σ H Q I h
  refine PySem.W.methodCall_KW (pl := pl) (thn (he pins s σ H _ I h) fun u s1 ⟨x, H1, I1, rx, a, dx, fs, ex, ea, l, q⟩ => ?_) ht
  subst ex
  obtain rfl : u = Value.ref a := rx
  refine getmeth_ok I1 ea c hm l ?_
  exact PySem.W.callWith_K0 (first := [.ref a]) I1.kIn hm.kp (run_fn (us := [.ref a]) (vs := [.ref a]) F hr hb hd hx I1 (.cons rfl .nil) q)

/-- what a class must have to be made -/
structure Mk (K : PySem.W.Frag) (C f : Addr) : Prop where
  makes : PySem.W.makesIn K C = true
  init : PySem.W.findIn K (.ref C) "__init__" = some (some (.ref f))
  fn : PySem.W.isFn K (.ref f) = true
  kp : PySem.W.keepIn K (.ref C) = true

theorem run_make {pins : List (Addr × Obj)} {σ : St} {H : Hp} {s : Shared} {Q : VK} {us : List Value} {vs : List V} (M : Mk X.K C f) (F : FnOk X.prog X.w X.K X.mg X.base CX k f fd ps sp) (hr : Room (k + 1) X.A) (hb : Binds X.K fd ps ds) (hd : Vals dvs ds)
    (hx : Passes CX X E) (I : Inv X pins σ H s) (r : Vals vs us)
    (h : ∀ x dx, H x = none → H dx = none → dx ≠ x → sp (.ref x :: (vs ++ dvs)) (upd (upd H dx (.own x)) x (.ins C dx [])) (fun v H2 => v = .non ∧ Q (.ref x) H2) E) :
    wpAny (model X.prog X.w) X.A (call (.ref C) us) (EP X pins σ Q) X.xe s := by
  have hq := h (s.heap.objs.size + 1) s.heap.objs.size (I.hok.fresh (Nat.le_succ _)) (I.hok.fresh (Nat.le_refl _)) (Nat.ne_of_lt (Nat.lt_succ_self _))
  have I2 := Inv.made (C := C) I
  have r2 : Vals (V.ref (s.heap.objs.size + 1) :: (vs ++ dvs)) (Value.ref (s.heap.objs.size + 1) :: (us ++ ds)) := .cons rfl (r.append hd)
  have hl : (Value.ref (s.heap.objs.size + 1) :: us ++ ds).length = ps.length := by
    have e := r2.length
    rw [F.len _ _ _ _ hq] at e
    exact e.symm
  refine wpAny_call (make_map (f := f) I.kIn M.makes M.init (beq_iff_eq.mp M.fn) (codeAny_mono (F.run _ X.stack _ _ ⟨Value.ref (s.heap.objs.size + 1) :: us, []⟩ (Value.ref (s.heap.objs.size + 1) :: (us ++ ds)) _ _ E (hr.make C us [])
    (I2.env0.make C us []) (hb _ (Value.ref (s.heap.objs.size + 1) :: us) I2.kIn hl) r2 hq) fun r s' hq' => ?_))
  cases r with
  | error e => exact hx pins σ _ _ e s' I2 hq'
  | ok fl =>
    cases fl with
    | ret u =>
      obtain ⟨v, H', I3, rv, ev, q3⟩ := I2.after hq'
      subst ev
      exact ⟨rv, ⟨V.ref (s.heap.objs.size + 1), H', I3, rfl, q3⟩⟩
    | next => exact False.elim hq'
    | brk => exact False.elim hq'
    | cont => exact False.elim hq'
theorem pe_make (M : Mk X.K C f) (F : FnOk X.prog X.w X.K X.mg X.base CX k f fd ps sp) (hr : Room (k + 1) X.A) (hg : Gl X x) (hm : X.mg x = some (.ref C)) (hb : Binds X.K fd ps ds) (hd : Vals dvs ds) (hx : Passes CX X E)
    (ha : PA X (e :: es) t) (hdb : (x == ("__debug__" : Str)) = false := by decide) (he : starEach (e :: es) X.env = (false, eval e X.env) :: starEach es X.env := by rfl) (hpl : (backTo pos (starEach es X.env)).any (·.1) = false := by rfl) :
    PE X (.Call (.Name x p) (e :: es) [] pos) (tMake C sp dvs E t) := by
  intro pins s σ H Q I h
  refine wpAny_Call_Name_kw (ld_glob I hg hm ?_ hdb)
  refine PySem.W.callWith_K (h₀ := X.base) I.ok.mod.kin M.kp (thn (ha pos pins s σ H _ I h) fun us s1 ⟨vs, H1, I1, r, q⟩ => ⟨I1.kIn, ?_⟩) he hpl
  exact run_make M F hr hb hd hx I1 r q
theorem pe_make0 (M : Mk X.K C f) (F : FnOk X.prog X.w X.K X.mg X.base CX k f fd ps sp) (hr : Room (k + 1) X.A) (hg : Gl X x) (hm : X.mg x = some (.ref C)) (hb : Binds X.K fd ps ds) (hd : Vals dvs ds) (hx : Passes CX X E)
    (hdb : (x == ("__debug__" : Str)) = false := by decide) : PE X (.Call (.Name x p) [] [] pos) (tMake C sp dvs E tNil) := by
  intro pins s σ H Q I h
  refine wpAny_Call_Name_kw (ld_glob I hg hm ?_ hdb)
  exact PySem.W.callWith_K0 I.kIn M.kp (run_make (us := []) M F hr hb hd hx I .nil h)
end

/-! ### keywords -/
section
variable {X : Cx} {CX : CXT} {k : Nat} {f C : Addr} {fd : FuncData} {ps ks : List Str} {sp : Sp} {E : XK} {x m : Str} {p pos apos kpos : Pos} {e o : Expr} {es : List Expr} {kws : List Keyword} {te ta : TE} {t tk : TA} {nm : Option Str}
/-- how a call with keywords binds: g puts the positional values us and the keywords' values ws (names ks) in the parameters' order, defaults among them -/
structure KBinds (K : PySem.W.Frag) (fd : FuncData) (ps ks : List Str) (g : List Value → List Value → List Value) (gV : List V → List V → List V) : Prop where
  to : ∀ (s : Shared) (us ws : List Value), K.In s.heap → (g us ws).length = ps.length → BindsTo s fd ⟨us, ks.zip ws⟩ (ps.zip (g us ws))
  rel : ∀ {vs : List V} {us : List Value} {zs : List V} {ws : List Value}, Vals vs us → Vals zs ws → Vals (gV vs zs) (g us ws)
variable {g : List Value → List Value → List Value} {gV : List V → List V → List V}
end

/-! ### a def's body keeps its promise -/
/-- names: the parameters first -/
structure FnScope (N P : List Str) (sc : Scope) : Prop where
  kind : sc.kind = .function
  co : sc.isCoroutine = false
  gen : sc.isGenerator = false
  nd : N.Nodup
  pre : N.take P.length = P
  par : ∀ x ∈ P, sc.names.lookup x = some .local ∨ sc.names.lookup x = some .cell
  nofree : ∀ y ∈ sc.names, y.2 ≠ .free

theorem bindL_out {kindOf : Str → Option NameKind} {x : Str} : ∀ {binds : List (Str × Value)} {m : Str → Option Value}, (∀ v, (x, v) ∉ binds) → bindL kindOf binds m x = m x
  | [], _, _ => rfl
  | (n, v) :: r, m, h => by
    unfold bindL
    rw [bindL_out fun w hw => h w (List.mem_cons_of_mem _ hw)]
    split
    · have : x ≠ n := by rintro rfl; exact h v List.mem_cons_self
      simp [this]
    · rfl
theorem bindC_out {kindOf : Str → Option NameKind} {x : Str} : ∀ {binds : List (Str × Value)} {m : Str → Option Value}, (∀ v, (x, v) ∉ binds) → bindC kindOf binds m x = m x
  | [], _, _ => rfl
  | (n, v) :: r, m, h => by
    unfold bindC
    rw [bindC_out fun w hw => h w (List.mem_cons_of_mem _ hw)]
    split
    · rfl
    · have : x ≠ n := by rintro rfl; exact h v List.mem_cons_self
      simp [this]
theorem bindL_get {kindOf : Str → Option NameKind} {x : Str} {v : Value} : ∀ {P : List Str} {vs : List Value} {i : Nat} {m : Str → Option Value}, P.Nodup → P[i]? = some x → vs[i]? = some v → kindOf x = some .local →
    bindL kindOf (P.zip vs) m x = some v
  | [], _, _, _, _, h, _, _ => by simp at h
  | _ :: _, [], _, _, _, _, h, _ => by simp at h
  | p :: P, w :: vs, 0, m, nd, h1, h2, hk => by
    simp at h1 h2; subst h1; subst h2
    show bindL kindOf ((p, w) :: P.zip vs) m p = _
    unfold bindL
    rw [bindL_out fun v hv => (List.nodup_cons.mp nd).1 (List.of_mem_zip hv).1, if_pos hk]
    simp
  | p :: P, w :: vs, i + 1, m, nd, h1, h2, hk => by
    show bindL kindOf ((p, w) :: P.zip vs) m x = _
    unfold bindL
    exact bindL_get (i := i) (List.nodup_cons.mp nd).2 (by simpa using h1) (by simpa using h2) hk
theorem bindC_get {kindOf : Str → Option NameKind} {x : Str} {v : Value} : ∀ {P : List Str} {vs : List Value} {i : Nat} {m : Str → Option Value}, P.Nodup → P[i]? = some x → vs[i]? = some v → kindOf x ≠ some .local →
    bindC kindOf (P.zip vs) m x = some v
  | [], _, _, _, _, h, _, _ => by simp at h
  | _ :: _, [], _, _, _, _, h, _ => by simp at h
  | p :: P, w :: vs, 0, m, nd, h1, h2, hk => by
    simp at h1 h2; subst h1; subst h2
    show bindC kindOf ((p, w) :: P.zip vs) m p = _
    unfold bindC
    rw [bindC_out fun v hv => (List.nodup_cons.mp nd).1 (List.of_mem_zip hv).1, if_neg hk]
    simp
  | p :: P, w :: vs, i + 1, m, nd, h1, h2, hk => by
    show bindC kindOf ((p, w) :: P.zip vs) m x = _
    unfold bindC
    exact bindC_get (i := i) (List.nodup_cons.mp nd).2 (by simpa using h1) (by simpa using h2) hk

/-- the names' values at the entry -/
def start (N : List Str) (vs : List V) : St := vs.map some ++ List.replicate (N.length - vs.length) none

/-- the context of a def's body, at its entry; an exception leaves the frame, then lies as CX says -/
def cxOf (CX : CXT) (P : Program) (w : World) (K : PySem.W.Frag) (mg : Str → Option Value) (base : Heap) (N : List Str) (qual : Str) (scope : Scope) (f : Addr) (cd : Value) (A : Around) (outer : List Env) (s : Shared) (H : Hp) (E : XK) : Cx where
  prog := P
  w := w
  K := K
  mg := mg
  base := base
  A := A.deeper (envOfC qual scope s.heap.objs.size f cd)
  N := N
  s₀ := s
  H₀ := H
  env := envOfC qual scope s.heap.objs.size f cd
  outer := outer
  stack := envOfC qual scope s.heap.objs.size f cd :: outer
  ex := []
  calm := true
  fn := fun _ => true
  pn := []
  xe := fun e s' => wpAny (model P w) (A.deeper (envOfC qual scope s.heap.objs.size f cd)) (leaving (envOfC qual scope s.heap.objs.size f cd) e) (fun _ s'' => CX outer H s E e s'') (fun e' s'' => CX outer H s E e' s'') s'

theorem cell_has {sc : Scope} {n : Nat} {x : Str} (h : sc.names.lookup x = some .cell) : ∃ c, (cellsFrom n sc.names []).lookup x = some c := by
  have q := PySem.W.cellsFrom_some sc.names n [] (.inl h)
  exact Option.isSome_iff_exists.mp q

theorem inv_start {CX : CXT} {P : Program} {w : World} {K : PySem.W.Frag} {mg : Str → Option Value} {base : Heap} {N ps : List Str} {qual : Str} {scope : Scope} {f : Addr} {cd : Value} {A : Around} {outer : List Env} {s s1 : Shared} {H : Hp} {E : XK} {us : List Value} {vs : List V}
    (S : FnScope N ps scope) (hd : A.handled = none) (e0 : Env0 P w K mg base A outer s H) (hl : vs.length = ps.length) (r : Vals vs us)
    (x : InCallC s s.heap.objs.size (bindL (envOfC qual scope s.heap.objs.size f cd).kindOf (ps.zip us) fun _ => none) (cellsFrom (s.heap.objs.size + 1) scope.names []) (bindC (envOfC qual scope s.heap.objs.size f cd).kindOf (ps.zip us) fun _ => none) s1) :
    Inv (cxOf CX P w K mg base N qual scope f cd A outer s H E) [] (start N vs) H s1 := by
  have hpl : ps.length ≤ N.length := by have := congrArg List.length S.pre; rw [List.length_take] at this; omega
  obtain ⟨h1, tk, rfl, hk⟩ := x.done
  have noA : ∀ b : Addr, b ∉ (cxOf CX P w K mg base N qual scope f cd A outer s H E).ex := fun b z => absurd (show b ∈ ([] : List Addr) from z) (by simp)
  refine ⟨⟨e0.mod, S.kind, rfl, rfl, Nat.le_refl _, fun y z c h1 h2 => ?_, fun y hy => ?_, fun y c _ h => ?_, fun _ => hd, Around.frames_deeper e0.frames, .inr ⟨rfl, rfl⟩, fun b z => absurd z (noA b), e0.bs, e0.bsz, fun b _ _ => noA b, fun b z => absurd z (noA b), e0.funs, e0.frf⟩,
    rfl, e0.bare, Un.kept hk, ⟨_, x.toInCall.ns, fun i y v h1 h2 h3 => ?_⟩, fun y c h => ⟨_, x.cell y c h⟩, e0.hok.fresh (Nat.le_refl _), fun y c h => ?_, fun p hp => absurd (show p ∈ ([] : List (Addr × Obj)) from hp) (by simp), e0.hok.kept hk, ?_⟩
  · exact name_of_addr x.apart (PySem.mem_of_lookup h1) (PySem.mem_of_lookup h2)
  · have hy : scope.names.lookup y = some .cell ∨ scope.names.lookup y = some .free := hy
    rcases hy with hy | hy
    · exact cell_has hy
    · exact absurd rfl (S.nofree _ (PySem.mem_of_lookup hy))
  · exact Nat.le_of_lt (x.above y c (PySem.mem_of_lookup h))
  · have hi : i < vs.length := by
      unfold start at h2
      by_cases hi : i < vs.length
      · exact hi
      · rw [List.getElem?_append_right (by simpa using hi)] at h2
        rw [List.getElem?_replicate] at h2
        split at h2 <;> cases h2
    have ha : vs[i]? = some v := by
      unfold start at h2
      rw [List.getElem?_append_left (by simpa using hi), List.getElem?_map] at h2
      cases e : vs[i]? with
      | none => rw [e] at h2; cases h2
      | some a => rw [e] at h2; cases h2; rfl
    obtain ⟨u, hu, rv⟩ := r.get ha
    have hp : ps[i]? = some y := by
      rw [← S.pre, List.getElem?_take_of_lt (by omega)]; exact h1
    have ndP : ps.Nodup := by rw [← S.pre]; exact S.nd.sublist (List.take_sublist _ _)
    refine ⟨u, rv, ?_⟩
    rcases S.par y (List.mem_of_getElem? hp) with k | k
    · exact .inl ⟨k, bindL_get ndP hp hu k⟩
    · obtain ⟨c, e⟩ := cell_has (n := s.heap.objs.size + 1) k
      refine .inr ⟨.inl k, c, e, ?_⟩
      have q := x.cell y c e
      rw [bindC_get ndP hp hu (by show scope.names.lookup y ≠ _; rw [k]; decide)] at q
      exact q
  · exact e0.hok.fresh (Nat.le_of_lt (x.above y c (PySem.mem_of_lookup h)))
  · unfold start
    show _ = N.length
    rw [List.length_append, List.length_map, List.length_replicate]
    omega

/-- THE RULE: a def (or a method) of the text, by its body. The body's reading t is chosen for each entry; it is run at the parameters' values -/
theorem fn_of {CX : CXT} {P : Program} {w : World} {K : PySem.W.Frag} {mg : Str → Option Value} {base : Heap} {k : Nat} {f : Addr} {name qual : Str} {params : Arguments} {body : List Stmt} {scope : Scope} {dV kV doc pm cdv ct oc : Value} {an od : Option Addr}
    {osl : Array (Option Value)} {N ps : List Str} {sp : Sp} (lk : K.lookup f = some ⟨oc, od, .func (PySem.W.fnOf name qual params body scope dV kV doc pm an cdv ct), osl⟩) (hcd : PySem.W.codeIn K cdv qual = true) (S : FnScope N ps scope)
    (len : ∀ vs H Q E, sp vs H Q E → vs.length = ps.length)
    (hbody : ∀ (A : Around) (outer : List Env) (s : Shared) (H : Hp) (vs : List V) (Q : VK) (E : XK), Room k (A.deeper (envOfC qual scope s.heap.objs.size f cdv)) → sp vs H Q E →
      ∃ t, PSs (cxOf CX P w K mg base N qual scope f cdv A outer s H E) body t ∧ t { nx := fun _ H' => Q .non H', rt := Q } (start N vs) H) :
    FnOk P w K mg base CX (k + 1) f (PySem.W.fnOf name qual params body scope dV kV doc pm an cdv ct) ps sp := by
  refine ⟨len, fun A outer s H args us vs Q E hr e0 hb r hsp => ?_⟩
  have hl := len _ _ _ _ hsp
  have KX : K.In s.heap := e0.mod.kin.keeps fun b o e => (e0.bs b o e).1
  have lim : s.heap.NoLimit := e0.mod.nolimit.keeps fun b o e => (e0.bs b o e).1
  have hkind : ∀ y ∈ ps.zip us, scope.names.lookup y.1 = some .local ∨ (scope.names.lookup y.1 = some .cell ∧ ((cellsFrom (s.heap.objs.size + 1) scope.names []).lookup y.1).isSome = true) := fun ⟨n, v⟩ hy => by
    rcases S.par n (List.of_mem_zip hy).1 with q | q
    · exact .inl q
    · exact .inr ⟨q, PySem.W.cellsFrom_some _ _ _ (.inl q)⟩
  refine codeAny_call_function hr.depth (KX _ _ lk) rfl S.co S.gen rfl (PySem.W.codeRec_of KX hcd) (hb _ _ _ _ ?_)
  refine wpAny_newFunctionEnv_cells S.kind hkind fun env he s1 x => ?_
  subst he
  refine ⟨lim.keeps x.toInCall.keep, codeAny_func ?_⟩
  obtain ⟨t, ht, hq⟩ := hbody A outer s H vs Q E (hr.deeper _) hsp
  have I : Inv (cxOf CX P w K mg base N qual scope f cdv A outer s H E) [] (start N vs) H s1 := inv_start S hr.hd e0 hl r x
  refine wpAny_mono (ht [] s1 (start N vs) H _ I hq) (fun fl s' hs => ?_) fun e s' hs => hs
  have fin : ∀ {σ' : St} {H' : Hp} {v : V} {u : Value}, Inv (cxOf CX P w K mg base N qual scope f cdv A outer s H E) [] σ' H' s' → RelV v u → Q v H' → CE outer P w H s Q u s' :=
    fun {σ' H' v u} J rv q => ⟨v, H', J.os, J.bare, J.base, J.hok, rv, q⟩
  cases fl with
  | ret u =>
    obtain ⟨v, σ', H', J, rv, q⟩ := hs
    exact fin J rv q
  | next =>
    obtain ⟨σ', H', J, q⟩ := hs
    exact fin (v := V.non) (u := Value.none) J rfl q
  | brk =>
    obtain ⟨_, _, _, q⟩ := hs
    exact False.elim q
  | cont =>
    obtain ⟨_, _, _, q⟩ := hs
    exact False.elim q
end L2

namespace L2
open PySem PySem.Spec PyProof.Rows
section
variable {X : Cx} {x : Str} {p pos : Pos} {e : Expr} {es : List Expr} {t : TA} {id T : String} {r : List V → Hp → VK → Prop}

def tCB (r : List V → Hp → VK → Prop) (t : TA) : TE := fun σ H Q => t σ H fun vs H1 => r vs H1 Q
/-- f(e, ..), f a built-in function -/
theorem pe_callB (hc : CallR X (.builtin id) r) (hg : Gl X x) (hm : X.mg x = none) (hv : bootBuiltins x = some (.builtin id)) (ha : PA X (e :: es) t) (hn : x ≠ "__name__" := by decide) (hdb : (x == ("__debug__" : Str)) = false := by decide)
    (he : starEach (e :: es) X.env = (false, eval e X.env) :: starEach es X.env := by rfl) (hpl : (backTo pos (starEach es X.env)).any (·.1) = false := by rfl) : PE X (.Call (.Name x p) (e :: es) [] pos) (tCB r t) := by
  intro pins s σ H Q I h
  refine wpAny_Call_Name_kw (ld_blt I hg hm hv ?_ hn hdb)
  exact PyProof.Rows.callWith_builtin1 (thn (ha pos pins s σ H _ I h) fun us s1 ⟨vs, H1, I1, r1, q1⟩ => hc pins s1 σ H1 vs us Q I1 r1 q1) he hpl
end
end L2

namespace HT
open PySem PyProof.Rows

section
open PySem.SeqAt
open PySem.AutoSeq1 (wpAny_loadPart')
open PySem.MeetsSeq PySem.MeetsSeq2 PySem.MeetsSeq3

end

section
variable {prog : Program} {w : World} {A : Around} {E : Value → Shared → Prop} {s : Shared}

/-! ### t[a:b], not the whole -/
/-- a slice's bound as a place among n (d where it is left out) -/
def sIx (n d : Nat) : Option Int → Nat
  | none => d
  | some v => if v < 0 then (v + (n : Int)).toNat else min v.toNat n
theorem sIx_none (n d : Nat) : sIx n d none = d := rfl
theorem sIx_nat (n d k : Nat) : sIx n d (some (k : Int)) = min k n := by
  show (if (k : Int) < 0 then ((k : Int) + (n : Int)).toNat else min (k : Int).toNat n) = min k n
  rw [if_neg (by omega), Int.toNat_natCast]
theorem sIx_le (n d : Nat) (hd : d ≤ n) (o : Option Int) : sIx n d o ≤ n := by
  cases o with
  | none => exact hd
  | some v =>
    show (if v < 0 then (v + (n : Int)).toNat else min v.toNat n) ≤ n
    by_cases hv : v < 0
    · rw [if_pos hv]; omega
    · rw [if_neg hv]; exact Nat.min_le_right _ _
end
end HT

namespace L2
open PySem PySem.Spec PyProof.Rows

/-! ### the parts of a slice -/
abbrev TO := St → Hp → (Option Int → Hp → Prop) → Prop
/-- a slice's part (left out, or an int) -/
def PO (X : Cx) (e : Option Expr) (t : TO) : Prop :=
  ∀ (pins : List (Addr × Obj)) (s : Shared) (σ : St) (H : Hp) (Q : Option Int → Hp → Prop), Inv X pins σ H s → t σ H Q →
    wpAny (model X.prog X.w) X.A (evalPart e X.env) (fun u s' => ∃ o H', Inv X pins σ H' s' ∧ IsPart u o ∧ Q o H') X.xe s
def tNoPart : TO := fun _ H Q => Q none H
def tPart (t : TE) : TO := fun σ H Q => t σ H fun x H1 => ∃ i, x = .int i ∧ Q (some i) H1

section
variable {X : Cx} {e : Expr} {te : TE} {lo hi : Option Expr} {tl th : TO} {pos p2 : Pos}

theorem po_none : PO X none tNoPart := by
  intro pins s σ H Q I h
  rw [evalPart_none]
  exact wpAny_pure ⟨none, H, I, .none, h⟩
theorem po_some (h : PE X e te) : PO X (some e) (tPart te) := by
  intro pins s σ H Q I hw
  rw [evalPart_some]
  refine thn (h pins s σ H _ I hw) fun u s1 ⟨x, H1, I1, r1, q1⟩ => ?_
  obtain ⟨i, rfl, q⟩ := q1
  obtain ⟨t, rfl⟩ := r1
  exact ⟨some i, H1, I1, .int i t, q⟩

/-- what a slice of a value is, by values: the slice object stands at sl -/
def SlR (X : Cx) (r : V → Option Int → Option Int → Hp → VK → Prop) : Prop :=
  ∀ (pins : List (Addr × Obj)) (s : Shared) (σ : St) (H : Hp) (x : V) (v vl vu : Value) (lo hi : Option Int) (sl : Addr) (Q : VK), Inv X pins σ H s → RelV x v → s.heap.IsSliceOf sl vl vu .none → IsPart vl lo → IsPart vu hi → r x lo hi H Q →
    ∃ T id, typeLookup (.type T) "__getitem__" = pure (some (.builtin id)) ∧ s.TypeIs v T ∧ wpAny (model X.prog X.w) X.A (getItem v (.ref sl)) (EP X pins σ Q) X.xe s
theorem SlR.or {r r' : V → Option Int → Option Int → Hp → VK → Prop} (h : SlR X r) (h' : SlR X r') : SlR X (fun x lo hi H Q => r x lo hi H Q ∨ r' x lo hi H Q) := by
  intro pins s σ H x v vl vu lo hi sl Q I rx hs pl pu q
  rcases q with q | q
  · exact h pins s σ H x v vl vu lo hi sl Q I rx hs pl pu q
  · exact h' pins s σ H x v vl vu lo hi sl Q I rx hs pl pu q
def tSl (r : V → Option Int → Option Int → Hp → VK → Prop) (te : TE) (tl th : TO) : TE := fun σ H Q => te σ H fun x H1 => tl σ H1 fun l H2 => th σ H2 fun u H3 => r x l u H3 Q
/-- a[lo:hi], any a -/
theorem pe_slice {r : V → Option Int → Option Int → Hp → VK → Prop} (hr : SlR X r) (he : PE X e te) (hl : PO X lo tl) (hu : PO X hi th) : PE X (.Subscript e (.Slice lo hi none p2) pos) (tSl r te tl th) := by
  intro pins s σ H Q I h
  refine Subscript_ (thn (he pins s σ H _ I h) fun v s1 ⟨x, H1, I1, r1, q1⟩ => ?_)
  refine wpAny_Slice (thn (hl pins s1 σ H1 _ I1 q1) fun vl s2 ⟨l, H2, I2, pl, q2⟩ => thn (hu pins s2 σ H2 _ I2 q2) fun vu s3 ⟨u, H3, I3, pu, q3⟩ => ?_)
  rw [evalPart_none]
  refine wpAny_pure ?_
  have I4 : Inv X pins σ H3 { s3 with heap := s3.heap.push { cls := .type "slice", data := .fields #[vl, vu, .none] } } := I3.kept (t' := s3.toks) fun b ob q => Heap.get?_push_of_some _ q
  obtain ⟨T, id, hT, ht, hg⟩ := hr pins { s3 with heap := s3.heap.push { cls := .type "slice", data := .fields #[vl, vu, .none] } } σ H3 x v vl vu l u s3.heap.objs.size Q I4 r1 (Heap.IsSliceOf.new ..) pl pu q3
  show wpAny (model X.prog X.w) X.A (subscriptTail e (.Slice lo hi none p2) v (.ref s3.heap.objs.size)) (EP X pins σ Q) X.xe { s3 with heap := s3.heap.push { cls := .type "slice", data := .fields #[vl, vu, .none] } }
  exact tail_any (ops := [.ref s3.heap.objs.size, v]) ht hT hg (by with_unfolding_all rfl)

/-- the items of xs[lo:hi] -/
def cutV (xs : List V) (lo hi : Option Int) : List V := (xs.drop (HT.sIx xs.length 0 lo)).take (HT.sIx xs.length xs.length hi - HT.sIx xs.length 0 lo)
theorem cutV_length (xs : List V) (lo hi : Option Int) : (cutV xs lo hi).length ≤ xs.length := by
  unfold cutV
  rw [List.length_take, List.length_drop]
  omega
/-! ### t < u, t + u -/
end
end L2

namespace L2
open PySem PySem.Spec PyProof.Rows

/-! ### places -/
/-- the place that an index of any sign means -/
def ixN (n : Nat) (i : Int) : Option Nat := if 0 ≤ i then (if i < n then some i.toNat else none) else if -(n : Int) ≤ i then some (i + n).toNat else none
def atI {α : Type} (xs : List α) (i : Int) : Option α := (ixN xs.length i).bind fun j => xs[j]?
theorem ixN_seq {n : Nat} {i : Int} {j : Nat} (h : ixN n i = some j) : seqIndex? i n = some j ∧ j < n ∧ -(n : Int) ≤ i ∧ i < n := by
  unfold ixN at h
  by_cases h0 : 0 ≤ i
  · rw [if_pos h0] at h
    by_cases h1 : i < n
    · rw [if_pos h1] at h
      have e : i.toNat = j := Option.some.inj h
      exact ⟨by rw [seqIndex_of h0 h1, e], by omega, by omega, h1⟩
    · rw [if_neg h1] at h; cases h
  · rw [if_neg h0] at h
    by_cases h1 : -(n : Int) ≤ i
    · rw [if_pos h1] at h
      have e : (i + n).toNat = j := Option.some.inj h
      exact ⟨by rw [seqIndex_neg (by omega) h1, e], by omega, h1, by omega⟩
    · rw [if_neg h1] at h; cases h
theorem atI_get {α : Type} {xs : List α} {i : Int} {v : α} (h : atI xs i = some v) : ∃ j, seqIndex? i xs.length = some j ∧ xs[j]? = some v ∧ j < xs.length ∧ -(xs.length : Int) ≤ i ∧ i < xs.length := by
  unfold atI at h
  cases e : ixN xs.length i with
  | none => rw [e] at h; cases h
  | some j =>
    rw [e] at h
    obtain ⟨h1, h2, h3, h4⟩ := ixN_seq e
    exact ⟨j, h1, h, h2, h3, h4⟩
theorem atI_nat {α : Type} {xs : List α} {j : Nat} {v : α} (h : xs[j]? = some v) : atI xs (j : Int) = some v := by
  have hj : j < xs.length := (List.getElem?_eq_some_iff.mp h).1
  have e : ixN xs.length (j : Int) = some j := by
    unfold ixN
    rw [if_pos (by omega), if_pos (by omega)]; simp
  unfold atI; rw [e]; exact h
theorem atI_last {α : Type} (xs : List α) (v : α) : atI (xs ++ [v]) (-1) = some v := by
  have hl : (xs ++ [v]).length = xs.length + 1 := by simp
  have e : ixN (xs ++ [v]).length (-1) = some xs.length := by
    unfold ixN
    rw [hl, if_neg (by decide), if_pos (by omega)]
    congr 1
    omega
  unfold atI
  rw [e]
  show (xs ++ [v])[xs.length]? = some v
  simp

/-! ### what may be subscripted -/
/-- what stands as an index of a plain subscript -/
def PlainIx (b : Expr) : Prop := ∀ o i, subscripted b false o i = operate [o, i] (getItem o i)
/-- a subscript by values -/
def IxR (X : Cx) (r : R2) : Prop :=
  ∀ (value slice : Expr) (pins : List (Addr × Obj)) (s : Shared) (σ : St) (H : Hp) (x y : V) (v u : Value) (Q : VK), Inv X pins σ H s → RelV x v → RelV y u → r x y H Q →
    subscripted slice false v u = operate [v, u] (getItem v u) → wpAny (model X.prog X.w) X.A (subscriptTail value slice v u) (EP X pins σ Q) X.xe s
/-- a call of a builtin's method by values: the receiver, the arguments -/
def MtR (X : Cx) (id : String) (r : V → List V → Hp → VK → Prop) : Prop :=
  ∀ (pins : List (Addr × Obj)) (s : Shared) (σ : St) (H : Hp) (x : V) (xs : List V) (v : Value) (us : List Value) (Q : VK), Inv X pins σ H s → RelV x v → Vals xs us → r x xs H Q →
    wpAny (model X.prog X.w) X.A (call (.builtin id) (v :: us)) (EP X pins σ Q) X.xe s
section
variable {X : Cx} {a b : Expr} {ta tb : TE} {pos : Pos}
theorem IxR.or {r r' : R2} (h : IxR X r) (h' : IxR X r') : IxR X (fun x y H Q => r x y H Q ∨ r' x y H Q) := by
  intro value slice pins s σ H x y v u Q I rx ry q hs
  rcases q with q | q
  · exact h value slice pins s σ H x y v u Q I rx ry q hs
  · exact h' value slice pins s σ H x y v u Q I rx ry q hs
theorem MtR.or {id : String} {r r' : V → List V → Hp → VK → Prop} (h : MtR X id r) (h' : MtR X id r') : MtR X id (fun x xs H Q => r x xs H Q ∨ r' x xs H Q) := by
  intro pins s σ H x xs v us Q I rx rs q
  rcases q with q | q
  · exact h pins s σ H x xs v us Q I rx rs q
  · exact h' pins s σ H x xs v us Q I rx rs q
/-- a[b] -/
theorem pe_ix {r : R2} (hr : IxR X r) (ha : PE X a ta) (hb : PE X b tb) (hs : PlainIx b) : PE X (.Subscript a b pos) (tOp r ta tb) := by
  intro pins s σ H Q I h
  exact Subscript_ (binT ha hb I h fun v u s2 x y H2 I2 rx ry q => hr a b pins s2 σ H2 x y v u Q I2 rx ry q (hs _ _))

def rIxL (K : PySem.W.Frag) : R2 := fun x y H Q => ∃ p xs i v, x = .ref p ∧ y = .int i ∧ SqL K H p xs ∧ atI xs i = some v ∧ Q v H
def rIxS : R2 := fun x y H Q => ∃ z i c, x = .str z ∧ y = .int i ∧ z.length ≤ sizeLine ∧ atI z.cps.toList i = some c ∧ Q (.str ⟨#[c]⟩) H
theorem ix_list : IxR X (rIxL X.K) := by
  intro value slice pins s σ H x y v u Q I rx ry h hs
  obtain ⟨p, xs, i, z, rfl, rfl, hq, he, q⟩ := h
  cases rx
  obtain ⟨t, rfl⟩ := ry
  obtain ⟨its, r, pl, hz⟩ := I.list hq
  obtain ⟨j, h1, h2, h3, h4, h5⟩ := atI_get he
  obtain ⟨w, ew, rw'⟩ := r.get h2
  have hl := r.length
  have hn := line63
  have fin : EP X pins σ Q w s := ⟨z, H, I, rw', q⟩
  by_cases h0 : 0 ≤ i
  · have hj : i.toNat = j := by
      rw [seqIndex_of h0 h5] at h1
      exact Option.some.inj h1
    exact item_listR pl.isList h0 (by omega) (by rw [hj]; simpa using ew) fin hs
  · have hj : (i + (its.toArray.size : Int)).toNat = j := by
      rw [seqIndex_neg (by omega) h4] at h1
      rw [List.size_toArray, ← hl]
      exact Option.some.inj h1
    exact subscriptTail_builtinR (x := w) pl.isList.typeIs slot_list_getitem.lookup
      (wpAny_getItem_list_neg (Q := fun r s' => r = w ∧ EP X pins σ Q r s') pl.isList (by omega) (by rw [List.size_toArray] <;> omega) (by omega) (by rw [hj]; simpa using ew) ⟨rfl, fin⟩) hs
theorem ix_str : IxR X rIxS := by
  intro value slice pins s σ H x y v u Q I rx ry h hs
  obtain ⟨z, i, c, rfl, rfl, hz, he, q⟩ := h
  obtain ⟨t, rfl⟩ := rx
  obtain ⟨t', rfl⟩ := ry
  obtain ⟨j, h1, h2, h3, h4, h5⟩ := atI_get he
  have hl : z.cps.toList.length = z.length := by simp [Str.length]
  rw [hl] at h1 h4 h5
  have hn := line63
  exact tail_any (typeIs_str s z t) slot_str_getitem.lookup (getItem_str (c := c) (by
    have e1 : decide (i < -(2 ^ 63 : Int)) = false := decide_eq_false (by omega)
    have e2 : decide (i ≥ 2 ^ 63) = false := decide_eq_false (by omega)
    rw [e1, e2, Bool.or_false]) (by rw [h1]; simpa using h2) ⟨.str ⟨#[c]⟩, H, I.tok _, ⟨_, rfl⟩, q⟩) hs
/-! ### xs[i] = v, any sign -/
theorem Inv.lst {pins : List (Addr × Obj)} {σ : St} {H : Hp} {s : Shared} {p : Addr} {xs : List V} (I : Inv X pins σ H s) (h : H p = some (.lst xs)) :
    ∃ (its : List Value) (n : Nat), Vals xs its ∧ s.heap.get? p = some { cls := .type "list", data := .seq its.toArray n } ∧ xs.length ≤ sizeLine := by
  obtain ⟨z, its, n, r, e⟩ := I.hok p _ h
  exact ⟨its, n, r, e, z⟩
/-! ### slices -/
theorem slice_bounds (lo hi : Option Int) (n : Nat) : (sliceBounds lo hi none n).1 = ((HT.sIx n 0 lo : Nat) : Int) ∧ (sliceBounds lo hi none n).2.1 = ((HT.sIx n n hi : Nat) : Int) ∧ (sliceBounds lo hi none n).2.2 = 1 := by
  refine ⟨?_, ?_, rfl⟩
  · cases lo with
    | none => simp [sliceBounds, HT.sIx]
    | some i =>
      simp only [sliceBounds, HT.sIx, Option.getD_none, show (1 : Int) > 0 by decide, if_true]
      by_cases h : i < 0
      · simp only [h, if_true] <;> omega
      · simp only [h, if_false] <;> omega
  · cases hi with
    | none => simp [sliceBounds, HT.sIx]
    | some i =>
      simp only [sliceBounds, HT.sIx, Option.getD_none, show (1 : Int) > 0 by decide, if_true]
      by_cases h : i < 0
      · simp only [h, if_true] <;> omega
      · simp only [h, if_false] <;> omega
theorem slicePick_cut (its : List Value) (lo hi : Option Int) : slicePick its.toArray lo hi none = ((its.drop (HT.sIx its.length 0 lo)).take (HT.sIx its.length its.length hi - HT.sIx its.length 0 lo)).toArray := by
  obtain ⟨h1, h2, h3⟩ := slice_bounds lo hi its.toArray.size
  unfold slicePick
  rw [h1, h2, h3]
  simp only [sliceRange_one, pick_run, List.size_toArray] <;> rfl
/-- xs[lo:hi] of a list: a new list -/
def rSlL (K : PySem.W.Frag) : V → Option Int → Option Int → Hp → VK → Prop := fun x lo hi H Q => ∃ a xs, x = .ref a ∧ SqL K H a xs ∧ ∀ p, H p = none → Q (.ref p) (upd H p (.lst (cutV xs lo hi)))
theorem sl_list : SlR X (rSlL X.K) := by
  intro pins s σ H x v vl vu lo hi sl Q I rx hs pl pu h
  obtain ⟨a, xs, rfl, hx, q⟩ := h
  cases rx
  obtain ⟨its, r, ht, hz⟩ := I.list hx
  have hlen := r.length
  refine ⟨"list", _, slot_list_getitem.lookup, ht.isList.typeIs, ?_⟩
  refine wpAny_getItem_list_slice ht.isList hs pl pu .none (by simp) ?_ (by rw [List.size_toArray] <;> omega)
  rw [slicePick_cut, ← hlen]
  refine ⟨.ref s.heap.objs.size, _, I.laid (t' := s.toks) (o := .lst (cutV xs lo hi)) (fun b ob q => Heap.get?_push_of_some _ q) (Nat.le_refl _) ?_, rfl, q _ (I.hok.fresh (Nat.le_refl _))⟩
  exact ⟨Nat.le_trans (cutV_length xs lo hi) hz, _, 0, (r.drop (HT.sIx xs.length 0 lo)).take (HT.sIx xs.length xs.length hi - HT.sIx xs.length 0 lo), Heap.get?_push_size _ rfl⟩

/-! ### in, not in: flat items -/
def flatV : V → Bool
  | .non => true
  | .bl _ => true
  | .int _ => true
  | .str _ => true
  | _ => false
/-- == of flat values -/
def eqV : V → V → Bool
  | .non, .non => true
  | .bl a, .bl b => a == b
  | .bl a, .int b => (if a then 1 else 0) == b
  | .int a, .bl b => a == (if b then 1 else 0)
  | .int a, .int b => a == b
  | .str a, .str b => a == b
  | _, _ => false
theorem eqAt_V {A : Around} {s : Shared} {y x : V} {u v : Value} (ry : RelV y u) (rx : RelV x v) (fy : flatV y = true) (fx : flatV x = true) : SeqAt.EqAt A s u v (eqV y x) := by
  cases y with
  | non =>
    cases ry
    cases x with
    | non => cases rx; exact SeqAt.EqAt.same _
    | bl b => cases rx; exact SeqAt.EqAt.none_bool b
    | int b => obtain ⟨t, rfl⟩ := rx; exact SeqAt.EqAt.none_int b t
    | str b => obtain ⟨t, rfl⟩ := rx; exact SeqAt.EqAt.none_str b t
    | _ => exact absurd (show false = true from fx) Bool.false_ne_true
  | bl a =>
    cases ry
    cases x with
    | non => cases rx; exact SeqAt.EqAt.bool_none a
    | bl b => cases rx; exact SeqAt.EqAt.bool_bool a b
    | int b => obtain ⟨t, rfl⟩ := rx; exact SeqAt.EqAt.bool_int a b t
    | str b => obtain ⟨t, rfl⟩ := rx; exact SeqAt.EqAt.bool_str a b t
    | _ => exact absurd (show false = true from fx) Bool.false_ne_true
  | int a =>
    obtain ⟨t', rfl⟩ := ry
    cases x with
    | non => cases rx; exact SeqAt.EqAt.int_none a t'
    | bl b => cases rx; exact SeqAt.EqAt.int_bool a t' b
    | int b => obtain ⟨t, rfl⟩ := rx; exact SeqAt.EqAt.int_int a t' b t
    | str b => obtain ⟨t, rfl⟩ := rx; exact SeqAt.EqAt.int_str a t' b t
    | _ => exact absurd (show false = true from fx) Bool.false_ne_true
  | str a =>
    obtain ⟨t', rfl⟩ := ry
    cases x with
    | non => cases rx; exact SeqAt.EqAt.str_none a t'
    | bl b => cases rx; exact SeqAt.EqAt.str_bool a t' b
    | int b => obtain ⟨t, rfl⟩ := rx; exact SeqAt.EqAt.str_int a t' b t
    | str b => obtain ⟨t, rfl⟩ := rx; exact SeqAt.EqAt.str_str a t' b t
    | _ => exact absurd (show false = true from fx) Bool.false_ne_true
  | _ => exact absurd (show false = true from fy) Bool.false_ne_true
/-- the items' answers, read off the values (a value's own answer does not lean on its token) -/
def eqU (x : V) (u : Value) : Bool := match u with
  | .none => eqV .non x
  | .bool b => eqV (.bl b) x
  | .int i _ => eqV (.int i) x
  | .str z _ => eqV (.str z) x
  | _ => false
theorem eqU_of {x y : V} {u : Value} (r : RelV y u) (f : flatV y = true) : eqU x u = eqV y x := by
  cases y with
  | non => cases r; rfl
  | bl b => cases r; rfl
  | int i => obtain ⟨t, rfl⟩ := r; rfl
  | str z => obtain ⟨t, rfl⟩ := r; rfl
  | _ => exact absurd (show false = true from f) Bool.false_ne_true
theorem any_eqU {x : V} : ∀ {xs : List V} {us : List Value}, Vals xs us → xs.all flatV = true → us.any (eqU x) = xs.any fun y => eqV y x
  | _, _, .nil, _ => rfl
  | y :: xs, u :: us, .cons r t, f => by
    rw [List.all_cons, Bool.and_eq_true] at f
    rw [List.any_cons, List.any_cons, eqU_of r f.1, any_eqU t f.2]
theorem mem_eqAt {A : Around} {s : Shared} {x : V} {v : Value} (rx : RelV x v) (fx : flatV x = true) : ∀ {xs : List V} {us : List Value}, Vals xs us → xs.all flatV = true → ∀ u ∈ us, SeqAt.EqAt A s u v (eqU x u)
  | _, _, .nil, _ => fun u hu => by cases hu
  | y :: xs, u :: us, .cons r t, f => fun u' hu => by
    rw [List.all_cons, Bool.and_eq_true] at f
    rcases List.mem_cons.mp hu with rfl | hu
    · rw [eqU_of r f.1]; exact eqAt_V r rx f.1 fx
    · exact mem_eqAt rx fx t f.2 u' hu
def inV (x : V) (xs : List V) : Bool := xs.any fun y => eqV y x
/-- x in a list or tuple of flat items -/
def rIn (K : PySem.W.Frag) (neg : Bool) : R2 := fun x y H Q => ∃ p xs, y = .ref p ∧ (SqL K H p xs ∨ SqT K H p xs) ∧ flatV x = true ∧ xs.all flatV = true ∧ Q (.bl (if neg then !inV x xs else inV x xs)) H
theorem op_notIn_seq : OpR X (compareOp .NotIn) (rIn X.K true) := by
  intro pins s σ H x y v u Q I rx ry h
  obtain ⟨p, xs, rfl, hq, fx, fs, q⟩ := h
  cases ry
  rcases hq with hq | hq
  · obtain ⟨its, r, pl, hz⟩ := I.list hq
    refine SeqAt.notIn_listAt (eqU x) pl.isList (fun w hw => mem_eqAt rx fx r fs w (by simpa using hw)) ⟨.bl _, H, I, rfl, ?_⟩
    rw [show its.toArray.any (eqU x) = its.any (eqU x) by simp, any_eqU r fs]
    exact q
  · obtain ⟨its, r, pl, hz⟩ := I.tuple hq
    refine SeqAt.notIn_tupleAt (eqU x) pl (fun w hw => mem_eqAt rx fx r fs w (by simpa using hw)) ⟨.bl _, H, I, rfl, ?_⟩
    rw [show its.toArray.any (eqU x) = its.any (eqU x) by simp, any_eqU r fs]
    exact q
/-! ### len, list(x), tuple(x) of any list or tuple that is read -/
theorem call_len_seq : CallR X (.builtin "len") (fun xs H Q => ∃ p ys, xs = [.ref p] ∧ (SqL X.K H p ys ∨ SqT X.K H p ys) ∧ Q (.int ys.length) H) := by
  intro pins s σ H xs us Q I r h
  obtain ⟨p, ys, rfl, hq, q⟩ := h
  obtain ⟨u, rfl, rx⟩ := vals1 r
  cases rx
  have hn := line63
  rcases hq with hq | hq
  · obtain ⟨its, r', pl, hz⟩ := I.list hq
    have hlen := r'.length
    exact Calls.call_len_list pl.isList (by simp only [List.size_toArray] <;> omega) ⟨.int ys.length, H, I.tok _, ⟨s.toks + 1, by rw [List.size_toArray, hlen]⟩, q⟩
  · obtain ⟨its, r', pl, hz⟩ := I.tuple hq
    have hlen := r'.length
    exact len_tuple pl (by simp only [List.size_toArray] <;> omega) ⟨.int ys.length, H, I.tok _, ⟨s.toks + 1, by rw [List.size_toArray, hlen]⟩, q⟩
theorem call_len_str : CallR X (.builtin "len") (fun xs H Q => ∃ z, xs = [.str z] ∧ z.length ≤ sizeLine ∧ Q (.int z.length) H) := by
  intro pins s σ H xs us Q I r h
  obtain ⟨z, rfl, hz, q⟩ := h
  obtain ⟨u, rfl, t, rfl⟩ := vals1 r
  have hn := line63
  exact len_str (by omega) ⟨.int z.length, H, I.tok _, ⟨_, rfl⟩, q⟩
theorem CallR.or {f : Value} {r r' : List V → Hp → VK → Prop} (h : CallR X f r) (h' : CallR X f r') : CallR X f (fun xs H Q => r xs H Q ∨ r' xs H Q) := by
  intro pins s σ H xs us Q I rs q
  rcases q with q | q
  · exact h pins s σ H xs us Q I rs q
  · exact h' pins s σ H xs us Q I rs q
/-! ### the call of a builtin's method: o.m(..) -/
/-- the value is of that builtin type -/
def tyV (K : PySem.W.Frag) (T : String) (x : V) (H : Hp) : Prop := match x with
  | .str _ => T = "str"
  | .int _ => T = "int"
  | .ref p => (T = "list" ∧ ∃ xs, SqL K H p xs) ∨ (T = "tuple" ∧ ∃ o, K.lookup p = some o ∧ o.cls = .type "tuple" ∧ o.dict = none) ∨
      (T = "dict" ∧ ((∃ kvs, H p = some (.dK kvs)) ∨ ∃ kvs, H p = some (.dT kvs))) ∨ (T = "set" ∧ ∃ S n, H p = some (.set S n))
  | _ => False
theorem tyV_is {pins : List (Addr × Obj)} {σ : St} {H : Hp} {s : Shared} {T : String} {x : V} {v : Value} (I : Inv X pins σ H s) (r : RelV x v) (ty : tyV X.K T x H) :
    s.TypeIs v T ∧ ∀ a, v = .ref a → ∃ ob, s.heap.get? a = some ob ∧ ob.dict = none := by
  cases x with
  | str z =>
    obtain ⟨t, rfl⟩ := r
    cases (show T = "str" from ty)
    exact ⟨typeIs_str s z t, fun _ e => nomatch e⟩
  | int i =>
    obtain ⟨t, rfl⟩ := r
    cases (show T = "int" from ty)
    exact ⟨typeIs_int s i t, fun _ e => nomatch e⟩
  | ref p =>
    cases r
    rcases ty with ⟨rfl, xs, hq⟩ | ⟨rfl, o, hk, hc, hd⟩ | ⟨rfl, hk⟩ | ⟨rfl, S, n, hk⟩
    · obtain ⟨its, _, pl, _⟩ := I.list hq
      refine ⟨pl.isList.typeIs, fun a e => ?_⟩
      cases e
      obtain ⟨o, n, e, c, hd, _⟩ := pl
      exact ⟨o, e, hd⟩
    · refine ⟨⟨o, I.kIn p o hk, hc⟩, fun a e => ?_⟩
      cases e
      exact ⟨o, I.kIn _ o hk, hd⟩
    · have z : ∃ o, s.heap.get? p = some o ∧ o.ExactDict := by
        rcases hk with ⟨kvs, hk⟩ | ⟨kvs, hk⟩
        · obtain ⟨_, _, _, _, o, _, _, e, ex, _⟩ := I.hok p _ hk
          exact ⟨o, e, ex⟩
        · obtain ⟨_, _, _, _, o, _, _, e, ex, _⟩ := I.hok p _ hk
          exact ⟨o, e, ex⟩
      obtain ⟨o, e, ex⟩ := z
      refine ⟨⟨o, e, ex.1⟩, fun a e2 => ?_⟩
      cases e2
      exact ⟨o, e, ex.2.1⟩
    · obtain ⟨o, _, _, _, e, ex, _⟩ := I.hok p _ hk
      refine ⟨⟨o, e, ex.1⟩, fun a e2 => ?_⟩
      cases e2
      exact ⟨o, e, ex.2.1⟩
  | _ => exact False.elim ty
def tBM (K : PySem.W.Frag) (T : String) (r : V → List V → Hp → VK → Prop) (to : TE) (t : TA) : TE := fun σ H Q => to σ H fun x H1 => tyV K T x H1 ∧ t σ H1 fun xs H2 => r x xs H2 Q
variable {o e : Expr} {es : List Expr} {to : TE} {t : TA} {name : Str} {apos cpos : Pos} {T id : String} {r : V → List V → Hp → VK → Prop}
theorem pe_bm (pa : PlainAttrs T) (slot : Slot T name id) (hty : typeOf (.builtin id) = pure (.type "method_descriptor")) (hm : MtR X id r) (ho : PE X o to) (ha : PA X (e :: es) t)
    (hbase : attributeBase o name X.env (eval o X.env) = eval o X.env := by rfl)
    (hfew : ((backTo cpos (starEach (e :: es) X.env)).all (fun x => !x.1) && (backToKw cpos (keywordEach [] X.env)).all (fun x => x.1.isSome)
      && decide ((e :: es).length + ([] : List Keyword).length + (if ([] : List Keyword).isEmpty then 0 else 1) < 30)) = true := by rfl)
    (hline : (apos.endLine == cpos.line) = true := by rfl) (hs : starEach (e :: es) X.env = (false, eval e X.env) :: starEach es X.env := by rfl) (hplain : (backTo cpos (starEach es X.env)).any (·.1) = false := by rfl) :
    PE X (.Call (.Attribute o name apos) (e :: es) [] cpos) (tBM X.K T r to t) := by
  intro pins s σ H Q I h
  refine wpAny_Call_method_late hbase hfew hline rfl (thn (ho pins s σ H _ I h) fun v s1 ⟨x, H1, I1, r1, ty, q1⟩ => ?_)
  obtain ⟨h1, h2⟩ := tyV_is I1 r1 ty
  refine ⟨T, id, pa, slot, hty, h1, h2, ?_⟩
  have hA := ha cpos pins s1 σ H1 _ I1 q1
  rw [hs] at hA ⊢
  refine Calls.callWith_builtin (by show (false || (backTo cpos (starEach es X.env)).any (·.1)) = false; rw [hplain] <;> rfl) (Calls.evalArgs_plain ?_)
  exact thn hA fun us s2 ⟨vs, H2, I2, r2, q2⟩ => hm pins s2 σ H2 x vs v us Q I2 r1 r2 q2
/- xs.append(e), list.index on a module's tuple .. are MtR facts of 06m -/
end
end L2

namespace L2
open PySem PySem.Spec PyProof.Rows

def MtM (X : Cx) (id : String) (r : V → List V → Hp → VK → Prop) : Prop :=
  ∀ (pins : List (Addr × Obj)) (s : Shared) (σ : St) (H : Hp) (x : V) (xs : List V) (v : Value) (us : List Value) (Q : VK), Inv X pins σ H s → RelV x v → Vals xs us → r x xs H Q →
    wpAny (model X.prog X.w) X.A (call (.builtin id) (v :: us)) (EP X pins σ Q) X.xe s

/-! ### lists of values -/
theorem Vals.one : ∀ {x : V} {us : List Value}, Vals [x] us → ∃ u, us = [u] ∧ RelV x u
  | _, _, .cons r .nil => ⟨_, rfl, r⟩
theorem Vals.two : ∀ {x y : V} {us : List Value}, Vals [x, y] us → ∃ u v, us = [u, v] ∧ RelV x u ∧ RelV y v
  | _, _, _, .cons r (.cons q .nil) => ⟨_, _, rfl, r, q⟩
theorem Vals.zero : ∀ {us : List Value}, Vals [] us → us = []
  | _, .nil => rfl
section
variable {X : Cx} {pins : List (Addr × Obj)} {σ : St} {H : Hp} {s : Shared} {l b : Addr} {xs ys zs : List V}

/-! ### the two steps: a tracked list is rewritten, a new list is laid -/
theorem Inv.lset {its its' : List Value} {n : Nat} {f : Array Value → Array Value} {t' : Nat} (I : Inv X pins σ H s) (hH : H l = some (.lst xs))
    (e : s.heap.get? l = some { cls := .type "list", data := .seq its.toArray n }) (hf : f its.toArray = its'.toArray) (hv : Vals ys its') (hz : ys.length ≤ sizeLine) :
    Inv X pins σ (upd H l (.lst ys)) { s with heap := s.heap.update l (Obj.mapSeq f), toks := t' } := by
  have q := PySem.IsL.update e f
  rw [hf] at q
  refine I.write (x := l) (e := l) (by rw [hH]; exact trivial) (.inl rfl) (fun b' u hb hu => (Heap.get?_update_other s.heap (Obj.mapSeq f) (Ne.symm hb)).trans hu) ⟨_, q⟩ ?_
  exact ⟨hz, its', _, hv, q⟩
theorem Inv.lnew {its : List Value} {t' : Nat} (I : Inv X pins σ H s) (hv : Vals ys its) (hz : ys.length ≤ sizeLine) :
    Inv X pins σ (upd H s.heap.objs.size (.lst ys)) { s with heap := s.heap.push { cls := .type "list", data := .seq its.toArray }, toks := t' } :=
  I.laid (fun _ _ q => Heap.get?_push_of_some _ q) (Nat.le_refl _) ⟨hz, its, 0, hv, Heap.get?_push_size _ rfl⟩
theorem Inv.fresh (I : Inv X pins σ H s) : H s.heap.objs.size = none := I.hok.fresh (Nat.le_refl _)
theorem Inv.lstM (I : Inv X pins σ H s) (hH : H l = some (.lst xs)) : xs.length ≤ sizeLine ∧ ∃ (its : List Value) (n : Nat), Vals xs its ∧ xs.length = its.length ∧ s.heap.get? l = some { cls := .type "list", data := .seq its.toArray n } := by
  obtain ⟨z, its, n, r, e⟩ := I.hok l _ hH
  exact ⟨z, its, n, r, r.length, e⟩

theorem notLongL {n : Nat} (h : n ≤ sizeLine) : Builtin.List.listTooLong n = false := by
  unfold Builtin.List.listTooLong
  exact decide_eq_false (by omega)
end

section
variable {X : Cx}

/-! ### methods -/
def rAppend : V → List V → Hp → VK → Prop := fun x vs H Q => ∃ l xs y, x = .ref l ∧ vs = [y] ∧ H l = some (.lst xs) ∧ xs.length < sizeLine ∧ Q .non (upd H l (.lst (xs ++ [y])))
theorem mt_append : MtM X "list.append" rAppend := by
  intro pins s σ H x vs v us Q I rx rv h
  obtain ⟨l, xs, y, rfl, rfl, hH, hz, q⟩ := h
  cases rx
  obtain ⟨u, rfl, ru⟩ := rv.one
  obtain ⟨z, its, n, r, hl, e⟩ := I.lstM hH
  refine call_meets F.slot_list_append ⟨_, e, rfl⟩ F.entry_list_append (F.args_list_append_2 _ _) (PySem.list_append l its.toArray n u (by rw [List.size_toArray]; omega)) ⟨e, ?_⟩
  refine ⟨.non, _, I.lset (its' := its ++ [u]) hH e (by simp) (r.append (.cons ru .nil)) ?_, rfl, q⟩
  rw [List.length_append, List.length_singleton]
  omega

def rExtend : V → List V → Hp → VK → Prop := fun x vs H Q => ∃ l b xs zs, x = .ref l ∧ vs = [.ref b] ∧ H l = some (.lst xs) ∧ H b = some (.lst zs) ∧ xs.length + zs.length ≤ sizeLine ∧ Q .non (upd H l (.lst (xs ++ zs)))
theorem mt_extend : MtM X "list.extend" rExtend := by
  intro pins s σ H x vs v us Q I rx rv h
  obtain ⟨l, b, xs, zs, rfl, rfl, hH, hB, hz, q⟩ := h
  cases rx
  obtain ⟨u, rfl, ru⟩ := rv.one
  cases ru
  obtain ⟨z, its, n, r, hl, e⟩ := I.lstM hH
  obtain ⟨z2, its2, n2, r2, hl2, e2⟩ := I.lstM hB
  have hsz : its.toArray.size + its2.toArray.size ≤ sizeLine := by rw [List.size_toArray, List.size_toArray]; omega
  have hlong : ¬ (!its.toArray.isEmpty && Builtin.List.listTooLong (its.toArray.size + its2.toArray.size)) = true := by
    rw [notLongL hsz, Bool.and_false]
    exact Bool.false_ne_true
  refine call_meets F.slot_list_extend ⟨_, e, rfl⟩ F.entry_list_extend (F.args_list_extend_2 _ _)
    (AutoSeq1.list_extend_list_list_0 l its.toArray n b its2.toArray n2 hlong (by rw [List.size_toArray]; omega) (by omega)) ⟨e, e2, ?_⟩
  refine ⟨.non, _, I.lset (its' := its ++ its2) hH e (by simp) (r.append r2) ?_, rfl, q⟩
  rw [List.length_append]
  omega

/-! ### list + list, list += list, list * int -/
def rCat : R2 := fun x y H Q => ∃ l b xs zs, x = .ref l ∧ y = .ref b ∧ H l = some (.lst xs) ∧ H b = some (.lst zs) ∧ xs.length + zs.length ≤ sizeLine ∧ ∀ p, H p = none → Q (.ref p) (upd H p (.lst (xs ++ zs)))
theorem op_cat : OpR X (binaryOp .Add) rCat := by
  intro pins s σ H x y v u Q I rx ry h
  obtain ⟨l, b, xs, zs, rfl, rfl, hH, hB, hz, q⟩ := h
  cases rx
  cases ry
  obtain ⟨z, its, n, r, hl, e⟩ := I.lstM hH
  obtain ⟨z2, its2, n2, r2, hl2, e2⟩ := I.lstM hB
  refine PySem.P.add_list e e2 ?_ (by rw [List.size_toArray, List.size_toArray]; omega)
  have ea : its.toArray ++ its2.toArray = (its ++ its2).toArray := by simp
  rw [ea]
  exact ⟨.ref _, _, I.lnew (t' := s.toks) (r.append r2) (by rw [List.length_append]; omega), rfl, q _ I.fresh⟩
/-! ### del xs[i] -/
end

/-! ### xs[a:b] = ys -/
section
variable {prog : Program} {w : World} {A : Around} {E : Value → Shared → Prop} {s : Shared}
end

section
variable {X : Cx}
end
end L2

namespace L2
open PySem PySem.Spec PyProof.Rows

theorem Vals.ints : ∀ {ns : List Int} {us : List Value}, Vals (ns.map V.int) us → IntsAre us ns
  | [], us, h => by
    rw [List.map_nil] at h
    cases h
    exact IntsAre.nil
  | n :: ns, us, h => by
    rw [List.map_cons] at h
    cases h with
    | cons r t =>
      obtain ⟨k, rfl⟩ := r
      exact IntsAre.cons n k (Vals.ints t)
theorem Vals.strs : ∀ {xs : List Str} {us : List Value}, Vals (xs.map V.str) us → StrsAre us xs
  | [], us, h => by
    rw [List.map_nil] at h
    cases h
    exact StrsAre.nil
  | x :: xs, us, h => by
    rw [List.map_cons] at h
    cases h with
    | cons r t =>
      obtain ⟨k, rfl⟩ := r
      exact StrsAre.cons x k (Vals.strs t)
/-! ### the library's walks over a list of ints, kept objects alone -/
section
variable {prog : Program} {w : World} {A : Around} {E : Value → Shared → Prop} {s : Shared} {l : Addr} {its : List Value} {ns : List Int} {Q : Value → Shared → Prop}
end

/-! ### the calls, by values (CallR of 03t; MtR of 06l) -/
section
variable {X : Cx}
/-! sorted, sort (fewer than 64 items: the library's own bound) -/
end

/-! ### list.index, flat items -/
section
variable {X : Cx}
end

/-! ### type(x) of an own instance; is, is not of a module's class -/
section
variable {X : Cx}
end

/-! ### any(xs), all(xs) of a list of bools -/
section
variable {X : Cx}
end

/-! ### == and != of data at any depth: none, bools, ints, texts, lists, tuples -/
mutual
inductive Dp (K : PySem.W.Frag) (H : Hp) : V → PyData → Prop
  | non : Dp K H .non .none
  | bl (b : Bool) : Dp K H (.bl b) (.bool b)
  | int (i : Int) : Dp K H (.int i) (.int i)
  | str (x : Str) : Dp K H (.str x) (.str x)
  | lst {a : Addr} {xs : List V} {ds : List PyData} : SqL K H a xs → DpAll K H xs ds → Dp K H (.ref a) (.list ds)
  | tup {a : Addr} {xs : List V} {ds : List PyData} : SqT K H a xs → DpAll K H xs ds → Dp K H (.ref a) (.tuple ds)
inductive DpAll (K : PySem.W.Frag) (H : Hp) : List V → List PyData → Prop
  | nil : DpAll K H [] []
  | cons {v : V} {vs : List V} {d : PyData} {ds : List PyData} : Dp K H v d → DpAll K H vs ds → DpAll K H (v :: vs) (d :: ds)
end
section
variable {X : Cx} {pins : List (Addr × Obj)} {σ : St} {H : Hp} {s : Shared}
mutual
theorem Dp.reads (I : Inv X pins σ H s) : ∀ (d : PyData) (v : V) (u : Value), Dp X.K H v d → RelV v u → ∃ as, Reads s.heap u d as
  | .none, _, _, h, r => by
    cases h
    cases r
    exact ⟨_, Reads.none⟩
  | .bool b, _, _, h, r => by
    cases h
    cases r
    exact ⟨_, Reads.bool b⟩
  | .int i, _, _, h, r => by
    cases h
    obtain ⟨t, rfl⟩ := r
    exact ⟨_, Reads.int i t⟩
  | .str x, _, _, h, r => by
    cases h
    obtain ⟨t, rfl⟩ := r
    exact ⟨_, Reads.str x t⟩
  | .list ds, _, _, h, r => by
    cases h with
    | lst hs ha =>
      cases r
      obtain ⟨its, rv, ⟨o, n, ho, hc, _, hd⟩, _⟩ := I.list hs
      obtain ⟨as, hr⟩ := Dp.readsAll I ds _ its ha rv
      exact ⟨_, Reads.list ho hc hd hr⟩
  | .tuple ds, _, _, h, r => by
    cases h with
    | tup hs ha =>
      cases r
      obtain ⟨its, rv, ⟨o, ho, hc, n, hd⟩, _⟩ := I.tuple hs
      obtain ⟨as, hr⟩ := Dp.readsAll I ds _ its ha rv
      exact ⟨_, Reads.tuple ho hc hd hr⟩
  | .dict _, _, _, h, _ => by cases h
theorem Dp.readsAll (I : Inv X pins σ H s) : ∀ (ds : List PyData) (vs : List V) (us : List Value), DpAll X.K H vs ds → Vals vs us → ∃ as, ReadsAll s.heap us ds as
  | [], _, _, h, r => by
    cases h
    cases r
    exact ⟨_, ReadsAll.nil⟩
  | d :: ds, _, _, h, r => by
    cases h with
    | cons h1 h2 =>
      cases r with
      | cons r1 r2 =>
        obtain ⟨as, q1⟩ := Dp.reads I d _ _ h1 r1
        obtain ⟨bs, q2⟩ := Dp.readsAll I ds _ _ h2 r2
        exact ⟨_, ReadsAll.cons q1 q2⟩
end
end
section
variable {X : Cx}
end
end L2

namespace L2
open PySem PySem.Spec PyProof.Rows
abbrev CellAt (h : Heap) (c : Addr) (v : Option Value) : Prop := h.IsCell c v
def relS (scope sc : Scope) : Scope :=
  { scope with names := scope.names.map fun (n, k) => if (k == .free && sc.kind == .function && sc.names.lookup n == some .cell) then (n, .cell) else (n, k) }

def cloFrom (cells : List (Str × Addr)) : List (Str × NameKind) → List (Str × Addr) → List (Str × Addr)
  | [], acc => acc
  | (n, k) :: r, acc => if k == .free then cloFrom cells r ((n, (cells.lookup n).getD 0) :: acc) else cloFrom cells r acc

theorem closure_loop (env : Env) (f : Str × NameKind → List (Str × Addr) → Sem (ForInStep (List (Str × Addr))))
    (hf : ∀ n k c, f (n, k) c = if k == .free then (do let a ← cellOf env n; pure (.yield ((n, a) :: c))) else pure (.yield c)) :
    ∀ (names : List (Str × NameKind)) (acc : List (Str × Addr)), (∀ y ∈ names, y.2 = .free → ∃ c, env.cells.lookup y.1 = some c) → forIn names acc f = pure (cloFrom env.cells names acc)
  | [], acc, _ => by rw [List.forIn_nil]; rfl
  | (n, k) :: r, acc, h => by
    rw [List.forIn_cons, hf]
    have ih := fun acc => closure_loop env f hf r acc fun y hy => h y (List.mem_cons_of_mem _ hy)
    unfold cloFrom
    by_cases hk : (k == NameKind.free) = true
    · rw [if_pos hk, if_pos hk]
      obtain ⟨c, hc⟩ := h (n, k) List.mem_cons_self (by simpa using hk)
      have e : cellOf env n = pure c := by unfold cellOf; rw [hc]
      rw [e]
      have e2 : (env.cells.lookup n).getD 0 = c := by rw [hc]; rfl
      rw [e2]
      exact ih _
    · rw [if_neg hk, if_neg hk]
      exact ih _
theorem closure_ok {scope : Scope} {env : Env} (h : ∀ y ∈ scope.names, y.2 = .free → ∃ c, env.cells.lookup y.1 = some c) : closureFor scope env = pure (cloFrom env.cells scope.names []) := by
  simp only [closureFor]
  rw [closure_loop env _ (fun n k c => rfl) scope.names [] h]
  rfl

theorem mem_lookup {α : Type} : ∀ {l : List (Str × α)} {n : Str} {c : α}, (n, c) ∈ l → ∃ c', l.lookup n = some c'
  | (k, v) :: r, n, c, h => by
    rw [List.lookup_cons]
    cases hb : n == k with
    | true => exact ⟨_, rfl⟩
    | false =>
      rcases List.mem_cons.mp h with e | h
      · cases e; simp at hb
      · exact mem_lookup h

theorem cloFrom_mem {cells : List (Str × Addr)} : ∀ {names : List (Str × NameKind)} {acc : List (Str × Addr)} {n : Str} {c : Addr}, (n, c) ∈ cloFrom cells names acc → (n, c) ∈ acc ∨ ((n, .free) ∈ names ∧ c = (cells.lookup n).getD 0)
  | [], _, _, _, h => .inl h
  | (m, k) :: r, acc, n, c, h => by
    unfold cloFrom at h
    split at h
    · rename_i hk
      have hk : k = .free := by simpa using hk
      rcases cloFrom_mem h with h | ⟨h1, h2⟩
      · rcases List.mem_cons.mp h with e | h
        · cases e; exact .inr ⟨hk ▸ List.mem_cons_self, rfl⟩
        · exact .inl h
      · exact .inr ⟨List.mem_cons_of_mem _ h1, h2⟩
    · rcases cloFrom_mem h with h | ⟨h1, h2⟩
      · exact .inl h
      · exact .inr ⟨List.mem_cons_of_mem _ h1, h2⟩
theorem cloFrom_acc {cells : List (Str × Addr)} : ∀ {names : List (Str × NameKind)} {acc : List (Str × Addr)} {p : Str × Addr}, p ∈ acc → p ∈ cloFrom cells names acc
  | [], _, _, h => h
  | (m, k) :: r, acc, p, h => by
    unfold cloFrom
    split
    · exact cloFrom_acc (List.mem_cons_of_mem _ h)
    · exact cloFrom_acc h
theorem cloFrom_has {cells : List (Str × Addr)} : ∀ {names : List (Str × NameKind)} {acc : List (Str × Addr)} {n : Str}, (n, .free) ∈ names → (n, (cells.lookup n).getD 0) ∈ cloFrom cells names acc
  | (m, k) :: r, acc, n, h => by
    unfold cloFrom
    rcases List.mem_cons.mp h with e | h
    · cases e
      exact cloFrom_acc List.mem_cons_self
    · split
      · exact cloFrom_has h
      · exact cloFrom_has h

theorem cells_mem : ∀ {names : List (Str × NameKind)} {h : Heap} {acc : List (Str × Addr)} {x : Str} {c : Addr}, (x, c) ∈ cellsFrom h.objs.size names acc →
    (x, c) ∈ acc ∨ ((x, .cell) ∈ names ∧ h.objs.size ≤ c ∧ CellAt (pushCells h names) c none)
  | [], _, _, _, _, h => .inl h
  | (n, k) :: r, h, acc, x, c, hm => by
    unfold cellsFrom at hm
    unfold pushCells
    split at hm
    · rename_i hk
      rw [if_pos hk]
      have hk : k = .cell := by simpa using hk
      rw [← Heap.size_push h { cls := .type "cell", data := .cell none }] at hm
      rcases cells_mem hm with hm | ⟨h1, h2, h3⟩
      · rcases List.mem_cons.mp hm with e | hm
        · cases e
          exact .inr ⟨hk ▸ List.mem_cons_self, Nat.le_refl _, _, pushCells_keeps r _ _ _ (Heap.get?_push_size _ rfl), rfl⟩
        · exact .inl hm
      · rw [Heap.size_push] at h2
        exact .inr ⟨List.mem_cons_of_mem _ h1, Nat.le_of_succ_le h2, h3⟩
    · rename_i hk
      rw [if_neg hk]
      rcases cells_mem hm with hm | ⟨h1, h2, h3⟩
      · exact .inl hm
      · exact .inr ⟨List.mem_cons_of_mem _ h1, h2, h3⟩
theorem cells_acc : ∀ {names : List (Str × NameKind)} {n : Nat} {acc : List (Str × Addr)} {p : Str × Addr}, p ∈ acc → p ∈ cellsFrom n names acc
  | [], _, _, _, h => h
  | (m, k) :: r, n, acc, p, h => by
    unfold cellsFrom
    split
    · exact cells_acc (List.mem_cons_of_mem _ h)
    · exact cells_acc h
theorem cells_has : ∀ {names : List (Str × NameKind)} {n : Nat} {acc : List (Str × Addr)} {x : Str}, (x, .cell) ∈ names → ∃ c, (x, c) ∈ cellsFrom n names acc
  | (m, k) :: r, n, acc, x, h => by
    unfold cellsFrom
    rcases List.mem_cons.mp h with e | h
    · cases e
      exact ⟨n, cells_acc List.mem_cons_self⟩
    · split
      · exact cells_has h
      · exact cells_has h
theorem cells_inj : ∀ {names : List (Str × NameKind)} {h : Heap} {acc : List (Str × Addr)} {x y : Str} {c : Addr}, (∀ p ∈ acc, p.2 < h.objs.size) → (∀ x y c, (x, c) ∈ acc → (y, c) ∈ acc → x = y) →
    (x, c) ∈ cellsFrom h.objs.size names acc → (y, c) ∈ cellsFrom h.objs.size names acc → x = y
  | [], _, _, _, _, _, _, hi, h1, h2 => hi _ _ _ h1 h2
  | (n, k) :: r, h, acc, x, y, c, hl, hi, h1, h2 => by
    unfold cellsFrom at h1 h2
    split at h1
    · rename_i hk
      rw [if_pos hk] at h2
      rw [← Heap.size_push h { cls := .type "cell", data := .cell none }] at h1 h2
      refine cells_inj (h := h.push _) (fun p hp => ?_) (fun x y c a b => ?_) h1 h2
      · rw [Heap.size_push]
        rcases List.mem_cons.mp hp with rfl | hp
        · exact Nat.lt_succ_self _
        · exact Nat.lt_succ_of_lt (hl p hp)
      · rcases List.mem_cons.mp a with e | a <;> rcases List.mem_cons.mp b with e' | b
        · cases e; cases e'; rfl
        · cases e; exact absurd (hl _ b) (Nat.lt_irrefl _)
        · cases e'; exact absurd (hl _ a) (Nat.lt_irrefl _)
        · exact hi _ _ _ a b
    · rename_i hk
      rw [if_neg hk] at h2
      exact cells_inj hl hi h1 h2

theorem newEnv_comp {M : Model} {A : Around} {E : Value → Shared → Prop} {s : Shared} {scope : Scope} {globals : Addr} {closure : List (Str × Addr)} {qual : Str} {func : Option Addr} {code : Value} {around : Env} {builtins : Addr} {Q : Env → Shared → Prop}
    (h : Q (newEnv scope s.heap.objs.size globals (cellsFrom (s.heap.objs.size + 1) scope.names closure) qual func code (some around) builtins)
      { s with heap := pushCells (s.heap.push { cls := .type "dict", data := .dict #[] }) scope.names }) :
    wpAny M A (newFunctionEnv scope globals closure [] qual func code (some around) builtins) Q E s := by
  simp only [newFunctionEnv, Option.isSome_some, if_true]
  refine wpAny_bind (wpAny_alloc ?_)
  refine wpAny_bind (wpAny_layCells _ (fun n k c => rfl) scope.names closure _ _ ?_)
  rw [show ({ s with heap := s.heap.push { cls := .type "dict", data := .dict #[] } } : Shared).heap.objs.size = s.heap.objs.size + 1 from Heap.size_push ..]
  rw [List.forIn_nil]
  exact wpAny_bind (wpAny_pure (wpAny_pure h))

/-- every name of the written scope, in the scope that runs -/
theorem lookup_relS {sc : Scope} : ∀ {names : List (Str × NameKind)} {x : Str} {k : NameKind},
    (names.map fun (n, k) => if (k == NameKind.free && sc.kind == .function && sc.names.lookup n == some .cell) then (n, NameKind.cell) else (n, k)).lookup x = some k →
    ∃ k', names.lookup x = some k' ∧ (k = k' ∨ (k' = .free ∧ k = .cell))
  | [], _, _, h => by simp at h
  | (n, k₀) :: r, x, k, h => by
    have ih := @lookup_relS sc r x k
    have h' : List.lookup x ((if (k₀ == NameKind.free && sc.kind == .function && sc.names.lookup n == some .cell) = true then (n, NameKind.cell) else (n, k₀)) :: (r.map _)) = some k := h
    cases hx : x == n with
    | true =>
      simp only [List.lookup_cons, hx]
      by_cases hc : (k₀ == NameKind.free && sc.kind == .function && sc.names.lookup n == some .cell) = true
      · rw [if_pos hc] at h'
        simp only [List.lookup_cons, hx] at h'
        cases h'
        simp only [Bool.and_eq_true, beq_iff_eq] at hc
        exact ⟨k₀, rfl, .inr ⟨hc.1.1, rfl⟩⟩
      · rw [if_neg hc] at h'
        simp only [List.lookup_cons, hx] at h'
        cases h'
        exact ⟨_, rfl, .inl rfl⟩
    | false =>
      simp only [List.lookup_cons, hx]
      by_cases hc : (k₀ == NameKind.free && sc.kind == .function && sc.names.lookup n == some .cell) = true
      · rw [if_pos hc] at h'
        simp only [List.lookup_cons, hx] at h'
        exact ih h'
      · rw [if_neg hc] at h'
        simp only [List.lookup_cons, hx] at h'
        exact ih h'
/-- the names of a comprehension's block: its own (with their places in N), or captured -/
structure BlkOk (N : List Str) (sc scope : Scope) (own : List (Str × Nat)) : Prop where
  kind : scope.kind = .function
  uniq : ∀ y ∈ scope.names, scope.names.lookup y.1 = some y.2
  ix : ∀ p ∈ own, N[p.2]? = some p.1
  free : ∀ y ∈ scope.names, y.2 = .free → sc.names.lookup y.1 = some .cell ∨ sc.names.lookup y.1 = some .free
  own : ∀ y ∈ scope.names, y.2 = .local ∨ y.2 = .cell → y.1 ∈ own.map (·.1) ∨ y.1 ∉ N
/-- the slots of the block's own names forgotten -/
def wipe (σ : St) : List Nat → St
  | [] => σ
  | v :: vs => (wipe σ vs).set v none
theorem wipe_length (σ : St) : ∀ vs : List Nat, (wipe σ vs).length = σ.length
  | [] => rfl
  | v :: vs => by unfold wipe; rw [List.length_set, wipe_length σ vs]
theorem wipe_some {σ : St} {i : Nat} {x : V} : ∀ {vs : List Nat}, (wipe σ vs)[i]? = some (some x) → σ[i]? = some (some x) ∧ i ∉ vs
  | [], h => ⟨h, by simp⟩
  | v :: vs, h => by
    unfold wipe at h
    by_cases hi : v = i
    · subst hi
      by_cases hv : v < (wipe σ vs).length
      · rw [List.getElem?_set_self hv] at h; cases h
      · rw [List.getElem?_eq_none (by simpa using hv)] at h; cases h
    · rw [List.getElem?_set_ne hi] at h
      obtain ⟨h1, h2⟩ := wipe_some h
      exact ⟨h1, by simp only [List.mem_cons, not_or]; exact ⟨fun e => hi e.symm, h2⟩⟩

/-- the context of a block that starts at s, its iterator's objects at fp -/
abbrev Cx.blk (X : Cx) (s : Shared) (H : Hp) (scope : Scope) (cenv : Env) (fp : List Addr) : Cx := { X with s₀ := s, H₀ := H, env := cenv, outer := X.stack, ex := fp, fn := fun x => scope.names.lookup x == some .cell, pn := [], xe := fun _ _ => False }
section
variable {X : Cx} {pins : List (Addr × Obj)} {σ : St} {H : Hp} {s : Shared}
theorem block_start {scope : Scope} {own : List (Str × Nat)} {fp : List Addr} (I : Inv X pins σ H s) (ok : BlkOk X.N X.env.scope scope own) (hN : X.N.Nodup) (hfp : ∀ b ∈ fp, FpOk X pins H b ∧ b < s.heap.objs.size) :
    Inv (X.blk s H scope (compEnvC scope (cellsFrom (s.heap.objs.size + 1) scope.names (cloFrom X.env.cells scope.names [])) s.heap.objs.size X.env) fp) [] (wipe σ (own.map (·.2))) H { s with heap := pushCells (s.heap.push { cls := .type "dict", data := .dict #[] }) scope.names } := by
  have hfree : ∀ y ∈ scope.names, y.2 = .free → ∃ c, X.env.cells.lookup y.1 = some c := fun y hy e => by
    rcases ok.free y hy e with k | k
    · exact I.ok.has _ (.inl k)
    · exact I.ok.has _ (.inr k)
  generalize hcenv : compEnvC scope (cellsFrom (s.heap.objs.size + 1) scope.names (cloFrom X.env.cells scope.names [])) s.heap.objs.size X.env = cenv
  have kp : ∀ b o, s.heap.get? b = some o → (pushCells (s.heap.push { cls := .type "dict", data := .dict #[] }) scope.names).get? b = some o := fun b o e => pushCells_keeps _ _ _ _ (Heap.get?_push_of_some _ e)
  have hL : cenv.locals = s.heap.objs.size := by rw [← hcenv]; rfl
  have hcl : cenv.cells = cellsFrom (s.heap.objs.size + 1) scope.names (cloFrom X.env.cells scope.names []) := by rw [← hcenv]; rfl
  have hsc : cenv.scope = relS scope X.env.scope := by rw [← hcenv]; rfl
  rw [← Heap.size_push s.heap { cls := .type "dict", data := .dict #[] }] at hcl
  have cm : ∀ {y c}, (y, c) ∈ cloFrom X.env.cells scope.names [] → X.env.cells.lookup y = some c ∧ c < s.heap.objs.size := fun {y c} hm => by
    rcases cloFrom_mem hm with hm | ⟨h1, rfl⟩
    · cases hm
    · obtain ⟨c, hc⟩ := hfree _ h1 rfl
      rw [hc]
      obtain ⟨w, z⟩ := I.cell _ _ hc
      exact ⟨rfl, z.lt⟩
  have mem : ∀ {y c}, cenv.cells.lookup y = some c → (X.env.cells.lookup y = some c ∧ c < s.heap.objs.size) ∨ (s.heap.objs.size + 1 ≤ c ∧ CellAt (pushCells (s.heap.push { cls := .type "dict", data := .dict #[] }) scope.names) c none) := fun {y c} e => by
    rw [hcl] at e
    rcases cells_mem (PySem.mem_of_lookup e) with hm | ⟨_, h2, h3⟩
    · exact .inl (cm hm)
    · rw [Heap.size_push] at h2; exact .inr ⟨h2, h3⟩
  have look : ∀ {y}, scope.names.lookup y = some .free → ∃ c, cenv.cells.lookup y = some c ∧ X.env.cells.lookup y = some c := fun {y} hl => by
    have hy : (y, NameKind.free) ∈ scope.names := PySem.mem_of_lookup hl
    obtain ⟨c', e'⟩ := mem_lookup (cells_acc (names := scope.names) (n := (s.heap.push { cls := .type "dict", data := .dict #[] }).objs.size) (cloFrom_has (cells := X.env.cells) (acc := []) hy))
    rw [← hcl] at e'
    refine ⟨c', e', ?_⟩
    rw [hcl] at e'
    rcases cells_mem (PySem.mem_of_lookup e') with hm | ⟨h1, _, _⟩
    · exact (cm hm).1
    · have := ok.uniq _ h1
      rw [hl] at this; cases this
  have okB : (X.blk s H scope cenv fp).Ok := by
    refine ⟨I.ok.mod, by show cenv.scope.kind = _; rw [hsc]; exact ok.kind, by show cenv.globals = _; rw [← hcenv]; exact I.ok.glob, by show cenv.builtins = _; rw [← hcenv]; exact I.ok.blt, by show s.heap.objs.size ≤ cenv.locals; rw [hL]; exact Nat.le_refl _,
      fun y z c e1 e2 => ?_, fun y hy => ?_, fun y c z e => ?_, I.ok.hd, I.ok.frames, .inl rfl, fun b hb => ⟨?_, fun y c e z => ?_⟩, I.bs, Nat.le_trans I.ok.bsz I.sz, fun b o e hb => ?_, fun b hb z => ?_, I.stack, I.stkFree⟩
    · have e1 : cenv.cells.lookup y = some c := e1
      have e2 : cenv.cells.lookup z = some c := e2
      rw [hcl] at e1 e2
      refine cells_inj (fun p hp => ?_) (fun y z c a b => I.ok.inj y z c (cm a).1 (cm b).1) (PySem.mem_of_lookup e1) (PySem.mem_of_lookup e2)
      rw [Heap.size_push]
      exact Nat.lt_succ_of_lt (cm (y := p.1) (c := p.2) hp).2
    · show ∃ c, cenv.cells.lookup y = some c
      have key : ∀ k, cenv.kindOf y = some k → (k = .cell ∨ k = .free) → ∃ c, cenv.cells.lookup y = some c := fun k hk hk' => by
        unfold Env.kindOf at hk
        rw [hsc] at hk
        obtain ⟨k', e, r⟩ := lookup_relS hk
        have : k' = .cell ∨ k' = .free := by
          rcases r with rfl | ⟨rfl, _⟩
          · exact hk'
          · exact .inr rfl
        rcases this with rfl | rfl
        · obtain ⟨c, hm⟩ := cells_has (n := (s.heap.push { cls := .type "dict", data := .dict #[] }).objs.size) (acc := cloFrom X.env.cells scope.names []) (PySem.mem_of_lookup e)
          obtain ⟨c', e'⟩ := mem_lookup hm
          exact ⟨c', by rw [hcl]; exact e'⟩
        · obtain ⟨c, h1, _⟩ := look e
          exact ⟨c, h1⟩
      rcases hy with hy | hy
      · exact key _ hy (.inl rfl)
      · exact key _ hy (.inr rfl)
    · have z : (scope.names.lookup y == some NameKind.cell) = true := z
      have z : scope.names.lookup y = some .cell := by simpa using z
      have e : cenv.cells.lookup y = some c := e
      rw [hcl] at e
      rcases cells_mem (PySem.mem_of_lookup e) with hm | ⟨_, h2, _⟩
      · rcases cloFrom_mem hm with hm | ⟨h1, _⟩
        · cases hm
        · have q := ok.uniq _ h1
          rw [z] at q; cases q
      · rw [Heap.size_push] at h2
        exact Nat.le_of_succ_le h2
    · show b ≠ cenv.locals
      rw [hL]; exact Nat.ne_of_lt (hfp b hb).2
    · have e : cenv.cells.lookup y = some c := e
      rcases mem e with ⟨h1, _⟩ | ⟨h1, _⟩
      · exact (hfp b hb).1.2.2.2.2.1 y c h1 z
      · have h2 : s.heap.objs.size + 1 ≤ b := by rw [← z]; exact h1
        exact absurd (Nat.lt_of_lt_of_le (hfp b hb).2 (Nat.le_of_succ_le h2)) (Nat.lt_irrefl _)
    · rcases (hfp b hb).1.2.2.2.1 with z | z
      · exact I.ok.noex b o e z
      · exact absurd (Nat.lt_of_lt_of_le (Heap.lt_size e) (Nat.le_trans I.ok.bsz z)) (Nat.lt_irrefl _)
    · rcases List.mem_cons.mp (I.stkSub b z) with z | z
      · exact (hfp b hb).1.2.1 z
      · exact (hfp b hb).1.2.2.1 z
  refine ⟨okB, rfl, I.bare, Un.kept kp, ⟨fun _ => none, ?_, fun i y av e1 e2 e3 => ?_⟩, fun y c e => ?_, ?_, fun y c e => ?_, fun p hp => ?_, I.hok.kept kp, by rw [wipe_length]; exact I.len⟩
  · show Heap.Ns _ cenv.locals _
    rw [hL]
    exact Heap.Ns.keeps (Heap.Ns.new ..) fun b o e => pushCells_keeps _ _ _ _ e
  · obtain ⟨e2, hne⟩ := wipe_some e2
    have hfr : scope.names.lookup y = some .free ∧ (cenv.kindOf y = some .cell ∨ cenv.kindOf y = some .free) := by
      have key : ∀ k, cenv.scope.names.lookup y = some k → k = .local ∨ k = .cell ∨ k = .free → scope.names.lookup y = some .free ∧ (cenv.kindOf y = some .cell ∨ cenv.kindOf y = some .free) := fun k hk hk' => by
        have hk0 := hk
        rw [hsc] at hk
        obtain ⟨k', e, r⟩ := lookup_relS hk
        have no : ¬ (k' = .local ∨ k' = .cell) := fun hh => by
          rcases ok.own _ (PySem.mem_of_lookup e) hh with e' | e'
          · obtain ⟨p, hp, hpy⟩ := List.mem_map.mp e'
            have e3 := ok.ix p hp
            have : p.1 = y := hpy
            rw [this] at e3
            exact hne (List.mem_map.mpr ⟨p, hp, nodup_ix hN e3 e1⟩)
          · exact e' (List.mem_of_getElem? e1)
        rcases r with rfl | ⟨rfl, rfl⟩
        · rcases hk' with rfl | rfl | rfl
          · exact absurd (.inl rfl) no
          · exact absurd (.inr rfl) no
          · exact ⟨e, .inr hk0⟩
        · exact ⟨e, .inl hk0⟩
      have e3 : Vis cenv.scope y := e3
      rcases e3 with e3 | e3 | e3
      · exact key _ e3 (.inl rfl)
      · exact key _ e3 (.inr (.inl rfl))
      · exact key _ e3 (.inr (.inr rfl))
    obtain ⟨m, hn, hl⟩ := I.loc
    have hvis : Vis X.env.scope y := (ok.free _ (PySem.mem_of_lookup hfr.1) rfl).elim (fun k => .inr (.inl k)) (fun k => .inr (.inr k))
    obtain ⟨w, r, q⟩ := hl i y av e1 e2 hvis
    refine ⟨w, r, .inr ⟨hfr.2, ?_⟩⟩
    obtain ⟨c, h1, h2⟩ := look hfr.1
    rcases q with ⟨k, _⟩ | ⟨_, c', e', z⟩
    · have k : X.env.scope.names.lookup y = some .local := k
      rcases ok.free _ (PySem.mem_of_lookup hfr.1) rfl with k' | k' <;> rw [show X.env.scope.names.lookup y = _ from k'] at k <;> cases k
    · rw [h2] at e'; cases e'
      exact ⟨c, h1, z.keeps kp⟩
  · have e : cenv.cells.lookup y = some c := e
    rcases mem e with ⟨h1, _⟩ | ⟨_, z⟩
    · obtain ⟨w, z⟩ := I.cell y c h1
      exact ⟨w, z.keeps kp⟩
    · exact ⟨_, z⟩
  · show H cenv.locals = none
    rw [hL]; exact I.hok.fresh (Nat.le_refl _)
  · have e : cenv.cells.lookup y = some c := e
    rcases mem e with ⟨h1, _⟩ | ⟨h1, _⟩
    · exact I.freeC y c h1
    · exact I.hok.fresh (Nat.le_of_succ_le h1)
  · exact absurd (show p ∈ ([] : List (Addr × Obj)) ++ [] from hp) (by simp)

/-- an item appended to a tracked list -/
theorem app_ok {E : Value → Shared → Prop} {D : Addr} {xs : List V} {y : V} {v : Value} {Q : Value → Shared → Prop} (I : Inv X pins σ H s) (hD : H D = some (.lst xs)) (hz : xs.length < sizeLine) (r : RelV y v)
    (h : ∀ s', Inv X pins σ (upd H D (.lst (xs ++ [y]))) s' → Q .none s') : wpAny (model X.prog X.w) X.A (call (.builtin "list.append") [.ref D, v]) Q E s := by
  obtain ⟨hz', its, n, ri, e⟩ := I.hok D _ hD
  have hl := ri.length
  refine append_at (hsz := by rw [List.size_toArray]; omega) e fun h' sb ho' => ?_
  refine h { s with heap := h' } (I.write (t' := s.toks) (by rw [hD]; trivial) (.inl rfl) (fun b u hb q => (sb.2 b hb).trans q) ⟨_, ho'⟩ ⟨by rw [List.length_append]; exact hz, its ++ [v], n + 1, ri.append (.cons r .nil), ?_⟩)
  rw [ho']
  simp

/-- a clause's tests -/
def PTs (X : Cx) (ifs : List Expr) (t : TT) : Prop :=
  ∀ (pins : List (Addr × Obj)) (s : Shared) (σ : St) (H : Hp) (Q : Bool → Hp → Prop), Inv X pins σ H s → t σ H Q →
    wpAny (model X.prog X.w) X.A (forIn ifs true fun c r => if r = true then do let ok ← isTrue c X.env (eval c X.env); pure (ForInStep.yield ok) else pure (ForInStep.yield r)) (TP X pins σ Q) X.xe s
def tYes : TT := fun _ H Q => Q true H
theorem pts_nil : PTs X [] tYes := fun _ _ _ H _ I h => wpAny_tests_nil ⟨H, I, h⟩
end

theorem thnF {α : Type} {t : Sem α} {Q Q' : α → Shared → Prop} {M : Model} {A : Around} {E : Value → Shared → Prop} {s : Shared} (h : wpAny M A t Q (fun _ _ => False) s) (hQ : ∀ a s, Q a s → Q' a s) : wpAny M A t Q' E s := wpAny_mono h hQ fun _ _ z => False.elim z

/-- the loop of a list comprehension's block, the target of any form (codeAny_compLoop_tests asks a target that no tuple goes to; statement and proof follow it, PyProof/CompMap.lean:41-61, with the step letOwnedTupleGo kept) -/
theorem compLoop_any {prog : Program} {w : World} {A : Around} {R : Result → Shared → Prop} {s : Shared} {elt target iter : Expr} {ifs : List Expr} {scope : Scope} {pos : Pos} {it acc : Value} {env : Env} (I : Nat → Shared → Prop)
    (turn : ∀ n s, I n s → wpAny (model prog w) A (pyNext it) (fun r s₁ => match r with
      | none => R (.ok .next) s₁
      | some v => wpAny (model prog w) A (letOwnedTupleGo target it v) (fun _ s₁' => wpAny (model prog w) A (assign target env v) (fun _ s₂ =>
          wpAny (model prog w) A (forIn ifs true fun c r => if r = true then do let ok ← isTrue c env (eval c env); pure (ForInStep.yield ok) else pure (ForInStep.yield r)) (fun ok s₃ =>
            if ok = true then wpAny (model prog w) A (eval elt env) (fun x s₄ =>
              wpAny (model prog w) A (call (.builtin "list.append") [acc, x]) (fun _ s₅ => ∃ m, m < n ∧ I m s₅) (notedBy (model prog w) A env fun e s' => R (.error e) s') s₄) (notedBy (model prog w) A env fun e s' => R (.error e) s') s₃
            else ∃ m, m < n ∧ I m s₃) (notedBy (model prog w) A env fun e s' => R (.error e) s') s₂) (notedBy (model prog w) A env fun e s' => R (.error e) s') s₁') (notedBy (model prog w) A env fun e s' => R (.error e) s') s₁) (notedBy (model prog w) A env fun e s' => R (.error e) s') s)
    (n : Nat) (h : I n s) :
    codeAny (model prog w) A (.compLoop (.ListComp elt [⟨target, iter, ifs, 0⟩] scope pos) 0 it acc env) R s := by
  refine codeAny_loop rfl I (fun n s hI => ?_) n h
  show wpAny _ A ((compTurn (.ListComp elt [⟨target, iter, ifs, 0⟩] scope pos) 0 it acc env).onRaise (fun x => do noteFrame x env; theTreesLotGoes x)) _ _ s
  refine wpAny_noted ?_
  rw [compTurn_list]
  refine wpAny_bind (wpAny_standAt (wpAny_bind (wpAny_mono (turn n s hI) (fun r s₁ h₁ => ?_) fun _ _ h' => h')))
  cases r with
  | none => exact wpAny_pure h₁
  | some v =>
    refine wpAny_bind (wpAny_mono h₁ (fun _ s₁' h₁' => ?_) fun _ _ h' => h')
    refine wpAny_bind (wpAny_mono h₁' (fun _ s₂ h₂ => wpAny_bind (wpAny_mono h₂ (fun ok s₃ h₃ => ?_) fun _ _ h' => h')) fun _ _ h' => h')
    cases ok with
    | false => exact wpAny_pure ⟨rfl, h₃⟩
    | true =>
      exact wpAny_bind (wpAny_bind (wpAny_mono h₃ (fun x s₄ h₄ => wpAny_bind (wpAny_mono h₄ (fun _ s₅ h₅ => wpAny_pure (wpAny_pure ⟨rfl, h₅⟩)) fun _ _ h' => h')) fun _ _ h' => h'))

section
variable {X : Cx}
/-- [elt for target in iter if ..]: D the new list; W by the turn and a measure, Nx what a turn is to reach -/
def tLc (wi : TI) (g : TG) (tt : TT) (te : TE) (vs : List Nat) : TE := fun σ H Q => wi σ H fun J H1 => ∀ D, H1 D = none → ∃ W : Nat → Nat → Hp → Prop, (∃ m, W 0 m (upd H1 D (.lst []))) ∧ ∀ i m H, W i m H →
  (J.stop i H ∧ Q (.ref D) H) ∨ (J.go i H ∧ ∃ Nx : Hp → Prop, (∀ H', Nx H' → ∃ m', m' < m ∧ W (i + 1) m' H') ∧ ∀ x H', J.yld i H x H' → g x (wipe σ vs) H' fun σ2 H2 => wipe σ2 vs = wipe σ vs ∧ tt σ2 H2 fun b H3 =>
    if b = true then te σ2 H3 fun y H4 => ∃ acc, H4 D = some (.lst acc) ∧ acc.length < sizeLine ∧ Nx (upd H4 D (.lst (acc ++ [y]))) else Nx H3)
theorem lc_core {pins : List (Addr × Obj)} {s : Shared} {σ : St} {H : Hp} {Q : VK} {elt tg iter : Expr} {ifs : List Expr} {scope : Scope} {own : List (Str × Nat)} {pos pos' : Pos} {wi : TI} {g : TG} {tt : TT} {te : TE} {use : Option (Value → Sem Unit)} {Qf : Value → Shared → Prop}
    (hc : X.calm = true) (hN : X.N.Nodup) (I : Inv X pins σ H s) (hi : PI X tg iter wi) (ok : BlkOk X.N X.env.scope scope own)
    (hg : ∀ (s : Shared) (H : Hp) (C : Addr) (cl : List (Str × Addr)) (fp : List Addr), PG (X.blk s H scope (compEnvC scope cl C X.env) fp) tg g) (ht : ∀ (s : Shared) (H : Hp) (C : Addr) (cl : List (Str × Addr)) (fp : List Addr), PTs (X.blk s H scope (compEnvC scope cl C X.env) fp) ifs tt)
    (he : ∀ (s : Shared) (H : Hp) (C : Addr) (cl : List (Str × Addr)) (fp : List Addr), PE (X.blk s H scope (compEnvC scope cl C X.env) fp) elt te) (hs : ∀ x, foldedSetIterable iter X.env x = pure x)
    (h : tLc wi g tt te (own.map (·.2)) σ H Q)
    (hRR : ∀ D C s' m H', Inv X pins σ H' s' → Q (.ref D) H' → s'.heap.Ns C m → FpOk X pins H' C → compPost (model X.prog X.w) X.A X.xe use Qf (.ref D) C (.ok .next) s') :
    wpAny (model X.prog X.w) X.A (comprehension (.ListComp elt [⟨tg, iter, ifs, 0⟩] scope pos) scope X.env pos' (newList []) false (eval iter X.env) use) Qf X.xe s := by
  have hfree : ∀ y ∈ scope.names, y.2 = .free → ∃ c, X.env.cells.lookup y.1 = some c := fun y hy e => by
    rcases ok.free y hy e with k | k
    · exact I.ok.has _ (.inl k)
    · exact I.ok.has _ (.inr k)
  refine wpAny_comprehension_free (use := use) rfl hs (closure_ok hfree) ok.kind (fun y hy e => by rw [ok.uniq y hy, e])
    (thn (hi pins s σ H _ I h) fun xv s1 hx => thn hx fun itv s2 h2 => ?_)
  obtain ⟨it, fp, tn, J, H2, e, I2, T, st2, f2, q⟩ := h2
  subst e
  refine wpAny_newObj_type (newEnv_comp ?_) (by show 0 ≤ sizeLine; decide)
  generalize hD : s2.heap.objs.size = D
  have hDn : H2 D = none := I2.hok.fresh (Nat.le_of_eq hD)
  obtain ⟨W, ⟨m0, w0⟩, turn⟩ := q D hDn
  -- the new list
  generalize hs3 : ({ s2 with heap := s2.heap.push { cls := .type "list", data := .seq ([] : List Value).toArray } } : Shared) = s3
  have I3 : Inv X pins σ (upd H2 D (.lst [])) s3 := by
    rw [← hs3]
    refine I2.laid (t' := s2.toks) (fun b o e => Heap.get?_push_of_some _ e) (Nat.le_of_eq hD) ⟨Nat.zero_le _, [], 0, .nil, ?_⟩
    rw [← hD]
    exact Heap.get?_push_size _ rfl
  have h3 : s3.heap = s2.heap.push { cls := .type "list", data := .seq ([] : List Value).toArray } := by rw [← hs3]
  have sz : ∀ b ∈ fp, b < s2.heap.objs.size := fun b hb => by
    obtain ⟨o, e, _⟩ := T.obj _ _ st2 b hb
    exact Heap.lt_size e
  have f3 : ∀ b ∈ fp, FpOk X pins (upd H2 D (.lst [])) b ∧ b < s3.heap.objs.size := fun b hb => by
    have hlt := sz b hb
    refine ⟨⟨?_, (f2 b hb).2⟩, by rw [h3, Heap.size_push]; exact Nat.lt_succ_of_lt hlt⟩
    rw [upd_ne (by rw [← hD]; exact Nat.ne_of_lt hlt)]
    exact (f2 b hb).1
  have st3 : tn 0 s3.heap := T.keep _ _ _ st2 fun b _ o e => by rw [h3]; exact Heap.get?_push_of_some _ e
  have I4 := block_start I3 ok hN f3
  have pg := hg s3 (upd H2 D (.lst [])) s3.heap.objs.size (cellsFrom (s3.heap.objs.size + 1) scope.names (cloFrom X.env.cells scope.names [])) fp
  have pt := ht s3 (upd H2 D (.lst [])) s3.heap.objs.size (cellsFrom (s3.heap.objs.size + 1) scope.names (cloFrom X.env.cells scope.names [])) fp
  have pe := he s3 (upd H2 D (.lst [])) s3.heap.objs.size (cellsFrom (s3.heap.objs.size + 1) scope.names (cloFrom X.env.cells scope.names [])) fp
  show codeAny _ _ (.compStart (.ListComp elt [⟨tg, iter, ifs, 0⟩] scope pos) 0 (.ref it) (.ref D) (compEnvC scope (cellsFrom (s3.heap.objs.size + 1) scope.names (cloFrom X.env.cells scope.names [])) s3.heap.objs.size X.env)) (compPost (model X.prog X.w) X.A X.xe use Qf (.ref D) s3.heap.objs.size) { s3 with heap := pushCells (s3.heap.push { cls := .type "dict", data := .dict #[] }) scope.names }
  have nfp : ∀ b ∈ fp, (upd H2 D (.lst [])) b = none := fun b hb => (f3 b hb).1.1
  generalize hce : compEnvC scope (cellsFrom (s3.heap.objs.size + 1) scope.names (cloFrom X.env.cells scope.names [])) s3.heap.objs.size X.env = ce at I4 pg pt pe ⊢
  have cL : ce.locals = s3.heap.objs.size := by subst hce; rfl
  generalize hH3 : upd H2 D (.lst []) = H3 at I3 I4 pg pt pe w0 nfp f3
  generalize hs4 : ({ s3 with heap := pushCells (s3.heap.push { cls := .type "dict", data := .dict #[] }) scope.names } : Shared) = s4 at I4 ⊢
  have st4 : tn 0 s4.heap := T.keep _ _ _ st3 fun b _ o e => by rw [← hs4]; exact pushCells_keeps _ _ _ _ (Heap.get?_push_of_some _ e)
  have stat : ∀ {σ' : St} {H' : Hp} {s' : Shared}, Inv (X.blk s3 H3 scope ce fp) [] σ' H' s' → (∀ b ∈ fp, H' b = none) → ∀ b ∈ fp, FpOk (X.blk s3 H3 scope ce fp) [] H' b := fun {σ' H' s'} I' hn b hb =>
    ⟨hn b hb, (I'.ok.exf b hb).1, I'.ok.exfs b hb, .inl hb, fun x c e => (I'.ok.exf b hb).2 x c e, fun p hp => absurd (show p ∈ ([] : List (Addr × Obj)) ++ [] from hp) (by simp)⟩
  have loop : codeAny (model X.prog X.w) X.A (.compLoop (.ListComp elt [⟨tg, iter, ifs, 0⟩] scope pos) 0 (.ref it) (.ref D) ce) (compPost (model X.prog X.w) X.A X.xe use Qf (.ref D) s3.heap.objs.size) s4 := by
    refine compLoop_any (fun n s' => ∃ i H', Inv (X.blk s3 H3 scope ce fp) [] (wipe σ (own.map (·.2))) H' s' ∧ tn i s'.heap ∧ (∀ b ∈ fp, H' b = none) ∧ W i n H') ?_ m0 ⟨0, H3, I4, st4, nfp, w0⟩
    rintro n s5 ⟨i, H5, I5, st5, n5, w5⟩
    rcases turn i n H5 w5 with ⟨stop, qq⟩ | ⟨go, Nx, hNx, step⟩
    · have td := T.done (X.blk s3 H3 scope ce fp) rfl rfl rfl hc i [] s5 _ H5 (fun _ _ => False) I5 (stat I5 n5) st5 stop
      refine thnF td fun r s6 ⟨hr, I6⟩ => ?_
      subst hr
      -- back in the def's context
      have I7 : Inv X pins σ H5 s6 := I3.call' (ch := fp) I6.os I6.base I6.hok I6.bare fun b hb => ⟨(f3 b hb).1.2.2.2.1, (f3 b hb).1.2.1, (f3 b hb).1.2.2.2.2.1, (f3 b hb).1.2.2.2.2.2⟩
      have nC : H5 s3.heap.objs.size = none := by
        have z : H5 ce.locals = none := I6.free
        rw [cL] at z
        exact z
      obtain ⟨m, hn, _⟩ := I6.loc
      have hn : s6.heap.Ns ce.locals m := hn
      rw [cL] at hn
      exact hRR D s3.heap.objs.size s6 m H5 I7 qq hn (I3.fpOk (Nat.le_refl _) nC)
    · have ti := T.item (X.blk s3 H3 scope ce fp) rfl rfl rfl hc i [] s5 _ H5 (fun _ _ => False) I5 (stat I5 n5) st5 go
      refine thnF ti fun r s6 ⟨u, hr, h6⟩ => ?_
      subst hr
      refine thnF h6 fun _ s7 ⟨x, H7, I7, r7, y7, st7, n7⟩ => ?_
      have I7' := I7.pinned (stat I7 n7) (T.obj _ _ st7)
      refine thnF (pg _ s7 _ H7 x u _ I7' r7 (step x H7 y7)) fun _ s8 ⟨σ8, H8, I8, hw8, q8⟩ => ?_
      refine thnF (pt _ s8 σ8 H8 _ I8 q8) fun b s9 ⟨H9, I9, q9⟩ => ?_
      -- the turn's end
      have fin : ∀ {s' : Shared} {H' : Hp}, Inv (X.blk s3 H3 scope ce fp) ([] ++ pinsAt fp s7.heap) σ8 H' s' → Nx H' → ∃ m, m < n ∧ ∃ i H', Inv (X.blk s3 H3 scope ce fp) [] (wipe σ (own.map (·.2))) H' s' ∧ tn i s'.heap ∧ (∀ b ∈ fp, H' b = none) ∧ W i m H' := fun {s' H'} I' nx => by
        obtain ⟨m', hm, w'⟩ := hNx H' nx
        have pin' : ∀ b ∈ fp, ∀ o, s7.heap.get? b = some o → s'.heap.get? b = some o ∧ H' b = none := fun b hb o e =>
          let z := I'.pin (b, o) (List.mem_append_right _ (List.mem_append_right _ (mem_pinsAt hb e)))
          ⟨z.1, z.2.1⟩
        have hl : (wipe σ (own.map (·.2))).length = σ8.length := by rw [← hw8, wipe_length]
        refine ⟨m', hm, i + 1, H', (I'.unpinned (pins := [])).weak hl (fun j v e => ?_), T.keep _ _ _ st7 fun b hb o e => (pin' b hb o e).1, fun b hb => ?_, w'⟩
        · rw [← hw8] at e
          exact (wipe_some e).1
        · obtain ⟨o, e, _⟩ := T.obj _ _ st7 b hb
          exact (pin' b hb o e).2
      cases b with
      | false =>
        simp only [Bool.false_eq_true, if_false] at q9 ⊢
        exact fin I9 q9
      | true =>
        simp only [if_true] at q9 ⊢
        refine thnF (pe _ s9 σ8 H9 _ I9 q9) fun z s10 ⟨yv, H10, I10, r10, acc, hD10, hz10, nx⟩ => ?_
        exact app_ok (X := X.blk s3 H3 scope ce fp) I10 hD10 hz10 r10 fun s11 I11 => fin I11 nx
  exact codeAny_compStart_list loop (T.self X.A 0 _ _ _ st4 loop)
/-- as a value -/
theorem pe_lc {elt tg iter : Expr} {ifs : List Expr} {scope : Scope} {own : List (Str × Nat)} {pos : Pos} {wi : TI} {g : TG} {tt : TT} {te : TE} (hc : X.calm = true) (hN : X.N.Nodup) (hi : PI X tg iter wi) (ok : BlkOk X.N X.env.scope scope own)
    (hg : ∀ (s : Shared) (H : Hp) (C : Addr) (cl : List (Str × Addr)) (fp : List Addr), PG (X.blk s H scope (compEnvC scope cl C X.env) fp) tg g) (ht : ∀ (s : Shared) (H : Hp) (C : Addr) (cl : List (Str × Addr)) (fp : List Addr), PTs (X.blk s H scope (compEnvC scope cl C X.env) fp) ifs tt)
    (he : ∀ (s : Shared) (H : Hp) (C : Addr) (cl : List (Str × Addr)) (fp : List Addr), PE (X.blk s H scope (compEnvC scope cl C X.env) fp) elt te) (hs : ∀ x, foldedSetIterable iter X.env x = pure x := by intro _; rfl) :
    PE X (.ListComp elt [⟨tg, iter, ifs, 0⟩] scope pos) (tLc wi g tt te (own.map (·.2))) := by
  intro pins s σ H Q I h
  rw [eval_ListComp]
  refine lc_core hc hN I hi ok hg ht he hs h fun D C s' m H' I' q hn f => ⟨m, hn, fun h'' sb => ?_⟩
  obtain ⟨f0, f1, f2, f3, f4, f5⟩ := f
  exact ⟨.ref D, H', I'.turned (t' := s'.toks) (fun b o hb e => (sb.2 b hb).trans e) f0 f1 f3 f4 f5, rfl, q⟩
end

/-! ### the forms one uses -/
/-- over a list that the block leaves as it is -/
theorem lc_list {K : PySem.W.Frag} {a : Addr} {xs : List V} {g : TG} {tt : TT} {te : TE} {vs : List Nat} {σ : St} {H1 : Hp} {D : Addr} {Qd : Hp → Prop} (Pv : Nat → Hp → Prop) (h0 : Pv 0 (upd H1 D (.lst []))) (hl : ∀ i H, i ≤ xs.length → Pv i H → SqL K H a xs)
    (hs : ∀ i x H, xs[i]? = some x → Pv i H → g x (wipe σ vs) H fun σ2 H2 => wipe σ2 vs = wipe σ vs ∧ tt σ2 H2 fun b H3 =>
      if b = true then te σ2 H3 fun y H4 => ∃ acc, H4 D = some (.lst acc) ∧ acc.length < sizeLine ∧ Pv (i + 1) (upd H4 D (.lst (acc ++ [y]))) else Pv (i + 1) H3) (hd : ∀ H, Pv xs.length H → Qd H) :
    ∃ W : Nat → Nat → Hp → Prop, (∃ m, W 0 m (upd H1 D (.lst []))) ∧ ∀ i m H, W i m H →
      ((Itl K a).stop i H ∧ Qd H) ∨ ((Itl K a).go i H ∧ ∃ Nx : Hp → Prop, (∀ H', Nx H' → ∃ m', m' < m ∧ W (i + 1) m' H') ∧ ∀ x H', (Itl K a).yld i H x H' → g x (wipe σ vs) H' fun σ2 H2 => wipe σ2 vs = wipe σ vs ∧ tt σ2 H2 fun b H3 =>
        if b = true then te σ2 H3 fun y H4 => ∃ acc, H4 D = some (.lst acc) ∧ acc.length < sizeLine ∧ Nx (upd H4 D (.lst (acc ++ [y]))) else Nx H3) := by
  refine ⟨fun i m H => m = xs.length - i ∧ i ≤ xs.length ∧ Pv i H, ⟨xs.length, by simp, Nat.zero_le _, h0⟩, ?_⟩
  rintro i m H ⟨rfl, hi, p⟩
  have q := hl i H hi p
  by_cases hlt : i < xs.length
  · refine .inr ⟨⟨xs, xs[i], q, by simp [hlt]⟩, Pv (i + 1), fun H' p' => ⟨xs.length - (i + 1), by omega, rfl, hlt, p'⟩, fun x H' y => ?_⟩
    obtain ⟨e, y⟩ := y
    subst e
    exact hs i x _ (y xs q) p
  · have e : i = xs.length := by omega
    subst e
    exact .inl ⟨⟨xs, q, Nat.le_refl _⟩, hd H p⟩
def blkC (N : List Str) (sc scope : Scope) (own : List (Str × Nat)) : Bool :=
  (match scope.kind with | .function => true | _ => false) && (scope.names.all fun y => decide (scope.names.lookup y.1 = some y.2)) && (own.all fun p => decide (N[p.2]? = some p.1)) &&
    (scope.names.all fun y => match y.2 with
      | .free => (match sc.names.lookup y.1 with | some .cell => true | some .free => true | _ => false)
      | .local => decide (y.1 ∈ own.map (·.1)) || decide (y.1 ∉ N)
      | .cell => decide (y.1 ∈ own.map (·.1)) || decide (y.1 ∉ N)
      | _ => true)
theorem blkOk_by {N : List Str} {sc scope : Scope} {own : List (Str × Nat)} (h : blkC N sc scope own = true) : BlkOk N sc scope own := by
  unfold blkC at h
  simp only [Bool.and_eq_true, List.all_eq_true, decide_eq_true_eq] at h
  obtain ⟨⟨⟨h1, h2⟩, h3⟩, h4⟩ := h
  refine ⟨?_, h2, h3, fun y hy e => ?_, fun y hy e => ?_⟩
  · split at h1
    · assumption
    · cases h1
  · have q := h4 y hy
    simp only [e] at q
    split at q <;> first | exact .inl (by assumption) | exact .inr (by assumption) | cases q
  · have q := h4 y hy
    rcases e with e | e <;> (simp only [e, Bool.or_eq_true, decide_eq_true_eq] at q; exact q)
end L2

namespace L2
open PySem PySem.Spec PyProof.Rows

section
variable {prog : Program} {w : World} {A : Around} {R : Result → Shared → Prop} {s : Shared} {elt t0 i0 t1 i1 : Expr} {ifs0 ifs1 : List Expr} {scope : Scope} {pos : Pos} {it acc : Value} {env : Env}
end

section
variable {X : Cx}
end
end L2

namespace L2
open PySem PySem.Spec PyProof.Rows

/-! ### lists of pairs as tables -/
section
variable {κ : Type} [DecidableEq κ]
def valV (kvs : List (κ × V)) (k : κ) : Option V := (kvs.find? fun kv => decide (kv.1 = k)).map (·.2)
/-- in its place, or at the end -/
def putK (kvs : List (κ × V)) (k : κ) (v : V) : List (κ × V) :=
  if (kvs.any fun kv => decide (kv.1 = k)) = true then kvs.map (fun kv => if kv.1 = k then (kv.1, v) else kv) else kvs ++ [(k, v)]
def dropK (kvs : List (κ × V)) (k : κ) : List (κ × V) := kvs.filter fun kv => decide (kv.1 ≠ k)

theorem valV_nil {k : κ} : valV ([] : List (κ × V)) k = none := rfl
theorem valV_pos {p : κ × V} {r : List (κ × V)} {k : κ} (e : p.1 = k) : valV (p :: r) k = some p.2 := by simp [valV, List.find?_cons, e]
theorem valV_neg {p : κ × V} {r : List (κ × V)} {k : κ} (e : ¬ p.1 = k) : valV (p :: r) k = valV r k := by simp [valV, List.find?_cons, e]
theorem valV_any (k : κ) : ∀ kvs : List (κ × V), (kvs.any fun kv => decide (kv.1 = k)) = (valV kvs k).isSome
  | [] => rfl
  | p :: r => by
    rw [List.any_cons]
    by_cases e : p.1 = k
    · simp only [valV_pos e, decide_eq_true e, Bool.true_or, Option.isSome_some]
    · rw [valV_neg e, decide_eq_false e, Bool.false_or]; exact valV_any k r
theorem valV_map (k j : κ) (y : V) : ∀ kvs : List (κ × V), valV (kvs.map fun kv => if kv.1 = k then (kv.1, y) else kv) j = (valV kvs j).map fun x => if j = k then y else x
  | [] => rfl
  | p :: r => by
    have ih := valV_map k j y r
    rw [List.map_cons]
    by_cases h : p.1 = k
    · rw [if_pos h]
      by_cases e : p.1 = j
      · rw [valV_pos (p := (p.1, y)) e, valV_pos e, Option.map_some, if_pos (e.symm.trans h)]
      · rw [valV_neg (p := (p.1, y)) e, valV_neg e, ih]
    · rw [if_neg h]
      by_cases e : p.1 = j
      · rw [valV_pos (p := p) e, valV_pos e, Option.map_some, if_neg (fun z => h (e.trans z))]
      · rw [valV_neg (p := p) e, valV_neg e, ih]
theorem valV_snoc (k j : κ) (y : V) : ∀ kvs : List (κ × V), valV kvs k = none → valV (kvs ++ [(k, y)]) j = if j = k then some y else valV kvs j
  | [], _ => by
    by_cases e : k = j
    · rw [if_pos e.symm]; exact valV_pos (p := (k, y)) e
    · rw [if_neg (fun z => e z.symm)]; exact valV_neg (p := (k, y)) e
  | p :: r, hn => by
    rw [List.cons_append]
    have hk : ¬ p.1 = k := fun z => by rw [valV_pos z] at hn; cases hn
    rw [valV_neg hk] at hn
    have ih := valV_snoc k j y r hn
    by_cases e : p.1 = j
    · rw [valV_pos e, valV_pos e, if_neg (fun z => hk (e.trans z))]
    · rw [valV_neg e, valV_neg e, ih]
theorem valV_put (kvs : List (κ × V)) (k j : κ) (y : V) : valV (putK kvs k y) j = if j = k then some y else valV kvs j := by
  unfold putK
  by_cases a : (kvs.any fun kv => decide (kv.1 = k)) = true
  · rw [if_pos a, valV_map]
    rw [valV_any] at a
    by_cases e : j = k
    · obtain ⟨x, hx⟩ := Option.isSome_iff_exists.mp a
      rw [if_pos e, e, hx, Option.map_some, if_pos rfl]
    · rw [if_neg e]
      cases valV kvs j with
      | none => rfl
      | some x => rw [Option.map_some, if_neg e]
  · rw [if_neg a]
    refine valV_snoc k j y kvs ?_
    rw [valV_any] at a
    cases q : valV kvs k with
    | none => rfl
    | some x => rw [q] at a; exact (a rfl).elim
theorem length_putK (kvs : List (κ × V)) (k : κ) (v : V) : (putK kvs k v).length ≤ kvs.length + 1 := by
  unfold putK
  split
  · rw [List.length_map]; omega
  · rw [List.length_append, List.length_cons, List.length_nil]; omega
theorem RelO.isSome_eq {o : Option V} {u : Option Value} (r : RelO o u) : o.isSome = u.isSome := by
  cases o with
  | none => cases u with
    | none => rfl
    | some _ => exact (show False from r).elim
  | some _ => cases u with
    | none => exact (show False from r).elim
    | some _ => rfl
theorem RelO.getD {o : Option V} {u : Option Value} {d : V} {d' : Value} (r : RelO o u) (rd : RelV d d') : RelV (o.getD d) (u.getD d') := by
  cases o with
  | none => cases u with
    | none => exact rd
    | some _ => exact (show False from r).elim
  | some _ => cases u with
    | none => exact (show False from r).elim
    | some _ => exact r

/-- raw tables of the same keys -/
theorem KV.val {kvs : List (κ × V)} {vs : List (κ × Value)} (r : KV kvs vs) (k : κ) : RelO (valV kvs k) (valueAt vs k) := by
  unfold KV at r
  induction r with
  | nil => exact True.intro
  | @cons p q ps qs h t ih =>
    obtain ⟨h1, h2⟩ := h
    by_cases e : p.1 = k
    · have e' : q.1 = k := h1.symm.trans e
      have b : valueAt (q :: qs) k = some q.2 := by simp [valueAt, List.find?_cons, e']
      rw [valV_pos e, b]; exact h2
    · have e' : ¬ q.1 = k := fun z => e (h1.trans z)
      have b : valueAt (q :: qs) k = valueAt qs k := by simp [valueAt, List.find?_cons, e']
      rw [valV_neg e, b]; exact ih
theorem KV.any {kvs : List (κ × V)} {vs : List (κ × Value)} (r : KV kvs vs) (k : κ) : (kvs.any fun kv => decide (kv.1 = k)) = vs.any fun kv => decide (kv.1 = k) := by
  unfold KV at r
  induction r with
  | nil => rfl
  | cons h t ih => rw [List.any_cons, List.any_cons, ih, h.1]
theorem KV.repl {kvs : List (κ × V)} {vs : List (κ × Value)} (r : KV kvs vs) (k : κ) {y : V} {u : Value} (ry : RelV y u) :
    KV (kvs.map fun kv => if kv.1 = k then (kv.1, y) else kv) (vs.map fun kv => if kv.1 = k then (kv.1, u) else kv) := by
  unfold KV at r ⊢
  induction r with
  | nil => exact .nil
  | @cons p q ps qs h t ih =>
    rw [List.map_cons, List.map_cons]
    refine .cons ?_ ih
    obtain ⟨h1, h2⟩ := h
    by_cases e : p.1 = k
    · rw [if_pos e, if_pos (h1.symm.trans e)]; exact ⟨h1, ry⟩
    · rw [if_neg e, if_neg (fun z => e (h1.trans z))]; exact ⟨h1, h2⟩
theorem KV.put {kvs : List (κ × V)} {vs : List (κ × Value)} (r : KV kvs vs) (k : κ) {y : V} {u : Value} (ry : RelV y u) : KV (putK kvs k y) (stored vs k u) := by
  unfold putK stored
  rw [r.any k]
  by_cases e : (vs.any fun kv => decide (kv.1 = k)) = true
  · rw [if_pos e, if_pos e]; exact r.repl k ry
  · rw [if_neg e, if_neg e]; exact Paired.snoc r ⟨rfl, ry⟩
theorem KV.drop {kvs : List (κ × V)} {vs : List (κ × Value)} (r : KV kvs vs) (k : κ) : KV (dropK kvs k) (without vs k) := by
  unfold KV at r ⊢
  unfold dropK without
  induction r with
  | nil => exact .nil
  | @cons p q ps qs h t ih =>
    obtain ⟨h1, h2⟩ := h
    rw [List.filter_cons, List.filter_cons]
    by_cases e : p.1 = k
    · have a : ¬ decide (p.1 ≠ k) = true := by simp [e]
      have b : ¬ decide (q.1 ≠ k) = true := by simp [h1.symm.trans e]
      rw [if_neg a, if_neg b]; exact ih
    · have e' : ¬ q.1 = k := fun z => e (h1.trans z)
      have a : decide (p.1 ≠ k) = true := by simp [e]
      have b : decide (q.1 ≠ k) = true := by simp [e']
      rw [if_pos a, if_pos b]; exact .cons ⟨h1, h2⟩ ih
theorem KV.keys {kvs : List (κ × V)} {vs : List (κ × Value)} (r : KV kvs vs) : kvs.map (·.1) = vs.map (·.1) := by
  unfold KV at r
  induction r with
  | nil => rfl
  | cons h t ih => rw [List.map_cons, List.map_cons, ih, h.1]
theorem KV.length {kvs : List (κ × V)} {vs : List (κ × Value)} (r : KV kvs vs) : kvs.length = vs.length := Paired.length r
end


/-! ### a tracked dict, its keys ints and texts or tuples of these -/
theorem kV_is {P : Program} {w : World} {k : Key} {u : Value} (r : RelV (kV k) u) : (mixKind P w).is k u = true := by
  cases k with
  | inl i => obtain ⟨t, e⟩ := (show ∃ t, u = Value.int i t from r); subst e; exact mixKind_int P w i t
  | inr x => obtain ⟨t, e⟩ := (show ∃ t, u = Value.str x t from r); subst e; exact mixKind_str P w x t
theorem items_are {P : Program} {w : World} : ∀ {ks : List Key} {us : List Value}, Vals (ks.map kV) us → ItemsAre (mixKind P w) ks us
  | [], _, r => by rw [List.map_nil] at r; cases r; exact .nil
  | k :: ks, _, r => by
    rw [List.map_cons] at r
    cases r with
    | cons h t => exact .cons (kV_is h) (items_are t)

/-- raw entries of a dict with tuple keys -/
abbrev KT (H : Hp) : List (List Key × V) → List (List Key × Addr × Value) → Prop := Paired fun p q => p.1 = q.1 ∧ H q.2.1 = some (.tup (p.1.map kV)) ∧ RelV p.2 q.2.2
theorem KT.val {H : Hp} {kvs : List (List Key × V)} {xs : List (List Key × Addr × Value)} (r : KT H kvs xs) (k : List Key) : RelO (valV kvs k) ((atKey xs k).map (·.2)) := by
  induction r with
  | nil => exact True.intro
  | @cons p q ps qs h t ih =>
    obtain ⟨h1, _, h2⟩ := h
    by_cases e : p.1 = k
    · have e' : q.1 = k := h1.symm.trans e
      have b : atKey (q :: qs) k = some q.2 := by simp [atKey, List.find?_cons, e']
      rw [valV_pos e, b]; exact h2
    · have e' : ¬ q.1 = k := fun z => e (h1.trans z)
      have b : atKey (q :: qs) k = atKey qs k := by simp [atKey, List.find?_cons, e']
      rw [valV_neg e, b]; exact ih
theorem KT.repl {H : Hp} {kvs : List (List Key × V)} {xs : List (List Key × Addr × Value)} (r : KT H kvs xs) (k : List Key) {y : V} {u : Value} (ry : RelV y u) :
    KT H (kvs.map fun kv => if kv.1 = k then (kv.1, y) else kv) (xs.map (putAt k u)) := by
  induction r with
  | nil => exact .nil
  | @cons p q ps qs h t ih =>
    rw [List.map_cons, List.map_cons]
    refine .cons ?_ ih
    obtain ⟨h1, h2, h3⟩ := h
    unfold putAt
    by_cases e : p.1 = k
    · rw [if_pos e, if_pos (h1.symm.trans e)]; exact ⟨h1, h2, ry⟩
    · rw [if_neg e, if_neg (fun z => e (h1.trans z))]; exact ⟨h1, h2, h3⟩
theorem KT.put {H : Hp} {kvs : List (List Key × V)} {xs : List (List Key × Addr × Value)} (r : KT H kvs xs) (k : List Key) {b : Addr} {y : V} {u : Value} (hb : H b = some (.tup (k.map kV))) (ry : RelV y u) :
    KT H (putK kvs k y) (storedH xs k b u) := by
  have e : (kvs.any fun kv => decide (kv.1 = k)) = (atKey xs k).isSome := by
    rw [valV_any, (r.val k).isSome_eq, Option.isSome_map]
  unfold putK storedH
  rw [e]
  by_cases q : (atKey xs k).isSome = true
  · rw [if_pos q, if_pos q]; exact r.repl k ry
  · rw [if_neg q, if_neg q]; exact Paired.snoc r ⟨rfl, hb, ry⟩
theorem KT.keeps {H H' : Hp} {kvs : List (List Key × V)} {xs : List (List Key × Addr × Value)} (r : KT H kvs xs) (ht : ∀ b ys, H b = some (.tup ys) → H' b = some (.tup ys)) : KT H' kvs xs :=
  Paired.mapP r fun _ _ z => ⟨z.1, ht _ _ z.2.1, z.2.2⟩

section
variable {P : Program} {w : World} {H : Hp} {h : Heap} {a : Addr}
theorem rd_of {u : HO} (ok : HOk P w H h) (e : Rd H a u) : ObjOk P w H h a u := e.ok ok
theorem dk_rd {kvs : List (Key × V)} (ok : HOk P w H h) (e : Rd H a (.dK kvs)) : kvs.length ≤ sizeLine ∧ (a == sysModules) = false ∧ ∃ vs, KV kvs vs ∧ h.DictOf (mixKind P w) a vs :=
  show ObjOk P w H h a (.dK kvs) from rd_of ok e
theorem dk_of {kvs : List (Key × V)} (ok : HOk P w H h) (e : H a = some (.dK kvs)) : kvs.length ≤ sizeLine ∧ (a == sysModules) = false ∧ ∃ vs, KV kvs vs ∧ h.DictOf (mixKind P w) a vs := dk_rd ok (.inl e)
/-- a tracked tuple of ints and texts is a key -/
theorem key_of {ks : List Key} (ok : HOk P w H h) (e : H a = some (.tup (ks.map kV))) : (tupleKind (mixKind P w)).is h ks a := by
  obtain ⟨_, its, r, o, h1, h2, n, h3⟩ := (show ObjOk P w H h a (.tup (ks.map kV)) from ok a _ e)
  exact ⟨o, its.toArray, n, h1, h2, h3, by simpa using items_are r⟩
theorem dt_rd {kvs : List (List Key × V)} (ok : HOk P w H h) (e : Rd H a (.dT kvs)) : kvs.length ≤ sizeLine ∧ (a == sysModules) = false ∧
    ∃ xs, KT H kvs xs ∧ h.DictOfH (tupleKind (mixKind P w)) a xs := by
  obtain ⟨z, y, xs, r, o, es, ep, h1, h2, h3, h4, h5⟩ := (show ObjOk P w H h a (.dT kvs) from rd_of ok e)
  refine ⟨z, y, xs, r, o, es, ep, h1, h2, h3, h4, fun x hx => ?_, h5⟩
  have all : ∀ {l : List (List Key × V)} {m : List (List Key × Addr × Value)}, KT H l m → ∀ x ∈ m, (tupleKind (mixKind P w)).is h x.1 x.2.1 := by
    intro l m q
    induction q with
    | nil => intro x hx; exact nomatch hx
    | @cons p q ps qs hq t ih =>
      intro x hx
      rcases List.mem_cons.mp hx with e | hx
      · subst e
        exact key_of ok (by rw [← hq.1]; exact hq.2.1)
      · exact ih x hx
  exact all r x hx
theorem dt_of {kvs : List (List Key × V)} (ok : HOk P w H h) (e : H a = some (.dT kvs)) : kvs.length ≤ sizeLine ∧ (a == sysModules) = false ∧
    ∃ xs, KT H kvs xs ∧ h.DictOfH (tupleKind (mixKind P w)) a xs := dt_rd ok (.inl e)
end

/-- what the dict at a holds at the key y -/
def DGet (H : Hp) (a : Addr) (y : V) (r : Option V) : Prop :=
  (∃ kvs k, Rd H a (.dK kvs) ∧ y = kV k ∧ r = valV kvs k) ∨ ∃ kvs k b, Rd H a (.dT kvs) ∧ y = .ref b ∧ H b = some (.tup (k.map kV)) ∧ r = valV kvs k
/-- the heap behind a[y] = v -/
def DPut (H : Hp) (a : Addr) (y v : V) (H' : Hp) : Prop :=
  (∃ kvs k, H a = some (.dK kvs) ∧ y = kV k ∧ kvs.length < sizeLine ∧ H' = upd H a (.dK (putK kvs k v))) ∨
  ∃ kvs k b, H a = some (.dT kvs) ∧ y = .ref b ∧ H b = some (.tup (k.map kV)) ∧ kvs.length < sizeLine ∧ H' = upd H a (.dT (putK kvs k v))
theorem DGet.k {H : Hp} {a : Addr} {kvs : List (Key × V)} {k : Key} (e : H a = some (.dK kvs)) : DGet H a (kV k) (valV kvs k) := .inl ⟨kvs, k, .inl e, rfl, rfl⟩
theorem DGet.t {H : Hp} {a b : Addr} {kvs : List (List Key × V)} {k : List Key} (e : H a = some (.dT kvs)) (eb : H b = some (.tup (k.map kV))) : DGet H a (.ref b) (valV kvs k) := .inr ⟨kvs, k, b, .inl e, rfl, eb, rfl⟩
theorem DPut.k {H : Hp} {a : Addr} {kvs : List (Key × V)} {k : Key} {v : V} (e : H a = some (.dK kvs)) (hl : kvs.length < sizeLine) : DPut H a (kV k) v (upd H a (.dK (putK kvs k v))) := .inl ⟨kvs, k, e, rfl, hl, rfl⟩
theorem DPut.t {H : Hp} {a b : Addr} {kvs : List (List Key × V)} {k : List Key} {v : V} (e : H a = some (.dT kvs)) (eb : H b = some (.tup (k.map kV))) (hl : kvs.length < sizeLine) :
    DPut H a (.ref b) v (upd H a (.dT (putK kvs k v))) := .inr ⟨kvs, k, b, e, rfl, eb, hl, rfl⟩


section
variable {X : Cx} {pins : List (Addr × Obj)} {σ : St} {H : Hp} {s : Shared} {a : Addr} {y v : V} {u r : Value} {o : Option V} {A : Around} {E : Value → Shared → Prop}

theorem Inv.big (I : Inv X pins σ H s) : sysModules < s.heap.objs.size := by
  have h : mainGlobals < s.heap.objs.size := (I.mod.glob.keeps I.bk).lt
  exact Nat.lt_trans (by decide) h

/-- d[y], there -/
theorem d_getItem {Q : Value → Shared → Prop} (hu : A.units + 1 < cLine) (I : Inv X pins σ H s) (g : DGet H a y (some v)) (ry : RelV y u) (h : ∀ w' s', Inv X pins σ H s' → RelV v w' → Q w' s') :
    wpAny (model X.prog X.w) A (getItem (.ref a) u) Q E s := by
  rcases g with ⟨kvs, k, e, ey, l⟩ | ⟨kvs, k, b, e, ey, eb, l⟩
  · subst ey
    obtain ⟨z, hd, vs, rel, dd⟩ := dk_rd I.hok e
    obtain ⟨w', hw, rw'⟩ := RelO.some_of (v := v) (o := valueAt vs k) (by rw [l]; exact rel.val k)
    exact wpAny_getItem_of (kV_is ry) dd.mapOf hw (h w' _ (I.tok _) rw')
  · subst ey
    cases (show u = Value.ref b from ry)
    obtain ⟨z, hd, xs, rel, dd⟩ := dt_rd I.hok e
    obtain ⟨w', hw, rw'⟩ := RelO.some_of (v := v) (o := (atKey xs k).map (·.2)) (by rw [l]; exact rel.val k)
    obtain ⟨p, hp, hp2⟩ := Option.map_eq_some_iff.mp hw
    refine wpAny_getItem_heap (tupleKind_room_in1 hu) (key_of I.hok eb) dd hp ?_
    rw [hp2]
    exact h w' _ (I.tok _) rw'
theorem d_notIn {Q : Value → Shared → Prop} (hu : A.units + 1 < cLine) (I : Inv X pins σ H s) (g : DGet H a y o) (ry : RelV y u) (h : ∀ s', Inv X pins σ H s' → Q (.bool (!o.isSome)) s') :
    wpAny (model X.prog X.w) A (compareOp .NotIn u (.ref a)) Q E s := by
  rcases g with ⟨kvs, k, e, ey, l⟩ | ⟨kvs, k, b, e, ey, eb, l⟩
  · subst ey
    obtain ⟨z, hd, vs, rel, dd⟩ := dk_rd I.hok e
    refine wpAny_notIn_of (kV_is ry) hd dd.mapOf ?_
    rw [← (rel.val k).isSome_eq, ← l]
    exact h _ (I.tok _)
  · subst ey
    cases (show u = Value.ref b from ry)
    obtain ⟨z, hd, xs, rel, dd⟩ := dt_rd I.hok e
    refine wpAny_notIn_heap (tupleKind_room_in1 hu) (key_of I.hok eb) hd dd ?_
    have q := (rel.val k).isSome_eq
    rw [Option.isSome_map] at q
    rw [← q, ← l]
    exact h _ (I.tok _)
/-- a dict's object is replaced -/
theorem d_write {h' : Heap} {t' : Nat} {ob : HO} (I : Inv X pins σ H s) (mu : Mut (H a)) (hs : Heap.SameBut a s.heap h') (he : ∃ q, h'.get? a = some q) (new : ObjOk X.prog X.w (upd H a ob) h' a ob) :
    Inv X pins σ (upd H a ob) { s with heap := h', toks := t' } :=
  I.write (x := a) (e := a) mu (.inl rfl) (fun b q hb z => (hs.2 b hb).trans z) he new
theorem dk_new {P : Program} {w : World} {H' : Hp} {h' : Heap} {kvs : List (Key × V)} {vs : List (Key × Value)} (z : kvs.length ≤ sizeLine) (hd : (a == sysModules) = false) (rel : KV kvs vs) (dd : h'.DictOf (mixKind P w) a vs) :
    ObjOk P w H' h' a (.dK kvs) := ⟨z, hd, vs, rel, dd⟩
/-- d[y] = v -/
theorem d_setItem {H' : Hp} {Q : Unit → Shared → Prop} (hu : A.units + 1 < cLine) (I : Inv X pins σ H s) (g : DPut H a y v H') (ry : RelV y u) (rv : RelV v r) (h : ∀ s', Inv X pins σ H' s' → Q () s') :
    wpAny (model X.prog X.w) A (setItem (.ref a) u r) Q E s := by
  rcases g with ⟨kvs, k, e, ey, l, eH⟩ | ⟨kvs, k, b, e, ey, eb, l, eH⟩
  · subst ey eH
    obtain ⟨z, hd, vs, rel, dd⟩ := dk_of I.hok e
    have hz : vs.length ≤ sizeLine := by rw [← rel.length]; exact z
    have hl : (putK kvs k v).length ≤ sizeLine := by have := length_putK kvs k v; omega
    refine wpAny_setItem_pairs (hsz := hz) (kV_is ry) dd fun h' dd' hs => h _ ?_
    have he : ∃ q, h'.get? a = some q := let ⟨q, _, _, hq, _⟩ := dd'; ⟨q, hq⟩
    exact d_write I (by rw [e]; exact True.intro) hs he (dk_new hl hd (rel.put k rv) dd')
  · subst ey eH
    cases (show u = Value.ref b from ry)
    obtain ⟨z, hd, xs, rel, dd⟩ := dt_of I.hok e
    have hz : xs.length ≤ sizeLine := by rw [← Paired.length rel]; exact z
    have hl : (putK kvs k v).length ≤ sizeLine := by have := length_putK kvs k v; omega
    refine wpAny_setItem_heap (hsz := hz) (tupleKind_room_in1 hu) (key_of I.hok eb) dd fun h' dd' hs => h _ ?_
    obtain ⟨q, es, ep, hq, h2, h3, h4, _, h5⟩ := dd'
    refine d_write I (by rw [e]; exact True.intro) hs ⟨q, hq⟩ ⟨hl, hd, _, (rel.put k eb rv).keeps fun c ys ec => ?_, q, es, ep, hq, h2, h3, h4, h5⟩
    rw [upd_ne (ne_of ec e (fun z => nomatch z))]
    exact ec
end

section
variable {X : Cx} {pins : List (Addr × Obj)} {σ : St} {H : Hp} {s : Shared} {a : Addr} {kvs : List (Key × V)} {k : Key} {u : Value} {A : Around} {E : Value → Shared → Prop}
end


/-! ### readings and rules -/
/-- the element of a subscription, not a slice -/
def NoSl (i : Expr) : Prop := ∀ ov iv, subscripted i false ov iv = operate [ov, iv] (getItem ov iv)
theorem subD_of {prog : Program} {w : World} {A : Around} {E : Value → Shared → Prop} {s : Shared} {env : Env} {value slice : Expr} {pos : Pos} {T id : String} {Q : Value → Shared → Prop}
    (hl : typeLookup (.type T) "__getitem__" = pure (some (.builtin id))) (hs : NoSl slice)
    (h : wpAny (model prog w) A (eval value env) (fun o s₁ => wpAny (model prog w) A (eval slice env) (fun i s₂ => s₂.TypeIs o T ∧ wpAny (model prog w) A (getItem o i) Q E s₂) E s₁) E s) :
    wpAny (model prog w) A (eval (.Subscript value slice pos) env) Q E s := by
  refine Subscript_ (wpAny_mono h (fun o s₁ h₁ => wpAny_mono h₁ (fun i s₂ h₂ => ?_) fun _ _ x => x) fun _ _ x => x)
  obtain ⟨hT, h₂⟩ := h₂
  unfold subscriptTail
  refine wpAny_bind ?_
  rw [getitemInPython_of_ne hT.not_modules]
  refine wpAny_bind (wpAny_specialOf hT hl ?_)
  have fin : wpAny (model prog w) A (subscripted slice false o i) (fun r s₃ => wpAny (model prog w) A (letTemporaryGo value o r >>= fun _ => pure r) Q E s₃) E s₂ := by
    rw [hs o i]
    exact wpAny_operating (wpAny_mono h₂ (fun r s₃ h₃ => wpAny_bind (wpAny_letTemporaryGo (wpAny_pure h₃))) fun _ _ x => x)
  first
    | exact wpAny_pure (wpAny_bind fin)
    | exact wpAny_bind (wpAny_pure (wpAny_bind fin))
    | exact wpAny_bind fin

theorem dict_typeIs {X : Cx} {pins : List (Addr × Obj)} {σ : St} {H : Hp} {s : Shared} {a : Addr} {y : V} {o : Option V} (I : Inv X pins σ H s) (g : DGet H a y o) : s.TypeIs (.ref a) "dict" := by
  rcases g with ⟨kvs, k, e, _, _⟩ | ⟨kvs, k, b, e, _, _, _⟩
  · obtain ⟨_, _, vs, _, dd⟩ := dk_rd I.hok e
    exact dd.typeIs
  · obtain ⟨_, _, xs, _, dd⟩ := dt_rd I.hok e
    exact dd.typeIs
/-- d[y] -/
def tDGet (td ty : TE) : TE := fun σ H Q => td σ H fun x H1 => ty σ H1 fun y H2 => ∃ a v, x = .ref a ∧ DGet H2 a y (some v) ∧ Q v H2
def tDNotIn (ty td : TE) : TE := fun σ H Q => ty σ H fun y H1 => td σ H1 fun x H2 => ∃ a o, x = .ref a ∧ DGet H2 a y o ∧ Q (.bl (!o.isSome)) H2
/-- d[y] = v -/
def sDPut (td ty tv : TE) : TS := fun D σ H => tv σ H fun v H1 => td σ H1 fun x H2 => ty σ H2 fun y H3 => ∃ a H4, x = .ref a ∧ DPut H3 a y v H4 ∧ D.nx σ H4
section
variable {X : Cx} {o i e value : Expr} {pos pos' tpos : Pos} {td ty tv : TE}
theorem pe_dget (hu : X.A.units + 1 < cLine) (ho : PE X o td) (hi : PE X i ty) (hs : NoSl i) : PE X (.Subscript o i pos) (tDGet td ty) := by
  intro pins s σ H Q I h
  refine subD_of PySem.F.slot_dict_getitem.lookup hs (thn (ho pins s σ H _ I h) fun u s1 ⟨x, H1, I1, rx, q1⟩ => thn (hi pins s1 σ H1 _ I1 q1) fun iv s2 ⟨y, H2, I2, ry, a, v, ex, g, q2⟩ => ?_)
  subst ex
  obtain rfl : u = Value.ref a := rx
  exact ⟨dict_typeIs I2 g, d_getItem hu I2 g ry fun w' s3 I3 rw' => ⟨v, H2, I3, rw', q2⟩⟩
theorem pc_dnotin (hu : X.A.units + 1 < cLine) (hi : PE X i ty) (ho : PE X o td) : PC X .NotIn i o (tDNotIn ty td) := by
  intro pins s σ H Q I h
  refine thn (hi pins s σ H _ I h) fun iv s1 ⟨y, H1, I1, ry, q1⟩ => thn (ho pins s1 σ H1 _ I1 q1) fun u s2 ⟨x, H2, I2, rx, a, ov, ex, g, q2⟩ => ?_
  subst ex
  obtain rfl : u = Value.ref a := rx
  exact d_notIn hu I2 g ry fun s3 I3 => ⟨.bl (!ov.isSome), H2, I3, rfl, q2⟩
theorem ps_dput (hu : X.A.units + 1 < cLine) (ho : PE X o td) (hi : PE X i ty) (hv : PE X value tv) (hs : swapsWith value (some (.Subscript o i pos')) pos.line X.env = pure false) :
    PS X (.Assign [.Subscript o i pos'] value pos) (sDPut td ty tv) := by
  intro pins s σ H D I h
  refine wpAny_Assign_Subscript (thn (hv pins s σ H _ I h) fun r s1 ⟨v, H1, I1, rv, q1⟩ => thn (ho pins s1 σ H1 _ I1 q1) fun u s2 ⟨x, H2, I2, rx, q2⟩ => thn (hi pins s2 σ H2 _ I2 q2) fun iv s3 ⟨y, H3, I3, ry, a, H4, ex, g, q3⟩ => ?_) hs
  subst ex
  obtain rfl : u = Value.ref a := rx
  exact d_setItem hu I3 g ry rv fun s4 I4 => ⟨σ, H4, I4, q3⟩
end


/-! ### displays -/
theorem dk_empty {P : Program} {w : World} {H : Hp} (h : Heap) (hb : sysModules < h.objs.size) : ObjOk P w H (h.push { cls := .type "dict", data := .dict #[] }) h.objs.size (.dK []) :=
  ⟨Nat.zero_le _, beq_eq_false_iff_ne.mpr (Ne.symm (Nat.ne_of_lt hb)), [], .nil, Heap.DictOf.new h⟩
/-- {}, to be a dict of the kind that is wanted -/
def tDNewK : TE := fun _ H Q => ∀ p, H p = none → Q (.ref p) (upd H p (.dK []))
section
variable {X : Cx} {pos : Pos}
theorem pe_dnewK : PE X (.Dict [] [] pos) tDNewK := fun pins s σ H Q I h =>
  wpAny_Dict_empty ⟨.ref s.heap.objs.size, _, I.laid (a := s.heap.objs.size) (o := .dK []) (t' := s.toks) (fun _ _ q => Heap.get?_push_of_some _ q) (Nat.le_refl _) (dk_empty s.heap I.big), rfl, h _ (I.hok.fresh (Nat.le_refl _))⟩
end

/-! ### methods -/
/-- a method call o.m(e) of a built-in, with one argument: what must be seen of the text -/
structure M1 (X : Cx) (o : Expr) (m : Str) (apos : Pos) (e : Expr) (cpos : Pos) : Prop where
  base : attributeBase o m X.env (eval o X.env) = eval o X.env
  few : ((backTo cpos (starEach [e] X.env)).all (fun x => !x.1) && (backToKw cpos (keywordEach [] X.env)).all (fun x => x.1.isSome)
    && decide (([e] : List Expr).length + ([] : List Keyword).length + (if ([] : List Keyword).isEmpty then 0 else 1) < 30)) = true
  line : (apos.endLine == cpos.line) = true
  trees : backTo cpos (starEach [e] X.env) = [(false, eval e X.env)]
structure M2 (X : Cx) (o : Expr) (m : Str) (apos : Pos) (e f : Expr) (cpos : Pos) : Prop where
  base : attributeBase o m X.env (eval o X.env) = eval o X.env
  few : ((backTo cpos (starEach [e, f] X.env)).all (fun x => !x.1) && (backToKw cpos (keywordEach [] X.env)).all (fun x => x.1.isSome)
    && decide (([e, f] : List Expr).length + ([] : List Keyword).length + (if ([] : List Keyword).isEmpty then 0 else 1) < 30)) = true
  line : (apos.endLine == cpos.line) = true
  trees : backTo cpos (starEach [e, f] X.env) = [(false, eval e X.env), (false, eval f X.env)]

section
variable {X : Cx} {pins : List (Addr × Obj)} {σ : St} {H : Hp} {s : Shared} {a : Addr} {y d : V} {u r : Value} {o : Option V} {A : Around} {E : Value → Shared → Prop}
end

section
variable {X : Cx} {o e f : Expr} {apos cpos : Pos} {td ty tx : TE}
end

/-! ### dict(d): a copy -/
section
variable {X : Cx} {pins : List (Addr × Obj)} {σ : St} {H : Hp} {s : Shared} {a : Addr} {kvs : List (Key × V)} {A : Around} {E : Value → Shared → Prop}
end


section
variable {X : Cx} {pins : List (Addr × Obj)} {σ : St} {H : Hp} {s : Shared} {a : Addr} {y : V} {u : Value} {A : Around} {E : Value → Shared → Prop}
end
end L2

namespace L2
open PySem PySem.Spec PyProof.Rows

section
variable {prog : Program} {w : World} {A : Around} {E : Value → Shared → Prop}
end

section
variable {X : Cx}
end
end L2

namespace L2
open PySem PySem.Spec PyProof.Rows

section
variable {X : Cx} {pins : List (Addr × Obj)} {σ : St} {H : Hp} {s : Shared} {h' : Heap}
/-- .. and one new object is laid -/
theorem Inv.turnedNew {t' : Nat} {ch : List Addr} {T : Addr} {ob : HO} (I : Inv X pins σ H s) (k : ∀ b o, b ∉ ch → s.heap.get? b = some o → h'.get? b = some o) (hf : ∀ b ∈ ch, FpOk X pins H b) (hT : s.heap.objs.size ≤ T)
    (new : ObjOk X.prog X.w (upd H T ob) h' T ob) : Inv X pins σ (upd H T ob) { s with heap := h', toks := t' } := by
  have hn : H T = none := I.hok.fresh hT
  have nit : ∀ b u, H b = some u → b ∉ ch := fun b u e z => by
    have q := (hf b z).1
    rw [q] at e; cases e
  refine I.step (g' := s.gens) (d' := s.drawn) (ch := ch) (fun b hb => ⟨(hf b hb).2.2.2.1, (hf b hb).2.1, (hf b hb).2.2.2.2.1, (hf b hb).2.2.2.2.2⟩) (fun b o _ _ hc e _ => k b o hc e) (fun b o _ _ hc e _ => ⟨o.slots, k b o hc e⟩)
    (fun b o _ e n => ?_) (fun b o hc e => ⟨o, k b o hc e⟩) (fun b xs e => ?_) (fun b o u e => ?_) (fun b ps e => ⟨#[], ?_⟩) (fun m hm => ?_) (fun b u e => ?_) I.bare
  · rw [upd_ne (Nat.ne_of_lt (Nat.lt_of_lt_of_le (Heap.lt_size e) hT))]; exact n
  · rw [upd_ne (ne_of_none e hn)]; exact e
  · rw [upd_ne (ne_of_none e hn)]; exact e
  · rw [upd_ne (ne_of_none e hn), e]; simp
  · obtain ⟨o, es, ep, ho, r⟩ := hm
    exact ⟨o, es, ep, k _ o (fun z => (hf _ z).2.1 rfl) ho, r⟩
  · by_cases hb : b = T
    · subst hb
      rw [upd_same] at e
      cases e
      exact new
    · rw [upd_ne hb] at e
      refine (I.hok b u e).stay (fun c v hc q => k c v ?_ q) (fun c q => by rw [upd_ne (ne_of_none q hn)]; exact q) fun c xs q => by rw [upd_ne (ne_of_none q hn)]; exact q
      rcases hc with z | z
      · rw [z]; exact nit b u e
      · exact nit c _ z

/-! ### locking a thing while a statement runs -/
end
section
variable {X : Cx}
/-! ### one iterator just laid -/
theorem pi_one {tg : Expr} {pins : List (Addr × Obj)} {σ : St} {H : Hp} {s : Shared} {R : It → Hp → Prop} {J : It} {tn : Nat → Heap → Prop} {tk : Nat} (I : Inv X pins σ H s) (o : Obj)
    (T : Turn X.prog X.w X.K tg J [s.heap.objs.size] s.heap.objs.size tn) (st : tn 0 (s.heap.push o)) (q : R J H) : PIE X pins σ tg R (.ref s.heap.objs.size) { s with heap := s.heap.push o, toks := tk } := by
  refine ⟨s.heap.objs.size, [s.heap.objs.size], tn, J, H, rfl, I.kept fun b ob e => Heap.get?_push_of_some _ e, T, st, fun b hb => ?_, q⟩
  have e : b = s.heap.objs.size := by simpa using hb
  subst e
  exact I.fpOk (Nat.le_refl _) (I.hok.fresh (Nat.le_refl _))
end

/-! ### range with a step -/
/-- lo, lo + c, .. (n of them) -/
def Itc (lo c : Int) (n : Nat) : It := ⟨fun i _ => i < n, fun i H x H' => H' = H ∧ x = .int (lo + (i : Nat) * c), fun i _ => n ≤ i⟩
theorem turn_rangeC {P : Program} {w : World} {K : PySem.W.Frag} {tg : Expr} (it : Addr) (lo c : Int) (n : Nat) : Turn P w K tg (Itc lo c n) [it] it (fun i h => IsRangeIter h it (lo + (i : Nat) * c) ((n : Int) - (i : Nat)) c) where
  mem := by simp
  obj := fun i h st b hb => by
    have e : b = it := by simpa using hb
    subst e
    exact ⟨_, st, fun v z => nomatch z⟩
  keep := fun i h h' st k => k it (by simp) _ st
  item := by
    intro X hP hw hK hc i pins s σ H E I hf st hg
    subst hP hw hK
    obtain ⟨f0, f1, f2, f3, f4, f5⟩ := hf it (by simp)
    have W := Walks.range (prog := X.prog) (w := X.w) (I.ok.hd hc) it lo c n
    refine W.item i s _ _ hg st fun v h' tk hv st' kk => ?_
    obtain ⟨t, rfl⟩ := hv
    have I1 : Inv X pins σ H { s with heap := h', toks := tk } := I.turned (fun b o hb e => kk b o (by simpa using hb) e) f0 f1 f3 f4 f5
    exact ⟨_, rfl, go_of (s := { s with heap := h', toks := tk }) (n := "range_iterator") st' rfl rfl (by decide) ⟨.int (lo + (i : Nat) * c), H, I1, ⟨t, rfl⟩, ⟨rfl, rfl⟩, st', fun b hb => (hf b hb).1⟩⟩
  done := by
    intro X hP hw hK hc i pins s σ H E I hf st hg
    subst hP hw hK
    obtain ⟨f0, f1, f2, f3, f4, f5⟩ := hf it (by simp)
    exact wpAny_pyNext_range_end (I.ok.hd hc) st (by have : n ≤ i := hg; omega) fun h' eb => ⟨rfl, I.turned (t' := s.toks) (fun b o hb e => eb b o hb e) f0 f1 f3 f4 f5⟩
  self := fun A i s Q E st h => wpAny_pyIter_rangeiter st h
/-- range(i, j, c): small bounds, n items -/
def RgC (i j c : Int) (n : Nat) : Prop := c ≠ 0 ∧ c.natAbs < 1073741824 ∧ Builtin.Range.small i j c = true ∧ Builtin.Range.rangeSize i j c = n
theorem RgC.neg {i j : Int} (ha : -(2 ^ 62) ≤ i) (ha' : i < 2 ^ 62) (hb : -(2 ^ 62) ≤ j) (hb' : j < 2 ^ 62) : RgC i j (-1) (i - j).toNat :=
  ⟨by decide, by decide, PySem.W.small_down ha ha' hb hb', PySem.W.rangeSize_downNat i j⟩
def iRng3 (ta : TA) : TI := fun σ H R => ta σ H fun vs H1 => ∃ (i j c : Int) (n : Nat), vs = [.int i, .int j, .int c] ∧ RgC i j c n ∧ R (Itc i c n) H1
section
variable {X : Cx} {tg : Expr}
theorem pi_range3 {a b c : Expr} {ta : TA} {p pos : Pos} (hg : Gl X "range") (hm : X.mg "range" = none) (ha : PA X [a, b, c] ta)
    (hs : starEach [a, b, c] X.env = (false, eval a X.env) :: starEach [b, c] X.env := by rfl) (hpl : (backTo pos (starEach [b, c] X.env)).any (·.1) = false := by rfl) :
    PI X tg (.Call (.Name "range" p) [a, b, c] [] pos) (iRng3 ta) := by
  intro pins s σ H R I h
  refine Call_ (ld_blt I hg hm boot_range (PyProof.Rows.callWith_type1 (thn (ha pos pins s σ H _ I h) fun us s1 ⟨vs, H1, I1, r1, q1⟩ => ?_) hs hpl))
  obtain ⟨i, j, k, n, e, ⟨c0, c1, c2, c3⟩, q⟩ := q1
  subst e
  cases r1 with
  | cons r rr =>
    cases rr with
    | cons r' rr =>
      cases rr with
      | cons r'' rr =>
        cases rr
        obtain ⟨t, rfl⟩ := r
        obtain ⟨t', rfl⟩ := r'
        obtain ⟨t'', rfl⟩ := r''
        refine call_range_3 c0 ?_ (.inl (PyProof.noPylong_small c1))
        refine wpAny_pyIter_range (IsRange.new ..) c2 ?_
        have I2 : Inv X pins σ H1 { s1 with heap := s1.heap.push { cls := .type "range", data := .fields #[.int i t, .int j t', .int k t''] } } := I1.kept (t' := s1.toks) fun b o e => Heap.get?_push_of_some _ e
        refine pi_one (tk := s1.toks) I2 _ (turn_rangeC _ i k n) ?_ q
        have e1 : i + ((0 : Nat) : Int) * k = i := by simp
        have e2 : (n : Int) - ((0 : Nat) : Int) = Builtin.Range.rangeSize i j k := by rw [c3]; simp
        show IsRangeIter _ _ (i + ((0 : Nat) : Int) * k) ((n : Int) - ((0 : Nat) : Int)) k
        rw [e1, e2]
        exact Heap.get?_push_size _ rfl
end
/-- the turns of a step range, for the for loop -/
theorem for_rangeC {lo c : Int} {n : Nat} {g : TG} {tb : TS} {D : Ends} {σ : St} {H : Hp} (Pv : Nat → St → Hp → Prop) (h0 : Pv 0 σ H)
    (hs : ∀ i σ H, i < n → Pv i σ H → g (.int (lo + (i : Nat) * c)) σ H fun σ2 H2 => tb { D with nx := Pv (i + 1), ct := Pv (i + 1), bk := D.nx } σ2 H2) (hd : ∀ σ H, Pv n σ H → D.nx σ H) :
    ∃ W : Nat → Nat → St → Hp → Prop, (∃ m, W 0 m σ H) ∧ ∀ i m σ H, W i m σ H →
      ((Itc lo c n).stop i H ∧ D.nx σ H) ∨ ((Itc lo c n).go i H ∧ ∃ N : St → Hp → Prop, (∀ σ' H', N σ' H' → ∃ m', m' < m ∧ W (i + 1) m' σ' H') ∧ ∀ x H', (Itc lo c n).yld i H x H' → g x σ H' fun σ2 H2 => tb { D with nx := N, ct := N, bk := D.nx } σ2 H2) := by
  refine ⟨fun i m σ H => m = n - i ∧ i ≤ n ∧ Pv i σ H, ⟨n, by simp, Nat.zero_le _, h0⟩, ?_⟩
  rintro i m σ H ⟨rfl, hi, p⟩
  by_cases hlt : i < n
  · refine .inr ⟨hlt, Pv (i + 1), fun σ' H' p' => ⟨n - (i + 1), by omega, rfl, hlt, p'⟩, fun x H' y => ?_⟩
    obtain ⟨e, y⟩ := y
    subst e y
    exact hs i σ _ hlt p
  · have e : i = n := by omega
    subst e
    exact .inl ⟨Nat.le_refl _, hd σ H p⟩

/-! ### reversed(list) -/
section
variable {X : Cx} {tg : Expr}
end

/-! ### a str -/
/-! ### a dict's keys: any dict's entries -/
section
variable {prog : Program} {w : World} {A : Around} {E : Value → Shared → Prop} {s : Shared}
end

/-! ### a locked dict -/
section
variable {X : Cx} {pins : List (Addr × Obj)} {σ : St} {H : Hp} {s : Shared} {d : Addr} {o : Obj}
end

section
variable {P : Program} {w : World} {K : PySem.W.Frag} {tg : Expr} {d : Addr} {o : Obj} {es : Array DictEntry} {ep : Nat}
end

/-! ### for k in d, d.keys(), d.values(), d.items() -/
section
variable {X : Cx} {tg e : Expr} {td : TE} {apos cpos : Pos}
end

/-! ### enumerate(list) -/
/-- the list at a as it stands at each turn, each item in a new pair -/
def Ite (K : PySem.W.Frag) (a : Addr) : It :=
  ⟨fun i H => ∃ (xs : List V) (x : V), SqL K H a xs ∧ xs[i]? = some x, fun i H v H' => ∃ T x, v = .ref T ∧ H T = none ∧ H' = upd H T (.tup [.int (i : Nat), x]) ∧ ∀ xs, SqL K H a xs → xs[i]? = some x, fun i H => ∃ xs : List V, SqL K H a xs ∧ xs.length ≤ i⟩
theorem turn_enum {P : Program} {w : World} {K : PySem.W.Frag} {elts : List Expr} {kk : Nat} {tpos : Pos} (a e it : Addr) :
    Turn P w K (.Tuple elts kk tpos) (Ite K a) [e, it] e (fun i h => (∃ old, IsEnum h e it ((i : Nat) : Int) old) ∧ h.IsListIter it a i ∧ e ≠ it) where
  mem := by simp
  obj := fun i h st b hb => by
    obtain ⟨⟨old, he⟩, ⟨o, ho, hc, hd⟩, _⟩ := st
    have e' : b = e ∨ b = it := by simpa using hb
    rcases e' with z | z
    · rw [z]; exact ⟨_, he, fun v q => nomatch q⟩
    · rw [z]; exact ⟨o, ho, fun v q => by rw [hd] at q; cases q⟩
  keep := fun i h h' st k => let ⟨⟨old, he⟩, hi, hne⟩ := st; ⟨⟨old, k e (by simp) _ he⟩, hi.at fun o q => k it (by simp) o q, hne⟩
  item := by
    intro X hP hw hK hc i pins s σ H E I hf st hg
    subst hP hw hK
    obtain ⟨⟨old, he⟩, hit, hne⟩ := st
    obtain ⟨xs, x, hq, hx⟩ := hg
    obtain ⟨its, rv, p, hz⟩ := I.list hq
    obtain ⟨u, hu, ru⟩ := rv.get hx
    have hel : e < s.heap.objs.size := Heap.lt_size he
    have hil : it < s.heap.objs.size := by obtain ⟨_, q, _⟩ := hit; exact Heap.lt_size q
    refine wpAny_pyNext_enum_item he hit p.isList (x := u) (by simpa using hu) hne fun h' ho hit' hT hsz hk => ?_
    refine ⟨_, rfl, wpAny_letOwnedTupleGo_enum (s := { s with heap := h', toks := s.toks + 1 }) ho fun h'' he' sb => ?_⟩
    have hT2 : h''.get? s.heap.objs.size = some { cls := .type "tuple", data := .seq #[.int i s.toks, u] } := (sb.2 _ (Nat.ne_of_gt hel)).trans hT
    have new : ObjOk X.prog X.w (upd H s.heap.objs.size (.tup [.int (i : Nat), x])) h'' s.heap.objs.size (.tup [.int (i : Nat), x]) :=
      ⟨by show 2 ≤ sizeLine; decide, [.int i s.toks, u], .cons ⟨_, rfl⟩ (.cons ru .nil), ⟨_, hT2, rfl, _, rfl⟩⟩
    have I1 : Inv X pins σ (upd H s.heap.objs.size (.tup [.int (i : Nat), x])) { s with heap := h'', toks := s.toks + 1 } :=
      I.turnedNew (ch := [e, it]) (fun b ob hb q => (sb.2 b (fun z => hb (by simp [z]))).trans (hk b ob (fun z => hb (by simp [z])) (fun z => hb (by simp [z])) q)) hf (Nat.le_refl _) new
    refine ⟨.ref s.heap.objs.size, _, I1, rfl, ⟨_, x, rfl, I.hok.fresh (Nat.le_refl _), rfl, fun ys hy => by rw [I.list_inj hy hq]; exact hx⟩, ⟨⟨u, ?_⟩, hit'.at fun o q => (sb.2 it (Ne.symm hne)).trans q, hne⟩, fun b hb => ?_⟩
    · have e1 : ((i + 1 : Nat) : Int) = (i : Int) + 1 := by omega
      rw [e1]; exact he'
    · have hb' : b < s.heap.objs.size := by
        have e' : b = e ∨ b = it := by simpa using hb
        rcases e' with z | z
        · rw [z]; exact hel
        · rw [z]; exact hil
      rw [upd_ne (Nat.ne_of_lt hb')]
      exact (hf b hb).1
  done := by
    intro X hP hw hK hc i pins s σ H E I hf st hg
    subst hP hw hK
    obtain ⟨⟨old, he⟩, hit, hne⟩ := st
    obtain ⟨xs, hq, hx⟩ := hg
    obtain ⟨its, rv, p, hz⟩ := I.list hq
    obtain ⟨f0, f1, f2, f3, f4, f5⟩ := hf it (by simp)
    have hl := rv.length
    exact wpAny_pyNext_enum_end (I.ok.hd hc) he hit p.isList (by simp; omega) fun h' eb => ⟨rfl, I.turned (t' := s.toks) (fun b o hb q => eb b o hb q) f0 f1 f3 f4 f5⟩
  self := fun A i s Q E st h => let ⟨⟨_, he⟩, _⟩ := st; wpAny_pyIter_enum he h
def iEnum (K : PySem.W.Frag) (ta : TA) : TI := fun σ H R => ta σ H fun vs H1 => ∃ a xs, vs = [.ref a] ∧ SqL K H1 a xs ∧ R (Ite K a) H1
theorem pi_enum {X : Cx} {e : Expr} {ta : TA} {p pos tpos : Pos} {elts : List Expr} {kk : Nat} (hg : Gl X "enumerate") (hm : X.mg "enumerate" = none) (ha : PA X [e] ta) (hs : starEach [e] X.env = [(false, eval e X.env)] := by rfl) :
    PI X (.Tuple elts kk tpos) (.Call (.Name "enumerate" p) [e] [] pos) (iEnum X.K ta) := by
  intro pins s σ H R I h
  refine Call_ (ld_blt I hg hm boot_enumerate (PyProof.Rows.callWith_type1 (thn (ha pos pins s σ H _ I h) fun us s1 ⟨vs, H1, I1, r1, q1⟩ => ?_) hs rfl))
  obtain ⟨a, xs, ex, hq, q⟩ := q1
  subst ex
  cases r1 with
  | cons r rr =>
    cases rr
    cases r
    obtain ⟨its, rv, p', hz⟩ := I1.list hq
    refine call_enumerate_list p'.isList fun h' he hit hsz hk => wpAny_pyIter_enum he ?_
    have I2 : Inv X pins σ H1 { s1 with heap := h' } := I1.kept (t' := s1.toks) hk
    refine ⟨s1.heap.objs.size + 1, [s1.heap.objs.size + 1, s1.heap.objs.size], _, _, H1, rfl, I2, turn_enum a (s1.heap.objs.size + 1) s1.heap.objs.size, ⟨⟨.none, he⟩, hit, Nat.succ_ne_self _⟩, fun b hb => ?_, q⟩
    have e' : b = s1.heap.objs.size + 1 ∨ b = s1.heap.objs.size := by simpa using hb
    have hle : s1.heap.objs.size ≤ b := by
      rcases e' with z | z
      · rw [z]; exact Nat.le_add_right _ _
      · rw [z]; exact Nat.le_refl _
    exact I1.fpOk hle (I1.hok.fresh hle)
/-! ### zip(list, list) -/
end L2

section 
namespace Bits
open PySem PyProof.Rows

end Bits
end 

section 
namespace TL
open PySem PySem.Builtin PySem.Builtin.Str PySem.StrLaws

abbrev tl (x : Str) : List Nat := x.cps.toList
theorem len_tl (x : Str) : x.length = (tl x).length := by simp [tl, Str.length]
theorem ext_tl {x y : Str} (h : tl x = tl y) : x = y := Str.ext' (Array.toList_inj.mp h)
theorem tl_append (x y : Str) : tl (x ++ y) = tl x ++ tl y := by
  show (x ++ y).cps.toList = _
  rw [Str.cps_append, Array.toList_append]
/-! ### the list functions -/
/-- S stands at the head of l -/
def pre (S l : List Nat) : Bool := l.take S.length == S
/-- l cut at each S from the left; k signs are still to be passed over -/
def spl (S : List Nat) : Nat → List Nat → List Nat → List (List Nat)
  | _, acc, [] => [acc]
  | 0, acc, c :: r => if pre S (c :: r) = true then acc :: spl S (S.length - 1) [] r else spl S 0 (acc ++ [c]) r
  | k + 1, acc, _ :: r => spl S k acc r
/-- what stands before the first S, and behind it -/
def par (S : List Nat) : List Nat → List Nat → Option (List Nat × List Nat)
  | _, [] => none
  | acc, c :: r => if pre S (c :: r) = true then some (acc, (c :: r).drop S.length) else par S (acc ++ [c]) r

/-! ### the model's split and partition are these -/
/-! ### computing spl and par -/
/-- joined lists -/
def joinL (S : List Nat) : List (List Nat) → List Nat
  | [] => []
  | [p] => p
  | p :: q :: r => p ++ (S ++ joinL S (q :: r))
theorem tl_join (y : Str) : ∀ parts : List Str, tl (Str.join y parts) = joinL (tl y) (parts.map tl)
  | [] => rfl
  | [_] => rfl
  | x :: z :: r => by
    show tl (x ++ y ++ Str.join y (z :: r)) = tl x ++ (tl y ++ joinL (tl y) ((z :: r).map tl))
    rw [tl_append, tl_append, tl_join y (z :: r), List.append_assoc]
theorem join_eq (y : Str) (parts : List Str) : Txt.join y parts = Str.join y parts := glued_eq_join y parts
/-! ### digits -/
/-! ### words: x.split() -/
end TL
end 

namespace L2
open PySem PySem.Spec PyProof.Rows

theorem strs_of_vals : ∀ {ys : List Str} {us : List Value}, Vals (ys.map V.str) us → StrsAre us ys
  | [], _, .nil => .nil
  | y :: ys, _, .cons r t => by
    obtain ⟨k, rfl⟩ := r
    exact .cons y k (strs_of_vals t)

section
variable {X : Cx} {pins : List (Addr × Obj)} {σ : St} {H : Hp} {s : Shared} {Q : VK}
end

section
variable {X : Cx}

/-- sep.join(a list | a tuple of texts) -/
theorem mt_join : MtR X "str.join" (fun x xs H Q => ∃ a p, ∃ ys : List Str, x = .str a ∧ xs = [.ref p] ∧ (SqL X.K H p (ys.map V.str) ∨ SqT X.K H p (ys.map V.str)) ∧
    (ys.map (·.length)).sum + ys.length * a.length ≤ 16777216 ∧ Q (.str (Txt.join a ys)) H) := by
  intro pins s σ H x xs v us Q I rx rs h
  obtain ⟨a, p, ys, rfl, rfl, hp, hz, h⟩ := h
  obtain ⟨t, rfl⟩ := rx
  cases rs with
  | cons r1 rs =>
    cases rs
    cases r1
    rcases hp with hp | hp
    · obtain ⟨its, r, ⟨o, n, ho, hc, _, hd⟩, _⟩ := I.list hp
      exact PyProof.Rows.join_list (items := its.toArray) ⟨o, ho, hc, n, hd⟩ (by rw [List.toList_toArray]; exact strs_of_vals r) hz fun t' k => ⟨.str _, H, I.tok k, ⟨t', rfl⟩, h⟩
    · obtain ⟨its, r, ht, _⟩ := I.tuple hp
      exact PyProof.Rows.join_tuple (items := its.toArray) ht (by rw [List.toList_toArray]; exact strs_of_vals r) hz fun t' k => ⟨.str _, H, I.tok k, ⟨t', rfl⟩, h⟩

/-! ### of a text alone -/
/-! ### of a text and a text -/
theorem mt1 {id : String} {g : Str → Str → V} (rule : ∀ (a b : Str) (t u : Tok) (s : Shared) (Q : Value → Shared → Prop), (∀ (v : Value) (k : Nat), RelV (g a b) v → Q v { s with toks := k }) →
    wpAny (model X.prog X.w) X.A (call (.builtin id) [.str a t, .str b u]) Q X.xe s) : MtR X id (fun x xs H Q => ∃ a b, x = .str a ∧ xs = [.str b] ∧ Q (g a b) H) := by
  intro pins s σ H x xs v us Q I rx rs h
  obtain ⟨a, b, rfl, rfl, h⟩ := h
  obtain ⟨t, rfl⟩ := rx
  cases rs with
  | cons r1 rs =>
    cases rs
    obtain ⟨u, rfl⟩ := r1
    exact rule a b t u s _ fun v k r => ⟨g a b, H, I.tok k, r, h⟩
theorem mt_endswith : MtR X "str.endswith" (fun x xs H Q => ∃ a b, x = .str a ∧ xs = [.str b] ∧ Q (.bl (Txt.endswith a b)) H) :=
  mt1 (g := fun a b => .bl (Txt.endswith a b)) fun _ _ _ _ s _ h => PySem.SC.endswith (h _ s.toks rfl)
theorem mt_find : MtR X "str.find" (fun x xs H Q => ∃ a b, x = .str a ∧ xs = [.str b] ∧ Q (.int (Txt.find a b)) H) :=
  mt1 (g := fun a b => .int (Txt.find a b)) fun _ _ _ _ s _ h => PySem.SC.find (h _ (s.toks + 1) ⟨_, rfl⟩)
end

section
variable {X : Cx} {o e : Expr} {to te : TE}
def tM1 (r : V → List V → Hp → VK → Prop) (to te : TE) : TE := fun σ H Q => to σ H fun x H1 => (∃ a, x = .str a) ∧ te σ H1 fun y H2 => r x [y] H2 Q
theorem pe_m1 {id : String} {name : Str} {apos pos : Pos} {r : V → List V → Hp → VK → Prop} (slot : Slot "str" name id) (ty : typeOf (.builtin id) = pure (.type "method_descriptor")) (rule : MtR X id r) (ho : PE X o to) (he : PE X e te)
    (hs : starEach [e] X.env = [(false, eval e X.env)] := by rfl) (hbase : attributeBase o name X.env (eval o X.env) = eval o X.env := by rfl) (hline : (apos.endLine == pos.line) = true := by rfl) :
    PE X (.Call (.Attribute o name apos) [e] [] pos) (tM1 r to te) := by
  intro pins s σ H Q I h
  refine PySem.Call_method1 hbase hs hline (thn (ho pins s σ H _ I h) fun v s1 ⟨x, H1, I1, r1, q1⟩ => ?_)
  obtain ⟨⟨a, rfl⟩, q1⟩ := q1
  obtain ⟨t, rfl⟩ := _root_.id r1
  refine ⟨"str", _, F.plainAttrs_str, slot, ty, typeIs_str _ _ _, (fun _ e => nomatch e), Calls.callWith_builtin rfl (Calls.evalArgs_plain (Calls.spliced_cons ?_))⟩
  exact thn (he pins s1 σ H1 _ I1 q1) fun u s2 ⟨y, H2, I2, r2, q2⟩ => Calls.spliced_nil (rule pins s2 σ H2 _ [y] _ [u] Q I2 r1 (.cons r2 .nil) q2)

theorem pe_join {apos pos : Pos} (ho : PE X o to) (he : PE X e te) (hs : starEach [e] X.env = [(false, eval e X.env)] := by rfl) (hbase : attributeBase o "join" X.env (eval o X.env) = eval o X.env := by rfl) (hline : (apos.endLine == pos.line) = true := by rfl) :
    PE X (.Call (.Attribute o "join" apos) [e] [] pos) (tM1 (fun x xs H Q => ∃ a p, ∃ ys : List Str, x = .str a ∧ xs = [.ref p] ∧ (SqL X.K H p (ys.map V.str) ∨ SqT X.K H p (ys.map V.str)) ∧
      (ys.map (·.length)).sum + ys.length * a.length ≤ 16777216 ∧ Q (.str (Txt.join a ys)) H) to te) :=
  pe_m1 F.slot_str_join F.type_str_join mt_join ho he hs hbase hline
end
end L2

namespace L2
open PySem PySem.Spec PyProof.Rows

section
variable {X : Cx}
end

/-! ### slices of a text -/
theorem IsPart.raw {v : Value} {o : Option Int} (p : IsPart v o) : ∃ l : Option (Int × Tok), v = partValue l ∧ l.map (·.1) = o := by
  cases p with
  | none => exact ⟨none, rfl, rfl⟩
  | int i t => exact ⟨some (i, t), rfl, rfl⟩

/-- a part, clipped, as the text's slice reckons it -/
def clipS (n d : Nat) : Option Int → Int
  | none => (d : Int)
  | some i => max 0 (min (if i < 0 then i + (n : Int) else i) (n : Int))
theorem clipS_eq (n d : Nat) (o : Option Int) : clipS n d o = ((HT.sIx n d o : Nat) : Int) := by
  cases o with
  | none => rfl
  | some v =>
    show max (0 : Int) (min (if v < 0 then v + (n : Int) else v) (n : Int)) = (((if v < 0 then (v + (n : Int)).toNat else min v.toNat n) : Nat) : Int)
    by_cases hv : v < 0
    · simp only [if_pos hv]
      omega
    · simp only [if_neg hv]
      omega
theorem sidx_clip (a b : Option Int) (n : Nat) : Builtin.Str.strSliceIndices a b 1 n = sliceRange (clipS n 0 a) (clipS n n b) 1 := by
  have h1 : ((1 : Int) > 0) = True := by simp
  cases a <;> cases b <;> first
    | rfl
    | (simp only [Builtin.Str.strSliceIndices, clipS, h1, if_true]; rfl)
    | simp [Builtin.Str.strSliceIndices, clipS]
theorem sidx (a b : Option Int) (n : Nat) : Builtin.Str.strSliceIndices a b 1 n = (List.range (HT.sIx n n b - HT.sIx n 0 a)).map (fun k => HT.sIx n 0 a + k) := by
  rw [sidx_clip, clipS_eq, clipS_eq]
  generalize HT.sIx n 0 a = p
  generalize HT.sIx n n b = q
  simp only [sliceRange, show ((1 : Int) > 0) = True from by simp, if_true]
  by_cases hlt : (p : Int) < q
  · have e3 : (((q : Int) - p + 1 - 1) / 1).toNat = q - p := by first | omega | (simp; done) | (simp; omega)
    simp only [hlt, if_true, e3]
    refine List.map_congr_left fun k _ => ?_
    omega
  · have : q - p = 0 := by omega
    simp [hlt, this]

/-- z[lo:hi] -/
def cutS (z : Str) (lo hi : Option Int) : Str :=
  ⟨((z.cps.toList.drop (HT.sIx z.length 0 lo)).take (HT.sIx z.length z.length hi - HT.sIx z.length 0 lo)).toArray⟩
theorem sliceText_cut (z : Str) (lo hi : Option Int) : PySem.StrLaws.sliceText z lo hi = cutS z lo hi := by
  have h1 : HT.sIx z.length 0 lo ≤ z.length := HT.sIx_le _ _ (Nat.zero_le _) _
  have h2 : HT.sIx z.length z.length hi ≤ z.length := HT.sIx_le _ _ (Nat.le_refl _) _
  have hp : HT.sIx z.length 0 lo ≤ max (HT.sIx z.length 0 lo) (HT.sIx z.length z.length hi) := Nat.le_max_left _ _
  have hq : max (HT.sIx z.length 0 lo) (HT.sIx z.length z.length hi) ≤ z.length := Nat.max_le.mpr ⟨h1, h2⟩
  have hd : max (HT.sIx z.length 0 lo) (HT.sIx z.length z.length hi) - HT.sIx z.length 0 lo = HT.sIx z.length z.length hi - HT.sIx z.length 0 lo := by omega
  have e : Builtin.Str.strSliceIndices lo hi 1 z.length =
      Builtin.Str.strSliceIndices (some ((HT.sIx z.length 0 lo : Nat) : Int)) (some ((max (HT.sIx z.length 0 lo) (HT.sIx z.length z.length hi) : Nat) : Int)) 1 z.length := by
    rw [PySem.StrLaws.strSliceIndices_plain hp hq, hd, sidx]
  have e2 : PySem.StrLaws.sliceText z lo hi =
      PySem.StrLaws.sliceText z (some ((HT.sIx z.length 0 lo : Nat) : Int)) (some ((max (HT.sIx z.length 0 lo) (HT.sIx z.length z.length hi) : Nat) : Int)) := by
    unfold PySem.StrLaws.sliceText
    rw [e]
  rw [e2, PySem.StrLaws.sliceText_nat z hp hq, hd]
  rfl
theorem cutS_length (z : Str) (lo hi : Option Int) : (cutS z lo hi).length ≤ z.length := by
  show (((z.cps.toList.drop (HT.sIx z.length 0 lo)).take (HT.sIx z.length z.length hi - HT.sIx z.length 0 lo)).toArray).size ≤ z.cps.size
  rw [List.size_toArray, List.length_take, List.length_drop, Array.length_toList]
  omega
def rSlS : V → Option Int → Option Int → Hp → VK → Prop := fun x lo hi H Q => ∃ z, x = .str z ∧ z.length ≤ sizeLine ∧ Q (.str (cutS z lo hi)) H
theorem sl_str {X : Cx} : SlR X rSlS := by
  intro pins s σ H x v vl vu lo hi sl Q I rx hs pl pu h
  obtain ⟨z, rfl, hz, q⟩ := h
  obtain ⟨t, rfl⟩ := rx
  obtain ⟨os, hos, hcs, hds⟩ := hs
  obtain ⟨l, rfl, rfl⟩ := IsPart.raw pl
  obtain ⟨u, rfl, rfl⟩ := IsPart.raw pu
  refine ⟨"str", _, F.slot_str_getitem.lookup, typeIs_str _ _ _, ?_⟩
  refine wpAny_getItem_str_slice (l := l) (u := u) (st := none) ⟨os, hos, hcs, hds⟩ rfl ?_
  have hl : (PySem.StrLaws.sliceText z (l.map (·.1)) (u.map (·.1))).length ≤ sizeLine := by
    rw [sliceText_cut]
    exact Nat.le_trans (cutS_length z _ _) hz
  rw [← sliceText_cut] at q
  unfold PySem.StrLaws.sliceText at q hl
  show Made.post (if ((1 : Int) == 1 && (Builtin.Str.strSliceIndices (l.map (·.1)) (u.map (·.1)) 1 z.length).length == z.length) = true then Made.val (.str z t)
    else Made.str ⟨((Builtin.Str.strSliceIndices (l.map (·.1)) (u.map (·.1)) 1 z.length).filterMap (z.cps[·]?)).toArray⟩) (EP X pins σ Q) s
  by_cases c : ((1 : Int) == 1 && (Builtin.Str.strSliceIndices (l.map (·.1)) (u.map (·.1)) 1 z.length).length == z.length) = true
  · rw [if_pos c] at q ⊢
    exact ⟨.str z, H, I, ⟨t, rfl⟩, q⟩
  · rw [if_neg c] at q hl ⊢
    exact ⟨hl, .str _, H, I.tok _, ⟨_, rfl⟩, q⟩
end L2

namespace Att
open PySem PySem.W PySem.Calls PyProof.Rows

/-! ### the script -/
theorem ints_of_wellAll {P : Params} {h : Heap} : ∀ (ns : List Int) (vs : List Value), WellAll P h vs (ns.map WData.int) → IntsAre vs ns := by
  intro ns
  induction ns with
  | nil =>
    intro vs w
    rw [List.map_nil] at w
    cases w
    exact .nil
  | cons n ns ih =>
    intro vs w
    rw [List.map_cons] at w
    cases w with
    | cons a b =>
      cases a
      exact .cons _ _ (ih _ b)

theorem script_of {l : OpenLaw} {n : Nat} (hn : l.most = some n) {P : Params} {h : Heap} {args : List WData} {vals : List Value}
    (hpre : l.row.toRowW.claim.pre args = true) (hwl : WellAll P h vals args) :
    ∃ a vs ns, vals = [Value.ref a] ∧ args = [WData.list (ns.map WData.int)] ∧ h.get? a = some { cls := .type "list", data := .seq vs.toArray } ∧ IntsAre vs ns ∧ ns.length ≤ n := by
  have hsh : WShape.hasAll [] args [.list .int] = true := (pre_splitW hpre).1
  have hc : l.pre.holds [] { args := args } = true := (pre_splitW hpre).2
  obtain ⟨d, r, rfl, h1, h2⟩ := hasAllW_cons hsh
  obtain rfl := hasAllW_nil h2
  obtain ⟨xs, rfl, h3⟩ := hasW_list h1
  obtain ⟨ns, rfl⟩ := items_int h3
  have hlen : ns.length ≤ n := by
    unfold OpenLaw.pre at hc
    have h4 : (WTm.not (.lt (.lit (.int (n : Int))) (.len (.arg 0)))).holds [] { args := [.list (ns.map .int)] } = true := by
      have h4 := (holds_andW hc).1
      rw [hn] at h4
      exact h4
    have h5 := condW_of h4 (w_not (w_lt w_lit (w_len_list (w_arg rfl))))
    rw [List.length_map] at h5
    refine Nat.le_of_not_lt fun q => ?_
    have q' : (n : Int) < ((ns.length : Nat) : Int) := by omega
    first
      | (rw [decide_eq_true q'] at h5; exact absurd h5 (by decide))
      | (simp at h5; omega)
  cases hwl with
  | cons w1 w2 =>
    cases w2
    cases w1 with
    | list ho hall => exact ⟨_, _, ns, rfl, rfl, ho, ints_of_wellAll ns _ hall, hlen⟩

theorem post_true (l : OpenLaw) (args : List WData) : l.row.toRowW.claim.post args (.bool true) args = true :=
  postW_of (r := l.row.toRowW) (X := (true == true))
    (show WShape.has [] (.bool true) .bool = true by first | rfl | decide | simp [WShape.has, WShape.arms, WShape.armsAll])
    (show (WTm.eq .res (.lit (.bool true))).value [] { args := args, res := some (.bool true), after := args } = some (.bool (true == true)) from w_eq_bool (w_res rfl) w_lit) rfl

/-! ### the attachment: holds_open's last premise (the goal 'hc' behind k_head) from a wpAny of the law's body -/
/-- the same from a codeAny of the CALL (for a layer whose function contracts speak of calls) -/
theorem attach_call {l : OpenLaw} {n : Nat} {q : Program} {loose : List Str} {XP : (Str → Option Value) → Heap → Prop} {YP : World → Heap → Prop} {d : DefRec}
    (hn : l.most = some n) (hdf : d.params.defaults = [])
    (call : ∀ (w : World) (s₀ s₁ : Shared) (mg mb : Str → Option Value) (fa : Addr) (o : Obj) (pm cd doc : Value) (a : Addr) (vs : List Value) (ns : List Int),
      Ground q loose [] XP w s₀ mg mb s₁.heap → YP w s₁.heap →
      s₁.heap.get? fa = some o → o.data = .func (docDef d.name d.params d.body d.scope pm cd doc) → s₁.heap.CodeRec cd d.name → mg d.name = some (.ref fa) →
      s₁.heap.get? a = some { cls := .type "list", data := .seq vs.toArray } → IntsAre vs ns → ns.length ≤ n → s₁.gens = #[] →
      codeAny (model l.prog w) callerA (.call (.ref fa) ⟨[.ref a], []⟩) (fun r s' => r = .ok (.ret (.bool true)) ∧ OldK s₁.heap s'.heap ∧ s'.os = s₁.os ∧ AllBare s'.gens) s₁) :
    WalkO q loose XP YP l.row.toRowW d [] (fun f vs => PySem.call f vs) := by
  intro w s₀ s₁ mg mb G Y fa o pm cd doc dV kV ho hd hcd hD hmg hg args vals as hpre hlay hrd hwl hlo
  obtain rfl : dV = .none := Dflts.none hD hdf
  obtain rfl : kV = .none := Dflts.noKw hD
  obtain ⟨a, vs, ns, rfl, rfl, hobj, hints, hlen⟩ := script_of hn hpre hwl
  refine enter_call (codeAny_mono (call w s₀ s₁ mg mb fa o pm cd doc a vs ns G Y ho (fd_plain hd) hcd hmg hobj hints hlen hg) fun r s' hq => ?_)
  obtain ⟨rfl, h2, h3, h4⟩ := hq
  exact ⟨.inl ⟨.bool true, .bool true, [], rfl, fun _ => rfl, .bool true, post_true l _, fun _ => ⟨List.Pairwise.nil, fun _ hm => (nomatch hm)⟩⟩, h2, h3, h4⟩

/-! ### rules over ANY heap (no ledger) from facts about the written part K: the library's own take a ledger (News) for what they write -/
section
variable {prog : Program} {w : World} {A : Around} {E : Value → Shared → Prop} {s : Shared} {K : Frag}

/-! the whole heap as the ledger: makes every rule that writes through a ledger a rule over any heap -/
def ledger (h : Heap) (L d : Addr) : List (Addr × Obj) := (List.range h.objs.size).filterMap fun a => if a = L ∨ a = d then none else (h.get? a).map fun o => (a, o)
end
end Att

namespace L2
open PySem PySem.Spec PyProof.Rows

theorem vals_ints : ∀ {vs : List Value} {ns : List Int}, IntsAre vs ns → Vals (ns.map V.int) vs
  | _, _, .nil => .nil
  | _, _, .cons n t h => .cons ⟨t, rfl⟩ (vals_ints h)

/-- nothing is tracked but the script, known to the object (or it is an object of the module) -/
def Only (H : Hp) : Prop := ∀ b, H b = none ∨ ∃ o xs, H b = some (.frz o (.lst xs))

/-- THE HEAD: the law's promise, at the heap behind the top. F, the promise of the law's def, may use that base is part of the heap (so K.In base, base.Ns mainGlobals mg stand in Mod) -/
theorem law_call {P : Program} {w : World} {K : PySem.W.Frag} {mg mb : Str → Option Value} {CX : CXT} {k : Nat} {fa a : Addr} {fd : FuncData} {x : Str} {sp : Sp} {s₁ : Shared} {vs : List Value} {ns : List Int}
    (KX : K.In s₁.heap) (hns : s₁.heap.Ns mainGlobals mg) (hb : s₁.heap.Ns builtinsNs mb) (hbb : ∀ x : Str, x ≠ "__name__" → mb x = bootBuiltins x) (hlim : s₁.heap.NoLimit) (hg : s₁.gens = #[])
    (ha : s₁.heap.get? a = some { cls := .type "list", data := .seq vs.toArray }) (hi : IntsAre vs ns) (hl : ns.length ≤ sizeLine) (hr : Room k callerA)
    (F : ∀ base : Heap, K.In base → base.Ns mainGlobals mg → FnOk P w K mg base CX k fa fd [x] sp) (hbind : ∀ (s : Shared) (u : Value), BindsTo s fd ⟨[u], []⟩ [(x, u)])
    (hsp : ∀ H : Hp, Only H → SqL K H a (ns.map V.int) → sp [.ref a] H (fun v _ => v = .bl true) fun _ _ _ => False)
    (hCX : ∀ H e s', CX [] H s₁ (fun _ _ _ => False) e s' → False) :
    codeAny (model P w) callerA (.call (.ref fa) ⟨[.ref a], []⟩) (fun r s' => r = .ok (.ret (.bool true)) ∧ OldK s₁.heap s'.heap ∧ s'.os = s₁.os ∧ AllBare s'.gens) s₁ := by
  have rv := vals_ints hi
  have lenV := hi.length
  -- from an abstract heap in which nothing but the script may be tracked
  have core : ∀ H : Hp, Only H → SqL K H a (ns.map V.int) → HOk P w H s₁.heap → (∀ b, H b ≠ none → b = a) → (H a ≠ none → K.lookup a = none) →
      codeAny (model P w) callerA (.call (.ref fa) ⟨[.ref a], []⟩) (fun r s' => r = .ok (.ret (.bool true)) ∧ OldK s₁.heap s'.heap ∧ s'.os = s₁.os ∧ AllBare s'.gens) s₁ := by
    intro H hO hS hok hA hK
    have base_of : ∀ {b : Addr} {o : Obj}, s₁.heap.get? b = some o → H b = none → (hidT s₁.heap H).get? b = some o := fun e n => hidT_get e n
    have noA : ∀ {b : Addr} {o : Obj} {es : Array DictEntry} {ep : Nat}, s₁.heap.get? b = some o → o.data = .dict es ep → H b = none := fun {b o es ep} e d => by
      cases q : H b with
      | none => rfl
      | some u =>
        have e' : b = a := hA b (by rw [q]; simp)
        subst e'
        rw [ha] at e; cases e
        have d' : Data.seq vs.toArray _ = Data.dict es ep := d
        cases d'
    have nsK : ∀ {b : Addr} {m : Str → Option Value}, s₁.heap.Ns b m → (hidT s₁.heap H).Ns b m := fun {b m} ⟨o, es, ep, e, d, r⟩ => ⟨o, es, ep, base_of e (noA e d), d, r⟩
    have hKb : K.In (hidT s₁.heap H) := fun b o e => base_of (KX b o e) (by
      cases q : H b with
      | none => rfl
      | some u =>
        have e' : b = a := hA b (by rw [q]; simp)
        subst e'
        rw [hK (by rw [q]; simp)] at e; cases e)
    have hM : Mod K mg (hidT s₁.heap H) := ⟨hKb, nsK hns, ⟨mb, nsK hb, hbb⟩, let ⟨mc, h1, h2⟩ := hlim; ⟨mc, nsK h1, h2⟩⟩
    have e0 : Env0 P w K mg (hidT s₁.heap H) callerA [] s₁ H := ⟨rfl, hM, fun b o e => of_hidT e, Nat.le_of_eq (hidT_size _ _), trivial, fun b hb => absurd (show b ∈ ([] : List Addr) from hb) (by simp), hok, .of_eq hg⟩
    refine codeAny_mono ((F _ hKb (nsK hns)).run callerA [] s₁ H ⟨[.ref a], []⟩ [.ref a] [.ref a] _ _ hr e0 (hbind s₁ (.ref a)) (.cons rfl .nil) (hsp H hO hS)) fun r s' h => ?_
    cases r with
    | error e => exact (hCX H e s' h).elim
    | ok fl =>
      cases fl with
      | next => exact False.elim h
      | brk => exact False.elim h
      | cont => exact False.elim h
      | ret u =>
        obtain ⟨v, H', os, bare, un, hok', r', q⟩ := h
        have q' : v = .bl true := q
        subst q'
        obtain rfl : u = Value.bool true := r'
        refine ⟨rfl, OldK.of_keep fun b o e => ?_, os, bare⟩
        cases q : H b with
        | none => exact un.keep b o e q (by intro z; exact absurd (show b ∈ ([] : List Addr) from z) (by simp)) (by simp)
        | some u =>
          rcases hO b with z | ⟨ob, xs, z⟩
          · rw [q] at z; cases z
          · have z2 := un.frzs b ob _ z
            obtain ⟨e1, _⟩ := hok b _ z
            obtain ⟨e2, _⟩ := hok' b _ z2
            rw [e] at e1; cases e1
            exact e2
  cases hk : K.lookup a with
  | some o =>
    -- the script is one of the module's own objects
    have e := KX a o hk
    rw [ha] at e
    cases e
    refine core (fun _ => none) (fun _ => .inl rfl) (.inr ⟨_, vs.toArray, _, hk, rfl, rfl, rfl, by rw [List.size_toArray, lenV]; exact hl, by simpa using rv, fun v hv => by obtain ⟨i, _, rfl⟩ := List.mem_map.mp hv; rfl⟩) (fun b u z => by have z' : (none : Option HO) = some u := z; cases z') (fun b z => absurd rfl z) fun z => absurd rfl z
  | none =>
    refine core (fun b => if b = a then some (.frz { cls := .type "list", data := .seq vs.toArray } (.lst (ns.map V.int))) else none) (fun b => ?_) (.inl (.inr ⟨{ cls := .type "list", data := .seq vs.toArray }, if_pos rfl⟩)) (fun b u z => ?_) (fun b z => ?_) fun _ => hk
    · by_cases hb : b = a
      · exact .inr ⟨_, _, if_pos hb⟩
      · exact .inl (if_neg hb)
    · by_cases hb : b = a
      · have z' := (if_pos hb).symm.trans z
        cases z'
        subst hb
        exact ⟨ha, by rw [List.length_map]; exact hl, vs, _, rv, ha⟩
      · have z' := (if_neg hb).symm.trans z
        cases z'
    · by_cases hb : b = a
      · exact hb
      · exact absurd (if_neg hb) z
end L2

namespace L2
open PySem PySem.Spec PyProof.Rows

abbrev KOf {K : PySem.W.Frag} {h : Heap} (_ : K.In h) : PySem.W.Frag := K

/-- the goal that k_head leaves (case hc), from the law's promise. F gives the function object fd (K's own) once, then the promise over every base -/
theorem walk_of {l : PySem.W.OpenLaw} {n k : Nat} {q : Program} {loose : List Str} {XP : (Str → Option Value) → Heap → Prop} {YP : World → Heap → Prop} {d : DefRec} {K : Params → PySem.W.Frag} {CX : World → CXT} {sp : World → Sp} {x : Str}
    (hn : l.most = some n) (hn2 : n ≤ sizeLine) (hdf : d.params.defaults = []) (hr : Room k callerA)
    (hY : ∀ (w : World) (h : Heap), YP w h → (K w.params).In h)
    (F : ∀ (w : World) (mg : Str → Option Value) (fa : Addr) (h : Heap), (K w.params).In h → h.Ns mainGlobals mg → mg d.name = some (.ref fa) →
      ∃ fd : FuncData, (∀ (s : Shared) (u : Value), BindsTo s fd ⟨[u], []⟩ [(x, u)]) ∧
        ∀ base : Heap, (K w.params).In base → base.Ns mainGlobals mg → FnOk l.prog w (K w.params) mg base (CX w) k fa fd [x] (sp w))
    (hsp : ∀ (w : World) (H : Hp) (a : Addr) (ns : List Int), ns.length ≤ n → Only H → SqL (K w.params) H a (ns.map V.int) → sp w [.ref a] H (fun v _ => v = .bl true) fun _ _ _ => False)
    (hCX : ∀ (w : World) (H : Hp) (s : Shared) (e : Value) (s' : Shared), CX w [] H s (fun _ _ _ => False) e s' → False) :
    PySem.W.WalkO q loose XP YP l.row.toRowW d [] (fun f vs => PySem.call f vs) := by
  refine Att.attach_call hn hdf fun w s₀ s₁ mg mb fa o pm cd doc a vs ns G Y ho hd hcd hmg hobj hints hlen hg => ?_
  have KX := hY w _ Y
  obtain ⟨fd, hb, hF⟩ := F w mg fa _ KX G.T.g hmg
  exact law_call KX G.T.g G.T.b G.T.builtins G.T.nolimit hg hobj hints (Nat.le_trans hlen hn2) hr hF hb (fun H hO hS => hsp w H a ns hlen hO hS) fun H e s' => hCX w H s₁ e s'
end L2

/- THE LAST THEOREM (shape; LID, My.* are yours):
   My.Adr: a structure of the addresses that your layer names (classes, functions); My.Txt K t: a structure (Prop) of the equations over K;
   My.txt_mk : {K} {implicit addresses ..} (e1 : nsIn K mainGlobals "law" = some (some (.ref f))) (e2 : K.lookup f = some ⟨oc, od, .func (fnOf "law" "law" params body scope dV kV doc pm an cdv ct), sl⟩) (e3 : codeIn K cdv "law" = true) .. : ∃ t, My.Txt K t

set_option maxRecDepth 100000 in
set_option maxHeartbeats 0 in
theorem PySem.Challenge.cw_LID_holds : PySem.Challenge.rw_LID.Holds := by
  w_on; o_law; k_head; (case hw => w_witness2)
  k_fill
  refine L2.walk_of (l := PySem.Challenge.rw_LID) (n := 63) (k := 40) (x := "script") (CX := fun w => ..) (sp := fun _ => My.sp_law) rfl (by decide) rfl ⟨rfl, by decide, by decide⟩ (fun w h Y => PySem.W.kIn_of Y) ?F ?S ?C
  case F =>
    intro w mg fa h KX G hmg
    have T : ∃ t, My.Txt (L2.KOf KX) t := by
      dsimp only [L2.KOf]                          -- K must stand as «<heap const> w.params» for k_is
      refine' My.txt_mk ?e1 ?e2 ?e3 ..
      (case e1 => PySem.W.k_is)                    -- in the order: a name -> its address -> its object -> its parts
      (case e2 => PySem.W.k_is)
      ..
    obtain ⟨t, T⟩ := T
    have e0 := hmg.symm.trans (PySem.W.mg_of KX G T.law)
    cases e0                                       -- fa is the law's own address
    exact ⟨_, fun s u => .of_eq rfl, fun base kb nb => My.law_fn T kb nb⟩     -- if «.of_eq rfl» comes too early: refine' ⟨_, ?b, fun base kb nb => My.law_fn T kb nb⟩; exact fun s u => .of_eq rfl
  case S => exact fun w H a ns hl hO hS => ..
  case C => exact ..
(the tactic k_is has no namespace: write k_is) -/

/-! SHORT WORDS over the layer: a def of the text, its body, what a loop and a test want. -/
namespace L2
open PySem PySem.Spec PyProof.Rows

/-! ### the text by places -/
/-- the j-th statement of a class's body -/
def inClass (s : Stmt) (j : Nat) : Stmt := match s with
  | .ClassDef _ _ _ body _ _ _ _ _ _ _ => body.getD j (.Pass ⟨0, 0, 0, 0⟩)
  | _ => .Pass ⟨0, 0, 0, 0⟩
def defArgs (s : Stmt) : Arguments := match s with
  | .FunctionDef _ a _ _ _ _ _ _ _ _ => a
  | _ => { posonlyargs := [], args := [], vararg := none, kwonlyargs := [], kw_defaults := [], kwarg := none, defaults := [] }
def defBody (s : Stmt) : List Stmt := match s with
  | .FunctionDef _ _ b _ _ _ _ _ _ _ => b
  | _ => []
def defScope (s : Stmt) : Scope := match s with
  | .FunctionDef _ _ _ _ _ _ sc _ _ _ => sc
  | _ => { kind := .function, names := [], isGenerator := false, isCoroutine := false }

/-! ### no exception leaves a def -/
abbrev CX0 : CXT := fun _ _ _ _ _ _ => False
abbrev E0 : XK := fun _ _ _ => False
theorem pass0 {X : Cx} : Passes CX0 X E0 := fun _ _ _ _ _ _ _ h => h.elim

/-! ### a def (or method) of the text as it stands behind the top -/
structure Fun (K : PySem.W.Frag) (x qual : Str) (st : Stmt) (f : Addr) (fd : FuncData) : Prop where
  ex : ∃ (oc : Value) (od : Option Addr) (kV doc pm : Value) (an : Option Addr) (cdv ct : Value) (osl : Array (Option Value)),
    fd = PySem.W.fnOf x qual (defArgs st) (defBody st) (defScope st) .none kV doc pm an cdv ct ∧ K.lookup f = some ⟨oc, od, .func fd, osl⟩ ∧ PySem.W.codeIn K cdv qual = true
  kp : PySem.W.keepIn K (.ref f) = true
section
variable {P : Program} {w : World} {K : PySem.W.Frag} {mg : Str → Option Value} {base : Heap}
/-- THE RULE for a def: its body as a term of rules, and the reading of that term -/
theorem Fun.ok {x qual : Str} {st : Stmt} {f : Addr} {fd : FuncData} {N ps : List Str} {k : Nat} {sp : Sp} (F : Fun K x qual st f fd) (S : FnScope N ps (defScope st)) (len : ∀ vs H Q E, sp vs H Q E → vs.length = ps.length)
    (hbody : ∀ (cdv : Value) (A : Around) (outer : List Env) (s : Shared) (H : Hp) (vs : List V) (Q : VK) (E : XK), Room k (A.deeper (envOfC qual (defScope st) s.heap.objs.size f cdv)) → sp vs H Q E →
      ∃ t, PSs (cxOf CX0 P w K mg base N qual (defScope st) f cdv A outer s H E).nox (defBody st) t ∧ t { nx := fun _ H' => Q .non H', rt := Q } (start N vs) H) : FnOk P w K mg base CX0 (k + 1) f fd ps sp := by
  obtain ⟨oc, od, kV, doc, pm, an, cdv, ct, osl, rfl, lk, hcd⟩ := F.ex
  refine fn_of lk hcd S len fun A outer s H vs Q E hr hsp => ?_
  obtain ⟨t, h, q⟩ := hbody cdv A outer s H vs Q E hr hsp
  exact ⟨t, h.nox, q⟩
/-- how its arguments bind (no defaults): h is «fun _ _ _ _ _ _ us hl => match us, hl with | [_, _], _ => rfl», one _ a parameter -/
theorem Fun.binds {x qual : Str} {st : Stmt} {f : Addr} {fd : FuncData} {ps : List Str} (F : Fun K x qual st f fd)
    (h : ∀ (kV doc pm : Value) (an : Option Addr) (cdv ct : Value) (us : List Value), us.length = ps.length → bindArgs (PySem.W.fnOf x qual (defArgs st) (defBody st) (defScope st) .none kV doc pm an cdv ct) ⟨us, []⟩ = pure (ps.zip us)) : Binds K fd ps [] := by
  obtain ⟨oc, od, kV, doc, pm, an, cdv, ct, osl, rfl, lk, hcd⟩ := F.ex
  exact .all (h kV doc pm an cdv ct)
theorem fun_mk {x qual : Str} {st : Stmt} {f : Addr} {oc : Value} {od an : Option Addr} {osl : Array (Option Value)} {kV doc pm cdv ct : Value} (l : K.lookup f = some ⟨oc, od, .func (PySem.W.fnOf x qual (defArgs st) (defBody st) (defScope st) .none kV doc pm an cdv ct), osl⟩)
    (c : PySem.W.codeIn K cdv qual = true) (k : PySem.W.keepIn K (.ref f) = true) : Fun K x qual st f (PySem.W.fnOf x qual (defArgs st) (defBody st) (defScope st) .none kV doc pm an cdv ct) := ⟨⟨oc, od, kV, doc, pm, an, cdv, ct, osl, rfl, l, c⟩, k⟩
end
theorem hu_of {A : Around} {k : Nat} (hr : Room k A) : A.units + 1 < cLine := Nat.lt_of_le_of_lt (Nat.add_le_add_left (by decide : 1 ≤ 64) _) hr.units
theorem small1000 {n : Nat} (h : n ≤ 1000) : n < sizeLine := Nat.lt_of_le_of_lt h (by decide)

/-! ### expressions in short: the name that stands in the i-th slot -/
section
variable {X : Cx}
theorem pv (i : Nat) {x : Str} {pos : Pos} (hN : X.N[i]? = some x := by rfl) (hv : Vis X.env.scope x := by first | exact Or.inl rfl | exact Or.inr (Or.inl rfl) | exact Or.inr (Or.inr rfl)) (hd : (x == ("__debug__" : Str)) = false := by decide)
    (hcd : (x == ("__classdict__" : Str)) = false := by decide) : PE X (.Name x pos) (tVar i) := pe_var hN hv hd hcd
end

/-! ### tests -/
theorem iteF {A B : Prop} (h : B) : if false = true then A else B := by
  rw [if_neg Bool.false_ne_true]
  exact h
theorem iteT {A B : Prop} (h : A) : if true = true then A else B := by
  rw [if_pos rfl]
  exact h
theorem ite2 {c A B : Prop} [Decidable c] (h1 : c → A) (h2 : ¬ c → B) : if c then A else B := by
  by_cases h : c
  · rw [if_pos h]
    exact h1 h
  · rw [if_neg h]
    exact h2 h
/-! ### heaps -/
/-- all that was tracked is as it was -/
def Same (H H' : Hp) : Prop := ∀ b o, H b = some o → H' b = some o
theorem Same.refl (H : Hp) : Same H H := fun _ _ h => h
theorem Same.trans {H H1 H2 : Hp} (a : Same H H1) (b : Same H1 H2) : Same H H2 := fun c o h => b c o (a c o h)
theorem Same.free {H H' : Hp} (e : Same H H') {l : Addr} (h : H' l = Option.none) : H l = Option.none := by
  cases q : H l with
  | none => rfl
  | some o =>
    rw [e l o q] at h
    cases h
theorem Same.seq {K : PySem.W.Frag} {H H' : Hp} {a : Addr} {xs : List V} (e : Same H H') (h : SqL K H a xs) : SqL K H' a xs := by
  rcases h with (h | ⟨o, h⟩) | h
  · exact .inl (.inl (e _ _ h))
  · exact .inl (.inr ⟨o, e _ _ h⟩)
  · exact .inr h

/-! ### a dict's pairs: keys that differ -/
section
variable {κ : Type} [DecidableEq κ]
end
/-! ### lists -/
theorem at_of {xs : List V} {z : Int} {j : Nat} {v : V} (e : z = (j : Int)) (h : xs[j]? = some v) : atI xs z = some v := by
  rw [e]
  exact atI_nat h
/-- a new instance and its __init__ leave all that was tracked as it was -/
theorem Same.made {H H1 : Hp} {x dx C : Addr} (nx : H x = Option.none) (nd : H dx = Option.none) (k : ∀ b o, (upd (upd H dx (.own x)) x (.ins C dx [])) b = some o → b ≠ x → H1 b = some o) : Same H H1 := fun b o e =>
  k b o (by rw [upd_ne (ne_of_none e nx), upd_ne (ne_of_none e nd)]; exact e) (ne_of_none e nx)
end L2

namespace RT
open Rd09

/-! ### places -/
/-- l stands in t at i -/
def At (l t : List Nat) (i : Nat) : Prop := i + l.length ≤ t.length ∧ (t.drop i).take l.length = l
theorem At.le {l t : List Nat} {i : Nat} (h : At l t i) : i + l.length ≤ t.length := h.1
theorem at_append {l t : List Nat} {i : Nat} (h : At l t i) : t = t.take i ++ (l ++ t.drop (i + l.length)) := by
  have e1 : (t.drop i).take l.length ++ (t.drop i).drop l.length = t.drop i := List.take_append_drop _ _
  rw [h.2, List.drop_drop] at e1
  rw [e1, List.take_append_drop]
theorem at_of_append {l a b : List Nat} : At l (a ++ (l ++ b)) a.length := by
  refine ⟨by simp only [List.length_append]; omega, ?_⟩
  rw [List.drop_left, List.take_left]
theorem at_iff_append {l t : List Nat} {i : Nat} : At l t i ↔ ∃ a b, t = a ++ (l ++ b) ∧ a.length = i := by
  constructor
  · intro h
    exact ⟨t.take i, t.drop (i + l.length), at_append h, by rw [List.length_take]; have := h.1; omega⟩
  · rintro ⟨a, b, rfl, rfl⟩
    exact at_of_append
theorem isPrefixOf_iff {l t : List Nat} : l.isPrefixOf t = true ↔ (l.length ≤ t.length ∧ t.take l.length = l) := by
  rw [List.isPrefixOf_iff_prefix]
  constructor
  · rintro ⟨b, rfl⟩
    exact ⟨by simp, List.take_left⟩
  · rintro ⟨_, h⟩
    exact ⟨t.drop l.length, by rw [← List.take_append_drop l.length t, h]; rw [List.drop_left' rfl]⟩
theorem pre_at {l t : List Nat} {i : Nat} (hi : i ≤ t.length) : l.isPrefixOf (t.drop i) = true ↔ At l t i := by
  rw [isPrefixOf_iff, List.length_drop]
  constructor
  · rintro ⟨h1, h2⟩
    exact ⟨by omega, h2⟩
  · rintro ⟨h1, h2⟩
    exact ⟨by omega, h2⟩

/-- the first place of l in t from lo on, ending at hi -/
def First (l t : List Nat) (lo hi : Nat) : Option Nat → Prop
  | some i => lo ≤ i ∧ i + l.length ≤ hi ∧ At l t i ∧ ∀ j, lo ≤ j → j < i → ¬ At l t j
  | none => ∀ j, lo ≤ j → j + l.length ≤ hi → ¬ At l t j
theorem First.inj {l t : List Nat} {lo hi : Nat} : ∀ {o o' : Option Nat}, First l t lo hi o → First l t lo hi o' → o = o'
  | none, none, _, _ => rfl
  | none, some i, h, ⟨a, b, c, _⟩ => absurd c (h i a b)
  | some i, none, ⟨a, b, c, _⟩, h => absurd c (h i a b)
  | some i, some k, ⟨a, b, c, d⟩, ⟨a', b', c', d'⟩ => by
    rcases Nat.lt_trichotomy i k with h | h | h
    · exact absurd c (d' i a h)
    · rw [h]
    · exact absurd c' (d k a' h)
theorem least_ex {p : Nat → Prop} : ∀ (n : Nat), p n → ∃ i, p i ∧ ∀ j, j < i → ¬ p j := by
  intro n
  induction n using Nat.strongRecOn with
  | ind n ih =>
    intro h
    by_cases c : ∃ j, j < n ∧ p j
    · obtain ⟨j, hj, hp⟩ := c
      exact ih j hj hp
    · exact ⟨n, h, fun j hj hp => c ⟨j, hj, hp⟩⟩
theorem first_ex (l t : List Nat) (lo hi : Nat) : ∃ o, First l t lo hi o := by
  by_cases c : ∃ i, lo ≤ i ∧ i + l.length ≤ hi ∧ At l t i
  · obtain ⟨n, hn⟩ := c
    obtain ⟨i, ⟨h1, h2, h3⟩, hm⟩ := least_ex (p := fun i => lo ≤ i ∧ i + l.length ≤ hi ∧ At l t i) n hn
    exact ⟨some i, h1, h2, h3, fun j hj1 hj2 ha => hm j hj2 ⟨hj1, by omega, ha⟩⟩
  · exact ⟨none, fun j h1 h2 h3 => c ⟨j, h1, h2, h3⟩⟩
theorem find?_range_some {p : Nat → Bool} : ∀ {n i : Nat}, (List.range n).find? p = some i ↔ (i < n ∧ p i = true ∧ ∀ j, j < i → p j = false) := by
  intro n i
  rw [List.find?_range_eq_some]
  simp only [List.mem_range]
  constructor
  · rintro ⟨a, b, c⟩
    exact ⟨b, a, fun j hj => by have := c j hj; simpa using this⟩
  · rintro ⟨a, b, c⟩
    exact ⟨b, a, fun j hj => by rw [c j hj]; rfl⟩
theorem findAt_first (l t : List Nat) : First l t 0 t.length (findAt l t) := by
  unfold findAt
  cases e : (List.range (t.length + 1)).find? fun i => l.isPrefixOf (t.drop i) with
  | none =>
    intro j _ hj ha
    have h := List.find?_eq_none.mp e j (List.mem_range.mpr (by omega))
    exact h ((pre_at (by omega)).mpr ha)
  | some i =>
    obtain ⟨h1, h2, h3⟩ := find?_range_some.mp e
    have ha := (pre_at (by omega)).mp h2
    refine ⟨Nat.zero_le _, ha.1, ha, fun j _ hj hat => ?_⟩
    have := (pre_at (by omega)).mpr hat
    rw [h3 j hj] at this
    cases this

/-! ### next -/
theorem findSome_at {β : Type} {f : Nat → Option β} {n k : Nat} {v : β} (hk : k < n) (hf : f k = some v) (hn : ∀ j, j < k → f j = none) : (List.range n).findSome? f = some v := by
  have e : List.range n = List.range k ++ (k :: (List.range' (k + 1) (n - k - 1))) := by
    rw [List.range_eq_range', List.range_eq_range']
    have e2 : n = k + (1 + (n - k - 1)) := by omega
    conv => lhs; rw [e2, ← List.range'_append_1, ← List.range'_append_1]
    simp
  rw [e, List.findSome?_append]
  have e3 : (List.range k).findSome? f = none := by
    rw [List.findSome?_eq_none_iff]
    intro j hj
    exact hn j (List.mem_range.mp hj)
  rw [e3, List.findSome?_cons, hf]
  rfl
theorem next_some {R : List Rule} {t : Text} {k p : Nat} {r : Rule} (hr : R[k]? = some r) (h : findAt r.left t = some p) (hn : ∀ (j : Nat) (q : Rule), j < k → R[j]? = some q → findAt q.left t = none) : Rd09.next R t = some (k, p) := by
  unfold Rd09.next
  obtain ⟨hk, _⟩ := List.getElem?_eq_some_iff.mp hr
  refine findSome_at hk (by simp only [hr, h, Option.map_some]) fun j hj => ?_
  cases e4 : R[j]? with
  | none => rfl
  | some q =>
    show (findAt q.left t).map _ = none
    rw [hn j q hj e4]
    rfl
theorem next_none {R : List Rule} {t : Text} (hn : ∀ (j : Nat) (q : Rule), R[j]? = some q → findAt q.left t = none) : Rd09.next R t = none := by
  unfold Rd09.next
  rw [List.findSome?_eq_none_iff]
  intro j hj
  cases e4 : R[j]? with
  | none => rfl
  | some q =>
    show (findAt q.left t).map _ = none
    rw [hn j q e4]
    rfl
theorem next_cases (R : List Rule) (t : Text) : (Rd09.next R t = none ∧ ∀ (j : Nat) (q : Rule), R[j]? = some q → findAt q.left t = none) ∨
    ∃ (k p : Nat) (r : Rule), Rd09.next R t = some (k, p) ∧ R[k]? = some r ∧ findAt r.left t = some p ∧ ∀ (j : Nat) (q : Rule), j < k → R[j]? = some q → findAt q.left t = none := by
  have key : ∀ n : Nat, (∀ (j : Nat) (q : Rule), j < n → R[j]? = some q → findAt q.left t = none) ∨
      ∃ (k p : Nat) (r : Rule), R[k]? = some r ∧ findAt r.left t = some p ∧ ∀ (j : Nat) (q : Rule), j < k → R[j]? = some q → findAt q.left t = none := by
    intro n
    induction n with
    | zero => exact .inl fun j q h => absurd h (Nat.not_lt_zero _)
    | succ n ih =>
      rcases ih with h | h
      · cases e : R[n]? with
        | none =>
          refine .inl fun j q hj hq => ?_
          rcases Nat.lt_or_eq_of_le (Nat.le_of_lt_succ hj) with h1 | h1
          · exact h j q h1 hq
          · rw [h1, e] at hq; cases hq
        | some r =>
          cases e2 : findAt r.left t with
          | none =>
            refine .inl fun j q hj hq => ?_
            rcases Nat.lt_or_eq_of_le (Nat.le_of_lt_succ hj) with h1 | h1
            · exact h j q h1 hq
            · rw [h1, e] at hq; cases hq; exact e2
          | some p => exact .inr ⟨n, p, r, e, e2, h⟩
      · exact .inr h
  rcases key R.length with h | ⟨k, p, r, h1, h2, h3⟩
  · have h' : ∀ (j : Nat) (q : Rule), R[j]? = some q → findAt q.left t = none := fun j q hq => h j q (List.getElem?_eq_some_iff.mp hq).1 hq
    exact .inl ⟨next_none h', h'⟩
  · exact .inr ⟨k, p, r, next_some h1 h2 h3, h1, h2, h3⟩

/-! ### behind a step -/
theorem put_len {r : Rule} {t : Text} {p : Nat} (h : p + r.left.length ≤ t.length) : (put r t p).length + r.left.length = t.length + r.right.length := by
  unfold put
  simp only [List.length_append, List.length_take, List.length_drop]
  omega
/-- what stands ahead of the change stood there before -/
theorem at_ahead {l : List Nat} {r : Rule} {t : Text} {p j : Nat} (hp : p ≤ t.length) (h : At l (put r t p) j) (hj : j + l.length ≤ p) : At l t j := by
  refine ⟨by omega, ?_⟩
  have e := h.2
  unfold put at e
  rw [List.drop_append_of_le_length (by rw [List.length_take]; omega), List.take_append_of_le_length (by rw [List.length_drop, List.length_take]; omega)] at e
  rw [List.drop_take, List.take_take] at e
  rw [Nat.min_eq_left (by omega)] at e
  exact e
/-- what stands behind the change stood there before -/
theorem at_behind {l : List Nat} {r : Rule} {t : Text} {p j : Nat} (hp : p + r.left.length ≤ t.length) (h : At l (put r t p) j) (hj : p + r.right.length ≤ j) : At l t (j - r.right.length + r.left.length) := by
  have hl := put_len hp
  have h1 := h.1
  refine ⟨by omega, ?_⟩
  have e := h.2
  unfold put at e
  rw [List.drop_append, List.drop_append] at e
  have z1 : (t.take p).length = p := by rw [List.length_take]; omega
  rw [z1] at e
  have z2 : (t.take p).drop j = [] := List.drop_eq_nil_of_le (by omega)
  have z3 : r.right.drop (j - p) = [] := List.drop_eq_nil_of_le (by omega)
  rw [z2, z3, List.nil_append, List.nil_append, List.drop_drop] at e
  have z4 : p + r.left.length + (j - p - r.right.length) = j - r.right.length + r.left.length := by omega
  rw [z4] at e
  exact e
theorem first_after_same {l : List Nat} {r : Rule} {t : Text} {p : Nat} {o : Option Nat} (hp : p + r.left.length ≤ t.length) (hn : ∀ j, j < p → ¬ At l t j)
    (h : First l (put r t p) (p - l.length) (put r t p).length o) : First l (put r t p) 0 (put r t p).length o := by
  have key : ∀ j, At l (put r t p) j → l.length + j ≤ p → l.length = 0 ∧ j = p := fun j ha hj => by
    by_cases hz : j < p
    · exact absurd (at_ahead (by omega) ha (by omega)) (hn j hz)
    · omega
  cases o with
  | none =>
    intro j _ hj ha
    by_cases hz : p - l.length ≤ j
    · exact h j hz hj ha
    · have := key j ha (by omega)
      omega
  | some i =>
    obtain ⟨a, b, c, d⟩ := h
    refine ⟨Nat.zero_le _, b, c, fun j _ hj ha => ?_⟩
    by_cases hz : p - l.length ≤ j
    · exact d j hz hj ha
    · have := key j ha (by omega)
      omega
theorem first_after_less {l : List Nat} {r : Rule} {t : Text} {p : Nat} {o : Option Nat} (hp : p + r.left.length ≤ t.length) (hn : ∀ j, ¬ At l t j)
    (h : First l (put r t p) (p - l.length) (min (p + r.right.length + l.length) (put r t p).length) o) : First l (put r t p) 0 (put r t p).length o := by
  refine first_after_same hp (fun j _ => hn j) ?_
  have key : ∀ j, At l (put r t p) j → j < p + r.right.length := fun j ha => by
    refine Nat.lt_of_not_le fun hz => ?_
    exact hn _ (at_behind hp ha hz)
  cases o with
  | none =>
    intro j hj1 hj2 ha
    have := key j ha
    exact h j hj1 (by rw [Nat.le_min]; omega) ha
  | some i =>
    obtain ⟨a, b, c, d⟩ := h
    exact ⟨a, c.1, c, d⟩
theorem findAt_none_at {l t : List Nat} (h : findAt l t = none) : ∀ j, ¬ At l t j := fun j ha => by
  have f := findAt_first l t
  rw [h] at f
  exact f j (Nat.zero_le _) ha.1 ha
theorem findAt_some_at {l t : List Nat} {p : Nat} (h : findAt l t = some p) : At l t p ∧ ∀ j, j < p → ¬ At l t j := by
  have f := findAt_first l t
  rw [h] at f
  exact ⟨f.2.2.1, fun j hj => f.2.2.2 j (Nat.zero_le _) hj⟩
theorem findAt_of_first {l t : List Nat} {o : Option Nat} (h : First l t 0 t.length o) : findAt l t = o := First.inj (findAt_first l t) h

/-! ### signs -/
def en : List Nat → List Nat
  | [] => []
  | b :: r => (65 + b / 16) :: (97 + b % 16) :: en r
abbrev Bytes (t : List Nat) : Prop := ∀ b ∈ t, b < 256
theorem en_append : ∀ a b : List Nat, en (a ++ b) = en a ++ en b
  | [], _ => rfl
  | x :: a, b => by
    show _ :: _ :: en (a ++ b) = _ :: _ :: (en a ++ en b)
    rw [en_append a b]
theorem en_len : ∀ a : List Nat, (en a).length = 2 * a.length
  | [] => rfl
  | x :: a => by
    show (en a).length + 1 + 1 = 2 * (a.length + 1)
    rw [en_len a]
    omega
theorem en_drop : ∀ (i : Nat) (t : List Nat), (en t).drop (2 * i) = en (t.drop i)
  | 0, _ => rfl
  | i + 1, [] => by simp [en]
  | i + 1, b :: t => by
    show ((65 + b / 16) :: (97 + b % 16) :: en t).drop (2 * i + 2) = en (t.drop i)
    rw [List.drop_succ_cons, List.drop_succ_cons, en_drop i t]
theorem en_take : ∀ (i : Nat) (t : List Nat), (en t).take (2 * i) = en (t.take i)
  | 0, _ => rfl
  | i + 1, [] => by simp [en]
  | i + 1, b :: t => by
    show ((65 + b / 16) :: (97 + b % 16) :: en t).take (2 * i + 2) = en (b :: t.take i)
    rw [List.take_succ_cons, List.take_succ_cons, en_take i t]
    rfl
theorem en_inj : ∀ {a b : List Nat}, Bytes a → Bytes b → en a = en b → a = b
  | [], [], _, _, _ => rfl
  | [], _ :: _, _, _, h => by simp [en] at h
  | _ :: _, [], _, _, h => by simp [en] at h
  | x :: a, y :: b, ha, hb, h => by
    simp only [en, List.cons.injEq] at h
    obtain ⟨h1, h2, h3⟩ := h
    have e : x = y := by omega
    rw [e, en_inj (fun z hz => ha z (List.mem_cons_of_mem _ hz)) (fun z hz => hb z (List.mem_cons_of_mem _ hz)) h3]
theorem en_get_even : ∀ (t : List Nat) (i : Nat), (en t)[2 * i]? = (t[i]?).map fun b => 65 + b / 16
  | [], i => by simp [en]
  | b :: t, 0 => rfl
  | b :: t, i + 1 => by
    show ((65 + b / 16) :: (97 + b % 16) :: en t)[2 * i + 2]? = _
    rw [List.getElem?_cons_succ, List.getElem?_cons_succ, en_get_even t i, List.getElem?_cons_succ]
theorem en_get_odd : ∀ (t : List Nat) (i : Nat), (en t)[2 * i + 1]? = (t[i]?).map fun b => 97 + b % 16
  | [], i => by simp [en]
  | b :: t, 0 => rfl
  | b :: t, i + 1 => by
    show ((65 + b / 16) :: (97 + b % 16) :: en t)[2 * i + 1 + 2]? = _
    rw [List.getElem?_cons_succ, List.getElem?_cons_succ, en_get_odd t i, List.getElem?_cons_succ]
theorem bytes_take {t : List Nat} (h : Bytes t) (i : Nat) : Bytes (t.take i) := fun b hb => h b (List.mem_of_mem_take hb)
theorem bytes_drop {t : List Nat} (h : Bytes t) (i : Nat) : Bytes (t.drop i) := fun b hb => h b (List.mem_of_mem_drop hb)
theorem bytes_append {a b : List Nat} (ha : Bytes a) (hb : Bytes b) : Bytes (a ++ b) := fun x hx => (List.mem_append.mp hx).elim (ha x) (hb x)
theorem bytes_put {r : Rule} {t : Text} (hr : Bytes r.right) (ht : Bytes t) (p : Nat) : Bytes (put r t p) :=
  bytes_append (bytes_take ht _) (bytes_append hr (bytes_drop ht _))
theorem en_put (r : Rule) (t : Text) (p : Nat) : en (put r t p) = (en t).take (2 * p) ++ (en r.right ++ (en t).drop (2 * p + (en r.left).length)) := by
  unfold put
  rw [en_append, en_append, en_take, en_len, ← en_drop]
  congr 3
  omega
theorem at_en {l t : List Nat} {i : Nat} (hl : Bytes l) (ht : Bytes t) : At (en l) (en t) (2 * i) ↔ At l t i := by
  unfold At
  rw [en_len, en_len, en_drop, en_take]
  constructor
  · rintro ⟨h1, h2⟩
    exact ⟨by omega, en_inj (bytes_take (bytes_drop ht _) _) hl h2⟩
  · rintro ⟨h1, h2⟩
    exact ⟨by omega, by rw [h2]⟩
theorem at_odd {l t : List Nat} {i : Nat} (hl : Bytes l) (hne : l ≠ []) : ¬ At (en l) (en t) (2 * i + 1) := by
  rintro ⟨h1, h2⟩
  cases l with
  | nil => exact hne rfl
  | cons b l =>
    have hb : b < 256 := hl b (List.mem_cons_self)
    have e : (((en t).drop (2 * i + 1)).take (en (b :: l)).length)[0]? = (en (b :: l))[0]? := by rw [h2]
    rw [List.getElem?_take_of_lt (by rw [en_len, List.length_cons]; omega), List.getElem?_drop, Nat.add_zero, en_get_odd] at e
    have e2 : (en (b :: l))[0]? = some (65 + b / 16) := rfl
    rw [e2] at e
    cases e3 : t[i]? with
    | none => rw [e3] at e; cases e
    | some c =>
      rw [e3] at e
      have e4 : 97 + c % 16 = 65 + b / 16 := Option.some.inj e
      omega
theorem first_en {l t : List Nat} {lo hi : Nat} {o : Option Nat} (hl : Bytes l) (ht : Bytes t) (h : First l t lo hi o) : First (en l) (en t) (2 * lo) (2 * hi) (o.map (2 * ·)) := by
  have par : ∀ j, 2 * lo ≤ j → At (en l) (en t) j → (∃ i, j = 2 * i ∧ lo ≤ i ∧ At l t i) ∨ (l = [] ∧ ∃ i, j = 2 * i + 1 ∧ lo ≤ i) := fun j hj ha => by
    rcases Nat.mod_two_eq_zero_or_one j with e | e
    · have e2 : j = 2 * (j / 2) := by omega
      rw [e2] at ha
      exact .inl ⟨j / 2, e2, by omega, (at_en hl ht).mp ha⟩
    · have e2 : j = 2 * (j / 2) + 1 := by omega
      rw [e2] at ha
      by_cases hne : l = []
      · exact .inr ⟨hne, j / 2, e2, by omega⟩
      · exact absurd ha (at_odd hl hne)
  cases o with
  | none =>
    intro j hj hj2 ha
    rw [en_len] at hj2
    rcases par j hj ha with ⟨i, rfl, h1, h2⟩ | ⟨rfl, i, rfl, h1⟩
    · exact h i h1 (by omega) h2
    · have h3 : i + ([] : List Nat).length ≤ hi := by simp at hj2 ⊢; omega
      refine h i h1 h3 ⟨?_, rfl⟩
      have hh := ha.1
      rw [en_len t] at hh
      show i + 0 ≤ t.length
      omega
  | some i =>
    obtain ⟨a, b, c, d⟩ := h
    refine ⟨by show 2 * lo ≤ 2 * i; omega, by show 2 * i + _ ≤ _; rw [en_len]; omega, (at_en hl ht).mpr c, fun j hj1 hj2 ha => ?_⟩
    have hj2 : j < 2 * i := hj2
    rcases par j hj1 ha with ⟨k, rfl, h1, h2⟩ | ⟨rfl, k, rfl, h1⟩
    · exact d k h1 (by omega) h2
    · refine d lo (Nat.le_refl _) (by omega) ⟨?_, rfl⟩
      have := c.1
      simp at this ⊢
      omega
end RT

namespace RT
open Rd09

/-! ### a run whose steps are not told to a lid -/
def lid (s : Run) : Run := ⟨s.text, s.over, min s.steps 1000000000⟩
def stepU (R : List Rule) (s : Run) : Run := if s.over ≠ 0 then s else match Rd09.next R s.text with
  | none => { s with over := 1 }
  | some z => match R[z.1]? with
    | some r => ⟨put r s.text z.2, if r.stop = true then 2 else 0, s.steps + 1⟩
    | none => s
def goesU (R : List Rule) : Nat → Run → Run × Bool
  | 0, s => (s, false)
  | n + 1, s => if LONG < (stepU R s).text.length then (s, true) else goesU R n (stepU R s)
theorem lid_step (R : List Rule) (s : Run) : lid (stepU R s) = step R (lid s) := by
  unfold stepU step
  by_cases h : s.over ≠ 0
  · rw [if_pos h, if_pos (show (lid s).over ≠ 0 from h)]
  · rw [if_neg h, if_neg (show ¬ (lid s).over ≠ 0 from h)]
    show lid (match Rd09.next R s.text with
      | none => { s with over := 1 }
      | some z => match R[z.1]? with
        | some r => ⟨put r s.text z.2, if r.stop = true then 2 else 0, s.steps + 1⟩
        | none => s) = match Rd09.next R s.text with
      | none => { lid s with over := 1 }
      | some z => match R[z.1]? with
        | some r => ⟨put r s.text z.2, if r.stop = true then 2 else 0, min ((lid s).steps + 1) 1000000000⟩
        | none => lid s
    cases Rd09.next R s.text with
    | none => rfl
    | some z =>
      show lid (match R[z.1]? with
        | some r => ⟨put r s.text z.2, if r.stop = true then 2 else 0, s.steps + 1⟩
        | none => s) = match R[z.1]? with
        | some r => ⟨put r s.text z.2, if r.stop = true then 2 else 0, min ((lid s).steps + 1) 1000000000⟩
        | none => lid s
      cases R[z.1]? with
      | none => rfl
      | some r =>
        show (⟨_, _, min (s.steps + 1) 1000000000⟩ : Run) = ⟨_, _, min (min s.steps 1000000000 + 1) 1000000000⟩
        congr 1
        omega
theorem goes_lid (R : List Rule) : ∀ (n : Nat) (s : Run), goesIn R n (lid s) = (lid (goesU R n s).1, (goesU R n s).2)
  | 0, s => rfl
  | n + 1, s => by
    show (if LONG < (step R (lid s)).text.length then (lid s, true) else goesIn R n (step R (lid s))) = _
    rw [← lid_step]
    show (if LONG < (stepU R s).text.length then (lid s, true) else goesIn R n (lid (stepU R s))) = (lid (if LONG < (stepU R s).text.length then (s, true) else goesU R n (stepU R s)).1, (if LONG < (stepU R s).text.length then (s, true) else goesU R n (stepU R s)).2)
    by_cases h : LONG < (stepU R s).text.length
    · rw [if_pos h, if_pos h]
    · rw [if_neg h, if_neg h]
      exact goes_lid R n _

/-! ### steps one by one -/
theorem stepU_over {R : List Rule} {s : Run} (h : s.over ≠ 0) : stepU R s = s := if_pos h
theorem stepU_none {R : List Rule} {s : Run} (h : s.over = 0) (hn : Rd09.next R s.text = none) : stepU R s = ⟨s.text, 1, s.steps⟩ := by
  unfold stepU
  rw [if_neg (by rw [h]; simp), hn]
theorem stepU_some {R : List Rule} {s : Run} {k p : Nat} {r : Rule} (h : s.over = 0) (hn : Rd09.next R s.text = some (k, p)) (hr : R[k]? = some r) :
    stepU R s = ⟨put r s.text p, if r.stop = true then 2 else 0, s.steps + 1⟩ := by
  unfold stepU
  rw [if_neg (by rw [h]; simp), hn]
  show (match R[k]? with
    | some r => (⟨put r s.text p, if r.stop = true then 2 else 0, s.steps + 1⟩ : Run)
    | none => s) = _
  rw [hr]
theorem goes_over {R : List Rule} {s : Run} (h : s.over ≠ 0) (hl : s.text.length ≤ LONG) : ∀ n, goesU R n s = (s, false)
  | 0 => rfl
  | n + 1 => by
    show (if LONG < (stepU R s).text.length then (s, true) else goesU R n (stepU R s)) = _
    rw [stepU_over h, if_neg (by omega)]
    exact goes_over h hl n
theorem goes_none {R : List Rule} {s : Run} {n : Nat} (h : s.over = 0) (hl : s.text.length ≤ LONG) (hn : Rd09.next R s.text = none) : goesU R (n + 1) s = (⟨s.text, 1, s.steps⟩, false) := by
  show (if LONG < (stepU R s).text.length then (s, true) else goesU R n (stepU R s)) = _
  rw [stepU_none h hn, if_neg (by show ¬ LONG < s.text.length; omega)]
  exact goes_over (s := ⟨s.text, 1, s.steps⟩) (by show (1 : Nat) ≠ 0; simp) hl n
theorem goes_long {R : List Rule} {s : Run} {n k p : Nat} {r : Rule} (h : s.over = 0) (hn : Rd09.next R s.text = some (k, p)) (hr : R[k]? = some r) (hl : LONG < (put r s.text p).length) :
    goesU R (n + 1) s = (s, true) := by
  show (if LONG < (stepU R s).text.length then (s, true) else goesU R n (stepU R s)) = _
  rw [stepU_some h hn hr, if_pos hl]
theorem goes_step {R : List Rule} {s : Run} {n k p : Nat} {r : Rule} (h : s.over = 0) (hn : Rd09.next R s.text = some (k, p)) (hr : R[k]? = some r) (hl : (put r s.text p).length ≤ LONG) :
    goesU R (n + 1) s = goesU R n ⟨put r s.text p, if r.stop = true then 2 else 0, s.steps + 1⟩ := by
  show (if LONG < (stepU R s).text.length then (s, true) else goesU R n (stepU R s)) = _
  rw [stepU_some h hn hr, if_neg (by show ¬ LONG < (put r s.text p).length; omega)]

/-! ### rounds -/
theorem goes_snoc {R : List Rule} : ∀ (n : Nat) (u s : Run), goesU R n u = (s, false) → ∀ m, goesU R (n + m) u = goesU R m s
  | 0, u, s, h, m => by
    have e : u = s := congrArg Prod.fst h
    rw [Nat.zero_add, e]
  | n + 1, u, s, h, m => by
    have h' : (if LONG < (stepU R u).text.length then (u, true) else goesU R n (stepU R u)) = (s, false) := h
    by_cases hl : LONG < (stepU R u).text.length
    · rw [if_pos hl] at h'
      cases h'
    · rw [if_neg hl] at h'
      have e : n + 1 + m = (n + m) + 1 := by omega
      rw [e]
      show (if LONG < (stepU R u).text.length then (u, true) else goesU R (n + m) (stepU R u)) = _
      rw [if_neg hl]
      exact goes_snoc n _ s h' m
def more (s : Run) (c : Nat) : Run := ⟨s.text, s.over, s.steps + c⟩
theorem stepU_more (R : List Rule) (s : Run) (c : Nat) : stepU R (more s c) = more (stepU R s) c := by
  unfold stepU
  by_cases h : s.over ≠ 0
  · rw [if_pos h, if_pos (show (more s c).over ≠ 0 from h)]
  · rw [if_neg h, if_neg (show ¬ (more s c).over ≠ 0 from h)]
    show (match Rd09.next R s.text with
      | none => { more s c with over := 1 }
      | some z => match R[z.1]? with
        | some r => ⟨put r s.text z.2, if r.stop = true then 2 else 0, (more s c).steps + 1⟩
        | none => more s c) = more (match Rd09.next R s.text with
      | none => { s with over := 1 }
      | some z => match R[z.1]? with
        | some r => ⟨put r s.text z.2, if r.stop = true then 2 else 0, s.steps + 1⟩
        | none => s) c
    cases Rd09.next R s.text with
    | none => rfl
    | some z =>
      show (match R[z.1]? with
        | some r => (⟨put r s.text z.2, if r.stop = true then 2 else 0, (more s c).steps + 1⟩ : Run)
        | none => more s c) = more (match R[z.1]? with
        | some r => ⟨put r s.text z.2, if r.stop = true then 2 else 0, s.steps + 1⟩
        | none => s) c
      cases R[z.1]? with
      | none => rfl
      | some r =>
        show (⟨_, _, s.steps + c + 1⟩ : Run) = ⟨_, _, s.steps + 1 + c⟩
        congr 1
        omega
theorem goes_more (R : List Rule) (c : Nat) : ∀ (n : Nat) (s : Run), goesU R n (more s c) = (more (goesU R n s).1 c, (goesU R n s).2)
  | 0, s => rfl
  | n + 1, s => by
    show (if LONG < (stepU R (more s c)).text.length then (more s c, true) else goesU R n (stepU R (more s c))) = _
    rw [stepU_more]
    show (if LONG < (stepU R s).text.length then (more s c, true) else goesU R n (more (stepU R s) c)) = (more (if LONG < (stepU R s).text.length then (s, true) else goesU R n (stepU R s)).1 c, (if LONG < (stepU R s).text.length then (s, true) else goesU R n (stepU R s)).2)
    by_cases h : LONG < (stepU R s).text.length
    · rw [if_pos h, if_pos h]
    · rw [if_neg h, if_neg h]
      exact goes_more R c n _
/-- a run that is not over has taken all its steps -/
theorem goes_steps {R : List Rule} : ∀ (n : Nat) (u s : Run), goesU R n u = (s, false) → s.over = 0 → s.steps = u.steps + n
  | 0, u, s, h, _ => by
    have e : u = s := congrArg Prod.fst h
    rw [e]; omega
  | n + 1, u, s, h, h0 => by
    have h' : (if LONG < (stepU R u).text.length then (u, true) else goesU R n (stepU R u)) = (s, false) := h
    by_cases hl : LONG < (stepU R u).text.length
    · rw [if_pos hl] at h'
      cases h'
    · rw [if_neg hl] at h'
      have ih := goes_steps n _ s h' h0
      have stays : ∀ v : Run, v.over ≠ 0 → goesU R n v = (s, false) → False := fun v hv hg => by
        by_cases hz : v.text.length ≤ LONG
        · rw [goes_over hv hz n] at hg
          have e : v = s := congrArg Prod.fst hg
          rw [e] at hv
          exact hv h0
        · cases n with
          | zero =>
            have e : v = s := congrArg Prod.fst hg
            rw [e] at hv
            exact hv h0
          | succ n =>
            have hg' : (if LONG < (stepU R v).text.length then (v, true) else goesU R n (stepU R v)) = (s, false) := hg
            rw [stepU_over hv, if_pos (by omega)] at hg'
            cases hg'
      by_cases hu : u.over = 0
      · rcases next_cases R u.text with ⟨hn, _⟩ | ⟨k, p, r, hn, hr, _, _⟩
        · rw [stepU_none hu hn] at h'
          exact (stays _ (by show (1 : Nat) ≠ 0; simp) h').elim
        · rw [stepU_some hu hn hr] at ih
          have ih' : s.steps = u.steps + 1 + n := ih
          omega
      · rw [stepU_over hu] at h'
        exact (stays u hu h').elim
/-- a run that has come back to a text goes on as from there -/
theorem goes_round {R : List Rule} {u s : Run} {n : Nat} (h : goesU R n u = (s, false)) (h0 : s.over = 0) (hu : u.over = 0) (ht : s.text = u.text) : s = more u n := by
  have e := goes_steps n u s h h0
  cases s
  cases u
  simp only [more] at *
  subst h0 hu ht e
  rfl
theorem goes_rounds {R : List Rule} {u : Run} {n : Nat} (h : goesU R n u = (more u n, false)) : ∀ q, goesU R (n * q) u = (more u (n * q), false)
  | 0 => by
    rw [Nat.mul_zero]
    rfl
  | q + 1 => by
    rw [Nat.mul_succ, Nat.add_comm, goes_snoc n u _ h (n * q), goes_more, goes_rounds h q]
    show (more (more u (n * q)) n, false) = _
    congr 1
    show (⟨_, _, u.steps + n * q + n⟩ : Run) = ⟨_, _, u.steps + (n + n * q)⟩
    congr 1
    omega
theorem goes_skip {R : List Rule} {u s : Run} {n a : Nat} (h : goesU R n u = (s, false)) (h0 : s.over = 0) (hu : u.over = 0) (ht : s.text = u.text) :
    goesU R a s = goesU R (a % n) (more s (a - a % n)) := by
  have e := goes_round h h0 hu ht
  have h1 : goesU R n s = (more s n, false) := by
    rw [e, goes_more, h, e]
  have h2 := goes_rounds h1 (a / n)
  have h3 : a = n * (a / n) + a % n := (Nat.div_add_mod a n).symm
  have h4 : a - a % n = n * (a / n) := by omega
  rw [h4]
  conv => lhs; rw [h3]
  exact goes_snoc _ _ _ h2 _

/-- the text stays short -/
theorem goes_short {R : List Rule} : ∀ (n : Nat) (s : Run), s.text.length ≤ LONG → (goesU R n s).1.text.length ≤ LONG
  | 0, s, h => h
  | n + 1, s, h => by
    show (if LONG < (stepU R s).text.length then (s, true) else goesU R n (stepU R s)).1.text.length ≤ LONG
    by_cases hl : LONG < (stepU R s).text.length
    · rw [if_pos hl]; exact h
    · rw [if_neg hl]
      exact goes_short n _ (by omega)
theorem goes_bytes {R : List Rule} (hR : ∀ r ∈ R, Bytes r.right) : ∀ (n : Nat) (s : Run), Bytes s.text → Bytes (goesU R n s).1.text
  | 0, s, h => h
  | n + 1, s, h => by
    show Bytes (if LONG < (stepU R s).text.length then (s, true) else goesU R n (stepU R s)).1.text
    by_cases hl : LONG < (stepU R s).text.length
    · rw [if_pos hl]; exact h
    · rw [if_neg hl]
      refine goes_bytes hR n _ ?_
      by_cases hu : s.over = 0
      · rcases next_cases R s.text with ⟨hn, _⟩ | ⟨k, p, r, hn, hr, _, _⟩
        · rw [stepU_none hu hn]; exact h
        · rw [stepU_some hu hn hr]
          exact bytes_put (hR r (List.mem_of_getElem? hr)) h p
      · rw [stepU_over hu]; exact h
end RT

namespace RT
open Rd09

/-- a call as the program reads it -/
inductive PC where
  | begin
  | rule (stop : Int) (l r : List Int)
  | text (t : List Int)
  | run (n : Int)
  | read (n : Int)
  | next
  | steps
  | joins
def PC.flat : PC → List Int
  | .begin => [0]
  | .rule s l r => 1 :: s :: (l.length : Int) :: (l ++ ((r.length : Int) :: r))
  | .text t => 2 :: (t.length : Int) :: t
  | .run n => [3, n]
  | .read n => [4, n]
  | .next => [5]
  | .steps => [6]
  | .joins => [7]
abbrev Oct (l : List Int) : Prop := ∀ z ∈ l, 0 ≤ z ∧ z < 256
def PC.ok : PC → Prop
  | .rule _ l r => Oct l ∧ l.length ≤ 32 ∧ Oct r ∧ r.length ≤ 32
  | .text t => Oct t ∧ t.length ≤ 8192
  | _ => True
abbrev nats (l : List Int) : List Nat := l.map Int.toNat
def PC.call : PC → Rd09.Call
  | .begin => .init
  | .rule s l r => .rule (nats l) (l.length : Int) (nats r) (r.length : Int) s
  | .text t => .text (nats t) (t.length : Int)
  | .run n => .run n
  | .read n => .read n
  | .next => .next
  | .steps => .steps
  | .joins => .joins
def ansL (a : Ans) : List Int := a.value :: a.numbers.map fun (b : Nat) => (b : Int)
def playP : Abs → List PC → List Int
  | _, [] => []
  | s, c :: r => ((ansL (does s c.call).2).length : Int) :: (ansL (does s c.call).2 ++ playP (does s c.call).1 r)
/-- the flat form of one call, its numbers and rows -/
def PC.raw : PC → List (List Int)
  | .begin => [[0]]
  | .rule s l r => [[1, s], l, r]
  | .text t => [[2], t]
  | .run n => [[3, n]]
  | .read n => [[4, n]]
  | .next => [[5]]
  | .steps => [[6]]
  | .joins => [[7]]
theorem raw_put (c : PC) : PyFlat.put1 c.raw = c.flat := by
  cases c <;> simp [PC.raw, PyFlat.put1, PyFlat.putRows, PyFlat.putRow, PC.flat]
theorem one_of {c : List (List Int)} (h : PyFlat.okCall PyRd09.shape c) : ∃ x : PC, c = x.raw := by
  obtain ⟨p, a, xs, rfl, hs⟩ := h
  unfold PyRd09.shape at hs
  by_cases h0 : p = 0
  · rw [if_pos h0] at hs
    have e := Option.some.inj hs
    have e1 : a.length = 0 := (congrArg Prod.fst e).symm
    have e2 : xs.length = 0 := (congrArg Prod.snd e).symm
    exact ⟨.begin, by rw [List.length_eq_zero_iff.mp e1, List.length_eq_zero_iff.mp e2, h0]; rfl⟩
  rw [if_neg h0] at hs
  by_cases h1 : p = 1
  · rw [if_pos h1] at hs
    have e := Option.some.inj hs
    have e1 : a.length = 1 := (congrArg Prod.fst e).symm
    have e2 : xs.length = 2 := (congrArg Prod.snd e).symm
    match a, e1, xs, e2 with
    | [s], _, [l, r], _ => exact ⟨.rule s l r, by rw [h1]; rfl⟩
  rw [if_neg h1] at hs
  by_cases h2 : p = 2
  · rw [if_pos h2] at hs
    have e := Option.some.inj hs
    have e1 : a.length = 0 := (congrArg Prod.fst e).symm
    have e2 : xs.length = 1 := (congrArg Prod.snd e).symm
    match a, e1, xs, e2 with
    | [], _, [l], _ => exact ⟨.text l, by rw [h2]; rfl⟩
  rw [if_neg h2] at hs
  by_cases h3 : p = 3
  · rw [if_pos h3] at hs
    have e := Option.some.inj hs
    have e1 : a.length = 1 := (congrArg Prod.fst e).symm
    have e2 : xs.length = 0 := (congrArg Prod.snd e).symm
    match a, e1, xs, e2 with
    | [s], _, [], _ => exact ⟨.run s, by rw [h3]; rfl⟩
  rw [if_neg h3] at hs
  by_cases h4 : p = 4
  · rw [if_pos h4] at hs
    have e := Option.some.inj hs
    have e1 : a.length = 1 := (congrArg Prod.fst e).symm
    have e2 : xs.length = 0 := (congrArg Prod.snd e).symm
    match a, e1, xs, e2 with
    | [s], _, [], _ => exact ⟨.read s, by rw [h4]; rfl⟩
  rw [if_neg h4] at hs
  by_cases h5 : p = 5
  · rw [if_pos h5] at hs
    have e := Option.some.inj hs
    have e1 : a.length = 0 := (congrArg Prod.fst e).symm
    have e2 : xs.length = 0 := (congrArg Prod.snd e).symm
    exact ⟨.next, by rw [List.length_eq_zero_iff.mp e1, List.length_eq_zero_iff.mp e2, h5]; rfl⟩
  rw [if_neg h5] at hs
  by_cases h6 : p = 6
  · rw [if_pos h6] at hs
    have e := Option.some.inj hs
    have e1 : a.length = 0 := (congrArg Prod.fst e).symm
    have e2 : xs.length = 0 := (congrArg Prod.snd e).symm
    exact ⟨.steps, by rw [List.length_eq_zero_iff.mp e1, List.length_eq_zero_iff.mp e2, h6]; rfl⟩
  rw [if_neg h6] at hs
  by_cases h7 : p = 7
  · rw [if_pos h7] at hs
    have e := Option.some.inj hs
    have e1 : a.length = 0 := (congrArg Prod.fst e).symm
    have e2 : xs.length = 0 := (congrArg Prod.snd e).symm
    exact ⟨.joins, by rw [List.length_eq_zero_iff.mp e1, List.length_eq_zero_iff.mp e2, h7]; rfl⟩
  rw [if_neg h7] at hs
  cases hs
theorem all_of : ∀ {cs : List (List (List Int))}, (∀ c ∈ cs, PyFlat.okCall PyRd09.shape c) → ∃ xs : List PC, cs = xs.map PC.raw
  | [], _ => ⟨[], rfl⟩
  | c :: cs, h => by
    obtain ⟨x, e⟩ := one_of (h c (List.mem_cons_self))
    obtain ⟨xs, e2⟩ := all_of (cs := cs) fun d hd => h d (List.mem_cons_of_mem _ hd)
    exact ⟨x :: xs, by rw [e, e2]; rfl⟩
theorem put_flat : ∀ xs : List PC, PyFlat.put (xs.map PC.raw) = xs.flatMap PC.flat
  | [] => rfl
  | x :: xs => by
    show PyFlat.put1 x.raw ++ PyFlat.put (xs.map PC.raw) = _
    rw [raw_put, put_flat xs]
    rfl
theorem callOf_whole (x : PC) : Rd09Neutral.callOf (PyRd09.whole x.raw) = some x.call := by
  cases x <;> rfl
theorem step_whole (s : Abs) (x : PC) : Rd09Neutral.step s (PyRd09.whole x.raw) = ((does s x.call).1, ansL (does s x.call).2) := by
  unfold Rd09Neutral.step
  rw [callOf_whole]
  rfl
theorem told_play : ∀ (xs : List PC) (s : Abs), PyFlat.told (PyFlat.played Rd09Neutral.step s ((xs.map PC.raw).map PyRd09.whole)) = playP s xs
  | [], _ => rfl
  | x :: xs, s => by
    show PyFlat.told ((Rd09Neutral.step s (PyRd09.whole x.raw)).2 :: PyFlat.played Rd09Neutral.step (Rd09Neutral.step s (PyRd09.whole x.raw)).1 ((xs.map PC.raw).map PyRd09.whole)) = _
    rw [step_whole]
    show ((ansL (does s x.call).2).length : Int) :: (ansL (does s x.call).2 ++ PyFlat.told (PyFlat.played Rd09Neutral.step (does s x.call).1 ((xs.map PC.raw).map PyRd09.whole))) = _
    rw [told_play xs]
    rfl
theorem oct_of {l : List Int} (h : (l.all fun (z : Int) => Rd09Neutral.natural z 8) = true) : Oct l := fun z hz => by
  have := List.all_eq_true.mp h z hz
  unfold Rd09Neutral.natural at this
  simp only [Bool.and_eq_true, decide_eq_true_eq] at this
  exact ⟨this.1, by have := this.2; omega⟩
theorem long_of {l : List Int} {hi : Int} (h0 : 0 ≤ hi) (h : Rd09Neutral.long l (l.length : Int) 1 hi = true) : (l.length : Int) ≤ hi := by
  unfold Rd09Neutral.long at h
  have h := of_decide_eq_true h
  by_cases c : 1 ≤ (l.length : Int) ∧ (l.length : Int) ≤ hi
  · exact c.2
  · rw [if_neg c] at h
    omega
theorem ok_of {x : PC} (h : Rd09Neutral.asked1 (PyRd09.whole x.raw) = true) : x.ok := by
  cases x with
  | rule s l r =>
    have h' : ((l.all (fun (z : Int) => Rd09Neutral.natural z 8) && Rd09Neutral.long l (l.length : Int) 1 32) && (Rd09Neutral.whole32 (l.length : Int) && ((r.all (fun (z : Int) => Rd09Neutral.natural z 8) && Rd09Neutral.long r (r.length : Int) 1 32) && (Rd09Neutral.whole32 (r.length : Int) && (Rd09Neutral.whole32 s))))) = true := h
    simp only [Bool.and_eq_true] at h'
    obtain ⟨⟨a, b⟩, _, ⟨c, d⟩, _, _⟩ := h'
    have hb := long_of (by decide) b
    have hd := long_of (by decide) d
    exact ⟨oct_of a, by omega, oct_of c, by omega⟩
  | text t =>
    have h' : ((t.all (fun (z : Int) => Rd09Neutral.natural z 8) && Rd09Neutral.long t (t.length : Int) 1 8192) && (Rd09Neutral.whole32 (t.length : Int))) = true := h
    simp only [Bool.and_eq_true] at h'
    obtain ⟨⟨a, b⟩, _⟩ := h'
    have hb := long_of (by decide) b
    exact ⟨oct_of a, by omega⟩
  | _ => trivial
/-- what is asked, as the program reads it; what is due, call by call -/
theorem asked_split {l : List Int} (h : PyRd09.answers_asked l = true) : ∃ xs : List PC, l = xs.flatMap PC.flat ∧ xs.length ≤ 300 ∧ (∀ x ∈ xs, x.ok) ∧ PyRd09.answers l = playP {} xs := by
  unfold PyRd09.answers_asked at h
  have hcs : ∃ cs, PyFlat.calls PyRd09.shape l.length l = some cs := by
    unfold PyRd09.calls at h
    cases e : PyFlat.calls PyRd09.shape l.length l with
    | none => rw [e] at h; cases h
    | some cs => exact ⟨cs, rfl⟩
  obtain ⟨cs, e⟩ := hcs
  have ec : PyRd09.calls l = some (cs.map PyRd09.whole) := by
    unfold PyRd09.calls
    rw [e]
  rw [ec] at h
  have h : (PyFlat.atMost 300 (cs.map PyRd09.whole) && Rd09Neutral.asked (cs.map PyRd09.whole)) = true := h
  obtain ⟨p1, p2⟩ := PyFlat.put_calls _ _ _ e
  obtain ⟨xs, rfl⟩ := all_of p2
  simp only [Bool.and_eq_true] at h
  obtain ⟨h1, h2⟩ := h
  unfold PyFlat.atMost at h1
  have h1 := of_decide_eq_true h1
  unfold Rd09Neutral.asked at h2
  simp only [Bool.and_eq_true] at h2
  refine ⟨xs, by rw [p1, put_flat], by simpa using h1, fun x hx => ok_of (List.all_eq_true.mp h2.1 _ ?_), ?_⟩
  · exact List.mem_map.mpr ⟨x.raw, List.mem_map.mpr ⟨x, hx, rfl⟩, rfl⟩
  · unfold PyRd09.answers
    rw [ec]
    exact told_play xs _

/-! ### what each call is due, in plain cases -/
theorem nats_len (l : List Int) : (nats l).length = l.length := List.length_map _
theorem nats_bytes {l : List Int} (h : Oct l) : Bytes (nats l) := fun b hb => by
  obtain ⟨z, hz, rfl⟩ := List.mem_map.mp hb
  have := h z hz
  omega
theorem does_rule_bad {s : Abs} {st : Int} {l r : List Int} (h : ¬ (st = 0 ∨ st = 1)) : does s (PC.rule st l r).call = (s, refused) := by
  show (if (below _ _ && (below _ _ && (below st 2 && _))) = false then (s, refused) else _) = _
  have e : below st 2 = false := by
    unfold below
    rw [← Bool.not_eq_true, Bool.and_eq_true, decide_eq_true_eq, decide_eq_true_eq]
    omega
  rw [e]
  simp
theorem below_len {n m : Nat} (h : n < m) : below (n : Int) m = true := by
  unfold below
  rw [Bool.and_eq_true, decide_eq_true_eq, decide_eq_true_eq]
  omega
theorem does_rule {s : Abs} {st : Int} {l r : List Int} (hl : l.length ≤ 32) (hr : r.length ≤ 32) (h : st = 0 ∨ st = 1) :
    does s (PC.rule st l r).call = if 64 ≤ s.rules.length then (s, { value := -2 }) else ({ s with rules := s.rules ++ [⟨nats l, nats r, st == 1⟩] }, { value := (s.rules.length : Nat) }) := by
  show (if (below _ _ && (below _ _ && (below st 2 && _))) = false then (s, refused) else _) = _
  have e : below st 2 = true := by
    unfold below
    rw [Bool.and_eq_true, decide_eq_true_eq, decide_eq_true_eq]
    omega
  have e1 : below (l.length : Int) (SIDE + 1) = true := below_len (by show _ < 33; omega)
  have e2 : below (r.length : Int) (SIDE + 1) = true := below_len (by show _ < 33; omega)
  have e3 : ((nats l).length == (l.length : Int).toNat && (nats r).length == (r.length : Int).toNat) = true := by
    rw [nats_len, nats_len]; simp
  rw [e, e1, e2, e3]
  rfl
theorem does_text {s : Abs} {t : List Int} (h : t.length ≤ 8192) : does s (PC.text t).call = ({ s with run := ⟨nats t, 0, 0⟩ }, { value := 0 }) := by
  have e1 : below (t.length : Int) (LONG + 1) = true := below_len (by unfold LONG; omega)
  have e3 : ((nats t).length == (t.length : Int).toNat) = true := by
    rw [nats_len]; simp
  simp only [PC.call, does, e1, e3, Bool.and_self, if_true]
theorem does_run_bad {s : Abs} {n : Int} (h : n < 0 ∨ n > 1000000) : does s (PC.run n).call = (s, refused) := by
  show (if below n (MOST + 1) = false then (s, refused) else _) = _
  have e : below n (MOST + 1) = false := by
    unfold below
    rw [← Bool.not_eq_true, Bool.and_eq_true, decide_eq_true_eq, decide_eq_true_eq]
    show ¬ (0 ≤ n ∧ n < ((1000001 : Nat) : Int))
    omega
  rw [if_pos e]
theorem does_run {s : Abs} {n : Nat} (h : n ≤ 1000000) : does s (PC.run (n : Int)).call =
    ({ s with run := (goesIn s.rules n s.run).1 }, { value := if (goesIn s.rules n s.run).2 = true then -2 else ((goesIn s.rules n s.run).1.over : Nat) }) := by
  have e : below (n : Int) (MOST + 1) = true := below_len (by unfold MOST; omega)
  have e2 : (n : Int).toNat = n := Int.toNat_natCast n
  simp only [PC.call, does, e, e2, Bool.true_eq_false, if_false]
end RT

namespace RT
open Rd09
/-! ### rests -/
theorem shorter_of {R : List Rule} (h : shorter R = true) {k : Nat} {r : Rule} (hr : R[k]? = some r) : r.right.length < r.left.length := by
  unfold shorter at h
  have := List.all_eq_true.mp h r (List.mem_of_getElem? hr)
  exact of_decide_eq_true this
theorem norm_none {R : List Rule} {t : Text} (hn : Rd09.next R t = none) : ∀ n, norm R n t = t
  | 0 => rfl
  | n + 1 => by
    unfold norm
    rw [hn]
theorem norm_some {R : List Rule} {t : Text} {k p : Nat} {r : Rule} (hn : Rd09.next R t = some (k, p)) (hr : R[k]? = some r) (n : Nat) : norm R (n + 1) t = norm R n (put r t p) := by
  show (match Rd09.next R t with
    | none => t
    | some z => match R[z.1]? with
      | some r => norm R n (put r t z.2)
      | none => t) = _
  rw [hn]
  show (match R[k]? with
      | some r => norm R n (put r t p)
      | none => t) = _
  rw [hr]
theorem next_fits {R : List Rule} {t : Text} {k p : Nat} {r : Rule} (hn : Rd09.next R t = some (k, p)) (hr : R[k]? = some r) : At r.left t p ∧ (∀ j, j < p → ¬ At r.left t j) ∧ ∀ (j : Nat) (q : Rule), j < k → R[j]? = some q → ∀ i, ¬ At q.left t i := by
  rcases next_cases R t with ⟨e, _⟩ | ⟨k', p', r', e, hr', hf, hless⟩
  · rw [hn] at e; cases e
  · rw [hn] at e
    cases e
    rw [hr] at hr'
    cases hr'
    obtain ⟨h1, h2⟩ := findAt_some_at hf
    exact ⟨h1, h2, fun j q hj hq => findAt_none_at (hless j q hj hq)⟩
theorem put_shorter {R : List Rule} (hs : shorter R = true) {t : Text} {k p : Nat} {r : Rule} (hn : Rd09.next R t = some (k, p)) (hr : R[k]? = some r) : (put r t p).length < t.length := by
  have h1 := shorter_of hs hr
  have h2 := put_len (r := r) (next_fits hn hr).1.1
  omega
theorem norm_enough {R : List Rule} (hs : shorter R = true) : ∀ (n m : Nat) (t : Text), t.length ≤ n → t.length ≤ m → norm R n t = norm R m t
  | 0, m, t, hn, _ => by
    have e : Rd09.next R t = none := by
      rcases next_cases R t with ⟨e, _⟩ | ⟨k, p, r, e, hr, _, _⟩
      · exact e
      · have := put_shorter hs e hr
        omega
    rw [norm_none e, norm_none e]
  | n + 1, 0, t, _, hm => by
    have e : Rd09.next R t = none := by
      rcases next_cases R t with ⟨e, _⟩ | ⟨k, p, r, e, hr, _, _⟩
      · exact e
      · have := put_shorter hs e hr
        omega
    rw [norm_none e, norm_none e]
  | n + 1, m + 1, t, hn, hm => by
    rcases next_cases R t with ⟨e, _⟩ | ⟨k, p, r, e, hr, _, _⟩
    · rw [norm_none e, norm_none e]
    · have hl := put_shorter hs e hr
      rw [norm_some e hr, norm_some e hr]
      exact norm_enough hs n m _ (by omega) (by omega)
theorem least_none {R : List Rule} {t : Text} (hn : Rd09.next R t = none) : least R t = t := norm_none hn _
theorem least_some {R : List Rule} (hs : shorter R = true) {t : Text} {k p : Nat} {r : Rule} (hn : Rd09.next R t = some (k, p)) (hr : R[k]? = some r) : least R t = least R (put r t p) := by
  have hl := put_shorter hs hn hr
  have h1 : least R t = norm R (t.length + 1) t := norm_enough hs _ _ t (Nat.le_refl _) (by omega)
  rw [h1, norm_some hn hr]
  exact norm_enough hs _ _ _ (by omega) (Nat.le_refl _)
theorem bytes_least {R : List Rule} (hR : ∀ r ∈ R, Bytes r.right) : ∀ (n : Nat) (t : Text), Bytes t → Bytes (norm R n t)
  | 0, t, h => h
  | n + 1, t, h => by
    rcases next_cases R t with ⟨e, _⟩ | ⟨k, p, r, e, hr, _, _⟩
    · rw [norm_none e]; exact h
    · rw [norm_some e hr]
      exact bytes_least hR n _ (bytes_put (hR r (List.mem_of_getElem? hr)) h p)
/-! ### joins, place by place -/
/-- the two texts of an overlap at i -/
abbrev lapA (r q : Rule) (i : Nat) : Text := r.right ++ q.left.drop (r.left.length - i)
abbrev lapB (r q : Rule) (i : Nat) : Text := r.left.take i ++ q.right
/-- the two texts of q within r at i -/
abbrev inB (r q : Rule) (i : Nat) : Text := r.left.take i ++ (q.right ++ r.left.drop (i + q.left.length))
theorem joins_iff {R : List Rule} : Rd09.joins R = true ↔ ∀ r ∈ R, ∀ q ∈ R,
    (∀ i, 0 < i → i < r.left.length → (r.left.drop i).isPrefixOf q.left = true → least R (lapA r q i) = least R (lapB r q i)) ∧
    (∀ i, i ≤ r.left.length → q.left.isPrefixOf (r.left.drop i) = true → least R r.right = least R (inB r q i)) := by
  unfold Rd09.joins
  simp only [List.all_eq_true]
  constructor
  · intro h r hr q hq
    have h' := h r hr q hq
    refine ⟨fun i h0 h1 h2 => ?_, fun i h1 h2 => ?_⟩
    · have m : (lapA r q i, lapB r q i) ∈ meets r q := List.mem_append.mpr (Or.inl (List.mem_filterMap.mpr ⟨i, List.mem_range.mpr h1, if_pos ⟨h0, h2⟩⟩))
      exact eq_of_beq (h' _ m)
    · have m : (r.right, inB r q i) ∈ meets r q := List.mem_append.mpr (Or.inr (List.mem_filterMap.mpr ⟨i, List.mem_range.mpr (by omega), if_pos h2⟩))
      exact eq_of_beq (h' _ m)
  · intro h r hr q hq z hz
    obtain ⟨ha, hb⟩ := h r hr q hq
    rcases List.mem_append.mp hz with m | m
    · obtain ⟨i, hi, e⟩ := List.mem_filterMap.mp m
      have hi := List.mem_range.mp hi
      by_cases c : 0 < i ∧ (r.left.drop i).isPrefixOf q.left = true
      · rw [if_pos c] at e
        cases e
        rw [beq_iff_eq]
        exact ha i c.1 hi c.2
      · rw [if_neg c] at e; cases e
    · obtain ⟨i, hi, e⟩ := List.mem_filterMap.mp m
      have hi := List.mem_range.mp hi
      by_cases c : q.left.isPrefixOf (r.left.drop i) = true
      · rw [if_pos c] at e
        cases e
        rw [beq_iff_eq]
        exact hb i (by omega) c
      · rw [if_neg c] at e; cases e
end RT

namespace RT
open Rd09
/-! ### where two rules meet, as the program walks it -/
/-- the parts of up to k bytes -/
structure OverK (r q : Rule) (k : Nat) (ps : List (Text × Text)) : Prop where
  sound : ∀ z ∈ ps, ∃ i, 0 < i ∧ i < r.left.length ∧ (r.left.drop i).isPrefixOf q.left = true ∧ z = (lapA r q i, lapB r q i)
  full : ∀ i, 0 < i → i < r.left.length → r.left.length - i ≤ k → (r.left.drop i).isPrefixOf q.left = true → (lapA r q i, lapB r q i) ∈ ps
  few : ps.length ≤ k
/-- the places below k -/
structure WithinK (r q : Rule) (k : Nat) (ps : List (Text × Text)) : Prop where
  sound : ∀ z ∈ ps, ∃ i, i + q.left.length ≤ r.left.length ∧ q.left.isPrefixOf (r.left.drop i) = true ∧ z = (r.right, inB r q i)
  full : ∀ i, i < k → i ≤ r.left.length → q.left.isPrefixOf (r.left.drop i) = true → (r.right, inB r q i) ∈ ps
  few : ps.length ≤ k
theorem OverK.zero (r q : Rule) : OverK r q 0 [] := ⟨fun z hz => (nomatch hz), fun i _ h1 h2 => by omega, Nat.le_refl _⟩
theorem WithinK.zero (r q : Rule) : WithinK r q 0 [] := ⟨fun z hz => (nomatch hz), fun i h => by omega, Nat.le_refl _⟩
theorem over_pre {r q : Rule} {k : Nat} (h1 : k + 1 < r.left.length) (h2 : k + 1 ≤ q.left.length) : (r.left.drop (r.left.length - (k + 1))).isPrefixOf q.left = true ↔ r.left.drop (r.left.length - (k + 1)) = q.left.take (k + 1) := by
  rw [isPrefixOf_iff, List.length_drop]
  have e : r.left.length - (r.left.length - (k + 1)) = k + 1 := by omega
  rw [e]
  exact ⟨fun h => h.2.symm, fun h => ⟨h2, h.symm⟩⟩
theorem OverK.yes {r q : Rule} {k : Nat} {ps : List (Text × Text)} (h : OverK r q k ps) (h1 : k + 1 < r.left.length) (h2 : k + 1 ≤ q.left.length) (e : r.left.drop (r.left.length - (k + 1)) = q.left.take (k + 1)) :
    OverK r q (k + 1) (ps ++ [(r.right ++ q.left.drop (k + 1), r.left.take (r.left.length - (k + 1)) ++ q.right)]) := by
  have el : r.left.length - (r.left.length - (k + 1)) = k + 1 := by omega
  have ez : (r.right ++ q.left.drop (k + 1), r.left.take (r.left.length - (k + 1)) ++ q.right) = (lapA r q (r.left.length - (k + 1)), lapB r q (r.left.length - (k + 1))) := by
    unfold lapA lapB
    rw [el]
  refine ⟨fun z hz => ?_, fun i h0 hi hk hp => ?_, ?_⟩
  · rcases List.mem_append.mp hz with m | m
    · exact h.sound z m
    · exact ⟨r.left.length - (k + 1), by omega, by omega, (over_pre h1 h2).mpr e, (List.mem_singleton.mp m).trans ez⟩
  · by_cases c : r.left.length - i ≤ k
    · exact List.mem_append_left _ (h.full i h0 hi c hp)
    · have ei : i = r.left.length - (k + 1) := by omega
      subst ei
      rw [ez]
      exact List.mem_append_right _ (List.mem_singleton.mpr rfl)
  · rw [List.length_append]
    have := h.few
    show ps.length + 1 ≤ _
    omega
theorem OverK.no {r q : Rule} {k : Nat} {ps : List (Text × Text)} (h : OverK r q k ps) (h1 : k + 1 < r.left.length) (h2 : k + 1 ≤ q.left.length) (e : ¬ r.left.drop (r.left.length - (k + 1)) = q.left.take (k + 1)) :
    OverK r q (k + 1) ps := by
  refine ⟨h.sound, fun i h0 hi hk hp => ?_, Nat.le_succ_of_le h.few⟩
  by_cases c : r.left.length - i ≤ k
  · exact h.full i h0 hi c hp
  · have ei : i = r.left.length - (k + 1) := by omega
    subst ei
    exact absurd ((over_pre h1 h2).mp hp) e
theorem OverK.all {r q : Rule} {k : Nat} {ps : List (Text × Text)} (h : OverK r q k ps) (hk : k = min (r.left.length - 1) q.left.length) :
    ∀ i, 0 < i → i < r.left.length → (r.left.drop i).isPrefixOf q.left = true → (lapA r q i, lapB r q i) ∈ ps := fun i h0 hi hp => by
  refine h.full i h0 hi ?_ hp
  have := (isPrefixOf_iff.mp hp).1
  rw [List.length_drop] at this
  omega
theorem WithinK.next {r q : Rule} {k p : Nat} {ps : List (Text × Text)} (h : WithinK r q k ps) (hf : First q.left r.left k r.left.length (some p)) : WithinK r q (p + 1) (ps ++ [(r.right, inB r q p)]) := by
  obtain ⟨h1, h2, h3, h4⟩ := hf
  have hp : p ≤ r.left.length := by have := h3.1; omega
  refine ⟨fun z hz => ?_, fun i hi hl hpre => ?_, ?_⟩
  · rcases List.mem_append.mp hz with m | m
    · exact h.sound z m
    · exact ⟨p, h3.1, (pre_at hp).mpr h3, List.mem_singleton.mp m⟩
  · by_cases c : i < k
    · exact List.mem_append_left _ (h.full i c hl hpre)
    · by_cases c2 : i = p
      · subst c2
        exact List.mem_append_right _ (List.mem_singleton.mpr rfl)
      · exact absurd ((pre_at hl).mp hpre) (h4 i (by omega) (by omega))
  · rw [List.length_append]
    have := h.few
    show ps.length + 1 ≤ _
    omega
theorem WithinK.all {r q : Rule} {k : Nat} {ps : List (Text × Text)} (h : WithinK r q k ps) (hf : First q.left r.left k r.left.length none) :
    ∀ i, i ≤ r.left.length → q.left.isPrefixOf (r.left.drop i) = true → (r.right, inB r q i) ∈ ps := fun i hl hpre => by
  by_cases c : i < k
  · exact h.full i c hl hpre
  · have ha := (pre_at hl).mp hpre
    exact absurd ha (hf i (by omega) ha.1)
/-- all pairs of two rules -/
structure MeetOk (r q : Rule) (ps : List (Text × Text)) : Prop where
  sound : ∀ z ∈ ps, (∃ i, 0 < i ∧ i < r.left.length ∧ (r.left.drop i).isPrefixOf q.left = true ∧ z = (lapA r q i, lapB r q i)) ∨ ∃ i, i + q.left.length ≤ r.left.length ∧ q.left.isPrefixOf (r.left.drop i) = true ∧ z = (r.right, inB r q i)
  over : ∀ i, 0 < i → i < r.left.length → (r.left.drop i).isPrefixOf q.left = true → (lapA r q i, lapB r q i) ∈ ps
  within : ∀ i, i ≤ r.left.length → q.left.isPrefixOf (r.left.drop i) = true → (r.right, inB r q i) ∈ ps
theorem MeetOk.joins {R : List Rule} (hall : ∀ r ∈ R, ∀ q ∈ R, ∃ ps, MeetOk r q ps ∧ ∀ z ∈ ps, least R z.1 = least R z.2) : Rd09.joins R = true := by
  refine joins_iff.mpr fun r hr q hq => ?_
  obtain ⟨ps, m, h⟩ := hall r hr q hq
  exact ⟨fun i h0 h1 h2 => h _ (m.over i h0 h1 h2), fun i h1 h2 => h _ (m.within i h1 h2)⟩
theorem MeetOk.not_joins {R : List Rule} {r q : Rule} (hr : r ∈ R) (hq : q ∈ R) {ps : List (Text × Text)} (m : MeetOk r q ps) {z : Text × Text} (hz : z ∈ ps) (hne : least R z.1 ≠ least R z.2) : Rd09.joins R = false := by
  refine Bool.eq_false_iff.mpr fun h => ?_
  obtain ⟨ha, hb⟩ := joins_iff.mp h r hr q hq
  rcases m.sound z hz with ⟨i, h0, h1, h2, e⟩ | ⟨i, h1, h2, e⟩
  · rw [e] at hne
    exact hne (ha i h0 h1 h2)
  · rw [e] at hne
    exact hne (hb i (by omega) h2)
/-- what walking from both texts of a pair may cost -/
def cost (z : Text × Text) : Nat := z.1.length + z.2.length + 2
def costs (ps : List (Text × Text)) : Nat := (ps.map cost).sum
theorem costs_le {n : Nat} : ∀ {ps : List (Text × Text)}, (∀ z ∈ ps, cost z ≤ n) → costs ps ≤ ps.length * n
  | [], _ => Nat.zero_le _
  | z :: ps, h => by
    have h1 := h z (List.mem_cons_self)
    have h2 := costs_le (ps := ps) fun y hy => h y (List.mem_cons_of_mem _ hy)
    unfold costs at h2 ⊢
    rw [List.map_cons, List.sum_cons, List.length_cons, Nat.succ_mul]
    omega
theorem costs_append (a b : List (Text × Text)) : costs (a ++ b) = costs a + costs b := by
  unfold costs
  rw [List.map_append, List.sum_append_nat]
theorem costs_take_succ {ps : List (Text × Text)} {i : Nat} {z : Text × Text} (h : ps[i]? = some z) : costs (ps.take (i + 1)) = costs (ps.take i) + cost z := by
  rw [List.take_add_one, h, costs_append]
  simp [costs]
theorem costs_take_le (ps : List (Text × Text)) (i : Nat) : costs (ps.take i) ≤ costs ps := by
  have h := costs_append (ps.take i) (ps.drop i)
  rw [List.take_append_drop] at h
  omega
theorem lap_cost {r q : Rule} {i : Nat} (hr : r.right.length < r.left.length) (hq : q.right.length < q.left.length) (h1 : r.left.length ≤ 32) (h2 : q.left.length ≤ 32) (h0 : 0 < i) (hi : i < r.left.length) (hp : (r.left.drop i).isPrefixOf q.left = true) : cost (lapA r q i, lapB r q i) ≤ 126 := by
  have hl := (isPrefixOf_iff.mp hp).1
  rw [List.length_drop] at hl
  unfold cost lapA lapB
  simp only [List.length_append, List.length_drop, List.length_take]
  omega
theorem in_cost {r q : Rule} {i : Nat} (hr : r.right.length < r.left.length) (hq : q.right.length < q.left.length) (h1 : r.left.length ≤ 32) (h2 : q.left.length ≤ 32) (hi : i + q.left.length ≤ r.left.length) : cost (r.right, inB r q i) ≤ 64 := by
  unfold cost inB
  simp only [List.length_append, List.length_drop, List.length_take]
  omega
theorem meet_costs {r q : Rule} {a b : List (Text × Text)} (hr : r.right.length < r.left.length) (hq : q.right.length < q.left.length) (h1 : r.left.length ≤ 32) (h2 : q.left.length ≤ 32)
    (ha : ∀ z ∈ a, ∃ i, 0 < i ∧ i < r.left.length ∧ (r.left.drop i).isPrefixOf q.left = true ∧ z = (lapA r q i, lapB r q i)) (hb : ∀ z ∈ b, ∃ i, i + q.left.length ≤ r.left.length ∧ q.left.isPrefixOf (r.left.drop i) = true ∧ z = (r.right, inB r q i))
    (la : a.length ≤ min (r.left.length - 1) q.left.length) (lb : b.length ≤ r.left.length + 1 - q.left.length) : costs (a ++ b) ≤ 4034 := by
  rw [costs_append]
  have c1 : costs a ≤ a.length * 126 := costs_le fun z hz => by
    obtain ⟨i, h0, hi, hp, rfl⟩ := ha z hz
    exact lap_cost hr hq h1 h2 h0 hi hp
  have c2 : costs b ≤ b.length * 64 := costs_le fun z hz => by
    obtain ⟨i, hi, hp, rfl⟩ := hb z hz
    exact in_cost hr hq h1 h2 hi
  have c3 : a.length * 126 + b.length * 64 ≤ 4034 := by omega
  omega
end RT

/-! ### the clock: tokens only grow -/
namespace PySem
theorem runs_toks {M : Model} {Γ : Ctx} {p : Pos} {t : Sem Fin} {fs : List Frame} {s : Shared} {e : End} {s' : Shared} (h : Runs M Γ p t fs s e s') : s.toks ≤ s'.toks := by
  induction h <;> (try simp only [Shared.setGen] at *) <;> first | exact Nat.le_refl _ | assumption | omega
theorem wakes_toks {M : Model} {Γ : Ctx} {p : Pos} {g : Nat} {r : Resume} {s : Shared} {res : GenResult} {s' : Shared} (h : Wakes M Γ p g r s res s') : s.toks ≤ s'.toks := by
  unfold Wakes at h
  split at h
  · exact h.elim
  · split at h
    · obtain ⟨e, s1, hr, _, _, rfl⟩ := h
      exact (runs_toks hr : (s.setGen g .running).toks ≤ s1.toks)
    · rw [h.2]; exact Nat.le_refl _
    · rw [h.2]; exact Nat.le_refl _
  · obtain ⟨e, s1, hr, _, _, rfl⟩ := h
    exact (runs_toks hr : (s.setGen g .running).toks ≤ s1.toks)
  · rw [h.2]; exact Nat.le_refl _
  · rw [h.2]; exact Nat.le_refl _
theorem wp_grows {α : Type} {M : Model} {Γ : Ctx} (t : Sem α) : ∀ {Q : α → Pos → Shared → Prop} {E : Value → Pos → Shared → Prop} (p : Pos) (s : Shared) (n : Nat), n ≤ s.toks → Sem.wp M Γ t Q E p s →
    Sem.wp M Γ t (fun a p' s' => Q a p' s' ∧ n ≤ s'.toks) (fun e p' s' => E e p' s' ∧ n ≤ s'.toks) p s := by
  induction t with
  | pure x => exact fun p s n hn h => ⟨h, hn⟩
  | raise v => exact fun p s n hn h => ⟨h, hn⟩
  | unsupported | finish | yield | fork | await | register => exact fun _ _ _ _ h => h
  | rule _ k ih | «at» _ k ih | alloc _ k ih | loadIfAlive _ k ih | point _ k ih | ask k ih | os _ _ k ih | handled _ k ih | newGen _ k ih | stack k ih | thread k ih => exact fun p s n hn h => ih _ _ _ _ hn h
  | fresh k ih => exact fun p s n hn h => ih _ _ _ _ (Nat.le_succ_of_le hn) h
  | load a _ k ih | genState a k ih => exact fun p s n hn ⟨o, ho, h⟩ => ⟨o, ho, ih _ _ _ _ hn h⟩
  | update a _ f k ih | choose _ _ k ih => exact fun p s n hn ⟨ha, h⟩ => ⟨ha, ih _ _ _ _ hn h⟩
  | call c h g l k ih => exact fun p s n hn ⟨r, s', hr, hR⟩ => ⟨r, s', hr, ih _ _ _ _ (Nat.le_trans hn (runs_toks hr)) hR⟩
  | resume g r l k ih => exact fun p s n hn ⟨res, s', hw, h⟩ => ⟨res, s', hw, ih _ _ _ _ (Nat.le_trans hn (wakes_toks hw)) h⟩
theorem wpAny_grows {α : Type} {M : Model} {A : Around} {t : Sem α} {Q : α → Shared → Prop} {E : Value → Shared → Prop} {s : Shared} (h : wpAny M A t Q E s) :
    wpAny M A t (fun a s' => Q a s' ∧ s.toks ≤ s'.toks) (fun e s' => E e s' ∧ s.toks ≤ s'.toks) s := fun Γ p hΓ => wp_grows t p s _ (Nat.le_refl _) (h Γ p hΓ)
open Builtin Builtin.Str in
theorem gives_replace1 (x y z : Str) (t u v w : Tok) (i : Nat) (ho : occurrences x y 0 x.length 1 = [i]) (hy : (y.length == 0) = false) (hu : u ≠ 0) (hv : v ≠ 0) (huv : u ≠ v) (hyz : (y == z) = false) (hl : tooLong (x.length + 1 * z.length) = false) :
    Gives («str.replace» ⟨[.str x t, .str y u, .str z v, .int 1 w], []⟩) (.str (glued z (partsBetween x [i] y.length))) := by
  show Gives (if ((occurrences x y 0 x.length 1).isEmpty || (y.length == 0 && z.length == 0)) = true then (do rule "str.replace.nothing"; ret (.str x t)) else
          (do let same ← isSame (.str y u) (.str z v)
              if same = true then (do rule "str.replace.old-is-new"; ret (.str x t)) else
              if tooLong (x.length + (occurrences x y 0 x.length 1).length * z.length) = true then unsupported "str.replace:memory" else
              retStr (glued z (partsBetween x (occurrences x y 0 x.length 1) y.length)))) _
  rw [ho, hy]
  rw [isSame_str_other y z u v (by simp [hu, hv]) (by simp [huv]) hyz]
  have hl' : tooLong (x.length + [i].length * z.length) = false := hl
  show Gives (if tooLong (x.length + [i].length * z.length) = true then unsupported "str.replace:memory" else retStr (glued z (partsBetween x [i] y.length))) _
  rw [hl']
  exact .of_eq rfl
end PySem

namespace L2
open PySem PySem.Spec PyProof.Rows
/-! ### readings with the clock -/
abbrev VKk := V → Hp → Nat → Prop
abbrev TEk := St → Hp → Nat → VKk → Prop
def EPk (X : Cx) (pins : List (Addr × Obj)) (σ : St) (Q : VKk) (u : Value) (s' : Shared) : Prop := ∃ v H', Inv X pins σ H' s' ∧ RelV v u ∧ Q v H' s'.toks
def PEk (X : Cx) (e : Expr) (t : TEk) : Prop :=
  ∀ (pins : List (Addr × Obj)) (s : Shared) (σ : St) (H : Hp) (Q : VKk), Inv X pins σ H s → t σ H s.toks Q → wpAny (model X.prog X.w) X.A (eval e X.env) (EPk X pins σ Q) X.xe s
theorem thng {α : Type} {t : Sem α} {Q Q' : α → Shared → Prop} {M : Model} {A : Around} {E : Value → Shared → Prop} {s : Shared} (h : wpAny M A t Q E s) (hQ : ∀ a s', Q a s' → s.toks ≤ s'.toks → Q' a s') : wpAny M A t Q' E s :=
  wpAny_mono (wpAny_grows h) (fun a s' z => hQ a s' z.1 z.2) fun e s' z => z.1
theorem thnFg {α : Type} {t : Sem α} {Q Q' : α → Shared → Prop} {M : Model} {A : Around} {E : Value → Shared → Prop} {s : Shared} (h : wpAny M A t Q (fun _ _ => False) s) (hQ : ∀ a s', Q a s' → s.toks ≤ s'.toks → Q' a s') : wpAny M A t Q' E s :=
  wpAny_mono (wpAny_grows h) (fun a s' z => hQ a s' z.1 z.2) fun e s' z => z.1.elim
/-- a text without its token -/
def V.fg : V → V
  | .tok x _ => .str x
  | v => v
theorem RelV.fg {v : V} {u : Value} (r : RelV v u) : RelV v.fg u := by
  cases v with
  | tok x t => exact ⟨t, r⟩
  | _ => exact r
section
variable {X : Cx} {e a b : Expr} {ta tb : TE} {pos : Pos}
def tFg (t : TE) : TE := fun σ H Q => t σ H fun v H' => Q v.fg H'
theorem pe_fg (h : PE X e ta) : PE X e (tFg ta) := fun pins s σ H Q I hw => thn (h pins s σ H _ I hw) fun u s1 ⟨v, H1, I1, r, q⟩ => ⟨v.fg, H1, I1, RelV.fg r, q⟩
theorem pek_of (h : PE X e ta) : PEk X e (fun σ H c Q => ta σ H fun v H' => ∀ c', c ≤ c' → Q v H' c') := fun pins s σ H Q I hw =>
  thng (h pins s σ H _ I hw) fun u s1 ⟨v, H1, I1, r, q⟩ g => ⟨v, H1, I1, r, q _ g⟩
/-- a + b, two texts that are not empty: the token is a new one -/
def tAddK (ta tb : TE) : TEk := fun σ H c Q => ta σ H fun x H1 => tb σ H1 fun y H2 => ∃ i j, x = .str i ∧ y = .str j ∧ (i.length == 0) = false ∧ (j.length == 0) = false ∧ (i ++ j).length ≤ sizeLine ∧ ∀ t, c ≤ t → Q (.tok (i ++ j) t) H2 (t + 1)
theorem pek_add (ha : PE X a ta) (hb : PE X b tb) : PEk X (.BinOp a .Add b pos) (tAddK ta tb) := by
  intro pins s σ H Q I h
  refine wpAny_BinOp (thng (ha pins s σ H _ I h) fun v s1 ⟨x, H1, I1, r1, q1⟩ g1 => thng (hb pins s1 σ H1 _ I1 q1) fun u s2 ⟨y, H2, I2, r2, q2⟩ g2 => ?_)
  obtain ⟨i, j, rfl, rfl, hi, hj, hz, q⟩ := q2
  obtain ⟨t, rfl⟩ := r1
  obtain ⟨t', rfl⟩ := r2
  refine PySem.P.add_str ?_
  rw [hi, hj]
  exact ⟨hz, .tok (i ++ j) s2.toks, H2, I2.tok _, rfl, q _ (Nat.le_trans g1 g2)⟩
end
section
variable {X : Cx}
/-- [elt for target in iter], with the clock -/
def tLck (wi : TI) (g : TG) (te : TEk) (vs : List Nat) : TEk := fun σ H c Q => wi σ H fun J H1 => ∀ D, H1 D = none → ∀ c1, c ≤ c1 → ∃ W : Nat → Nat → Hp → Nat → Prop, (∃ m, W 0 m (upd H1 D (.lst [])) c1) ∧ ∀ i m H c2, W i m H c2 →
  (J.stop i H ∧ ∀ c3, c2 ≤ c3 → Q (.ref D) H c3) ∨ (J.go i H ∧ ∃ Nx : Hp → Nat → Prop, (∀ H' c3, Nx H' c3 → ∃ m', m' < m ∧ W (i + 1) m' H' c3) ∧ ∀ x H', J.yld i H x H' → g x (wipe σ vs) H' fun σ2 H2 => wipe σ2 vs = wipe σ vs ∧
    ∀ c3, c2 ≤ c3 → te σ2 H2 c3 fun y H4 c4 => ∃ acc, H4 D = some (.lst acc) ∧ acc.length < sizeLine ∧ ∀ c5, c4 ≤ c5 → Nx (upd H4 D (.lst (acc ++ [y]))) c5)
theorem pek_lc {elt tg iter : Expr} {scope : Scope} {own : List (Str × Nat)} {pos : Pos} {wi : TI} {g : TG} {te : TEk} (hc : X.calm = true) (hN : X.N.Nodup) (hi : PI X tg iter wi) (ok : BlkOk X.N X.env.scope scope own)
    (hg : ∀ (s : Shared) (H : Hp) (C : Addr) (cl : List (Str × Addr)) (fp : List Addr), PG (X.blk s H scope (compEnvC scope cl C X.env) fp) tg g)
    (he : ∀ (s : Shared) (H : Hp) (C : Addr) (cl : List (Str × Addr)) (fp : List Addr), PEk (X.blk s H scope (compEnvC scope cl C X.env) fp) elt te) (hs : ∀ x, foldedSetIterable iter X.env x = pure x := by intro _; rfl) :
    PEk X (.ListComp elt [⟨tg, iter, [], 0⟩] scope pos) (tLck wi g te (own.map (·.2))) := by
  intro pins s σ H Q I h
  rw [eval_ListComp]
  have hfree : ∀ y ∈ scope.names, y.2 = .free → ∃ c, X.env.cells.lookup y.1 = some c := fun y hy e => by
    rcases ok.free y hy e with k | k
    · exact I.ok.has _ (.inl k)
    · exact I.ok.has _ (.inr k)
  refine wpAny_comprehension_free (use := none) rfl hs (closure_ok hfree) ok.kind (fun y hy e => by rw [ok.uniq y hy, e])
    (thng (hi pins s σ H _ I h) fun xv s1 hx g1 => thng hx fun itv s2 h2 g2 => ?_)
  obtain ⟨it, fp, tn, J, H2, e, I2, T, st2, f2, q⟩ := h2
  subst e
  refine wpAny_newObj_type (newEnv_comp ?_) (by show 0 ≤ sizeLine; decide)
  generalize hD : s2.heap.objs.size = D
  have hDn : H2 D = none := I2.hok.fresh (Nat.le_of_eq hD)
  obtain ⟨W, ⟨m0, w0⟩, turn⟩ := q D hDn s2.toks (Nat.le_trans g1 g2)
  generalize hs3 : ({ s2 with heap := s2.heap.push { cls := .type "list", data := .seq ([] : List Value).toArray } } : Shared) = s3
  have t3 : s3.toks = s2.toks := by rw [← hs3]
  rw [← t3] at w0
  have I3 : Inv X pins σ (upd H2 D (.lst [])) s3 := by
    rw [← hs3]
    refine I2.laid (t' := s2.toks) (fun b o e => Heap.get?_push_of_some _ e) (Nat.le_of_eq hD) ⟨Nat.zero_le _, [], 0, .nil, ?_⟩
    rw [← hD]
    exact Heap.get?_push_size _ rfl
  have h3 : s3.heap = s2.heap.push { cls := .type "list", data := .seq ([] : List Value).toArray } := by rw [← hs3]
  have sz : ∀ b ∈ fp, b < s2.heap.objs.size := fun b hb => by
    obtain ⟨o, e, _⟩ := T.obj _ _ st2 b hb
    exact Heap.lt_size e
  have f3 : ∀ b ∈ fp, FpOk X pins (upd H2 D (.lst [])) b ∧ b < s3.heap.objs.size := fun b hb => by
    have hlt := sz b hb
    refine ⟨⟨?_, (f2 b hb).2⟩, by rw [h3, Heap.size_push]; exact Nat.lt_succ_of_lt hlt⟩
    rw [upd_ne (by rw [← hD]; exact Nat.ne_of_lt hlt)]
    exact (f2 b hb).1
  have st3 : tn 0 s3.heap := T.keep _ _ _ st2 fun b _ o e => by rw [h3]; exact Heap.get?_push_of_some _ e
  have I4 := block_start I3 ok hN f3
  have pg := hg s3 (upd H2 D (.lst [])) s3.heap.objs.size (cellsFrom (s3.heap.objs.size + 1) scope.names (cloFrom X.env.cells scope.names [])) fp
  have pe := he s3 (upd H2 D (.lst [])) s3.heap.objs.size (cellsFrom (s3.heap.objs.size + 1) scope.names (cloFrom X.env.cells scope.names [])) fp
  show codeAny _ _ (.compStart (.ListComp elt [⟨tg, iter, [], 0⟩] scope pos) 0 (.ref it) (.ref D) (compEnvC scope (cellsFrom (s3.heap.objs.size + 1) scope.names (cloFrom X.env.cells scope.names [])) s3.heap.objs.size X.env)) (compPost (model X.prog X.w) X.A X.xe none (EPk X pins σ Q) (.ref D) s3.heap.objs.size) { s3 with heap := pushCells (s3.heap.push { cls := .type "dict", data := .dict #[] }) scope.names }
  have nfp : ∀ b ∈ fp, (upd H2 D (.lst [])) b = none := fun b hb => (f3 b hb).1.1
  generalize hce : compEnvC scope (cellsFrom (s3.heap.objs.size + 1) scope.names (cloFrom X.env.cells scope.names [])) s3.heap.objs.size X.env = ce at I4 pg pe ⊢
  have cL : ce.locals = s3.heap.objs.size := by subst hce; rfl
  generalize hH3 : upd H2 D (.lst []) = H3 at I3 I4 pg pe w0 nfp f3
  generalize hs4 : ({ s3 with heap := pushCells (s3.heap.push { cls := .type "dict", data := .dict #[] }) scope.names } : Shared) = s4 at I4 ⊢
  have t4 : s4.toks = s3.toks := by rw [← hs4]
  rw [← t4] at w0
  have st4 : tn 0 s4.heap := T.keep _ _ _ st3 fun b _ o e => by rw [← hs4]; exact pushCells_keeps _ _ _ _ (Heap.get?_push_of_some _ e)
  have stat : ∀ {σ' : St} {H' : Hp} {s' : Shared}, Inv (X.blk s3 H3 scope ce fp) [] σ' H' s' → (∀ b ∈ fp, H' b = none) → ∀ b ∈ fp, FpOk (X.blk s3 H3 scope ce fp) [] H' b := fun {σ' H' s'} I' hn b hb =>
    ⟨hn b hb, (I'.ok.exf b hb).1, I'.ok.exfs b hb, .inl hb, fun x c e => (I'.ok.exf b hb).2 x c e, fun p hp => absurd (show p ∈ ([] : List (Addr × Obj)) ++ [] from hp) (by simp)⟩
  have loop : codeAny (model X.prog X.w) X.A (.compLoop (.ListComp elt [⟨tg, iter, [], 0⟩] scope pos) 0 (.ref it) (.ref D) ce) (compPost (model X.prog X.w) X.A X.xe none (EPk X pins σ Q) (.ref D) s3.heap.objs.size) s4 := by
    refine compLoop_any (fun n s' => ∃ i H', Inv (X.blk s3 H3 scope ce fp) [] (wipe σ (own.map (·.2))) H' s' ∧ tn i s'.heap ∧ (∀ b ∈ fp, H' b = none) ∧ W i n H' s'.toks) ?_ m0 ⟨0, H3, I4, st4, nfp, w0⟩
    rintro n s5 ⟨i, H5, I5, st5, n5, w5⟩
    rcases turn i n H5 _ w5 with ⟨stop, qq⟩ | ⟨go, Nx, hNx, step⟩
    · have td := T.done (X.blk s3 H3 scope ce fp) rfl rfl rfl hc i [] s5 _ H5 (fun _ _ => False) I5 (stat I5 n5) st5 stop
      refine thnFg td fun r s6 ⟨hr, I6⟩ g6 => ?_
      subst hr
      have I7 : Inv X pins σ H5 s6 := I3.call' (ch := fp) I6.os I6.base I6.hok I6.bare fun b hb => ⟨(f3 b hb).1.2.2.2.1, (f3 b hb).1.2.1, (f3 b hb).1.2.2.2.2.1, (f3 b hb).1.2.2.2.2.2⟩
      have nC : H5 s3.heap.objs.size = none := by
        have z : H5 ce.locals = none := I6.free
        rw [cL] at z
        exact z
      obtain ⟨m, hn, _⟩ := I6.loc
      have hn : s6.heap.Ns ce.locals m := hn
      rw [cL] at hn
      obtain ⟨f0, f1, f2, f3', f4, f5⟩ := I3.fpOk (Nat.le_refl _) nC
      exact ⟨m, hn, fun h'' sb => ⟨.ref D, H5, I7.turned (t' := s6.toks) (fun b o hb e => (sb.2 b hb).trans e) f0 f1 f3' f4 f5, rfl, qq _ g6⟩⟩
    · have ti := T.item (X.blk s3 H3 scope ce fp) rfl rfl rfl hc i [] s5 _ H5 (fun _ _ => False) I5 (stat I5 n5) st5 go
      refine thnFg ti fun r s6 ⟨u, hr, h6⟩ g6 => ?_
      subst hr
      refine thnFg h6 fun _ s7 ⟨x, H7, I7, r7, y7, st7, n7⟩ g7 => ?_
      have I7' := I7.pinned (stat I7 n7) (T.obj _ _ st7)
      refine thnFg (pg _ s7 _ H7 x u _ I7' r7 (step x H7 y7)) fun _ s8 ⟨σ8, H8, I8, hw8, q8⟩ g8 => ?_
      refine wpAny_tests_nil ?_
      have fin : ∀ {s' : Shared} {H' : Hp}, Inv (X.blk s3 H3 scope ce fp) ([] ++ pinsAt fp s7.heap) σ8 H' s' → Nx H' s'.toks → ∃ m, m < n ∧ ∃ i H', Inv (X.blk s3 H3 scope ce fp) [] (wipe σ (own.map (·.2))) H' s' ∧ tn i s'.heap ∧ (∀ b ∈ fp, H' b = none) ∧ W i m H' s'.toks := fun {s' H'} I' nx => by
        obtain ⟨m', hm, w'⟩ := hNx H' _ nx
        have pin' : ∀ b ∈ fp, ∀ o, s7.heap.get? b = some o → s'.heap.get? b = some o ∧ H' b = none := fun b hb o e =>
          let z := I'.pin (b, o) (List.mem_append_right _ (List.mem_append_right _ (mem_pinsAt hb e)))
          ⟨z.1, z.2.1⟩
        have hl : (wipe σ (own.map (·.2))).length = σ8.length := by rw [← hw8, wipe_length]
        refine ⟨m', hm, i + 1, H', (I'.unpinned (pins := [])).weak hl (fun j v e => ?_), T.keep _ _ _ st7 fun b hb o e => (pin' b hb o e).1, fun b hb => ?_, w'⟩
        · rw [← hw8] at e
          exact (wipe_some e).1
        · obtain ⟨o, e, _⟩ := T.obj _ _ st7 b hb
          exact (pin' b hb o e).2
      show if true = true then _ else _
      rw [if_pos rfl]
      refine thnFg (pe _ s8 σ8 H8 _ I8 (q8 _ (Nat.le_trans g6 (Nat.le_trans g7 g8)))) fun z s10 ⟨yv, H10, I10, r10, acc, hD10, hz10, nx⟩ g10 => ?_
      refine thnFg (app_ok (X := X.blk s3 H3 scope ce fp) (Q := fun _ s' => Inv (X.blk s3 H3 scope ce fp) ([] ++ pinsAt fp s7.heap) σ8 (upd H10 D (.lst (acc ++ [yv]))) s') I10 hD10 hz10 r10 fun s11 I11 => I11) fun _ s11 I11 g11 => fin I11 (nx _ g11)
  exact codeAny_compStart_list loop (T.self X.A 0 _ _ _ st4 loop)
end

/-! ### join, with the clock -/
theorem vals_tok : ∀ {ts : List (Str × Nat)} {us : List Value}, Vals (ts.map fun z => V.tok z.1 z.2) us → us = strValues ts
  | [], _, .nil => rfl
  | z :: ts, _, .cons r t => by
    rw [show (_ : Value) = Value.str z.1 z.2 from r, vals_tok t]
    rfl
section
variable {X : Cx} {e : Expr}
/-- 'a'.join(a list of texts whose tokens are known) -/
def tJoinK (a : Str) (te : TEk) : TEk := fun σ H c Q => te σ H (c + 1) fun y H2 c2 => ∃ (p : Addr) (ts : List (Str × Nat)), y = .ref p ∧ H2 p = some (.lst (ts.map fun z => V.tok z.1 z.2)) ∧ ((ts.map (·.1)).map (·.length)).sum + ts.length * a.length ≤ 16777216 ∧
  (∀ z, ts = [z] → Q (.tok z.1 z.2) H2 c2) ∧ (ts.length ≠ 1 → Q (.tok (Txt.join a (ts.map (·.1))) c2) H2 (c2 + 1))
theorem pek_join {a : Str} {j : Nat} {p0 apos pos : Pos} {te : TEk} (he : PEk X e te) (hs : starEach [e] X.env = [(false, eval e X.env)] := by rfl) (hbase : attributeBase (.Constant (.str a) j p0) "join" X.env (eval (.Constant (.str a) j p0) X.env) = eval (.Constant (.str a) j p0) X.env := by rfl) (hline : (apos.endLine == pos.line) = true := by rfl) :
    PEk X (.Call (.Attribute (.Constant (.str a) j p0) "join" apos) [e] [] pos) (tJoinK a te) := by
  intro pins s σ H Q I h
  refine PySem.Call_method1 hbase hs hline (Calls.Constant_str ?_)
  refine ⟨"str", _, F.plainAttrs_str, F.slot_str_join, F.type_str_join, typeIs_str _ _ _, (fun _ e => nomatch e), Calls.callWith_builtin rfl (Calls.evalArgs_plain (Calls.spliced_cons ?_))⟩
  refine thn (he pins _ σ H _ (I.tok _) h) fun u s2 ⟨y, H2, I2, r2, p, ts, ey, hp, hz, q1, q2⟩ => Calls.spliced_nil ?_
  subst ey
  obtain rfl : u = Value.ref p := r2
  obtain ⟨_, its, n, ri, ei⟩ := I2.hok p _ hp
  have eits := vals_tok ri
  subst eits
  have hok : JoinOk a (ts.map (·.1)) = true := joinOk_of (by rw [List.length_map]; exact hz)
  unfold JoinOk at hok
  rw [Bool.not_eq_true'] at hok
  refine call_meets F.slot_str_join (typeIs_str _ _ _) F.entry_str_join (F.args_str_join_2 _ _) (meets_str_join_list a _ p ts hok) ⟨⟨_, ei, rfl, n, rfl⟩, ?_⟩
  have hmany : ts.length ≠ 1 → (Made.str (Builtin.Str.glued a (ts.map (·.1)))).post (EPk X pins σ Q) s2 := fun hn => ⟨joinFit_length hok, .tok (Txt.join a (ts.map fun z => z.1)) s2.toks, H2, I2.tok _, (show RelV (V.tok (Txt.join a (ts.map fun z => z.1)) s2.toks) (Value.str (Builtin.Str.glued a (ts.map fun z => z.1)) s2.toks) from rfl), q2 hn⟩
  match ts, q1, hmany with
  | [], _, hm => exact hm (by decide)
  | [z], q1, _ => exact ⟨.tok z.1 z.2, H2, I2, rfl, q1 z rfl⟩
  | _ :: _ :: _, _, hm => exact hm (by simp)
end

/-! ### a def whose body is one return, with the clock -/
abbrev Spk := List V → Hp → Nat → VKk → Prop
def CEk (outer : List Env) (P : Program) (w : World) (H : Hp) (s : Shared) (Q : VKk) (r : Result) (s' : Shared) : Prop :=
  ∃ u v H', r = .ok (.ret u) ∧ s'.os = s.os ∧ AllBare s'.gens ∧ Un (frs outer) [] H H' s.heap s'.heap ∧ HOk P w H' s'.heap ∧ RelV v u ∧ Q v H' s'.toks
structure FnC (P : Program) (w : World) (K : PySem.W.Frag) (mg : Str → Option Value) (base : Heap) (k : Nat) (f : Addr) (fd : FuncData) (ps : List Str) (sp : Spk) : Prop where
  len : ∀ vs H c Q, sp vs H c Q → vs.length = ps.length
  run : ∀ (A : Around) (outer : List Env) (s : Shared) (H : Hp) (args : Args) (us : List Value) (vs : List V) (Q : VKk), Room k A → Env0 P w K mg base A outer s H → BindsTo s fd args (ps.zip us) → Vals vs us → (∀ c, s.toks ≤ c → sp vs H c Q) →
    codeAny (model P w) A (.call (.ref f) args) (CEk outer P w H s Q) s
theorem fnk_of {P : Program} {w : World} {K : PySem.W.Frag} {mg : Str → Option Value} {base : Heap} {k : Nat} {f : Addr} {name qual : Str} {params : Arguments} {e : Expr} {pos : Pos} {scope : Scope} {dV kV doc pm cdv ct oc : Value} {an od : Option Addr}
    {osl : Array (Option Value)} {N ps : List Str} {sp : Spk} (lk : K.lookup f = some ⟨oc, od, .func (PySem.W.fnOf name qual params [.Return (some e) pos] scope dV kV doc pm an cdv ct), osl⟩) (hcd : PySem.W.codeIn K cdv qual = true) (S : FnScope N ps scope)
    (len : ∀ vs H c Q, sp vs H c Q → vs.length = ps.length)
    (hbody : ∀ (A : Around) (outer : List Env) (s : Shared) (H : Hp) (vs : List V) (Q : VKk) (c : Nat), Room k (A.deeper (envOfC qual scope s.heap.objs.size f cdv)) → sp vs H c Q →
      ∃ t, PEk (cxOf CX0 P w K mg base N qual scope f cdv A outer s H E0).nox e t ∧ t (start N vs) H c Q) :
    FnC P w K mg base (k + 1) f (PySem.W.fnOf name qual params [.Return (some e) pos] scope dV kV doc pm an cdv ct) ps sp := by
  refine ⟨len, fun A outer s H args us vs Q hr e0 hb r hsp => ?_⟩
  have hl := len _ _ _ _ (hsp _ (Nat.le_refl _))
  have KX : K.In s.heap := e0.mod.kin.keeps fun b o e => (e0.bs b o e).1
  have lim : s.heap.NoLimit := e0.mod.nolimit.keeps fun b o e => (e0.bs b o e).1
  have hkind : ∀ y ∈ ps.zip us, scope.names.lookup y.1 = some .local ∨ (scope.names.lookup y.1 = some .cell ∧ ((cellsFrom (s.heap.objs.size + 1) scope.names []).lookup y.1).isSome = true) := fun ⟨n, v⟩ hy => by
    rcases S.par n (List.of_mem_zip hy).1 with q | q
    · exact .inl q
    · exact .inr ⟨q, PySem.W.cellsFrom_some _ _ _ (.inl q)⟩
  refine codeAny_call_function hr.depth (KX _ _ lk) rfl S.co S.gen rfl (PySem.W.codeRec_of KX hcd) (hb _ _ _ _ ?_)
  refine thng (wpAny_newFunctionEnv_cells (Q := fun env s1 => env = envOfC qual scope s.heap.objs.size f cdv ∧ InCallC s s.heap.objs.size (bindL (envOfC qual scope s.heap.objs.size f cdv).kindOf (ps.zip us) fun _ => none) (cellsFrom (s.heap.objs.size + 1) scope.names []) (bindC (envOfC qual scope s.heap.objs.size f cdv).kindOf (ps.zip us) fun _ => none) s1) S.kind hkind fun env he s1 x => ⟨he, by subst he; exact x⟩) fun env s1 ⟨he, x⟩ g1 => ?_
  subst he
  refine ⟨lim.keeps x.toInCall.keep, codeAny_func ?_⟩
  obtain ⟨t, ht, hq⟩ := hbody A outer s H vs Q s1.toks (hr.deeper _) (hsp _ g1)
  have I : Inv (cxOf CX0 P w K mg base N qual scope f cdv A outer s H E0) [] (start N vs) H s1 := inv_start S hr.hd e0 hl r x
  refine wpAny_mono (wpAny_execs_cons (Q := fun fl s' => ∃ u v H', fl = .ret u ∧ Inv (cxOf CX0 P w K mg base N qual scope f cdv A outer s H E0).nox [] (start N vs) H' s' ∧ RelV v u ∧ Q v H' s'.toks) (wpAny_Return_some (thn (ht [] s1 (start N vs) H _ (I.wish _) hq) fun u s' ⟨v, H', J, rv, q⟩ => ?_))) (fun fl s' hs => ?_) fun e s' hs => hs.elim
  · exact ⟨u, v, H', rfl, J, rv, q⟩
  · obtain ⟨u, v, H', rfl, J, rv, q⟩ := hs
    exact ⟨u, v, H', rfl, J.os, J.bare, J.base, J.hok, rv, q⟩
section
variable {P : Program} {w : World} {K : PySem.W.Frag} {mg : Str → Option Value} {base : Heap}
theorem Fun.okk {x qual : Str} {st : Stmt} {f : Addr} {fd : FuncData} {N ps : List Str} {k : Nat} {sp : Spk} {e : Expr} {pos : Pos} (F : Fun K x qual st f fd) (hst : defBody st = [.Return (some e) pos]) (S : FnScope N ps (defScope st)) (len : ∀ vs H c Q, sp vs H c Q → vs.length = ps.length)
    (hbody : ∀ (cdv : Value) (A : Around) (outer : List Env) (s : Shared) (H : Hp) (vs : List V) (Q : VKk) (c : Nat), Room k (A.deeper (envOfC qual (defScope st) s.heap.objs.size f cdv)) → sp vs H c Q →
      ∃ t, PEk (cxOf CX0 P w K mg base N qual (defScope st) f cdv A outer s H E0).nox e t ∧ t (start N vs) H c Q) : FnC P w K mg base (k + 1) f fd ps sp := by
  obtain ⟨oc, od, kV, doc, pm, an, cdv, ct, osl, rfl, lk, hcd⟩ := F.ex
  rw [hst] at lk ⊢
  exact fnk_of lk hcd S len fun A outer s H vs Q c hr hsp => hbody cdv A outer s H vs Q c hr hsp
end
section
variable {X : Cx} {k : Nat} {f : Addr} {fd : FuncData} {ps : List Str} {sp : Spk} {x : Str} {p pos : Pos} {e : Expr} {te : TE}
/-- f(e), f a def with the clock -/
def tCallC (sp : Spk) (te : TE) : TEk := fun σ H c Q => te σ H fun v H1 => ∀ c1, c ≤ c1 → sp [v] H1 c1 Q
theorem pek_call (F : FnC X.prog X.w X.K X.mg X.base k f fd ps sp) (hr : Room k X.A) (hg : Gl X x) (hm : X.mg x = some (.ref f)) (hk : PySem.W.keepIn X.K (.ref f) = true) (hb : Binds X.K fd ps [])
    (ha : PE X e te) (hdb : (x == ("__debug__" : Str)) = false := by decide) (he : starEach [e] X.env = (false, eval e X.env) :: starEach [] X.env := by rfl) (hpl : (backTo pos (starEach [] X.env)).any (·.1) = false := by rfl) :
    PEk X (.Call (.Name x p) [e] [] pos) (tCallC sp te) := by
  intro pins s σ H Q I h
  refine wpAny_Call_Name_kw (ld_glob I hg hm ?_ hdb)
  have h' : tCons te tNil σ H (fun vs H1 => ∀ c1, s.toks ≤ c1 → sp vs H1 c1 Q) := h
  refine PySem.W.callWith_K (h₀ := X.base) I.ok.mod.kin hk (thng (pa_cons ha pa_nil he pos pins s σ H _ I h') fun us s1 ⟨vs, H1, I1, r, q⟩ g1 => ⟨I1.kIn, ?_⟩) he hpl
  have hl : us.length = ps.length := by rw [← r.length]; exact F.len _ _ _ _ (q _ g1)
  refine wpAny_call (codeAny_mono (F.run X.A X.stack s1 H1 ⟨us, []⟩ us vs Q hr I1.env0 (by have := hb s1 us I1.kIn (by rw [List.append_nil]; exact hl); rw [List.append_nil] at this; exact this) r fun c hc => q c (Nat.le_trans g1 hc)) fun r s' hq => ?_)
  obtain ⟨u, v, H', rfl, os, bare, un, hok, rv, q'⟩ := hq
  obtain ⟨v2, H2, I2, rv2, e1, e2⟩ := I1.after (Q := fun v' H'' => v' = v ∧ H'' = H') ⟨v, H', os, bare, un, hok, rv, rfl, rfl⟩
  subst e1 e2
  exact ⟨_, _, I2, rv, q'⟩
/-- three arguments, the first two with the clock -/
def tArgs2K (t1 t2 : TEk) (t3 : TE) : TA := fun σ H Q => ∀ c, t1 σ H c fun x H1 c1 => t2 σ H1 c1 fun y H2 _ => t3 σ H2 fun z H3 => Q [x, y, z] H3
theorem pa_2k {e1 e2 e3 : Expr} {t1 t2 : TEk} {t3 : TE} (h1 : PEk X e1 t1) (h2 : PEk X e2 t2) (h3 : PE X e3 t3) (hs1 : starEach [e1, e2, e3] X.env = (false, eval e1 X.env) :: starEach [e2, e3] X.env := by rfl) (hs2 : starEach [e2, e3] X.env = (false, eval e2 X.env) :: starEach [e3] X.env := by rfl)
    (hs3 : starEach [e3] X.env = (false, eval e3 X.env) :: starEach [] X.env := by rfl) : PA X [e1, e2, e3] (tArgs2K t1 t2 t3) := by
  intro pos pins s σ H Q I h
  rw [hs1]
  show wpAny _ _ (spliced ((false, eval e1 X.env) :: backTo pos (starEach [e2, e3] X.env))) _ _ s
  refine Calls.spliced_cons (thn (h1 pins s σ H _ I (h _)) fun u s1 ⟨x, H1, I1, r1, q1⟩ => ?_)
  rw [hs2]
  show wpAny _ _ (spliced ((false, eval e2 X.env) :: backTo pos (starEach [e3] X.env))) _ _ s1
  refine Calls.spliced_cons (thn (h2 pins s1 σ H1 _ I1 q1) fun u2 s2 ⟨y, H2, I2, r2, q2⟩ => ?_)
  refine thn (pa_cons h3 pa_nil hs3 pos pins s2 σ H2 (fun zs H3 => Q (x :: y :: zs) H3) I2 q2) fun us s3 ⟨zs, H3, I3, r3, q3⟩ => ⟨x :: y :: zs, H3, I3, .cons r1 (.cons r2 r3), q3⟩
/-- a.replace(b, c, 1), where b stands in a, and b and c are two texts -/
theorem mt_replace1 : MtR X "str.replace" (fun x xs H Q => ∃ (a b c : Str) (t u i : Nat), x = .str a ∧ xs = [.tok b t, .tok c u, .int 1] ∧ t ≠ 0 ∧ u ≠ 0 ∧ t ≠ u ∧ (b == c) = false ∧ (b.length == 0) = false ∧ Builtin.Str.occurrences a b 0 a.length 1 = [i] ∧ a.length + c.length ≤ 16777216 ∧
    (Builtin.Str.glued c (Builtin.Str.partsBetween a [i] b.length)).length ≤ sizeLine ∧ Q (.str (Builtin.Str.glued c (Builtin.Str.partsBetween a [i] b.length))) H) := by
  intro pins s σ H x xs v us Q I rx rs h
  obtain ⟨a, b, c, t, u, i, rfl, rfl, ht, hu, htu, hbc, hb, ho, hz, hg, h⟩ := h
  obtain ⟨t0, rfl⟩ := rx
  cases rs with
  | cons r1 rs =>
    cases rs with
    | cons r2 rs =>
      cases rs with
      | cons r3 rs =>
        cases rs
        cases r1
        cases r2
        obtain ⟨t3, rfl⟩ := r3
        refine call_gives F.slot_str_replace (typeIs_str _ _ _) F.entry_str_replace (F.args_str_replace_4 _ _ _ _) (gives_replace1 a b c t0 t u t3 i ho hb ht hu htu hbc ?_) ⟨hg, .str _, H, I.tok _, ⟨_, rfl⟩, h⟩
        unfold Builtin.Str.tooLong
        exact decide_eq_false (by have : sizeLine = 16777216 := sizeLine_eq; omega)
end
end L2

namespace RT
open PySem PySem.Builtin PySem.Builtin.Str L2 TL

/-! ### find, with its bounds -/
def fnd (x y : Str) (lo hi : Nat) : Int := match occurrences x y lo hi 1 with | k :: _ => (k : Int) | [] => -1
theorem gives_find4 (x y : Str) (i j : Int) (t u v z : Tok) : Gives («str.find» ⟨[.str x t, .str y u, .int i v, .int j z], []⟩) (.int (fnd x y (fromIndex x.length i) (min (fromIndex x.length j) x.length))) := by
  show Gives (match occurrences x y (fromIndex x.length i) (min (fromIndex x.length j) x.length) 1 with | k :: _ => retInt k | [] => (do rule "str.find.not-found"; retInt (-1))) _
  unfold fnd
  cases occurrences x y (fromIndex x.length i) (min (fromIndex x.length j) x.length) 1 with
  | nil => exact .rule (.of_eq rfl)
  | cons k _ => exact .of_eq rfl
theorem find4 {prog : Program} {w : World} {A : Around} {E : Value → Shared → Prop} {s : Shared} {x y : Str} {t u v z : Tok} {i j : Int} {Q : Value → Shared → Prop}
    (hq : Q (.int (fnd x y (fromIndex x.length i) (min (fromIndex x.length j) x.length)) s.toks) { s with toks := s.toks + 1 }) : wpAny (model prog w) A (call (.builtin "str.find") [.str x t, .str y u, .int i v, .int j z]) Q E s :=
  call_gives F.slot_str_find (typeIs_str _ _ _) F.entry_str_find (F.args_str_find_4 _ _ _ _) (gives_find4 x y i j t u v z) hq
section
variable {X : Cx}
theorem mt_fnd1 : MtR X "str.find" (fun x xs H Q => ∃ a b, x = .str a ∧ xs = [.str b] ∧ Q (.int (fnd a b 0 a.length)) H) := mt_find
theorem mt_fnd2 : MtR X "str.find" (fun x xs H Q => ∃ a b i, x = .str a ∧ xs = [.str b, .int i] ∧ Q (.int (fnd a b (fromIndex a.length i) a.length)) H) := by
  intro pins s σ H x xs v us Q I rx rs h
  obtain ⟨a, b, i, rfl, rfl, h⟩ := h
  obtain ⟨t, rfl⟩ := rx
  cases rs with
  | cons r1 rs =>
    obtain ⟨u, rfl⟩ := r1
    cases rs with
    | cons r2 rs =>
      obtain ⟨u2, rfl⟩ := r2
      cases rs
      exact SC.find3 ⟨.int (fnd a b (fromIndex a.length i) a.length), H, I.tok _, ⟨_, rfl⟩, h⟩
theorem mt_fnd3 : MtR X "str.find" (fun x xs H Q => ∃ a b i j, x = .str a ∧ xs = [.str b, .int i, .int j] ∧ Q (.int (fnd a b (fromIndex a.length i) (min (fromIndex a.length j) a.length))) H) := by
  intro pins s σ H x xs v us Q I rx rs h
  obtain ⟨a, b, i, j, rfl, rfl, h⟩ := h
  obtain ⟨t, rfl⟩ := rx
  cases rs with
  | cons r1 rs =>
    obtain ⟨u, rfl⟩ := r1
    cases rs with
    | cons r2 rs =>
      obtain ⟨u2, rfl⟩ := r2
      cases rs with
      | cons r3 rs =>
        obtain ⟨u3, rfl⟩ := r3
        cases rs
        exact find4 ⟨.int (fnd a b (fromIndex a.length i) (min (fromIndex a.length j) a.length)), H, I.tok _, ⟨_, rfl⟩, h⟩
end
theorem at_str {x y : Str} {hi i : Nat} (hh : hi ≤ x.length) : StrLaws.At x y hi i ↔ (i + (tl y).length ≤ hi ∧ RT.At (tl y) (tl x) i) := by
  have e : (subAt x y i = true) ↔ ((tl x).drop i).take (tl y).length = tl y := by
    unfold subAt
    rw [beq_iff_eq, ← Array.toList_inj, Array.toList_extract, ← len_tl]
    simp only [List.extract_eq_drop_take, Nat.add_sub_cancel_left]
  unfold StrLaws.At RT.At
  rw [e, ← len_tl, ← len_tl]
  constructor
  · rintro ⟨h1, h2⟩
    exact ⟨h1, by omega, h2⟩
  · rintro ⟨h1, _, h2⟩
    exact ⟨h1, h2⟩
def ofN : Option Nat → Int
  | some i => (i : Int)
  | none => -1
/-- what find answers over the signs -/
def ofO : Option Nat → Int
  | some i => ((2 * i : Nat) : Int)
  | none => -1
theorem fnd_spec (x y : Str) (lo hi : Nat) (hh : hi ≤ x.length) : ∃ o, First (tl y) (tl x) lo hi o ∧ fnd x y lo hi = ofN o := by
  unfold fnd
  rw [StrLaws.occ_eq]
  rcases StrLaws.occ_first x y hi 1 (Nat.le_refl 1) (List.range' lo (hi + 1 - lo)) lo (fun i hi => by have := List.mem_range'_1.mp hi; omega) with ⟨h0, hn⟩ | ⟨pre, a, post, e, h0, ha, hn⟩
  · refine ⟨none, fun j h1 h2 h3 => ?_, by rw [h0]; rfl⟩
    exact hn j (by rw [List.mem_range'_1]; omega) ((at_str hh).mpr ⟨h2, h3⟩)
  · have hs := StrLaws.range'_split_from e
    obtain ⟨h1, h2⟩ := (at_str hh).mp ha
    refine ⟨some a, ⟨hs.1, h1, h2, fun k hk0 hk hat => hn k (hs.2 k hk0 hk) ((at_str hh).mpr ⟨by omega, hat⟩)⟩, ?_⟩
    generalize (forIn (List.range' lo (hi + 1 - lo)) ((#[] : Array Nat), lo) (StrLaws.occBody x y hi 1)).run.fst = arr at h0
    have h1 : arr.toList[0]? = some a := by simpa using h0
    cases hL : arr.toList with
    | nil => rw [hL] at h1; cases h1
    | cons b t => rw [hL] at h1; simp at h1; rw [h1]; rfl
theorem fnd_of {x y : Str} {lo hi : Nat} {o : Option Nat} (hh : hi ≤ x.length) (h : First (tl y) (tl x) lo hi o) : fnd x y lo hi = ofN o := by
  obtain ⟨o', h', e⟩ := fnd_spec x y lo hi hh
  rw [First.inj h h']
  exact e
theorem from_nat (n k : Nat) : fromIndex n (k : Int) = k := by
  unfold fromIndex
  rw [if_neg (by omega)]
  omega

/-! ### texts of signs -/
def S (t : List Nat) : Str := ⟨(en t).toArray⟩
theorem tl_S (t : List Nat) : tl (S t) = en t := rfl
theorem S_len (t : List Nat) : (S t).length = 2 * t.length := by
  rw [len_tl, tl_S, en_len]
theorem S_append (a b : List Nat) : S a ++ S b = S (a ++ b) := by
  apply ext_tl
  rw [tl_append, tl_S, tl_S, tl_S, en_append]
theorem S_inj {a b : List Nat} (ha : Bytes a) (hb : Bytes b) (h : S a = S b) : a = b := en_inj ha hb (congrArg tl h)
theorem S_cut (t : List Nat) (p : Nat) : cutS (S t) none (some ((2 * p : Nat) : Int)) = S (t.take p) := by
  apply ext_tl
  show ((en t).drop (HT.sIx (S t).length 0 none)).take (HT.sIx (S t).length (S t).length (some ((2 * p : Nat) : Int)) - HT.sIx (S t).length 0 none) = en (t.take p)
  rw [HT.sIx_none, HT.sIx_nat, List.drop_zero, Nat.sub_zero, ← en_take, S_len, ← en_len]
  rcases Nat.le_total (2 * p) (en t).length with h | h
  · rw [Nat.min_eq_left h]
  · rw [Nat.min_eq_right h, List.take_of_length_le (Nat.le_refl _), List.take_of_length_le h]
theorem S_rest (t : List Nat) (p : Nat) : cutS (S t) (some ((2 * p : Nat) : Int)) none = S (t.drop p) := by
  apply ext_tl
  show ((en t).drop (HT.sIx (S t).length 0 (some ((2 * p : Nat) : Int)))).take (HT.sIx (S t).length (S t).length none - HT.sIx (S t).length 0 (some ((2 * p : Nat) : Int))) = en (t.drop p)
  rw [HT.sIx_none, HT.sIx_nat, ← en_drop, S_len, ← en_len]
  rcases Nat.le_total (2 * p) (en t).length with h | h
  · rw [Nat.min_eq_left h, List.take_of_length_le (by rw [List.length_drop]; exact Nat.le_refl _)]
  · rw [Nat.min_eq_right h, List.drop_eq_nil_of_le (Nat.le_refl _), List.drop_eq_nil_of_le h, List.take_nil]
/-- what find answers over signs, from what stands among the bytes -/
theorem fnd_S {l t : List Nat} {lo hi : Nat} {o : Option Nat} (hl : Bytes l) (ht : Bytes t) (hh : hi ≤ t.length) (h : First l t lo hi o) : fnd (S t) (S l) (2 * lo) (2 * hi) = ofO o := by
  rw [fnd_of (by rw [S_len]; omega) (first_en hl ht h)]
  cases o <;> rfl
end RT

namespace L2
open PySem PySem.Spec PyProof.Rows

/-- the head of a spec row: the promise of the def, at the heap behind the top; the answer is a list of whole numbers -/
theorem spec_call {P : Program} {w : World} {K : PySem.W.Frag} {mg mb : Str → Option Value} {k : Nat} {fa a : Addr} {fd : FuncData} {x : Str} {sp : Sp} {s₁ : Shared} {vs : List Value} {ns out : List Int}
    (KX : K.In s₁.heap) (hns : s₁.heap.Ns mainGlobals mg) (hb : s₁.heap.Ns builtinsNs mb) (hbb : ∀ x : Str, x ≠ "__name__" → mb x = bootBuiltins x) (hlim : s₁.heap.NoLimit) (hg : s₁.gens = #[])
    (ha : s₁.heap.get? a = some { cls := .type "list", data := .seq vs.toArray }) (hi : IntsAre vs ns) (hl : ns.length ≤ sizeLine) (hr : Room k callerA)
    (F : ∀ base : Heap, K.In base → base.Ns mainGlobals mg → FnOk P w K mg base CX0 k fa fd [x] sp) (hbind : ∀ (s : Shared) (u : Value), BindsTo s fd ⟨[u], []⟩ [(x, u)])
    (hsp : ∀ H : Hp, Only H → SqL K H a (ns.map V.int) → sp [.ref a] H (fun v H' => ∃ l, v = .ref l ∧ H' l = some (.lst (out.map V.int))) fun _ _ _ => False) :
    codeAny (model P w) callerA (.call (.ref fa) ⟨[.ref a], []⟩) (fun r s' => (∃ (l : Addr) (its : List Value) (n : Nat), r = .ok (.ret (.ref l)) ∧ s'.heap.get? l = some { cls := .type "list", data := .seq its.toArray n } ∧ Vals (out.map V.int) its) ∧ OldK s₁.heap s'.heap ∧ s'.os = s₁.os ∧ AllBare s'.gens) s₁ := by
  have rv := vals_ints hi
  have lenV := hi.length
  have core : ∀ H : Hp, Only H → SqL K H a (ns.map V.int) → HOk P w H s₁.heap → (∀ b, H b ≠ none → b = a) → (H a ≠ none → K.lookup a = none) →
      codeAny (model P w) callerA (.call (.ref fa) ⟨[.ref a], []⟩) (fun r s' => (∃ (l : Addr) (its : List Value) (n : Nat), r = .ok (.ret (.ref l)) ∧ s'.heap.get? l = some { cls := .type "list", data := .seq its.toArray n } ∧ Vals (out.map V.int) its) ∧ OldK s₁.heap s'.heap ∧ s'.os = s₁.os ∧ AllBare s'.gens) s₁ := by
    intro H hO hS hok hA hK
    have base_of : ∀ {b : Addr} {o : Obj}, s₁.heap.get? b = some o → H b = none → (hidT s₁.heap H).get? b = some o := fun e n => hidT_get e n
    have noA : ∀ {b : Addr} {o : Obj} {es : Array DictEntry} {ep : Nat}, s₁.heap.get? b = some o → o.data = .dict es ep → H b = none := fun {b o es ep} e d => by
      cases q : H b with
      | none => rfl
      | some u =>
        have e' : b = a := hA b (by rw [q]; simp)
        subst e'
        rw [ha] at e; cases e
        have d' : Data.seq vs.toArray _ = Data.dict es ep := d
        cases d'
    have nsK : ∀ {b : Addr} {m : Str → Option Value}, s₁.heap.Ns b m → (hidT s₁.heap H).Ns b m := fun {b m} ⟨o, es, ep, e, d, r⟩ => ⟨o, es, ep, base_of e (noA e d), d, r⟩
    have hKb : K.In (hidT s₁.heap H) := fun b o e => base_of (KX b o e) (by
      cases q : H b with
      | none => rfl
      | some u =>
        have e' : b = a := hA b (by rw [q]; simp)
        subst e'
        rw [hK (by rw [q]; simp)] at e; cases e)
    have hM : Mod K mg (hidT s₁.heap H) := ⟨hKb, nsK hns, ⟨mb, nsK hb, hbb⟩, let ⟨mc, h1, h2⟩ := hlim; ⟨mc, nsK h1, h2⟩⟩
    have e0 : Env0 P w K mg (hidT s₁.heap H) callerA [] s₁ H := ⟨rfl, hM, fun b o e => of_hidT e, Nat.le_of_eq (hidT_size _ _), trivial, fun b hb => absurd (show b ∈ ([] : List Addr) from hb) (by simp), hok, .of_eq hg⟩
    refine codeAny_mono ((F _ hKb (nsK hns)).run callerA [] s₁ H ⟨[.ref a], []⟩ [.ref a] [.ref a] _ _ hr e0 (hbind s₁ (.ref a)) (.cons rfl .nil) (hsp H hO hS)) fun r s' h => ?_
    cases r with
    | error e => exact False.elim h
    | ok fl =>
      cases fl with
      | next => exact False.elim h
      | brk => exact False.elim h
      | cont => exact False.elim h
      | ret u =>
        obtain ⟨v, H', os, bare, un, hok', r', q⟩ := h
        obtain ⟨l, ev, hl'⟩ := q
        subst ev
        obtain rfl : u = Value.ref l := r'
        obtain ⟨_, its, n, rr, ee⟩ := hok' l _ hl'
        refine ⟨⟨l, its, n, rfl, ee, rr⟩, OldK.of_keep fun b o e => ?_, os, bare⟩
        cases q : H b with
        | none => exact un.keep b o e q (by intro z; exact absurd (show b ∈ ([] : List Addr) from z) (by simp)) (by simp)
        | some u =>
          rcases hO b with z | ⟨ob, xs, z⟩
          · rw [q] at z; cases z
          · have z2 := un.frzs b ob _ z
            obtain ⟨e1, _⟩ := hok b _ z
            obtain ⟨e2, _⟩ := hok' b _ z2
            rw [e] at e1; cases e1
            exact e2
  cases hk : K.lookup a with
  | some o =>
    have e := KX a o hk
    rw [ha] at e
    cases e
    refine core (fun _ => none) (fun _ => .inl rfl) (.inr ⟨_, vs.toArray, _, hk, rfl, rfl, rfl, by rw [List.size_toArray, lenV]; exact hl, by simpa using rv, fun v hv => by obtain ⟨i, _, rfl⟩ := List.mem_map.mp hv; rfl⟩) (fun b u z => by have z' : (none : Option HO) = some u := z; cases z') (fun b z => absurd rfl z) fun z => absurd rfl z
  | none =>
    refine core (fun b => if b = a then some (.frz { cls := .type "list", data := .seq vs.toArray } (.lst (ns.map V.int))) else none) (fun b => ?_) (.inl (.inr ⟨{ cls := .type "list", data := .seq vs.toArray }, if_pos rfl⟩)) (fun b u z => ?_) (fun b z => ?_) fun _ => hk
    · by_cases hb : b = a
      · exact .inr ⟨_, _, if_pos hb⟩
      · exact .inl (if_neg hb)
    · by_cases hb : b = a
      · have z' := (if_pos hb).symm.trans z
        cases z'
        subst hb
        exact ⟨ha, by rw [List.length_map]; exact hl, vs, _, rv, ha⟩
      · have z' := (if_neg hb).symm.trans z
        cases z'
    · by_cases hb : b = a
      · exact hb
      · exact absurd (if_neg hb) z

theorem reads_ints {R : PySem.W.WRecords} {cl : Str → Option Addr} {h : Heap} : ∀ {out : List Int} {its : List Value}, Vals (out.map V.int) its → PySem.W.ReadsAllW R cl h its (out.map PySem.W.WData.int) []
  | [], its, r => by
    cases r
    exact .nil
  | n :: out, its, r => by
    have r : Vals (V.int n :: out.map V.int) its := r
    cases r with
    | cons r1 rs =>
      obtain ⟨t, rfl⟩ := r1
      exact PySem.W.ReadsAllW.cons (as := []) (bs := []) (.int n t) (reads_ints rs)

/-- the goal that k_headS leaves (case hc), from the promise of the def -/
theorem walk_spec {r : PySem.W.OpenSpec} {k : Nat} {q : Program} {loose : List Str} {XP : (Str → Option Value) → Heap → Prop} {YP : World → Heap → Prop} {d : DefRec} {K : Params → PySem.W.Frag} {sp : PySem.W.Frag → Sp} {x : Str} {f : List Int → List Int}
    (pre : ∀ as, r.pre as = true → ∃ ns : List Int, as = [.list (ns.map .int)] ∧ ns.length ≤ sizeLine)
    (post : ∀ ns : List Int, r.pre [.list (ns.map .int)] = true → r.post [.list (ns.map .int)] (.list ((f ns).map .int)) = true)
    (hdf : d.params.defaults = []) (hr : Room k callerA)
    (hY : ∀ (w : World) (h : Heap), YP w h → (K w.params).In h)
    (F : ∀ (w : World) (mg : Str → Option Value) (fa : Addr) (h : Heap), (K w.params).In h → h.Ns mainGlobals mg → mg d.name = some (.ref fa) →
      ∃ fd : FuncData, (∀ (s : Shared) (u : Value), BindsTo s fd ⟨[u], []⟩ [(x, u)]) ∧
        ∀ base : Heap, (K w.params).In base → base.Ns mainGlobals mg → FnOk r.prog w (K w.params) mg base CX0 k fa fd [x] (sp (K w.params)))
    (hsp : ∀ (K : PySem.W.Frag) (H : Hp) (a : Addr) (ns : List Int), r.pre [.list (ns.map .int)] = true → Only H → SqL K H a (ns.map V.int) → sp K [.ref a] H (fun v H' => ∃ l, v = .ref l ∧ H' l = some (.lst ((f ns).map V.int))) fun _ _ _ => False) :
    PySem.W.WalkOS q loose XP YP r d [] (fun f vs => PySem.call f vs) := by
  intro w s₀ s₁ mg mb G Y fa o pm cd doc dV kV ho hd hcd hD hmg hg args vals as hpre hlay hrd hwl hlo
  obtain ⟨ns, rfl, hlen⟩ := pre args hpre
  have hs : ∃ a vs, vals = [Value.ref a] ∧ s₁.heap.get? a = some { cls := .type "list", data := .seq vs.toArray } ∧ IntsAre vs ns := by
    cases hwl with
    | cons w1 w2 =>
      cases w2
      cases w1 with
      | list ho hall => exact ⟨_, _, rfl, ho, Att.ints_of_wellAll ns _ hall⟩
  obtain ⟨a, vs, rfl, hobj, hints⟩ := hs
  have KX := hY w _ Y
  obtain ⟨fd, hb, hF⟩ := F w mg fa _ KX G.T.g hmg
  refine PySem.W.enter_call (codeAny_mono (spec_call KX G.T.g G.T.b G.T.builtins G.T.nolimit hg hobj hints hlen hr hF hb (fun H hO hS => hsp (K w.params) H a ns hpre hO hS)) fun res s' hq => ?_)
  obtain ⟨⟨l, its, n, rfl, ho', hv⟩, h2, h3, h4⟩ := hq
  exact ⟨.inl ⟨.ref l, .list ((f ns).map .int), [l], rfl, fun _ => rfl, .list ho' rfl rfl (by simpa using reads_ints hv), post ns hpre, fun z => absurd z Bool.false_ne_true⟩, h2, h3, h4⟩
end L2

namespace RT
open PySem L2
def top (i : Nat) : Stmt := PySem.Challenge.pw_ruleturn_s01_answers.main.body.getD i (.Pass ⟨0, 0, 0, 0⟩)
abbrev s_CallReader_init : Stmt := inClass (top 2) 0
abbrev s_CallReader_has_more : Stmt := inClass (top 2) 1
abbrev s_CallReader_read_number : Stmt := inClass (top 2) 2
abbrev s_CallReader_read_row : Stmt := inClass (top 2) 3
abbrev s_Rule_init : Stmt := inClass (top 4) 0
abbrev s_Fit_init : Stmt := inClass (top 5) 0
abbrev s_Rests_init : Stmt := inClass (top 17) 0
abbrev s_Rests_rest_of : Stmt := inClass (top 17) 1
abbrev s_Rests_are_same : Stmt := inClass (top 17) 2
abbrev s_RoundWatch_init : Stmt := inClass (top 23) 0
abbrev s_RoundWatch_round_length : Stmt := inClass (top 23) 1
abbrev s_Turning_init : Stmt := inClass (top 39) 0
abbrev s_Turning_begin : Stmt := inClass (top 39) 1
abbrev s_Turning_add_rule : Stmt := inClass (top 39) 2
abbrev s_Turning_give_text : Stmt := inClass (top 39) 3
abbrev s_Turning_start_anew : Stmt := inClass (top 39) 4
abbrev s_Turning_run : Stmt := inClass (top 39) 5
abbrev s_Turning_grows_too_long : Stmt := inClass (top 39) 6
abbrev s_Turning_take_step : Stmt := inClass (top 39) 7
abbrev s_Turning_skip_rounds : Stmt := inClass (top 39) 8
abbrev s_Turning_tell_text : Stmt := inClass (top 39) 9
abbrev s_Turning_tell_next : Stmt := inClass (top 39) 10
abbrev s_Turning_tell_steps : Stmt := inClass (top 39) 11
abbrev s_Turning_tell_joins : Stmt := inClass (top 39) 12
abbrev s_Turning_find_joins : Stmt := inClass (top 39) 13
abbrev s_shortens : Stmt := top 6
abbrev s_turned : Stmt := top 7
abbrev s_next_fit : Stmt := top 8
abbrev s_place_after : Stmt := top 9
abbrev s_written : Stmt := top 14
abbrev s_read_back : Stmt := top 15
abbrev s_text_after_step : Stmt := top 18
abbrev s_do_join : Stmt := top 19
abbrev s_over_a_part : Stmt := top 20
abbrev s_within : Stmt := top 21
abbrev s_answers : Stmt := top 50
abbrev s_answer_next : Stmt := top 51
abbrev s_answer_rule : Stmt := top 52
abbrev p_CallReader_init : List Str := ["self", "calls"]
abbrev n_CallReader_init : List Str := ["self", "calls"]
theorem sc_CallReader_init : FnScope n_CallReader_init p_CallReader_init (defScope s_CallReader_init) := ⟨rfl, rfl, rfl, by decide +kernel, rfl, by decide +kernel, by decide +kernel⟩
abbrev p_CallReader_has_more : List Str := ["self"]
abbrev n_CallReader_has_more : List Str := ["self"]
theorem sc_CallReader_has_more : FnScope n_CallReader_has_more p_CallReader_has_more (defScope s_CallReader_has_more) := ⟨rfl, rfl, rfl, by decide +kernel, rfl, by decide +kernel, by decide +kernel⟩
abbrev p_CallReader_read_number : List Str := ["self"]
abbrev n_CallReader_read_number : List Str := ["self", "value"]
theorem sc_CallReader_read_number : FnScope n_CallReader_read_number p_CallReader_read_number (defScope s_CallReader_read_number) := ⟨rfl, rfl, rfl, by decide +kernel, rfl, by decide +kernel, by decide +kernel⟩
abbrev p_CallReader_read_row : List Str := ["self"]
abbrev n_CallReader_read_row : List Str := ["self", "length", "start"]
theorem sc_CallReader_read_row : FnScope n_CallReader_read_row p_CallReader_read_row (defScope s_CallReader_read_row) := ⟨rfl, rfl, rfl, by decide +kernel, rfl, by decide +kernel, by decide +kernel⟩
abbrev p_Rule_init : List Str := ["self", "left", "right", "last"]
abbrev n_Rule_init : List Str := ["self", "left", "right", "last"]
theorem sc_Rule_init : FnScope n_Rule_init p_Rule_init (defScope s_Rule_init) := ⟨rfl, rfl, rfl, by decide +kernel, rfl, by decide +kernel, by decide +kernel⟩
abbrev p_Fit_init : List Str := ["self", "number", "rule", "place"]
abbrev n_Fit_init : List Str := ["self", "number", "rule", "place"]
theorem sc_Fit_init : FnScope n_Fit_init p_Fit_init (defScope s_Fit_init) := ⟨rfl, rfl, rfl, by decide +kernel, rfl, by decide +kernel, by decide +kernel⟩
abbrev p_Rests_init : List Str := ["self", "rules"]
abbrev n_Rests_init : List Str := ["self", "rules"]
theorem sc_Rests_init : FnScope n_Rests_init p_Rests_init (defScope s_Rests_init) := ⟨rfl, rfl, rfl, by decide +kernel, rfl, by decide +kernel, by decide +kernel⟩
abbrev p_Rests_rest_of : List Str := ["self", "text"]
abbrev n_Rests_rest_of : List Str := ["self", "text", "passed", "rest", "one"]
theorem sc_Rests_rest_of : FnScope n_Rests_rest_of p_Rests_rest_of (defScope s_Rests_rest_of) := ⟨rfl, rfl, rfl, by decide +kernel, rfl, by decide +kernel, by decide +kernel⟩
abbrev p_Rests_are_same : List Str := ["self", "one", "other"]
abbrev n_Rests_are_same : List Str := ["self", "one", "other"]
theorem sc_Rests_are_same : FnScope n_Rests_are_same p_Rests_are_same (defScope s_Rests_are_same) := ⟨rfl, rfl, rfl, by decide +kernel, rfl, by decide +kernel, by decide +kernel⟩
abbrev p_RoundWatch_init : List Str := ["self", "text"]
abbrev n_RoundWatch_init : List Str := ["self", "text"]
theorem sc_RoundWatch_init : FnScope n_RoundWatch_init p_RoundWatch_init (defScope s_RoundWatch_init) := ⟨rfl, rfl, rfl, by decide +kernel, rfl, by decide +kernel, by decide +kernel⟩
abbrev p_RoundWatch_round_length : List Str := ["self", "text"]
abbrev n_RoundWatch_round_length : List Str := ["self", "text", "length"]
theorem sc_RoundWatch_round_length : FnScope n_RoundWatch_round_length p_RoundWatch_round_length (defScope s_RoundWatch_round_length) := ⟨rfl, rfl, rfl, by decide +kernel, rfl, by decide +kernel, by decide +kernel⟩
abbrev p_Turning_init : List Str := ["self"]
abbrev n_Turning_init : List Str := ["self"]
theorem sc_Turning_init : FnScope n_Turning_init p_Turning_init (defScope s_Turning_init) := ⟨rfl, rfl, rfl, by decide +kernel, rfl, by decide +kernel, by decide +kernel⟩
abbrev p_Turning_begin : List Str := ["self"]
abbrev n_Turning_begin : List Str := ["self"]
theorem sc_Turning_begin : FnScope n_Turning_begin p_Turning_begin (defScope s_Turning_begin) := ⟨rfl, rfl, rfl, by decide +kernel, rfl, by decide +kernel, by decide +kernel⟩
abbrev p_Turning_add_rule : List Str := ["self", "left", "right", "stop"]
abbrev n_Turning_add_rule : List Str := ["self", "left", "right", "stop"]
theorem sc_Turning_add_rule : FnScope n_Turning_add_rule p_Turning_add_rule (defScope s_Turning_add_rule) := ⟨rfl, rfl, rfl, by decide +kernel, rfl, by decide +kernel, by decide +kernel⟩
abbrev p_Turning_give_text : List Str := ["self", "row"]
abbrev n_Turning_give_text : List Str := ["self", "row"]
theorem sc_Turning_give_text : FnScope n_Turning_give_text p_Turning_give_text (defScope s_Turning_give_text) := ⟨rfl, rfl, rfl, by decide +kernel, rfl, by decide +kernel, by decide +kernel⟩
abbrev p_Turning_start_anew : List Str := ["self", "text"]
abbrev n_Turning_start_anew : List Str := ["self", "text"]
theorem sc_Turning_start_anew : FnScope n_Turning_start_anew p_Turning_start_anew (defScope s_Turning_start_anew) := ⟨rfl, rfl, rfl, by decide +kernel, rfl, by decide +kernel, by decide +kernel⟩
abbrev p_Turning_run : List Str := ["self", "count"]
abbrev n_Turning_run : List Str := ["self", "count", "watch", "before", "ahead", "fit"]
theorem sc_Turning_run : FnScope n_Turning_run p_Turning_run (defScope s_Turning_run) := ⟨rfl, rfl, rfl, by decide +kernel, rfl, by decide +kernel, by decide +kernel⟩
abbrev p_Turning_grows_too_long : List Str := ["self", "fit"]
abbrev n_Turning_grows_too_long : List Str := ["self", "fit", "length"]
theorem sc_Turning_grows_too_long : FnScope n_Turning_grows_too_long p_Turning_grows_too_long (defScope s_Turning_grows_too_long) := ⟨rfl, rfl, rfl, by decide +kernel, rfl, by decide +kernel, by decide +kernel⟩
abbrev p_Turning_take_step : List Str := ["self", "fit"]
abbrev n_Turning_take_step : List Str := ["self", "fit"]
theorem sc_Turning_take_step : FnScope n_Turning_take_step p_Turning_take_step (defScope s_Turning_take_step) := ⟨rfl, rfl, rfl, by decide +kernel, rfl, by decide +kernel, by decide +kernel⟩
abbrev p_Turning_skip_rounds : List Str := ["self", "watch", "ahead"]
abbrev n_Turning_skip_rounds : List Str := ["self", "watch", "ahead", "length", "walked"]
theorem sc_Turning_skip_rounds : FnScope n_Turning_skip_rounds p_Turning_skip_rounds (defScope s_Turning_skip_rounds) := ⟨rfl, rfl, rfl, by decide +kernel, rfl, by decide +kernel, by decide +kernel⟩
abbrev p_Turning_tell_text : List Str := ["self", "most"]
abbrev n_Turning_tell_text : List Str := ["self", "most", "length"]
theorem sc_Turning_tell_text : FnScope n_Turning_tell_text p_Turning_tell_text (defScope s_Turning_tell_text) := ⟨rfl, rfl, rfl, by decide +kernel, rfl, by decide +kernel, by decide +kernel⟩
abbrev p_Turning_tell_next : List Str := ["self"]
abbrev n_Turning_tell_next : List Str := ["self", "fit"]
theorem sc_Turning_tell_next : FnScope n_Turning_tell_next p_Turning_tell_next (defScope s_Turning_tell_next) := ⟨rfl, rfl, rfl, by decide +kernel, rfl, by decide +kernel, by decide +kernel⟩
abbrev p_Turning_tell_steps : List Str := ["self"]
abbrev n_Turning_tell_steps : List Str := ["self"]
theorem sc_Turning_tell_steps : FnScope n_Turning_tell_steps p_Turning_tell_steps (defScope s_Turning_tell_steps) := ⟨rfl, rfl, rfl, by decide +kernel, rfl, by decide +kernel, by decide +kernel⟩
abbrev p_Turning_tell_joins : List Str := ["self"]
abbrev n_Turning_tell_joins : List Str := ["self"]
theorem sc_Turning_tell_joins : FnScope n_Turning_tell_joins p_Turning_tell_joins (defScope s_Turning_tell_joins) := ⟨rfl, rfl, rfl, by decide +kernel, rfl, by decide +kernel, by decide +kernel⟩
abbrev p_Turning_find_joins : List Str := ["self"]
abbrev n_Turning_find_joins : List Str := ["self", "rule"]
theorem sc_Turning_find_joins : FnScope n_Turning_find_joins p_Turning_find_joins (defScope s_Turning_find_joins) := ⟨rfl, rfl, rfl, by decide +kernel, rfl, by decide +kernel, by decide +kernel⟩
abbrev p_shortens : List Str := ["rule"]
abbrev n_shortens : List Str := ["rule"]
theorem sc_shortens : FnScope n_shortens p_shortens (defScope s_shortens) := ⟨rfl, rfl, rfl, by decide +kernel, rfl, by decide +kernel, by decide +kernel⟩
abbrev p_turned : List Str := ["text", "rule", "place"]
abbrev n_turned : List Str := ["text", "rule", "place"]
theorem sc_turned : FnScope n_turned p_turned (defScope s_turned) := ⟨rfl, rfl, rfl, by decide +kernel, rfl, by decide +kernel, by decide +kernel⟩
abbrev p_next_fit : List Str := ["rules", "text", "before"]
abbrev n_next_fit : List Str := ["rules", "text", "before", "number", "rule", "place"]
theorem sc_next_fit : FnScope n_next_fit p_next_fit (defScope s_next_fit) := ⟨rfl, rfl, rfl, by decide +kernel, rfl, by decide +kernel, by decide +kernel⟩
abbrev p_place_after : List Str := ["text", "left", "number", "before"]
abbrev n_place_after : List Str := ["text", "left", "number", "before", "start"]
theorem sc_place_after : FnScope n_place_after p_place_after (defScope s_place_after) := ⟨rfl, rfl, rfl, by decide +kernel, rfl, by decide +kernel, by decide +kernel⟩
abbrev p_written : List Str := ["row"]
abbrev n_written : List Str := ["row", "value"]
theorem sc_written : FnScope n_written p_written (defScope s_written) := ⟨rfl, rfl, rfl, by decide +kernel, rfl, by decide +kernel, by decide +kernel⟩
abbrev p_read_back : List Str := ["text"]
abbrev n_read_back : List Str := ["text", "place"]
theorem sc_read_back : FnScope n_read_back p_read_back (defScope s_read_back) := ⟨rfl, rfl, rfl, by decide +kernel, rfl, by decide +kernel, by decide +kernel⟩
abbrev p_text_after_step : List Str := ["rules", "text"]
abbrev n_text_after_step : List Str := ["rules", "text", "rule"]
theorem sc_text_after_step : FnScope n_text_after_step p_text_after_step (defScope s_text_after_step) := ⟨rfl, rfl, rfl, by decide +kernel, rfl, by decide +kernel, by decide +kernel⟩
abbrev p_do_join : List Str := ["rules"]
abbrev n_do_join : List Str := ["rules", "rests", "r", "q", "by_r", "by_q"]
theorem sc_do_join : FnScope n_do_join p_do_join (defScope s_do_join) := ⟨rfl, rfl, rfl, by decide +kernel, rfl, by decide +kernel, by decide +kernel⟩
abbrev p_over_a_part : List Str := ["r", "q"]
abbrev n_over_a_part : List Str := ["r", "q", "pairs", "longest", "length", "part", "ahead"]
theorem sc_over_a_part : FnScope n_over_a_part p_over_a_part (defScope s_over_a_part) := ⟨rfl, rfl, rfl, by decide +kernel, rfl, by decide +kernel, by decide +kernel⟩
abbrev p_within : List Str := ["r", "q"]
abbrev n_within : List Str := ["r", "q", "pairs", "place"]
theorem sc_within : FnScope n_within p_within (defScope s_within) := ⟨rfl, rfl, rfl, by decide +kernel, rfl, by decide +kernel, by decide +kernel⟩
abbrev p_answers : List Str := ["calls"]
abbrev n_answers : List Str := ["calls", "turning", "reader", "given", "numbers"]
theorem sc_answers : FnScope n_answers p_answers (defScope s_answers) := ⟨rfl, rfl, rfl, by decide +kernel, rfl, by decide +kernel, by decide +kernel⟩
abbrev p_answer_next : List Str := ["turning", "reader"]
abbrev n_answer_next : List Str := ["turning", "reader", "call"]
theorem sc_answer_next : FnScope n_answer_next p_answer_next (defScope s_answer_next) := ⟨rfl, rfl, rfl, by decide +kernel, rfl, by decide +kernel, by decide +kernel⟩
abbrev p_answer_rule : List Str := ["turning", "reader"]
abbrev n_answer_rule : List Str := ["turning", "reader", "stop", "left", "right"]
theorem sc_answer_rule : FnScope n_answer_rule p_answer_rule (defScope s_answer_rule) := ⟨rfl, rfl, rfl, by decide +kernel, rfl, by decide +kernel, by decide +kernel⟩
/-- the addresses of the classes -/
structure Ad where
  CallReader : Addr
  Rule : Addr
  Fit : Addr
  Rests : Addr
  RoundWatch : Addr
  Turning : Addr
/-- what the top has left -/
structure Txt (K : PySem.W.Frag) (mg : Str → Option Value) (A : Ad) : Prop where
  cl_CallReader : Cls K A.CallReader
  mg_CallReader : mg "CallReader" = some (.ref A.CallReader)
  na_CallReader_calls : NoAttr K A.CallReader "calls"
  na_CallReader_reached : NoAttr K A.CallReader "reached"
  cl_Rule : Cls K A.Rule
  mg_Rule : mg "Rule" = some (.ref A.Rule)
  na_Rule_left : NoAttr K A.Rule "left"
  na_Rule_right : NoAttr K A.Rule "right"
  na_Rule_last : NoAttr K A.Rule "last"
  cl_Fit : Cls K A.Fit
  mg_Fit : mg "Fit" = some (.ref A.Fit)
  na_Fit_number : NoAttr K A.Fit "number"
  na_Fit_rule : NoAttr K A.Fit "rule"
  na_Fit_place : NoAttr K A.Fit "place"
  cl_Rests : Cls K A.Rests
  mg_Rests : mg "Rests" = some (.ref A.Rests)
  na_Rests_rules : NoAttr K A.Rests "rules"
  na_Rests_known : NoAttr K A.Rests "known"
  cl_RoundWatch : Cls K A.RoundWatch
  mg_RoundWatch : mg "RoundWatch" = some (.ref A.RoundWatch)
  na_RoundWatch_kept : NoAttr K A.RoundWatch "kept"
  na_RoundWatch_age : NoAttr K A.RoundWatch "age"
  na_RoundWatch_span : NoAttr K A.RoundWatch "span"
  cl_Turning : Cls K A.Turning
  mg_Turning : mg "Turning" = some (.ref A.Turning)
  na_Turning_rules : NoAttr K A.Turning "rules"
  na_Turning_joined : NoAttr K A.Turning "joined"
  na_Turning_text : NoAttr K A.Turning "text"
  na_Turning_over : NoAttr K A.Turning "over"
  na_Turning_steps : NoAttr K A.Turning "steps"
  gl_SIGNS_PER_BYTE : ∃ u, mg "SIGNS_PER_BYTE" = some u ∧ RelV (.int 2) u
  gl_HIGH_SIGNS : ∃ u, mg "HIGH_SIGNS" = some u ∧ RelV (.str "ABCDEFGHIJKLMNOP") u
  gl_LOW_SIGNS : ∃ u, mg "LOW_SIGNS" = some u ∧ RelV (.str "abcdefghijklmnop") u
  gl_LONGEST_SIDE : ∃ u, mg "LONGEST_SIDE" = some u ∧ RelV (.int 32) u
  gl_MOST_RULES : ∃ u, mg "MOST_RULES" = some u ∧ RelV (.int 64) u
  gl_LONGEST_TEXT : ∃ u, mg "LONGEST_TEXT" = some u ∧ RelV (.int 8192) u
  gl_MOST_STEPS : ∃ u, mg "MOST_STEPS" = some u ∧ RelV (.int 1000000) u
  gl_MOST_STEPS_TOLD : ∃ u, mg "MOST_STEPS_TOLD" = some u ∧ RelV (.int 1000000000) u
  gl_PLACES_PER_RULE : ∃ u, mg "PLACES_PER_RULE" = some u ∧ RelV (.int 16384) u
  gl_NOT_OVER : ∃ u, mg "NOT_OVER" = some u ∧ RelV (.int 0) u
  gl_OVER_NO_FIT : ∃ u, mg "OVER_NO_FIT" = some u ∧ RelV (.int 1) u
  gl_OVER_BY_LAST : ∃ u, mg "OVER_BY_LAST" = some u ∧ RelV (.int 2) u
  gl_DONE : ∃ u, mg "DONE" = some u ∧ RelV (.int 0) u
  gl_OUT_OF_RANGE : ∃ u, mg "OUT_OF_RANGE" = some u ∧ RelV (.int (-1)) u
  gl_NO_ROOM : ∃ u, mg "NO_ROOM" = some u ∧ RelV (.int (-2)) u
  gl_NO_NEXT_STEP : ∃ u, mg "NO_NEXT_STEP" = some u ∧ RelV (.int (-1)) u
  gl_NOT_SHORTENING : ∃ u, mg "NOT_SHORTENING" = some u ∧ RelV (.int (-2)) u
  gl_BEGIN : ∃ u, mg "BEGIN" = some u ∧ RelV (.int 0) u
  gl_RULE : ∃ u, mg "RULE" = some u ∧ RelV (.int 1) u
  gl_TEXT : ∃ u, mg "TEXT" = some u ∧ RelV (.int 2) u
  gl_RUN : ∃ u, mg "RUN" = some u ∧ RelV (.int 3) u
  gl_READ : ∃ u, mg "READ" = some u ∧ RelV (.int 4) u
  gl_NEXT : ∃ u, mg "NEXT" = some u ∧ RelV (.int 5) u
  gl_STEPS : ∃ u, mg "STEPS" = some u ∧ RelV (.int 6) u
  gl_JOINS : ∃ u, mg "JOINS" = some u ∧ RelV (.int 7) u
  bn_len : mg "len" = none
  bn_max : mg "max" = none
  bn_min : mg "min" = none
  bn_enumerate : mg "enumerate" = none
  bn_range : mg "range" = none
/-! ### heaps -/
/-- all but p stays -/
def Keep (p : Addr) (H H' : Hp) : Prop := ∀ b o, H b = some o → b ≠ p → H' b = some o
theorem Keep.refl (p : Addr) (H : Hp) : Keep p H H := fun _ _ h _ => h
theorem Keep.trans {p : Addr} {H H1 H2 : Hp} (a : Keep p H H1) (b : Keep p H1 H2) : Keep p H H2 := fun c o h n => b c o (a c o h n) n
theorem _root_.L2.Same.keep {p : Addr} {H H' : Hp} (h : Same H H') : Keep p H H' := fun b o e _ => h b o e
theorem Keep.upd {p : Addr} {H : Hp} {o : HO} : Keep p H (upd H p o) := fun b o e n => by rw [upd_ne n]; exact e
theorem Keep.at {p b : Addr} {H H' : Hp} {o : HO} (k : Keep p H H') (h : H b = some o) (n : b ≠ p) : H' b = some o := k b o h n
theorem Same.new {H : Hp} {p : Addr} {o : HO} (h : H p = none) : Same H (L2.upd H p o) := fun b u e => by
  rw [upd_ne (ne_of_none e h)]; exact e
theorem Keep.seq {K : PySem.W.Frag} {p a : Addr} {H H' : Hp} {xs : List V} (k : Keep p H H') (hp : ∃ C dx fs, H p = some (.ins C dx fs)) (h : SqL K H a xs) : SqL K H' a xs := by
  obtain ⟨C, dx, fs, hp⟩ := hp
  rcases h with (h | ⟨o, h⟩) | h
  · exact .inl (.inl (k _ _ h (ne_of h hp (by intro z; cases z))))
  · exact .inl (.inr ⟨o, k _ _ h (ne_of h hp (by intro z; cases z))⟩)
  · exact .inr h

/-! ### what a caller wants of a callee -/
section
variable (P : Program) (w : World) (K : PySem.W.Frag) (mg : Str → Option Value) (base : Heap)
/-- a def of the module -/
def FnIn (k : Nat) (x : Str) (ps : List Str) (sp : Sp) : Prop := ∃ f fd, FnOk P w K mg base CX0 k f fd ps sp ∧ Binds K fd ps [] ∧ mg x = some (.ref f) ∧ PySem.W.keepIn K (.ref f) = true
/-- a def of the module, with the clock -/
def FnInC (k : Nat) (x : Str) (ps : List Str) (sp : Spk) : Prop := ∃ f fd, FnC P w K mg base k f fd ps sp ∧ Binds K fd ps [] ∧ mg x = some (.ref f) ∧ PySem.W.keepIn K (.ref f) = true
/-- a method -/
def MeIn (k : Nat) (C : Addr) (m : Str) (ps : List Str) (sp : Sp) : Prop := ∃ f fd, FnOk P w K mg base CX0 k f fd ps sp ∧ Binds K fd ps [] ∧ Meth K C m f
/-- __init__ -/
def MkIn (k : Nat) (C : Addr) (ps : List Str) (sp : Sp) : Prop := ∃ f fd, FnOk P w K mg base CX0 k f fd ps sp ∧ Binds K fd ps [] ∧ Mk K C f
end

/-! ### attributes -/
theorem putF_hit {f : Str} {v x : V} {r : List (Str × V)} : putF f v ((f, x) :: r) = (f, v) :: r := if_pos rfl
theorem putF_miss {f g : Str} {v x : V} {r : List (Str × V)} (h : ¬ g = f) : putF f v ((g, x) :: r) = (g, x) :: putF f v r := if_neg h
theorem putF_nil {f : Str} {v : V} : putF f v [] = [(f, v)] := rfl
theorem look_hit {f : Str} {x : V} {r : List (Str × V)} : List.lookup f ((f, x) :: r) = some x := by
  simp only [List.lookup, beq_self_eq_true]
theorem look_miss {f g : Str} {x : V} {r : List (Str × V)} (h : ¬ f = g) : List.lookup f ((g, x) :: r) = List.lookup f r := by
  have hb : (f == g) = false := beq_eq_false_iff_ne.mpr h
  simp only [List.lookup, hb]
/-- __init__ that stores its arguments -/
def spInit2 (C : Addr) (g1 g2 : V → Str × V) : Sp := fun vs H Q _ => ∃ (p dx : Addr) (a : V), vs = [.ref p, a] ∧ H p = some (.ins C dx []) ∧ ∀ H', H' p = some (.ins C dx [g1 a, g2 a]) → Keep p H H' → Q .non H'
def spInit3 (C : Addr) (f1 f2 f3 : Str) : Sp := fun vs H Q _ => ∃ (p dx : Addr) (a b c : V), vs = [.ref p, a, b, c] ∧ H p = some (.ins C dx []) ∧ ∀ H', H' p = some (.ins C dx [(f1, a), (f2, b), (f3, c)]) → Keep p H H' → Q .non H'

/-! ### the objects -/
def ReaderAt (A : Ad) (H : Hp) (p a : Addr) (i : Nat) : Prop := ∃ dx, H p = some (.ins A.CallReader dx [("calls", .ref a), ("reached", .int i)])
def spReader (A : Ad) : Sp := fun vs H Q _ => ∃ (p dx a : Addr), vs = [.ref p, .ref a] ∧ H p = some (.ins A.CallReader dx []) ∧ ∀ H', ReaderAt A H' p a 0 → Keep p H H' → Q .non H'
def spMore (K : PySem.W.Frag) (A : Ad) : Sp := fun vs H Q _ => ∃ (p a : Addr) (i : Nat) (ns : List Int), vs = [.ref p] ∧ ReaderAt A H p a i ∧ SqL K H a (ns.map V.int) ∧ Q (.bl (decide (i < ns.length))) H
def spNumber (K : PySem.W.Frag) (A : Ad) : Sp := fun vs H Q _ => ∃ (p a : Addr) (i : Nat) (ns : List Int) (z : Int), vs = [.ref p] ∧ ReaderAt A H p a i ∧ SqL K H a (ns.map V.int) ∧ ns[i]? = some z ∧
  ∀ H', ReaderAt A H' p a (i + 1) → Keep p H H' → Q (.int z) H'
def spRow (K : PySem.W.Frag) (A : Ad) : Sp := fun vs H Q _ => ∃ (p a : Addr) (i : Nat) (ns row : List Int), vs = [.ref p] ∧ ReaderAt A H p a i ∧ SqL K H a (ns.map V.int) ∧ ns.drop i = (row.length : Int) :: (row ++ ns.drop (i + 1 + row.length)) ∧
  ∀ (l : Addr) H', H l = none → H' l = some (.lst (row.map V.int)) → ReaderAt A H' p a (i + 1 + row.length) → Keep p H H' → Q (.ref l) H'
section
variable {P : Program} {w : World} {K : PySem.W.Frag} {mg : Str → Option Value} {base : Heap} {A : Ad}
theorem ok_CallReader_init {f : Addr} {fd : FuncData} (F : Fun K "__init__" "CallReader.__init__" s_CallReader_init f fd) (T : Txt K mg A) : FnOk P w K mg base CX0 1 f fd p_CallReader_init (spReader A) := by
  refine F.ok sc_CallReader_init (fun vs H Q E h => ?_) (fun cdv B outer s H vs Q E hr h => ?_)
  · obtain ⟨p, dx, a, rfl, _⟩ := h
    rfl
  · obtain ⟨p, dx, a, rfl, hp, k⟩ := h
    refine ⟨_, pss_cons (ps_fld (pv 0) (pv 1) rfl) (pss_one (ps_fld (pv 0) pe_int rfl)), ?_⟩
    refine ⟨_, rfl, _, rfl, p, _, dx, _, rfl, hp, T.cl_CallReader, T.na_CallReader_calls, (by show 0 < 1000; decide), ?_⟩
    refine ⟨_, rfl, p, _, dx, _, rfl, upd_same, T.cl_CallReader, T.na_CallReader_reached, (by show 1 < 1000; decide), ?_⟩
    exact k _ ⟨dx, Eq.trans upd_same (congrArg (fun q => some (HO.ins A.CallReader dx q)) (putF_miss (by decide +kernel)))⟩ (Keep.upd.trans Keep.upd)
theorem ok_CallReader_has_more {f : Addr} {fd : FuncData} (F : Fun K "has_more" "CallReader.has_more" s_CallReader_has_more f fd) (T : Txt K mg A) : FnOk P w K mg base CX0 1 f fd p_CallReader_has_more (spMore K A) := by
  refine F.ok sc_CallReader_has_more (fun vs H Q E h => ?_) (fun cdv B outer s H vs Q E hr h => ?_)
  · obtain ⟨p, a, i, ns, rfl, _⟩ := h
    rfl
  · obtain ⟨p, a, i, ns, rfl, ⟨dx, hp⟩, hs, k⟩ := h
    refine ⟨_, pss_one (ps_ret (pe_cmpR op_lt (pe_fld (pv 0) rfl) (pe_callB call_len_seq (by rfl) T.bn_len PySem.boot_len (pa_cons (pe_fld (pv 0) rfl) pa_nil)) (nomark _))), ?_⟩
    refine ⟨_, rfl, p, _, dx, _, _, rfl, hp, T.cl_CallReader, T.na_CallReader_reached, (look_miss (by decide +kernel)).trans look_hit, _, rfl, p, _, dx, _, _, rfl, hp, T.cl_CallReader, T.na_CallReader_calls, look_hit, a, _, rfl, .inl hs, _, _, rfl, rfl, ?_⟩
    rw [List.length_map]
    have e : decide ((i : Int) < (ns.length : Int)) = decide (i < ns.length) := by
      rw [decide_eq_decide]; omega
    show Q (V.bl (decide ((i : Int) < (ns.length : Int)))) H
    rw [e]
    exact k
theorem ok_CallReader_read_number {f : Addr} {fd : FuncData} (F : Fun K "read_number" "CallReader.read_number" s_CallReader_read_number f fd) (T : Txt K mg A) : FnOk P w K mg base CX0 1 f fd p_CallReader_read_number (spNumber K A) := by
  refine F.ok sc_CallReader_read_number (fun vs H Q E h => ?_) (fun cdv B outer s H vs Q E hr h => ?_)
  · obtain ⟨p, a, i, ns, z, rfl, _⟩ := h
    rfl
  · obtain ⟨p, a, i, ns, z, rfl, ⟨dx, hp⟩, hs, hz, k⟩ := h
    refine ⟨_, pss_cons (ps_set (i := 1) sc_CallReader_read_number.nd rfl (Or.inl rfl) (pe_ix ix_list (pe_fld (pv 0) rfl) (pe_fld (pv 0) rfl) (fun _ _ => rfl)))
      (pss_cons (ps_fld (pv 0) (pe_op op_add (pe_fld (pv 0) rfl) pe_int) rfl) (pss_one (ps_ret (pv 1)))), ?_⟩
    refine ⟨_, rfl, p, _, dx, _, _, rfl, hp, T.cl_CallReader, T.na_CallReader_calls, look_hit, _, rfl, p, _, dx, _, _, rfl, hp, T.cl_CallReader, T.na_CallReader_reached, (look_miss (by decide +kernel)).trans look_hit,
      a, _, _, _, rfl, rfl, hs, at_of (j := i) (v := V.int z) rfl (by rw [List.getElem?_map, hz]; rfl), ?_⟩
    refine ⟨_, rfl, p, _, dx, _, _, rfl, hp, T.cl_CallReader, T.na_CallReader_reached, (look_miss (by decide +kernel)).trans look_hit, _, _, rfl, rfl, _, rfl, p, _, dx, _, rfl, hp, T.cl_CallReader, T.na_CallReader_reached, (by show 2 < 1000; decide), ?_⟩
    refine ⟨_, rfl, ?_⟩
    exact k _ ⟨dx, Eq.trans upd_same (congrArg (fun q => some (HO.ins A.CallReader dx q)) ((putF_miss (by decide +kernel)).trans (congrArg (List.cons _) putF_hit)))⟩ Keep.upd
end
end RT

namespace RT
open PySem L2 TL
abbrev readF (a : V) (i : V) : List (Str × V) := [("calls", a), ("reached", i)]
theorem r_calls {a b : V} : (readF a b).lookup ("calls" : Str) = some a := look_hit
theorem r_reached {a b : V} : (readF a b).lookup ("reached" : Str) = some b := (look_miss (by decide +kernel)).trans look_hit
theorem r_put {a b x : V} : putF "reached" x (readF a b) = readF a x := (putF_miss (by decide +kernel)).trans (congrArg (List.cons _) putF_hit)
theorem r_no {a b : V} {m : Str} (h1 : ¬ m = "calls") (h2 : ¬ m = "reached") : (readF a b).lookup m = none := (look_miss h1).trans ((look_miss h2).trans rfl)
theorem cut_row {ns row rest : List Int} {j : Nat} (h : ns.drop j = row ++ rest) : cutV (ns.map V.int) (some ((j : Nat) : Int)) (some ((j + row.length : Nat) : Int)) = row.map V.int := by
  have hl : j + row.length ≤ ns.length ∨ row = [] := by
    have := congrArg List.length h
    rw [List.length_drop, List.length_append] at this
    by_cases hr : row = []
    · exact .inr hr
    · have : 0 < row.length := List.length_pos_iff.mpr hr
      left; omega
  unfold cutV
  rw [HT.sIx_nat, HT.sIx_nat, List.length_map]
  rcases hl with hl | rfl
  · rw [Nat.min_eq_left hl, Nat.min_eq_left (Nat.le_trans (Nat.le_add_right _ _) hl), Nat.add_sub_cancel_left, ← List.map_drop, h, ← List.map_take, List.take_left]
  · simp
section
variable {P : Program} {w : World} {K : PySem.W.Frag} {mg : Str → Option Value} {base : Heap} {A : Ad}
theorem ok_CallReader_read_row {f : Addr} {fd : FuncData} (F : Fun K "read_row" "CallReader.read_row" s_CallReader_read_row f fd) (T : Txt K mg A) (gN : MeIn P w K mg base 1 A.CallReader "read_number" p_CallReader_read_number (spNumber K A)) :
    FnOk P w K mg base CX0 2 f fd p_CallReader_read_row (spRow K A) := by
  refine F.ok sc_CallReader_read_row (fun vs H Q E h => ?_) (fun cdv B outer sh H vs Q E hr h => ?_)
  · obtain ⟨p, a, i, ns, row, rfl, _⟩ := h
    rfl
  · obtain ⟨p, a, i, ns, row, rfl, ⟨dx, hp⟩, hs, hd, k⟩ := h
    have nd := sc_CallReader_read_row.nd
    obtain ⟨fN, fdN, GN, bN, mN⟩ := gN
    refine ⟨_, pss_cons (ps_set (i := 1) nd rfl (Or.inl rfl) (pe_meth0 (pv 0) T.cl_CallReader mN GN hr bN .nil pass0))
      (pss_cons (ps_if (PW.pt (pw_or (pt_cmpR op_lt (pv 1) pe_int (nomark _)) (pw_or1 (pt_cmpR op_gt (pv 1) (pe_op op_sub (pe_callB call_len_seq (by rfl) T.bn_len PySem.boot_len (pa_cons (pe_fld (pv 0) rfl) pa_nil)) (pe_fld (pv 0) rfl)) (nomark _))))) pss_never pss_nil)
      (pss_cons (ps_set (i := 2) nd rfl (Or.inl rfl) (pe_fld (pv 0) rfl))
      (pss_cons (ps_fld (pv 0) (pe_op op_add (pv 2) (pv 1)) rfl)
      (pss_one (ps_ret (pe_slice sl_list (pe_fld (pv 0) rfl) (po_some (pv 2)) (po_some (pe_fld (pv 0) rfl)))))))), ?_⟩
    have hz : ns[i]? = some (row.length : Int) := by
      have : (ns.drop i)[0]? = some (row.length : Int) := by rw [hd]; rfl
      rw [List.getElem?_drop] at this
      exact this
    have hd1 : ns.drop (i + 1) = row ++ ns.drop (i + 1 + row.length) := by
      rw [← List.drop_drop, hd]
      rfl
    have hlen : i + 1 + row.length ≤ ns.length := by
      have h1 := congrArg List.length hd1
      rw [List.length_drop, List.length_append, List.length_drop] at h1
      have h2 := (List.getElem?_eq_some_iff.mp hz).1
      omega
    refine ⟨_, rfl, p, dx, _, rfl, hp, r_no (by decide +kernel) (by decide +kernel), p, a, i, ns, (row.length : Int), rfl, ⟨dx, hp⟩, hs, hz, fun H1 ⟨d1, hp1⟩ kp1 => ?_⟩
    have hs1 : SqL K H1 a (ns.map V.int) := kp1.seq ⟨_, _, _, hp⟩ hs
    refine ⟨_, rfl, _, _, rfl, rfl, _, rfl, ite2 (fun z => absurd (of_decide_eq_true z) (by omega)) (fun _ => ?_)⟩
    refine ⟨_, rfl, _, rfl, p, _, d1, _, _, rfl, hp1, T.cl_CallReader, T.na_CallReader_calls, r_calls, a, _, rfl, .inl hs1, _, rfl, p, _, d1, _, _, rfl, hp1, T.cl_CallReader, T.na_CallReader_reached, r_reached, _, _, rfl, rfl, _, _, rfl, rfl, _, rfl, ite2 (fun z => absurd (of_decide_eq_true z) (by rw [List.length_map]; omega)) (fun _ => ?_)⟩
    refine ⟨_, rfl, p, _, d1, _, _, rfl, hp1, T.cl_CallReader, T.na_CallReader_reached, r_reached, ?_⟩
    refine ⟨_, rfl, _, rfl, _, _, rfl, rfl, _, rfl, p, _, d1, _, rfl, hp1, T.cl_CallReader, T.na_CallReader_reached, (by show 2 < 1000; decide), ?_⟩
    rw [r_put]
    dsimp only
    have e1 : ((i + 1 : Nat) : Int) + (row.length : Int) = ((i + 1 + row.length : Nat) : Int) := by omega
    rw [e1]
    have kp2 : Keep p H1 (upd H1 p (.ins A.CallReader d1 (readF (.ref a) (.int ((i + 1 + row.length : Nat) : Int))))) := Keep.upd
    have hs2 : SqL K (upd H1 p (.ins A.CallReader d1 (readF (.ref a) (.int ((i + 1 + row.length : Nat) : Int))))) a (ns.map V.int) := kp2.seq ⟨_, _, _, hp1⟩ hs1
    refine ⟨_, rfl, p, _, d1, _, _, rfl, upd_same, T.cl_CallReader, T.na_CallReader_calls, r_calls, _, rfl, _, rfl, _, rfl, p, _, d1, _, _, rfl, upd_same, T.cl_CallReader, T.na_CallReader_reached, r_reached, _, rfl, a, _, rfl, hs2, fun l hl => ?_⟩
    rw [cut_row hd1]
    have kp : Keep p H (upd H1 p (.ins A.CallReader d1 (readF (.ref a) (.int ((i + 1 + row.length : Nat) : Int))))) := kp1.trans kp2
    have hpl : p ≠ l := ne_of_none (upd_same (H := H1)) hl
    refine k l _ ?_ upd_same ⟨d1, by rw [upd_ne hpl, upd_same]⟩ fun b o e n => ?_
    · cases q : H l with
      | none => rfl
      | some o =>
        rw [kp l o q hpl.symm] at hl
        cases hl
    · have e' := kp b o e n
      rw [upd_ne (ne_of_none e' hl)]
      exact e'
end
end RT

namespace RT
open PySem L2 TL

/-! ### the table of signs -/
theorem high_at : ∀ k : Nat, k < 16 → ("ABCDEFGHIJKLMNOP" : Str).cps.toList[k]? = some (65 + k) := by decide +kernel
theorem low_at : ∀ k : Nat, k < 16 → ("abcdefghijklmnop" : Str).cps.toList[k]? = some (97 + k) := by decide +kernel
theorem S_one (b : Nat) : (⟨#[65 + b / 16]⟩ : Str) ++ (⟨#[97 + b % 16]⟩ : Str) = S [b] := by
  apply ext_tl
  rw [tl_append]
  rfl
theorem joinL_nil : ∀ ps : List (List Nat), joinL [] ps = ps.flatten
  | [] => rfl
  | [p] => by simp [joinL]
  | p :: q :: r => by
    show p ++ ([] ++ joinL [] (q :: r)) = _
    rw [joinL_nil (q :: r)]
    simp
theorem en_flat : ∀ t : List Nat, ((t.map fun b => S [b]).map tl).flatten = en t
  | [] => rfl
  | b :: t => by
    show tl (S [b]) ++ ((t.map fun b => S [b]).map tl).flatten = _
    rw [en_flat t]
    rfl
theorem join_S (t : List Nat) : Txt.join "" (t.map fun b => S [b]) = S t := by
  apply ext_tl
  rw [TL.join_eq, tl_join]
  have e : tl ("" : Str) = [] := by decide +kernel
  rw [e, joinL_nil, en_flat]
  rfl
theorem S_nil : ("" : Str) = S [] := by decide +kernel

theorem at_of' {xs : List Nat} {z : Int} {j v : Nat} (e : z = (j : Int)) (h : xs[j]? = some v) : atI xs z = some v := by
  rw [e]
  exact atI_nat h
def spWritten (K : PySem.W.Frag) : Sp := fun vs H Q _ => ∃ (l : Addr) (row : List Int), vs = [.ref l] ∧ SqL K H l (row.map V.int) ∧ Oct row ∧ row.length ≤ 100000 ∧ ∀ H', Same H H' → Q (.str (S (nats row))) H'
section
variable {P : Program} {w : World} {K : PySem.W.Frag} {mg : Str → Option Value} {base : Heap} {A : Ad}
theorem ok_written {f : Addr} {fd : FuncData} (F : Fun K "written" "written" s_written f fd) (T : Txt K mg A) : FnOk P w K mg base CX0 1 f fd p_written (spWritten K) := by
  refine F.ok sc_written (fun vs H Q E h => ?_) (fun cdv B outer s H vs Q E hr h => ?_)
  · obtain ⟨l, row, rfl, _⟩ := h
    rfl
  · obtain ⟨l, row, rfl, hs, ho, hl, k⟩ := h
    obtain ⟨u1, hm1, r1⟩ := T.gl_HIGH_SIGNS
    obtain ⟨u2, hm2, r2⟩ := T.gl_LOW_SIGNS
    refine ⟨_, pss_one (ps_ret (pe_join pe_str (pe_lc rfl sc_written.nd (pi_list (pv 0)) (blkOk_by (N := n_written) (sc := defScope s_written) (own := [("value", 1)]) (by decide +kernel)) (fun _ _ _ _ _ => pg_name (i := 1) sc_written.nd rfl (Or.inl rfl)) (fun _ _ _ _ _ => pts_nil)
      (fun _ _ _ _ _ => pe_op op_add_str (pe_ix ix_str (pe_glob (by rfl) hm1 r1) (pe_op op_fdiv (pv 1) pe_int) (fun _ _ => rfl)) (pe_ix ix_str (pe_glob (by rfl) hm2 r2) (pe_op op_mod (pv 1) pe_int) (fun _ _ => rfl)))))), ?_⟩
    refine ⟨⟨_, rfl⟩, _, rfl, l, rfl, ⟨_, hs⟩, fun D hD => ?_⟩
    have s0 : Same H (upd H D (.lst [])) := Same.new hD
    refine lc_list (K := K) (a := l) (xs := row.map V.int) (fun i H2 => Same H H2 ∧ H2 D = some (.lst ((row.take i).map fun z => V.str (S [z.toNat])))) ⟨s0, upd_same⟩ (fun i H2 _ h2 => h2.1.seq hs) ?_ ?_
    · rintro i x H2 hx ⟨s2, hD2⟩
      rw [List.getElem?_map] at hx
      cases e : row[i]? with
      | none => rw [e] at hx; cases hx
      | some z =>
        rw [e] at hx
        cases hx
        have hz := ho z (List.mem_of_getElem? e)
        refine ⟨rfl, ?_⟩
        unfold tYes
        dsimp only
        rw [if_pos rfl]
        have q1 : z / 16 = ((z.toNat / 16 : Nat) : Int) := by omega
        have q2 : z % 16 = ((z.toNat % 16 : Nat) : Int) := by omega
        refine ⟨_, rfl, _, _, rfl, rfl, ⟨by decide, by decide⟩, _, _, _, rfl, rfl, (by decide +kernel), at_of' q1 (high_at _ (by omega)), _, rfl, _, _, rfl, rfl, (by show (0 : Int) < 16; decide), _, _, _, rfl, rfl, (by decide +kernel), at_of' q2 (low_at _ (by omega)), _, _, rfl, rfl, (by show 1 + 1 ≤ sizeLine; decide +kernel), ?_⟩
        refine ⟨_, hD2, ?_, ?_, ?_⟩
        · rw [List.length_map, List.length_take]
          have : sizeLine = 16777216 := sizeLine_eq
          omega
        · exact fun b o eb => by rw [upd_ne (ne_of_none eb hD)]; exact s2 b o eb
        · rw [upd_same, S_one, List.take_add_one, e]
          simp
    · rintro H2 ⟨s2, hD2⟩
      have e : (row.take (row.map V.int).length).map (fun z => V.str (S [z.toNat])) = ((nats row).map fun b => S [b]).map V.str := by
        rw [List.length_map, List.take_of_length_le (Nat.le_refl _), List.map_map, List.map_map]
        rfl
      rw [e] at hD2
      refine ⟨_, D, (nats row).map fun b => S [b], rfl, rfl, .inl (SqL.of hD2), ?_, ?_⟩
      · have e1 : ((nats row).map fun b => S [b]).map (·.length) = (nats row).map fun _ => 2 := by
          rw [List.map_map]
          exact List.map_congr_left fun b _ => S_len [b]
        rw [e1]
        have e2 : ("" : Str).length = 0 := by decide +kernel
        rw [e2, List.map_const', List.sum_replicate_nat, List.length_map]
        omega
      · rw [join_S]
        exact k H2 s2
theorem lck_list {K : PySem.W.Frag} {a : Addr} {xs : List V} {g : TG} {te : TEk} {vs : List Nat} {σ : St} {H1 : Hp} {D : Addr} {c1 : Nat} {Qd : Hp → Nat → Prop} (Pv : Nat → Hp → Nat → Prop) (h0 : Pv 0 (upd H1 D (.lst [])) c1) (hl : ∀ i H c, i ≤ xs.length → Pv i H c → SqL K H a xs)
    (hs : ∀ i x H c, xs[i]? = some x → Pv i H c → g x (wipe σ vs) H fun σ2 H2 => wipe σ2 vs = wipe σ vs ∧ ∀ c3, c ≤ c3 → te σ2 H2 c3 fun y H4 c4 => ∃ acc, H4 D = some (.lst acc) ∧ acc.length < sizeLine ∧ ∀ c5, c4 ≤ c5 → Pv (i + 1) (upd H4 D (.lst (acc ++ [y]))) c5) (hd : ∀ H c, Pv xs.length H c → ∀ c3, c ≤ c3 → Qd H c3) :
    ∃ W : Nat → Nat → Hp → Nat → Prop, (∃ m, W 0 m (upd H1 D (.lst [])) c1) ∧ ∀ i m H c2, W i m H c2 →
      ((Itl K a).stop i H ∧ ∀ c3, c2 ≤ c3 → Qd H c3) ∨ ((Itl K a).go i H ∧ ∃ Nx : Hp → Nat → Prop, (∀ H' c3, Nx H' c3 → ∃ m', m' < m ∧ W (i + 1) m' H' c3) ∧ ∀ x H', (Itl K a).yld i H x H' → g x (wipe σ vs) H' fun σ2 H2 => wipe σ2 vs = wipe σ vs ∧
        ∀ c3, c2 ≤ c3 → te σ2 H2 c3 fun y H4 c4 => ∃ acc, H4 D = some (.lst acc) ∧ acc.length < sizeLine ∧ ∀ c5, c4 ≤ c5 → Nx (upd H4 D (.lst (acc ++ [y]))) c5) := by
  refine ⟨fun i m H c => m = xs.length - i ∧ i ≤ xs.length ∧ Pv i H c, ⟨xs.length, by simp, Nat.zero_le _, h0⟩, ?_⟩
  rintro i m H c2 ⟨rfl, hi, p⟩
  have q := hl i H c2 hi p
  by_cases hlt : i < xs.length
  · refine .inr ⟨⟨xs, xs[i], q, by simp [hlt]⟩, Pv (i + 1), fun H' c3 p' => ⟨xs.length - (i + 1), by omega, rfl, hlt, p'⟩, fun x H' y => ?_⟩
    obtain ⟨e, y⟩ := y
    subst e
    exact hs i x _ _ (y xs q) p
  · have e : i = xs.length := by omega
    subst e
    exact .inl ⟨⟨xs, q, Nat.le_refl _⟩, hd H c2 p⟩
/-- written, with the clock: the text is a new one -/
def spWrittenK (K : PySem.W.Frag) : Spk := fun vs H c Q => ∃ (l : Addr) (row : List Int), vs = [.ref l] ∧ SqL K H l (row.map V.int) ∧ Oct row ∧ row.length ≤ 100000 ∧ ∀ (t c' : Nat) (H' : Hp), c < t → t < c' → Same H H' → Q (.tok (S (nats row)) t) H' c'
theorem ok_writtenK {f : Addr} {fd : FuncData} (F : Fun K "written" "written" s_written f fd) (T : Txt K mg A) : FnC P w K mg base 1 f fd p_written (spWrittenK K) := by
  refine F.okk rfl sc_written (fun vs H c Q h => ?_) (fun cdv B outer s H vs Q c hr h => ?_)
  · obtain ⟨l, row, rfl, _⟩ := h
    rfl
  · obtain ⟨l, row, rfl, hs, ho, hl, k⟩ := h
    obtain ⟨u1, hm1, r1⟩ := T.gl_HIGH_SIGNS
    obtain ⟨u2, hm2, r2⟩ := T.gl_LOW_SIGNS
    refine ⟨_, pek_join (pek_lc rfl sc_written.nd (pi_list (pv 0)) (blkOk_by (N := n_written) (sc := defScope s_written) (own := [("value", 1)]) (by decide +kernel)) (fun _ _ _ _ _ => pg_name (i := 1) sc_written.nd rfl (Or.inl rfl))
      (fun _ _ _ _ _ => pek_add (pe_ix ix_str (pe_glob (by rfl) hm1 r1) (pe_op op_fdiv (pv 1) pe_int) (fun _ _ => rfl)) (pe_ix ix_str (pe_glob (by rfl) hm2 r2) (pe_op op_mod (pv 1) pe_int) (fun _ _ => rfl)))), ?_⟩
    refine ⟨_, rfl, l, rfl, ⟨_, hs⟩, fun D hD c1 hc1 => ?_⟩
    have s0 : Same H (upd H D (.lst [])) := Same.new hD
    refine lck_list (K := K) (a := l) (xs := row.map V.int) (fun i H2 c2 => Same H H2 ∧ c1 ≤ c2 ∧ ∃ ts : List (Str × Nat), H2 D = some (.lst (ts.map fun z => V.tok z.1 z.2)) ∧ ts.map (·.1) = (nats (row.take i)).map (fun b => S [b]) ∧ ∀ z ∈ ts, c < z.2 ∧ z.2 < c2) ⟨s0, Nat.le_refl _, [], upd_same, rfl, fun z hz => nomatch hz⟩ (fun i H2 c2 _ h2 => h2.1.seq hs) ?_ ?_
    · rintro i x H2 c2 hx ⟨s2, hc2, ts, hD2, ets, hts⟩
      rw [List.getElem?_map] at hx
      cases e : row[i]? with
      | none => rw [e] at hx; cases hx
      | some z =>
        rw [e] at hx
        cases hx
        have hz := ho z (List.mem_of_getElem? e)
        refine ⟨rfl, fun c3 hc3 => ?_⟩
        have q1 : z / 16 = ((z.toNat / 16 : Nat) : Int) := by omega
        have q2 : z % 16 = ((z.toNat % 16 : Nat) : Int) := by omega
        refine ⟨_, rfl, _, _, rfl, rfl, ⟨by decide, by decide⟩, _, _, _, rfl, rfl, (by decide +kernel), at_of' q1 (high_at _ (by omega)), _, rfl, _, _, rfl, rfl, (by show (0 : Int) < 16; decide), _, _, _, rfl, rfl, (by decide +kernel), at_of' q2 (low_at _ (by omega)), _, _, rfl, rfl, rfl, rfl, (by show 1 + 1 ≤ sizeLine; decide +kernel), fun t ht => ?_⟩
        have hlen : ts.length ≤ 100000 := by
          have := congrArg List.length ets
          rw [List.length_map, List.length_map, List.length_map, List.length_take] at this
          omega
        refine ⟨_, hD2, ?_, fun c5 hc5 => ⟨?_, by omega, ts ++ [(S [z.toNat], t)], ?_, ?_, ?_⟩⟩
        · rw [List.length_map]
          have : sizeLine = 16777216 := sizeLine_eq
          omega
        · exact fun b o eb => by rw [upd_ne (ne_of_none eb hD)]; exact s2 b o eb
        · rw [upd_same, S_one, List.map_append]
          rfl
        · rw [List.map_append, ets, List.take_add_one, e]
          simp [nats]
        · intro y hy
          rcases List.mem_append.mp hy with hy | hy
          · have := hts y hy
            omega
          · rw [List.mem_singleton.mp hy]
            show c < t ∧ t < c5
            omega
    · rintro H2 c2 ⟨s2, hc2, ts, hD2, ets, hts⟩ c3 hc3
      rw [List.length_map, List.take_of_length_le (Nat.le_refl _)] at ets
      have hlen : ts.length = row.length := by
        have := congrArg List.length ets
        rw [List.length_map, List.length_map, List.length_map] at this
        exact this
      refine ⟨D, ts, rfl, hD2, ?_, fun z hz => ?_, fun hn => ?_⟩
      · rw [ets]
        have e1 : ((nats row).map fun b => S [b]).map (·.length) = (nats row).map fun _ => 2 := by
          rw [List.map_map]
          exact List.map_congr_left fun b _ => S_len [b]
        rw [e1]
        have e2 : ("" : Str).length = 0 := by decide +kernel
        rw [e2, List.map_const', List.sum_replicate_nat, List.length_map]
        omega
      · subst hz
        have h1 := hts z (List.mem_singleton.mpr rfl)
        have e1 : z.1 = S (nats row) := by
          match row, hlen, ets with
          | [b], _, ets => exact (List.cons.inj ets).1
        rw [e1]
        exact k _ _ _ h1.1 (by omega) s2
      · rw [ets, join_S]
        exact k _ _ _ (by omega) (by omega) s2
end
end RT

namespace RT
open PySem L2 TL

/-- a rule's dict, and the tokens of its sides -/
structure DX where
  d : Addr
  x : Nat
  y : Nat
  hx : x ≠ 0
  hy : y ≠ 0
  hxy : x ≠ y
instance : Coe DX Addr := ⟨DX.d⟩
abbrev ruleF (d : DX) (r : Rd09.Rule) : List (Str × V) := [("left", .tok (S r.left) d.x), ("right", .tok (S r.right) d.y), ("last", .bl r.stop)]
def RuleAt (A : Ad) (H : Hp) (a : Addr) (r : Rd09.Rule) : Prop := ∃ d : DX, H a = some (.ins A.Rule d.d (ruleF d r))
def FitAt (A : Ad) (H : Hp) (f : Addr) (k : Nat) (a : Addr) (p : Nat) : Prop := ∃ dx, H f = some (.ins A.Fit dx [("number", .int k), ("rule", .ref a), ("place", .int ((2 * p : Nat) : Int))])
def WatchAt (A : Ad) (H : Hp) (x : Addr) (kept : List Nat) (age span : Nat) : Prop := ∃ dx, H x = some (.ins A.RoundWatch dx [("kept", .str (S kept)), ("age", .int age), ("span", .int span)])
structure RulesAt (A : Ad) (H : Hp) (l : Addr) (as : List Addr) (R : List Rd09.Rule) : Prop where
  lst : H l = some (.lst (as.map V.ref))
  len : as.length = R.length
  at_ : ∀ (j : Nat) (a : Addr), as[j]? = some a → ∃ r, R[j]? = some r ∧ RuleAt A H a r
theorem RulesAt.same {A : Ad} {H H' : Hp} {l : Addr} {as : List Addr} {R : List Rd09.Rule} (h : RulesAt A H l as R) (s : Same H H') : RulesAt A H' l as R :=
  ⟨s _ _ h.lst, h.len, fun j a e => let ⟨r, h1, dx, h2⟩ := h.at_ j a e; ⟨r, h1, dx, s _ _ h2⟩⟩

theorem s_left {d : DX} {r : Rd09.Rule} : (ruleF d r).lookup ("left" : Str) = some (.tok (S r.left) d.x) := look_hit
theorem s_right {d : DX} {r : Rd09.Rule} : (ruleF d r).lookup ("right" : Str) = some (.tok (S r.right) d.y) := (look_miss (by decide +kernel)).trans look_hit
theorem s_last {d : DX} {r : Rd09.Rule} : (ruleF d r).lookup ("last" : Str) = some (.bl r.stop) := (look_miss (by decide +kernel)).trans ((look_miss (by decide +kernel)).trans look_hit)

section
variable {P : Program} {w : World} {K : PySem.W.Frag} {mg : Str → Option Value} {base : Heap} {A : Ad}
theorem ok_Rule_init {f : Addr} {fd : FuncData} (F : Fun K "__init__" "Rule.__init__" s_Rule_init f fd) (T : Txt K mg A) : FnOk P w K mg base CX0 1 f fd p_Rule_init (spInit3 A.Rule "left" "right" "last") := by
  refine F.ok sc_Rule_init (fun vs H Q E h => ?_) (fun cdv B outer s H vs Q E hr h => ?_)
  · obtain ⟨p, dx, a, b, c, rfl, _⟩ := h
    rfl
  · obtain ⟨p, dx, a, b, c, rfl, hp, k⟩ := h
    refine ⟨_, pss_cons (ps_fld (pv 0) (pv 1) rfl) (pss_cons (ps_fld (pv 0) (pv 2) rfl) (pss_one (ps_fld (pv 0) (pv 3) rfl))), ?_⟩
    refine ⟨_, rfl, _, rfl, p, _, dx, _, rfl, hp, T.cl_Rule, T.na_Rule_left, (by show 0 < 1000; decide), ?_⟩
    refine ⟨_, rfl, _, rfl, p, _, dx, _, rfl, upd_same, T.cl_Rule, T.na_Rule_right, (by show 1 < 1000; decide), ?_⟩
    have e1 : putF "right" b (putF "left" a []) = ([("left", a), ("right", b)] : List (Str × V)) := putF_miss (by decide +kernel)
    rw [e1]
    refine ⟨_, rfl, _, rfl, p, _, dx, _, rfl, upd_same, T.cl_Rule, T.na_Rule_last, (by show 2 < 1000; decide), ?_⟩
    have e2 : putF "last" c ([("left", a), ("right", b)] : List (Str × V)) = ([("left", a), ("right", b), ("last", c)] : List (Str × V)) := (putF_miss (by decide +kernel)).trans (congrArg (List.cons _) (putF_miss (by decide +kernel)))
    rw [e2]
    exact k _ upd_same (Keep.upd.trans (Keep.upd.trans Keep.upd))
theorem ok_Fit_init {f : Addr} {fd : FuncData} (F : Fun K "__init__" "Fit.__init__" s_Fit_init f fd) (T : Txt K mg A) : FnOk P w K mg base CX0 1 f fd p_Fit_init (spInit3 A.Fit "number" "rule" "place") := by
  refine F.ok sc_Fit_init (fun vs H Q E h => ?_) (fun cdv B outer s H vs Q E hr h => ?_)
  · obtain ⟨p, dx, a, b, c, rfl, _⟩ := h
    rfl
  · obtain ⟨p, dx, a, b, c, rfl, hp, k⟩ := h
    refine ⟨_, pss_cons (ps_fld (pv 0) (pv 1) rfl) (pss_cons (ps_fld (pv 0) (pv 2) rfl) (pss_one (ps_fld (pv 0) (pv 3) rfl))), ?_⟩
    refine ⟨_, rfl, _, rfl, p, _, dx, _, rfl, hp, T.cl_Fit, T.na_Fit_number, (by show 0 < 1000; decide), ?_⟩
    refine ⟨_, rfl, _, rfl, p, _, dx, _, rfl, upd_same, T.cl_Fit, T.na_Fit_rule, (by show 1 < 1000; decide), ?_⟩
    have e1 : putF "rule" b (putF "number" a []) = ([("number", a), ("rule", b)] : List (Str × V)) := putF_miss (by decide +kernel)
    rw [e1]
    refine ⟨_, rfl, _, rfl, p, _, dx, _, rfl, upd_same, T.cl_Fit, T.na_Fit_place, (by show 2 < 1000; decide), ?_⟩
    have e2 : putF "place" c ([("number", a), ("rule", b)] : List (Str × V)) = ([("number", a), ("rule", b), ("place", c)] : List (Str × V)) := (putF_miss (by decide +kernel)).trans (congrArg (List.cons _) (putF_miss (by decide +kernel)))
    rw [e2]
    exact k _ upd_same (Keep.upd.trans (Keep.upd.trans Keep.upd))
end

def spWatch (A : Ad) : Sp := fun vs H Q _ => ∃ (p dx : Addr) (t : List Nat), vs = [.ref p, .str (S t)] ∧ H p = some (.ins A.RoundWatch dx []) ∧ ∀ H', WatchAt A H' p t 0 1 → Keep p H H' → Q .non H'
def spRound (A : Ad) : Sp := fun vs H Q _ => ∃ (p : Addr) (kept t : List Nat) (age span : Nat), vs = [.ref p, .str (S t)] ∧ WatchAt A H p kept age span ∧ Bytes kept ∧ Bytes t ∧
  (t = kept → ∀ H', WatchAt A H' p kept 0 span → Keep p H H' → Q (.int ((age + 1 : Nat) : Int)) H') ∧
  (t ≠ kept → ∀ H', (WatchAt A H' p kept (age + 1) span ∨ WatchAt A H' p t 0 (span * 2)) → Keep p H H' → Q (.int 0) H')
section
variable {P : Program} {w : World} {K : PySem.W.Frag} {mg : Str → Option Value} {base : Heap} {A : Ad}
theorem ok_RoundWatch_init {f : Addr} {fd : FuncData} (F : Fun K "__init__" "RoundWatch.__init__" s_RoundWatch_init f fd) (T : Txt K mg A) : FnOk P w K mg base CX0 1 f fd p_RoundWatch_init (spWatch A) := by
  refine F.ok sc_RoundWatch_init (fun vs H Q E h => ?_) (fun cdv B outer s H vs Q E hr h => ?_)
  · obtain ⟨p, dx, a, rfl, _⟩ := h
    rfl
  · obtain ⟨p, dx, a, rfl, hp, k⟩ := h
    refine ⟨_, pss_cons (ps_fld (pv 0) (pv 1) rfl) (pss_cons (ps_fld (pv 0) pe_int rfl) (pss_one (ps_fld (pv 0) pe_int rfl))), ?_⟩
    refine ⟨_, rfl, _, rfl, p, _, dx, _, rfl, hp, T.cl_RoundWatch, T.na_RoundWatch_kept, (by show 0 < 1000; decide), ?_⟩
    refine ⟨_, rfl, p, _, dx, _, rfl, upd_same, T.cl_RoundWatch, T.na_RoundWatch_age, (by show 1 < 1000; decide), ?_⟩
    have e1 : putF "age" (V.int 0) (putF "kept" (V.str (S a)) []) = ([("kept", .str (S a)), ("age", .int 0)] : List (Str × V)) := putF_miss (by decide +kernel)
    rw [e1]
    refine ⟨_, rfl, p, _, dx, _, rfl, upd_same, T.cl_RoundWatch, T.na_RoundWatch_span, (by show 2 < 1000; decide), ?_⟩
    have e2 : putF "span" (V.int 1) ([("kept", .str (S a)), ("age", .int 0)] : List (Str × V)) = ([("kept", .str (S a)), ("age", .int 0), ("span", .int 1)] : List (Str × V)) := (putF_miss (by decide +kernel)).trans (congrArg (List.cons _) (putF_miss (by decide +kernel)))
    rw [e2]
    exact k _ ⟨dx, upd_same⟩ (Keep.upd.trans (Keep.upd.trans Keep.upd))
abbrev watchF (kept : V) (age span : V) : List (Str × V) := [("kept", kept), ("age", age), ("span", span)]
theorem w_kept {a b c : V} : (watchF a b c).lookup ("kept" : Str) = some a := look_hit
theorem w_age {a b c : V} : (watchF a b c).lookup ("age" : Str) = some b := (look_miss (by decide +kernel)).trans look_hit
theorem w_span {a b c : V} : (watchF a b c).lookup ("span" : Str) = some c := (look_miss (by decide +kernel)).trans ((look_miss (by decide +kernel)).trans look_hit)
theorem w_put_kept {a b c x : V} : putF "kept" x (watchF a b c) = watchF x b c := putF_hit
theorem w_put_age {a b c x : V} : putF "age" x (watchF a b c) = watchF a x c := (putF_miss (by decide +kernel)).trans (congrArg (List.cons _) putF_hit)
theorem w_put_span {a b c x : V} : putF "span" x (watchF a b c) = watchF a b x := (putF_miss (by decide +kernel)).trans (congrArg (List.cons _) ((putF_miss (by decide +kernel)).trans (congrArg (List.cons _) putF_hit)))
theorem ok_RoundWatch_round_length {f : Addr} {fd : FuncData} (F : Fun K "round_length" "RoundWatch.round_length" s_RoundWatch_round_length f fd) (T : Txt K mg A) : FnOk P w K mg base CX0 1 f fd p_RoundWatch_round_length (spRound A) := by
  refine F.ok sc_RoundWatch_round_length (fun vs H Q E h => ?_) (fun cdv B outer s H vs Q E hr h => ?_)
  · obtain ⟨p, kept, t, age, span, rfl, _⟩ := h
    rfl
  · obtain ⟨p, kept, t, age, span, rfl, ⟨dx, hp⟩, hbk, hbt, k1, k2⟩ := h
    have nd := sc_RoundWatch_round_length.nd
    refine ⟨_, pss_cons (ps_fld (pv 0) (pe_op op_add (pe_fld (pv 0) rfl) pe_int) rfl)
      (pss_cons (ps_if (pt_cmpR op_eq (pv 1) (pe_fld (pv 0) rfl) (nomark _))
          (pss_cons (ps_set (i := 2) nd rfl (Or.inl rfl) (pe_fld (pv 0) rfl)) (pss_cons (ps_fld (pv 0) pe_int rfl) (pss_one (ps_ret (pv 2))))) pss_nil)
      (pss_cons (ps_if (pt_cmpR op_eq (pe_fld (pv 0) rfl) (pe_fld (pv 0) rfl) (nomark _))
          (pss_cons (ps_fld (pv 0) (pv 1) rfl) (pss_cons (ps_fld (pv 0) pe_int rfl) (pss_one (ps_fld (pv 0) (pe_op op_mul (pe_fld (pv 0) rfl) pe_int) rfl)))) pss_nil)
      (pss_one (ps_ret pe_int)))), ?_⟩
    refine ⟨_, rfl, p, _, dx, _, _, rfl, hp, T.cl_RoundWatch, T.na_RoundWatch_age, w_age, _, _, rfl, rfl, _, rfl, p, _, dx, _, rfl, hp, T.cl_RoundWatch, T.na_RoundWatch_age, (by show 3 < 1000; decide), ?_⟩
    rw [w_put_age]
    dsimp only
    have ea : ((age : Int) + 1) = ((age + 1 : Nat) : Int) := by omega
    rw [ea]
    refine ⟨_, rfl, _, rfl, p, _, dx, _, _, rfl, upd_same, T.cl_RoundWatch, T.na_RoundWatch_kept, w_kept, rfl, _, rfl, ite2 (fun c => ?_) (fun c => ?_)⟩
    · have e : t = kept := S_inj hbt hbk (V.str.inj (of_decide_eq_true c))
      refine ⟨_, rfl, p, _, dx, _, _, rfl, upd_same, T.cl_RoundWatch, T.na_RoundWatch_age, w_age, ?_⟩
      refine ⟨_, rfl, p, _, dx, _, rfl, upd_same, T.cl_RoundWatch, T.na_RoundWatch_age, (by show 3 < 1000; decide), ?_⟩
      rw [w_put_age]
      refine ⟨_, rfl, ?_⟩
      exact k1 e _ ⟨dx, upd_same⟩ (Keep.upd.trans Keep.upd)
    · have e : t ≠ kept := fun z => c (by rw [z]; exact decide_eq_true rfl)
      refine ⟨_, rfl, p, _, dx, _, _, rfl, upd_same, T.cl_RoundWatch, T.na_RoundWatch_age, w_age, _, rfl, p, _, dx, _, _, rfl, upd_same, T.cl_RoundWatch, T.na_RoundWatch_span, w_span, rfl, _, rfl, ite2 (fun c => ?_) (fun c => ?_)⟩
      · refine ⟨_, rfl, _, rfl, p, _, dx, _, rfl, upd_same, T.cl_RoundWatch, T.na_RoundWatch_kept, (by show 3 < 1000; decide), ?_⟩
        rw [w_put_kept]
        refine ⟨_, rfl, p, _, dx, _, rfl, upd_same, T.cl_RoundWatch, T.na_RoundWatch_age, (by show 3 < 1000; decide), ?_⟩
        rw [w_put_age]
        refine ⟨_, rfl, p, _, dx, _, _, rfl, upd_same, T.cl_RoundWatch, T.na_RoundWatch_span, w_span, _, _, rfl, rfl, .inr ⟨by decide, by decide⟩, _, rfl, p, _, dx, _, rfl, upd_same, T.cl_RoundWatch, T.na_RoundWatch_span, (by show 3 < 1000; decide), ?_⟩
        rw [w_put_span]
        dsimp only
        have es : ((span : Int) * 2) = ((span * 2 : Nat) : Int) := by omega
        rw [es]
        exact k2 e _ (.inr ⟨dx, upd_same⟩) (Keep.upd.trans (Keep.upd.trans (Keep.upd.trans Keep.upd)))
      · exact k2 e _ (.inl ⟨dx, upd_same⟩) Keep.upd
end
end RT

namespace RT
open PySem L2 TL

/-- enumerate(list), by a word -/
theorem for_enum {K : PySem.W.Frag} {a : Addr} {xs : List V} {g : TG} {tb : TS} {D : Ends} {σ : St} {H : Hp} (Pv : Nat → St → Hp → Prop) (h0 : Pv 0 σ H) (hl : ∀ i σ H, i ≤ xs.length → Pv i σ H → SqL K H a xs)
    (hs : ∀ i x T σ H, xs[i]? = some x → Pv i σ H → H T = none → g (.ref T) σ (upd H T (.tup [.int (i : Nat), x])) fun σ2 H2 => tb { D with nx := Pv (i + 1), ct := Pv (i + 1), bk := D.nx } σ2 H2) (hd : ∀ σ H, Pv xs.length σ H → D.nx σ H) :
    ∃ W : Nat → Nat → St → Hp → Prop, (∃ m, W 0 m σ H) ∧ ∀ i m σ H, W i m σ H →
      ((Ite K a).stop i H ∧ D.nx σ H) ∨ ((Ite K a).go i H ∧ ∃ N : St → Hp → Prop, (∀ σ' H', N σ' H' → ∃ m', m' < m ∧ W (i + 1) m' σ' H') ∧ ∀ x H', (Ite K a).yld i H x H' → g x σ H' fun σ2 H2 => tb { D with nx := N, ct := N, bk := D.nx } σ2 H2) := by
  refine ⟨fun i m σ H => m = xs.length - i ∧ i ≤ xs.length ∧ Pv i σ H, ⟨xs.length, by simp, Nat.zero_le _, h0⟩, ?_⟩
  rintro i m σ H ⟨rfl, hi, p⟩
  have q := hl i σ H hi p
  by_cases hlt : i < xs.length
  · refine .inr ⟨⟨xs, xs[i], q, by simp [hlt]⟩, Pv (i + 1), fun σ' H' p' => ⟨xs.length - (i + 1), by omega, rfl, hlt, p'⟩, fun x H' y => ?_⟩
    obtain ⟨T, z, rfl, hT, rfl, y⟩ := y
    exact hs i z T σ _ (y xs q) p hT
  · have e : i = xs.length := by omega
    subst e
    exact .inl ⟨⟨xs, q, Nat.le_refl _⟩, hd σ H p⟩

theorem fnd_all {l t : List Nat} (hl : Bytes l) (ht : Bytes t) : fnd (S t) (S l) 0 (S t).length = ofO (Rd09.findAt l t) := by
  have h := fnd_S hl ht (Nat.le_refl _) (findAt_first l t)
  rw [S_len]
  exact h
theorem fnd_same {l t : List Nat} {r : Rd09.Rule} {p : Nat} (hl : Bytes l) (ht : Bytes (Rd09.put r t p)) (hp : p + r.left.length ≤ t.length) (hn : ∀ j, j < p → ¬ RT.At l t j) :
    fnd (S (Rd09.put r t p)) (S l) (2 * (p - l.length)) (S (Rd09.put r t p)).length = ofO (Rd09.findAt l (Rd09.put r t p)) := by
  obtain ⟨o, h, _⟩ : ∃ o, First l (Rd09.put r t p) (p - l.length) (Rd09.put r t p).length o ∧ True := by
    obtain ⟨o, h⟩ := first_ex l (Rd09.put r t p) (p - l.length) (Rd09.put r t p).length
    exact ⟨o, h, trivial⟩
  have h1 := fnd_S hl ht (Nat.le_refl _) h
  have h2 := findAt_of_first (first_after_same hp hn h)
  rw [S_len, h1, h2]
theorem fnd_less {l t : List Nat} {r : Rd09.Rule} {p : Nat} (hl : Bytes l) (ht : Bytes (Rd09.put r t p)) (hp : p + r.left.length ≤ t.length) (hn : ∀ j, ¬ RT.At l t j) :
    fnd (S (Rd09.put r t p)) (S l) (2 * (p - l.length)) (min (2 * p + 2 * r.right.length + 2 * l.length) (S (Rd09.put r t p)).length) = ofO (Rd09.findAt l (Rd09.put r t p)) := by
  obtain ⟨o, h⟩ := first_ex l (Rd09.put r t p) (p - l.length) (min (p + r.right.length + l.length) (Rd09.put r t p).length)
  have h1 := fnd_S hl ht (Nat.min_le_right _ _) h
  have h2 := findAt_of_first (first_after_less hp hn h)
  have e : min (2 * p + 2 * r.right.length + 2 * l.length) (S (Rd09.put r t p)).length = 2 * min (p + r.right.length + l.length) (Rd09.put r t p).length := by
    rw [S_len]; omega
  rw [e, h1, h2]

abbrev fitF (k a p : V) : List (Str × V) := [("number", k), ("rule", a), ("place", p)]
theorem f_number {a b c : V} : (fitF a b c).lookup ("number" : Str) = some a := look_hit
theorem f_rule {a b c : V} : (fitF a b c).lookup ("rule" : Str) = some b := (look_miss (by decide +kernel)).trans look_hit
theorem f_place {a b c : V} : (fitF a b c).lookup ("place" : Str) = some c := (look_miss (by decide +kernel)).trans ((look_miss (by decide +kernel)).trans look_hit)

theorem S_small {t : List Nat} (h : t.length ≤ 100000) : (S t).length ≤ sizeLine := by
  rw [S_len]
  have : sizeLine = 16777216 := sizeLine_eq
  omega

/-- place_after, before a valid fit: the place that the whole text has -/
def spAfter (A : Ad) : Sp := fun vs H Q _ => ∃ (t l : List Nat) (n k p : Nat) (f a : Addr) (r : Rd09.Rule), vs = [.str (S t), .str (S l), .int n, .ref f] ∧ FitAt A H f k a p ∧ RuleAt A H a r ∧ l.length ≤ 100000 ∧ r.right.length ≤ 100000 ∧
  Q (.int (if n = k then fnd (S t) (S l) (2 * (p - l.length)) (S t).length else fnd (S t) (S l) (2 * (p - l.length)) (min (2 * p + 2 * r.right.length + 2 * l.length) (S t).length))) H
section
variable {P : Program} {w : World} {K : PySem.W.Frag} {mg : Str → Option Value} {base : Heap} {A : Ad}
theorem ok_place_after {f : Addr} {fd : FuncData} (F : Fun K "place_after" "place_after" s_place_after f fd) (T : Txt K mg A) : FnOk P w K mg base CX0 1 f fd p_place_after (spAfter A) := by
  refine F.ok sc_place_after (fun vs H Q E h => ?_) (fun cdv B outer s H vs Q E hr h => ?_)
  · obtain ⟨t, l, n, k, p, f, a, r, rfl, _⟩ := h
    rfl
  · obtain ⟨t, l, n, k, p, f, a, r, rfl, ⟨dx, hf⟩, ⟨da, ha⟩, hl, hrr, q⟩ := h
    have nd := sc_place_after.nd
    refine ⟨_, pss_cons (ps_set (i := 4) nd rfl (Or.inl rfl) (pe_callB (call_max2 rfl) (by rfl) T.bn_max PyProof.Rows.boot_max (pa_cons pe_int (pa_cons (pe_op op_sub (pe_fld (pv 3) rfl) (pe_callB call_len_str (by rfl) T.bn_len PySem.boot_len (pa_cons (pv 1) pa_nil))) pa_nil))))
      (pss_cons (ps_if (pt_cmpR op_eq (pv 2) (pe_fld (pv 3) rfl) (nomark _)) (pss_one (ps_ret (pe_bm PySem.F.plainAttrs_str PySem.F.slot_str_find PySem.F.type_str_find mt_fnd2 (pv 0) (pa_cons (pv 1) (pa_cons (pv 4) pa_nil))))) pss_nil)
      (pss_one (ps_ret (pe_bm PySem.F.plainAttrs_str PySem.F.slot_str_find PySem.F.type_str_find mt_fnd3 (pv 0) (pa_cons (pv 1) (pa_cons (pv 4) (pa_cons (pe_op op_add (pe_op op_add (pe_fld (pv 3) rfl) (pe_callB call_len_str (by rfl) T.bn_len PySem.boot_len (pa_cons (pe_fg (pe_fld (pe_fld (pv 3) rfl) rfl)) pa_nil))) (pe_callB call_len_str (by rfl) T.bn_len PySem.boot_len (pa_cons (pv 1) pa_nil))) pa_nil))))))), ?_⟩
    refine ⟨_, rfl, f, _, dx, _, _, rfl, hf, T.cl_Fit, T.na_Fit_place, f_place, _, rfl, _, rfl, S_small hl, _, _, rfl, rfl, _, _, rfl, ?_⟩
    dsimp only
    have e1 : (if ((2 * p : Nat) : Int) - ((S l).length : Int) > 0 then ((2 * p : Nat) : Int) - ((S l).length : Int) else 0) = ((2 * (p - l.length) : Nat) : Int) := by
      rw [S_len]
      split <;> omega
    rw [e1]
    refine ⟨_, rfl, _, rfl, f, _, dx, _, _, rfl, hf, T.cl_Fit, T.na_Fit_number, f_number, rfl, _, rfl, ite2 (fun c => ?_) (fun c => ?_)⟩
    · have e : n = k := by
        have := V.int.inj (of_decide_eq_true c)
        omega
      rw [if_pos e] at q
      refine ⟨_, rfl, rfl, _, rfl, _, rfl, _, _, _, rfl, rfl, ?_⟩
      rw [from_nat]
      exact q
    · have e : ¬ n = k := fun z => c (by rw [z]; exact decide_eq_true rfl)
      rw [if_neg e] at q
      refine ⟨_, rfl, rfl, _, rfl, _, rfl, _, rfl, f, _, dx, _, _, rfl, hf, T.cl_Fit, T.na_Fit_place, f_place, _, rfl, f, _, dx, _, _, rfl, hf, T.cl_Fit, T.na_Fit_rule, f_rule, a, _, da, _, _, rfl, ha, T.cl_Rule, T.na_Rule_right, s_right, _, rfl, S_small hrr, _, _, rfl, rfl, _, rfl, _, rfl, S_small hl, _, _, rfl, rfl, _, _, _, _, rfl, rfl, ?_⟩
      dsimp only
      have e2 : ((2 * p : Nat) : Int) + ((S r.right).length : Int) + ((S l).length : Int) = ((2 * p + 2 * r.right.length + 2 * l.length : Nat) : Int) := by
        rw [S_len, S_len]
        omega
      rw [e2, from_nat, from_nat]
      exact q

/-- a rule's text, and how long it may be -/
structure RulesOk (R : List Rd09.Rule) : Prop where
  le : ∀ r ∈ R, Bytes r.left ∧ Bytes r.right ∧ r.left.length ≤ 32 ∧ r.right.length ≤ 32
def Before (A : Ad) (H : Hp) (R : List Rd09.Rule) (t : List Nat) (b : V) : Prop := b = .non ∨ ∃ (f : Addr) (k : Nat) (a : Addr) (p : Nat) (r : Rd09.Rule) (t0 : List Nat), b = .ref f ∧ FitAt A H f k a p ∧ RuleAt A H a r ∧ R[k]? = some r ∧ Rd09.next R t0 = some (k, p) ∧ t = Rd09.put r t0 p
def spNext (A : Ad) : Sp := fun vs H Q _ => ∃ (l : Addr) (t : List Nat) (b : V) (as : List Addr) (R : List Rd09.Rule), vs = [.ref l, .str (S t), b] ∧ RulesAt A H l as R ∧ RulesOk R ∧ Bytes t ∧ Before A H R t b ∧
  (Rd09.next R t = none → ∀ H', Same H H' → Q .non H') ∧
  (∀ (k p : Nat) (a : Addr) (r : Rd09.Rule), Rd09.next R t = some (k, p) → as[k]? = some a → R[k]? = some r → ∀ (x : Addr) (H' : Hp), H x = none → FitAt A H' x k a p → Same H H' → Q (.ref x) H')

theorem nf_tail {D : Ends} {σ : St} {H H4 : Hp} {l a : Addr} {t : List Nat} {b : V} {r : Rd09.Rule} {i : Nat} {o : Option Nat}
    (hσ : σ = [some (.ref l), some (.str (S t)), some b, some (.int (i : Nat)), some (.ref a), some (.int (ofO o))]) (hs : Same H H4) (ho : Rd09.findAt r.left t = o)
    (hn : o = none → D.nx σ H4) (hy : ∀ p, o = some p → ∀ (x : Addr) (H' : Hp), H x = none → FitAt A H' x i a p → Same H H' → D.rt (.ref x) H') :
    tIfS (tTest (tOp (rI0 fun i j => .bl (decide (j ≤ i))) (tVar 5) (tC (.int 0)))) (tRet (tMake A.Fit (spInit3 A.Fit "number" "rule" "place") [] E0 (tCons (tVar 3) (tCons (tVar 4) (tCons (tVar 5) tNil))))) tNext D σ H4 := by
  subst hσ
  cases o with
  | none => exact ⟨_, rfl, _, _, rfl, rfl, _, rfl, iteF (hn rfl)⟩
  | some p =>
    have c : decide ((0 : Int) ≤ ofO (some p)) = true := decide_eq_true (by show (0 : Int) ≤ ((2 * p : Nat) : Int); omega)
    refine ⟨_, rfl, _, _, rfl, rfl, _, rfl, ite2 (fun _ => ?_) (fun z => absurd c z)⟩
    refine ⟨_, rfl, _, rfl, _, rfl, fun x dx nx ndx ne => ?_⟩
    refine ⟨x, dx, _, _, _, rfl, upd_same, fun H5 h5 kp => ⟨rfl, ?_⟩⟩
    exact hy p rfl x H5 (hs.free nx) ⟨dx, h5⟩ (hs.trans (Same.made nx ndx kp))

theorem ok_next_fit {f : Addr} {fd : FuncData} (F : Fun K "next_fit" "next_fit" s_next_fit f fd) (T : Txt K mg A) (gA : FnIn P w K mg base 1 "place_after" p_place_after (spAfter A)) (gF : MkIn P w K mg base 1 A.Fit p_Fit_init (spInit3 A.Fit "number" "rule" "place")) :
    FnOk P w K mg base CX0 3 f fd p_next_fit (spNext A) := by
  refine F.ok sc_next_fit (fun vs H Q E h => ?_) (fun cdv B outer s H vs Q E hr h => ?_)
  · obtain ⟨l, t, b, as, R, rfl, _⟩ := h
    rfl
  · obtain ⟨l, t, b, as, R, rfl, hR, hok, ht, hb, k1, k2⟩ := h
    obtain ⟨fA, fdA, GA, bA, mA, kA⟩ := gA
    obtain ⟨fF, fdF, GF, bF, MF⟩ := gF
    have nd := sc_next_fit.nd
    have hr1 : Room 1 _ := hr.mono (by decide)
    refine ⟨_, pss_cons (ps_for PassesOwn.never rfl (pi_enum (by rfl) T.bn_enumerate (pa_cons (pv 0) pa_nil)) (pg_tup rfl (pgs_cons (pg_name (i := 3) nd rfl (Or.inl rfl)) (pgs_cons (pg_name (i := 4) nd rfl (Or.inl rfl)) pgs_nil)))
        (pss_cons (ps_if (PW.pt (pw_or (pt_cmpR op_isN (pv 2) pe_non (nomark _)) (pw_or1 (pt_cmpR op_gt (pv 3) (pe_fld (pv 2) rfl) (nomark _)))))
            (pss_one (ps_set (i := 5) nd rfl (Or.inl rfl) (pe_bm PySem.F.plainAttrs_str PySem.F.slot_str_find PySem.F.type_str_find mt_fnd1 (pv 1) (pa_cons (pe_fg (pe_fld (pv 4) rfl)) pa_nil))))
            (pss_one (ps_set (i := 5) nd rfl (Or.inl rfl) (pe_call GA hr1 (by rfl) mA kA bA .nil pass0 (pa_cons (pv 1) (pa_cons (pe_fg (pe_fld (pv 4) rfl)) (pa_cons (pv 3) (pa_cons (pv 2) pa_nil))))))))
          (pss_one (ps_if (pt_cmpR op_ge (pv 5) pe_int (nomark _)) (pss_one (ps_ret (pe_make MF GF hr (by rfl) T.mg_Fit bF .nil pass0 (pa_cons (pv 3) (pa_cons (pv 4) (pa_cons (pv 5) pa_nil)))))) pss_nil))))
      (pss_one (ps_ret pe_non)), ?_⟩
    refine ⟨_, rfl, l, _, rfl, SqL.of hR.lst, for_enum (K := K) (a := l) (xs := as.map V.ref) (fun i σ H2 => ∃ v3 v4 v5, σ = [some (.ref l), some (.str (S t)), some b, v3, v4, v5] ∧ Same H H2 ∧ ∀ (j : Nat) (q : Rd09.Rule), j < i → R[j]? = some q → Rd09.findAt q.left t = none)
      ⟨none, none, none, rfl, Same.refl _, fun j q hj => absurd hj (Nat.not_lt_zero _)⟩ (fun i σ H2 _ ⟨_, _, _, _, s2, _⟩ => s2.seq (SqL.of hR.lst)) ?_ ?_⟩
    · rintro i x T0 σ H2 hx ⟨v3, v4, v5, rfl, s2, hless⟩ hT0
      rw [List.getElem?_map] at hx
      cases e : as[i]? with
      | none => rw [e] at hx; cases hx
      | some a =>
        rw [e] at hx
        cases hx
        obtain ⟨r, hri, da, ha0⟩ := hR.at_ i a e
        obtain ⟨hl1, hl2, hl3, hl4⟩ := hok.le r (List.mem_of_getElem? hri)
        have s3 : Same H (upd H2 T0 (.tup [.int (i : Nat), .ref a])) := s2.trans (Same.new hT0)
        have ha := s3 _ _ ha0
        have tail : ∀ {D : Ends} {σ : St} {H4 : Hp}, σ = [some (.ref l), some (.str (S t)), some b, some (.int (i : Nat)), some (.ref a), some (.int (ofO (Rd09.findAt r.left t)))] → Same H H4 →
            (D.nx = fun σ H2 => ∃ v3 v4 v5, σ = [some (.ref l), some (.str (S t)), some b, v3, v4, v5] ∧ Same H H2 ∧ ∀ (j : Nat) (q : Rd09.Rule), j < i + 1 → R[j]? = some q → Rd09.findAt q.left t = none) → D.rt = Q →
            tIfS (tTest (tOp (rI0 fun i j => .bl (decide (j ≤ i))) (tVar 5) (tC (.int 0)))) (tRet (tMake A.Fit (spInit3 A.Fit "number" "rule" "place") [] E0 (tCons (tVar 3) (tCons (tVar 4) (tCons (tVar 5) tNil))))) tNext D σ H4 := fun {D σ H4} hσ s4 hnx hrt => by
          refine nf_tail (r := r) hσ s4 rfl (fun eo => ?_) (fun p eo x H' nx hf sx => ?_)
          · rw [hnx]
            refine ⟨_, _, _, hσ, s4, fun j q hj hq => ?_⟩
            rcases Nat.lt_or_eq_of_le (Nat.le_of_lt_succ hj) with h1 | h1
            · exact hless j q h1 hq
            · rw [h1, hri] at hq
              cases hq
              exact eo
          · rw [hrt]
            exact k2 i p a r (next_some hri eo hless) e hri x H' nx hf sx
        refine ⟨T0, _, rfl, SqT.of upd_same, rfl, _, _, rfl, _, _, rfl, rfl, ?_⟩
        rcases hb with rfl | ⟨f, k, a', p, r', t0, rfl, ⟨df, hf0⟩, ⟨da', ha0'⟩, hrk, hnx, et⟩
        · refine ⟨_, rfl, rfl, _, rfl, ite2 (fun _ => iteT ?_) (fun c => absurd (decide_eq_true rfl) c)⟩
          refine ⟨_, rfl, rfl, _, rfl, a, _, da, _, _, rfl, ha, T.cl_Rule, T.na_Rule_left, s_left, _, _, rfl, rfl, ?_⟩
          rw [fnd_all hl1 ht]
          exact tail rfl s3 rfl rfl
        · have hf := s3 _ _ hf0
          have ha' := s3 _ _ ha0'
          obtain ⟨at1, at2, at3⟩ := next_fits hnx hrk
          refine ⟨_, rfl, rfl, _, rfl, ite2 (fun c => absurd (of_decide_eq_true c) (by intro z; cases z)) (fun _ => ?_)⟩
          refine ⟨_, rfl, _, rfl, f, _, df, _, _, rfl, hf, T.cl_Fit, T.na_Fit_number, f_number, _, _, rfl, rfl, _, rfl, ite2 (fun c => ?_) (fun c => ?_)⟩
          · refine ⟨_, rfl, rfl, _, rfl, a, _, da, _, _, rfl, ha, T.cl_Rule, T.na_Rule_left, s_left, _, _, rfl, rfl, ?_⟩
            rw [fnd_all hl1 ht]
            exact tail rfl s3 rfl rfl
          · have hle : i ≤ k := by
              have := of_decide_eq_false (Bool.eq_false_iff.mpr c)
              omega
            have hbr := hok.le r' (List.mem_of_getElem? hrk)
            refine ⟨_, rfl, _, rfl, a, _, da, _, _, rfl, ha, T.cl_Rule, T.na_Rule_left, s_left, _, rfl, _, rfl, t, r.left, i, k, p, f, a', r', rfl, ⟨df, hf⟩, ⟨da', ha'⟩, by omega, by omega, ?_⟩
            have ev : (if i = k then fnd (S t) (S r.left) (2 * (p - r.left.length)) (S t).length else fnd (S t) (S r.left) (2 * (p - r.left.length)) (min (2 * p + 2 * r'.right.length + 2 * r.left.length) (S t).length)) = ofO (Rd09.findAt r.left t) := by
              subst et
              by_cases ek : i = k
              · rw [if_pos ek]
                have er : r = r' := by
                  rw [ek, hrk] at hri
                  exact (Option.some.inj hri).symm
                subst er
                exact fnd_same hl1 ht at1.1 at2
              · rw [if_neg ek]
                exact fnd_less hl1 ht at1.1 (at3 i r (by omega) hri)
            rw [ev]
            exact tail rfl s3 rfl rfl
    · rintro σ H2 ⟨v3, v4, v5, rfl, s2, hless⟩
      refine k1 (next_none fun j q hq => hless j q ?_ hq) H2 s2
      rw [List.length_map, hR.len]
      exact (List.getElem?_eq_some_iff.mp hq).1
end
end RT

namespace RT
open PySem L2 TL

/-! ### ranges with the step 2 -/
theorem lc_rangeC {lo c : Int} {n : Nat} {g : TG} {tt : TT} {te : TE} {vs : List Nat} {σ : St} {H1 : Hp} {D : Addr} {Qd : Hp → Prop} (Pv : Nat → Hp → Prop) (h0 : Pv 0 (upd H1 D (.lst [])))
    (hs : ∀ i H, i < n → Pv i H → g (.int (lo + (i : Nat) * c)) (wipe σ vs) H fun σ2 H2 => wipe σ2 vs = wipe σ vs ∧ tt σ2 H2 fun b H3 =>
      if b = true then te σ2 H3 fun y H4 => ∃ acc, H4 D = some (.lst acc) ∧ acc.length < sizeLine ∧ Pv (i + 1) (upd H4 D (.lst (acc ++ [y]))) else Pv (i + 1) H3) (hd : ∀ H, Pv n H → Qd H) :
    ∃ W : Nat → Nat → Hp → Prop, (∃ m, W 0 m (upd H1 D (.lst []))) ∧ ∀ i m H, W i m H →
      ((Itc lo c n).stop i H ∧ Qd H) ∨ ((Itc lo c n).go i H ∧ ∃ Nx : Hp → Prop, (∀ H', Nx H' → ∃ m', m' < m ∧ W (i + 1) m' H') ∧ ∀ x H', (Itc lo c n).yld i H x H' → g x (wipe σ vs) H' fun σ2 H2 => wipe σ2 vs = wipe σ vs ∧ tt σ2 H2 fun b H3 =>
        if b = true then te σ2 H3 fun y H4 => ∃ acc, H4 D = some (.lst acc) ∧ acc.length < sizeLine ∧ Nx (upd H4 D (.lst (acc ++ [y]))) else Nx H3) := by
  refine ⟨fun i m H => m = n - i ∧ i ≤ n ∧ Pv i H, ⟨n, by simp, Nat.zero_le _, h0⟩, ?_⟩
  rintro i m H ⟨rfl, hi, p⟩
  by_cases hlt : i < n
  · refine .inr ⟨hlt, Pv (i + 1), fun H' p' => ⟨n - (i + 1), by omega, rfl, hlt, p'⟩, fun x H' y => ?_⟩
    obtain ⟨e, y⟩ := y
    subst e y
    exact hs i _ hlt p
  · have e : i = n := by omega
    subst e
    exact .inl ⟨Nat.le_refl _, hd H p⟩
section
variable {X : Cx} {o e : Expr} {es : List Expr} {to : TE} {t : TA} {name : Str} {apos cpos : Pos} {T id : String} {r : V → List V → Hp → VK → Prop}
/-- a builtin method within a comprehension's block -/
theorem pe_bmK {K : PySem.W.Frag} (hK : X.K = K) (pa : PlainAttrs T) (slot : Slot T name id) (hty : typeOf (.builtin id) = pure (.type "method_descriptor")) (hm : MtR X id r) (ho : PE X o to) (ha : PA X (e :: es) t)
    (hbase : attributeBase o name X.env (eval o X.env) = eval o X.env := by rfl)
    (hfew : ((backTo cpos (starEach (e :: es) X.env)).all (fun x => !x.1) && (backToKw cpos (keywordEach [] X.env)).all (fun x => x.1.isSome)
      && decide ((e :: es).length + ([] : List Keyword).length + (if ([] : List Keyword).isEmpty then 0 else 1) < 30)) = true := by rfl)
    (hline : (apos.endLine == cpos.line) = true := by rfl) (hs : starEach (e :: es) X.env = (false, eval e X.env) :: starEach es X.env := by rfl) (hplain : (backTo cpos (starEach es X.env)).any (·.1) = false := by rfl) :
    PE X (.Call (.Attribute o name apos) (e :: es) [] cpos) (tBM K T r to t) := by
  subst hK
  exact pe_bm pa slot hty hm ho ha hbase hfew hline hs hplain
end
theorem rgc2 {lo hi : Int} {n : Nat} (h0 : 0 ≤ lo) (h1 : hi < 100000) (h2 : 0 ≤ hi) (h3 : hi - lo = 2 * (n : Int) ∨ hi - lo = 2 * (n : Int) - 1) (h4 : lo ≤ 100000) : RgC lo hi 2 n := by
  refine ⟨by decide, by decide, ?_, ?_⟩
  · unfold Builtin.Range.small Builtin.Range.rangeSize
    simp only [Builtin.Range.rangeFitsLong, Bool.and_eq_true, Bool.or_eq_true, decide_eq_true_eq, beq_iff_eq, show ((2 : Int) > 0) by decide, if_true]
    split <;> omega
  · unfold Builtin.Range.rangeSize
    rw [if_pos (by decide)]
    split <;> omega

def spTurned (A : Ad) : Sp := fun vs H Q _ => ∃ (t : List Nat) (a : Addr) (p : Nat) (r : Rd09.Rule), vs = [.str (S t), .ref a, .int ((2 * p : Nat) : Int)] ∧ RuleAt A H a r ∧ t.length ≤ 8192 ∧ r.left.length ≤ 32 ∧ r.right.length ≤ 32 ∧ Q (.str (S (Rd09.put r t p))) H
def spShortens (A : Ad) : Sp := fun vs H Q _ => ∃ (a : Addr) (r : Rd09.Rule), vs = [.ref a] ∧ RuleAt A H a r ∧ r.left.length ≤ 32 ∧ r.right.length ≤ 32 ∧ Q (.bl (decide (r.right.length < r.left.length))) H
def spBack : Sp := fun vs H Q _ => ∃ (t : List Nat), vs = [.str (S t)] ∧ Bytes t ∧ t.length ≤ 8192 ∧ ∀ (l : Addr) (H' : Hp), H l = none → H' l = some (.lst (t.map fun (b : Nat) => V.int (b : Int))) → Same H H' → Q (.ref l) H'
theorem high_find : ∀ k : Nat, k < 16 → fnd "ABCDEFGHIJKLMNOP" ⟨#[65 + k]⟩ 0 ("ABCDEFGHIJKLMNOP" : Str).length = (k : Int) := by decide +kernel
theorem low_find : ∀ k : Nat, k < 16 → fnd "abcdefghijklmnop" ⟨#[97 + k]⟩ 0 ("abcdefghijklmnop" : Str).length = (k : Int) := by decide +kernel
section
variable {P : Program} {w : World} {K : PySem.W.Frag} {mg : Str → Option Value} {base : Heap} {A : Ad}
theorem ok_turned {f : Addr} {fd : FuncData} (F : Fun K "turned" "turned" s_turned f fd) (T : Txt K mg A) : FnOk P w K mg base CX0 1 f fd p_turned (spTurned A) := by
  refine F.ok sc_turned (fun vs H Q E h => ?_) (fun cdv B outer s H vs Q E hr h => ?_)
  · obtain ⟨t, a, p, r, rfl, _⟩ := h
    rfl
  · obtain ⟨t, a, p, r, rfl, ⟨da, ha⟩, h1, h2, h3, q⟩ := h
    refine ⟨_, pss_one (ps_ret (pe_op op_add_str (pe_op op_add_str (pe_slice sl_str (pv 0) po_none (po_some (pv 2))) (pe_fg (pe_fld (pv 1) rfl)))
      (pe_slice sl_str (pv 0) (po_some (pe_op op_add (pv 2) (pe_callB call_len_str (by rfl) T.bn_len PySem.boot_len (pa_cons (pe_fg (pe_fld (pv 1) rfl)) pa_nil)))) po_none))), ?_⟩
    refine ⟨_, rfl, _, rfl, _, rfl, _, rfl, S_small (by omega), ?_⟩
    rw [S_cut]
    refine ⟨_, rfl, a, _, da, _, _, rfl, ha, T.cl_Rule, T.na_Rule_right, s_right, _, _, rfl, rfl, ?_, ?_⟩
    · rw [S_len, S_len, List.length_take]
      have : sizeLine = 16777216 := sizeLine_eq
      omega
    rw [S_append]
    refine ⟨_, rfl, _, rfl, _, rfl, a, _, da, _, _, rfl, ha, T.cl_Rule, T.na_Rule_left, s_left, _, rfl, S_small (by omega), _, _, rfl, rfl, ?_⟩
    dsimp only
    have e1 : ((2 * p : Nat) : Int) + ((S r.left).length : Int) = ((2 * (p + r.left.length) : Nat) : Int) := by
      rw [S_len]; omega
    rw [e1]
    refine ⟨_, rfl, _, rfl, S_small (by omega), ?_⟩
    rw [S_rest]
    refine ⟨_, _, rfl, rfl, ?_, ?_⟩
    · rw [S_len, S_len, List.length_append, List.length_take, List.length_drop]
      have : sizeLine = 16777216 := sizeLine_eq
      omega
    rw [S_append]
    have e2 : t.take p ++ r.right ++ t.drop (p + r.left.length) = Rd09.put r t p := List.append_assoc _ _ _
    rw [e2]
    exact q
theorem ok_shortens {f : Addr} {fd : FuncData} (F : Fun K "shortens" "shortens" s_shortens f fd) (T : Txt K mg A) : FnOk P w K mg base CX0 1 f fd p_shortens (spShortens A) := by
  refine F.ok sc_shortens (fun vs H Q E h => ?_) (fun cdv B outer s H vs Q E hr h => ?_)
  · obtain ⟨a, r, rfl, _⟩ := h
    rfl
  · obtain ⟨a, r, rfl, ⟨da, ha⟩, h1, h2, q⟩ := h
    refine ⟨_, pss_one (ps_ret (pe_cmpR op_lt (pe_callB call_len_str (by rfl) T.bn_len PySem.boot_len (pa_cons (pe_fg (pe_fld (pv 0) rfl)) pa_nil)) (pe_callB call_len_str (by rfl) T.bn_len PySem.boot_len (pa_cons (pe_fg (pe_fld (pv 0) rfl)) pa_nil)) (nomark _))), ?_⟩
    refine ⟨_, rfl, a, _, da, _, _, rfl, ha, T.cl_Rule, T.na_Rule_right, s_right, _, rfl, S_small (by omega), _, rfl, a, _, da, _, _, rfl, ha, T.cl_Rule, T.na_Rule_left, s_left, _, rfl, S_small (by omega), _, _, rfl, rfl, ?_⟩
    have e : decide (((S r.right).length : Int) < ((S r.left).length : Int)) = decide (r.right.length < r.left.length) := by
      rw [decide_eq_decide, S_len, S_len]; omega
    show Q (.bl (decide (((S r.right).length : Int) < ((S r.left).length : Int)))) H
    rw [e]
    exact q
theorem ok_read_back {f : Addr} {fd : FuncData} (F : Fun K "read_back" "read_back" s_read_back f fd) (T : Txt K mg A) : FnOk P w K mg base CX0 1 f fd p_read_back spBack := by
  refine F.ok sc_read_back (fun vs H Q E h => ?_) (fun cdv B outer s H vs Q E hr h => ?_)
  · obtain ⟨t, rfl, _⟩ := h
    rfl
  · obtain ⟨t, rfl, hb, hl, k⟩ := h
    obtain ⟨u1, hm1, r1⟩ := T.gl_HIGH_SIGNS
    obtain ⟨u2, hm2, r2⟩ := T.gl_LOW_SIGNS
    obtain ⟨u3, hm3, r3⟩ := T.gl_SIGNS_PER_BYTE
    refine ⟨_, pss_one (ps_ret (pe_lc rfl sc_read_back.nd (pi_range3 (by rfl) T.bn_range (pa_cons pe_int (pa_cons (pe_callB call_len_str (by rfl) T.bn_len PySem.boot_len (pa_cons (pv 0) pa_nil)) (pa_cons (pe_glob (by rfl) hm3 r3) pa_nil))))
      (blkOk_by (N := n_read_back) (sc := defScope s_read_back) (own := [("place", 1)]) (by decide +kernel)) (fun _ _ _ _ _ => pg_name (i := 1) sc_read_back.nd rfl (Or.inl rfl)) (fun _ _ _ _ _ => pts_nil)
      (fun _ _ _ _ _ => pe_op op_add (pe_op op_mul (pe_bmK (K := K) rfl PySem.F.plainAttrs_str PySem.F.slot_str_find PySem.F.type_str_find mt_fnd1 (pe_glob (by rfl) hm1 r1) (pa_cons (pe_ix ix_str (pv 0) (pv 1) (fun _ _ => rfl)) pa_nil)) pe_int)
        (pe_bmK (K := K) rfl PySem.F.plainAttrs_str PySem.F.slot_str_find PySem.F.type_str_find mt_fnd1 (pe_glob (by rfl) hm2 r2) (pa_cons (pe_ix ix_str (pv 0) (pe_op op_add (pv 1) pe_int) (fun _ _ => rfl)) pa_nil))))), ?_⟩
    refine ⟨_, rfl, _, rfl, S_small (by omega), _, _, _, t.length, rfl, rgc2 (by decide) (by rw [S_len]; omega) (by omega) (.inl (by rw [S_len]; omega)) (by decide), fun D hD => ?_⟩
    have s0 : Same H (upd H D (.lst [])) := Same.new hD
    refine lc_rangeC (fun i H2 => Same H H2 ∧ H2 D = some (.lst ((t.take i).map fun (b : Nat) => V.int (b : Int)))) ⟨s0, upd_same⟩ ?_ ?_
    · rintro i H2 hi ⟨s2, hD2⟩
      refine ⟨rfl, ?_⟩
      unfold tYes
      dsimp only
      rw [if_pos rfl]
      obtain ⟨b, eb⟩ : ∃ b, t[i]? = some b := ⟨t[i], List.getElem?_eq_getElem hi⟩
      have hb256 := hb b (List.mem_of_getElem? eb)
      have p1 : (0 : Int) + ((i : Nat) : Int) * 2 = ((2 * i : Nat) : Int) := by omega
      have p2 : (0 : Int) + ((i : Nat) : Int) * 2 + 1 = ((2 * i + 1 : Nat) : Int) := by omega
      have g1 : (S t).cps.toList[2 * i]? = some (65 + b / 16) := by
        show (en t)[2 * i]? = _
        rw [en_get_even, eb]; rfl
      have g2 : (S t).cps.toList[2 * i + 1]? = some (97 + b % 16) := by
        show (en t)[2 * i + 1]? = _
        rw [en_get_odd, eb]; rfl
      refine ⟨rfl, _, rfl, _, rfl, _, _, _, rfl, rfl, S_small (by omega), at_of' p1 g1, _, _, rfl, rfl, ?_⟩
      rw [high_find _ (by omega)]
      refine ⟨_, _, rfl, rfl, .inr ⟨by decide, by decide⟩, rfl, _, rfl, _, rfl, _, _, rfl, rfl, _, _, _, rfl, rfl, S_small (by omega), at_of' p2 g2, _, _, rfl, rfl, ?_⟩
      rw [low_find _ (by omega)]
      refine ⟨_, _, rfl, rfl, _, hD2, ?_, ?_, ?_⟩
      · rw [List.length_map, List.length_take]
        have : sizeLine = 16777216 := sizeLine_eq
        omega
      · exact fun c o ec => by rw [upd_ne (ne_of_none ec hD)]; exact s2 c o ec
      · rw [upd_same, List.take_add_one, eb]
        have ev : ((b / 16 : Nat) : Int) * 16 + ((b % 16 : Nat) : Int) = (b : Int) := by omega
        show some (HO.lst (_ ++ [V.int (((b / 16 : Nat) : Int) * 16 + ((b % 16 : Nat) : Int))])) = _
        rw [ev]
        simp
    · rintro H2 ⟨s2, hD2⟩
      rw [List.take_of_length_le (Nat.le_refl _)] at hD2
      exact k D H2 hD hD2 s2
end
end RT

namespace RT
open PySem L2 TL

abbrev turnF (l j t o n : V) : List (Str × V) := [("rules", l), ("joined", j), ("text", t), ("over", o), ("steps", n)]
theorem t_rules {a b c d e : V} : (turnF a b c d e).lookup ("rules" : Str) = some a := look_hit
theorem t_joined {a b c d e : V} : (turnF a b c d e).lookup ("joined" : Str) = some b := (look_miss (by decide +kernel)).trans look_hit
theorem t_text {a b c d e : V} : (turnF a b c d e).lookup ("text" : Str) = some c := (look_miss (by decide +kernel)).trans ((look_miss (by decide +kernel)).trans look_hit)
theorem t_over {a b c d e : V} : (turnF a b c d e).lookup ("over" : Str) = some d := (look_miss (by decide +kernel)).trans ((look_miss (by decide +kernel)).trans ((look_miss (by decide +kernel)).trans look_hit))
theorem t_steps {a b c d e : V} : (turnF a b c d e).lookup ("steps" : Str) = some e := (look_miss (by decide +kernel)).trans ((look_miss (by decide +kernel)).trans ((look_miss (by decide +kernel)).trans ((look_miss (by decide +kernel)).trans look_hit)))
theorem t_put_rules {a b c d e x : V} : putF "rules" x (turnF a b c d e) = turnF x b c d e := putF_hit
theorem t_put_joined {a b c d e x : V} : putF "joined" x (turnF a b c d e) = turnF a x c d e := (putF_miss (by decide +kernel)).trans (congrArg (List.cons _) putF_hit)
theorem t_put_text {a b c d e x : V} : putF "text" x (turnF a b c d e) = turnF a b x d e := (putF_miss (by decide +kernel)).trans (congrArg (List.cons _) ((putF_miss (by decide +kernel)).trans (congrArg (List.cons _) putF_hit)))
theorem t_put_over {a b c d e x : V} : putF "over" x (turnF a b c d e) = turnF a b c x e := (putF_miss (by decide +kernel)).trans (congrArg (List.cons _) ((putF_miss (by decide +kernel)).trans (congrArg (List.cons _) ((putF_miss (by decide +kernel)).trans (congrArg (List.cons _) putF_hit)))))
theorem t_put_steps {a b c d e x : V} : putF "steps" x (turnF a b c d e) = turnF a b c d x := (putF_miss (by decide +kernel)).trans (congrArg (List.cons _) ((putF_miss (by decide +kernel)).trans (congrArg (List.cons _) ((putF_miss (by decide +kernel)).trans (congrArg (List.cons _) ((putF_miss (by decide +kernel)).trans (congrArg (List.cons _) putF_hit)))))))
theorem t_no {a b c d e : V} {m : Str} (h1 : ¬ m = "rules") (h2 : ¬ m = "joined") (h3 : ¬ m = "text") (h4 : ¬ m = "over") (h5 : ¬ m = "steps") : (turnF a b c d e).lookup m = none :=
  (look_miss h1).trans ((look_miss h2).trans ((look_miss h3).trans ((look_miss h4).trans ((look_miss h5).trans rfl))))
abbrev turnS (l : Addr) (j : V) (s : Rd09.Run) : List (Str × V) := turnF (.ref l) j (.str (S s.text)) (.int (s.over : Nat)) (.int (s.steps : Nat))
def TurnAt (A : Ad) (H : Hp) (p l : Addr) (j : V) (s : Rd09.Run) : Prop := ∃ dx, H p = some (.ins A.Turning dx (turnS l j s))

def spTurning (A : Ad) : Sp := fun vs H Q _ => ∃ (p dx : Addr), vs = [.ref p] ∧ H p = some (.ins A.Turning dx []) ∧ ∀ (l : Addr) (H' : Hp), H l = none → H' l = some (.lst []) → TurnAt A H' p l .non ⟨[], 0, 0⟩ → Keep p H H' → Q .non H'
def spAnew (A : Ad) : Sp := fun vs H Q _ => ∃ (p l : Addr) (j : V) (t : List Nat) (s : Rd09.Run), vs = [.ref p, .str (S t)] ∧ TurnAt A H p l j s ∧ ∀ H', TurnAt A H' p l j ⟨t, 0, 0⟩ → Keep p H H' → Q .non H'
def spBegin (A : Ad) : Sp := fun vs H Q _ => ∃ (p l : Addr) (j : V) (s : Rd09.Run), vs = [.ref p] ∧ TurnAt A H p l j s ∧ ∀ (l' : Addr) (H' : Hp), H l' = none → H' l' = some (.lst []) → TurnAt A H' p l' .non ⟨[], 0, 0⟩ → Keep p H H' → Q (.int 0) H'
def spText (K : PySem.W.Frag) (A : Ad) : Sp := fun vs H Q _ => ∃ (p l a : Addr) (j : V) (s : Rd09.Run) (row : List Int), vs = [.ref p, .ref a] ∧ TurnAt A H p l j s ∧ SqL K H a (row.map V.int) ∧ Oct row ∧ row.length ≤ 8192 ∧ ∀ H', TurnAt A H' p l j ⟨nats row, 0, 0⟩ → Keep p H H' → Q (.int 0) H'

section
variable {P : Program} {w : World} {K : PySem.W.Frag} {mg : Str → Option Value} {base : Heap} {A : Ad}
theorem ok_Turning_init {f : Addr} {fd : FuncData} (F : Fun K "__init__" "Turning.__init__" s_Turning_init f fd) (T : Txt K mg A) : FnOk P w K mg base CX0 1 f fd p_Turning_init (spTurning A) := by
  refine F.ok sc_Turning_init (fun vs H Q E h => ?_) (fun cdv B outer s H vs Q E hr h => ?_)
  · obtain ⟨p, dx, rfl, _⟩ := h
    rfl
  · obtain ⟨p, dx, rfl, hp, k⟩ := h
    obtain ⟨u1, hm1, r1⟩ := T.gl_NOT_OVER
    refine ⟨_, pss_cons (ps_fld (pv 0) (pe_lst pa_nil) rfl) (pss_cons (ps_fld (pv 0) pe_non rfl) (pss_cons (ps_fld (pv 0) pe_str rfl) (pss_cons (ps_fld (pv 0) (pe_glob (by rfl) hm1 r1) rfl) (pss_one (ps_fld (pv 0) pe_int rfl))))), ?_⟩
    refine ⟨Nat.zero_le _, fun l hl => ?_⟩
    have hp1 : upd H l (.lst []) p = some (.ins A.Turning dx []) := by rw [upd_ne (ne_of_none hp hl)]; exact hp
    refine ⟨_, rfl, p, _, dx, _, rfl, hp1, T.cl_Turning, T.na_Turning_rules, (by show 0 < 1000; decide), ?_⟩
    refine ⟨_, rfl, p, _, dx, _, rfl, upd_same, T.cl_Turning, T.na_Turning_joined, (by show 1 < 1000; decide), ?_⟩
    have e0 : putF "joined" V.non (putF "rules" (V.ref l) []) = ([("rules", .ref l), ("joined", .non)] : List (Str × V)) := putF_miss (by decide +kernel)
    rw [e0]
    refine ⟨_, rfl, p, _, dx, _, rfl, upd_same, T.cl_Turning, T.na_Turning_text, (by show 2 < 1000; decide), ?_⟩
    have e1 : putF "text" (V.str "") ([("rules", .ref l), ("joined", .non)] : List (Str × V)) = ([("rules", .ref l), ("joined", .non), ("text", .str (S []))] : List (Str × V)) := (putF_miss (by decide +kernel)).trans (congrArg (List.cons _) ((putF_miss (by decide +kernel)).trans (by rw [S_nil]; rfl)))
    rw [e1]
    refine ⟨_, rfl, p, _, dx, _, rfl, upd_same, T.cl_Turning, T.na_Turning_over, (by show 3 < 1000; decide), ?_⟩
    have e2 : putF "over" (V.int 0) ([("rules", .ref l), ("joined", .non), ("text", .str (S []))] : List (Str × V)) = ([("rules", .ref l), ("joined", .non), ("text", .str (S [])), ("over", .int 0)] : List (Str × V)) := (putF_miss (by decide +kernel)).trans (congrArg (List.cons _) ((putF_miss (by decide +kernel)).trans (congrArg (List.cons _) (putF_miss (by decide +kernel)))))
    rw [e2]
    refine ⟨_, rfl, p, _, dx, _, rfl, upd_same, T.cl_Turning, T.na_Turning_steps, (by show 4 < 1000; decide), ?_⟩
    have e3 : putF "steps" (V.int 0) ([("rules", .ref l), ("joined", .non), ("text", .str (S [])), ("over", .int 0)] : List (Str × V)) = turnS l .non ⟨[], 0, 0⟩ := (putF_miss (by decide +kernel)).trans (congrArg (List.cons _) ((putF_miss (by decide +kernel)).trans (congrArg (List.cons _) ((putF_miss (by decide +kernel)).trans (congrArg (List.cons _) (putF_miss (by decide +kernel)))))))
    rw [e3]
    have nl : l ≠ p := (ne_of_none hp hl).symm
    refine k l _ hl ?_ ⟨dx, upd_same⟩ fun b o e n => ?_
    · rw [upd_ne nl, upd_ne nl, upd_ne nl, upd_ne nl, upd_ne nl, upd_same]
    · rw [upd_ne n, upd_ne n, upd_ne n, upd_ne n, upd_ne n, upd_ne (ne_of_none e hl)]
      exact e
theorem ok_Turning_start_anew {f : Addr} {fd : FuncData} (F : Fun K "start_anew" "Turning.start_anew" s_Turning_start_anew f fd) (T : Txt K mg A) : FnOk P w K mg base CX0 1 f fd p_Turning_start_anew (spAnew A) := by
  refine F.ok sc_Turning_start_anew (fun vs H Q E h => ?_) (fun cdv B outer s H vs Q E hr h => ?_)
  · obtain ⟨p, l, j, t, s, rfl, _⟩ := h
    rfl
  · obtain ⟨p, l, j, t, s, rfl, ⟨dx, hp⟩, k⟩ := h
    obtain ⟨u1, hm1, r1⟩ := T.gl_NOT_OVER
    refine ⟨_, pss_cons (ps_fld (pv 0) (pv 1) rfl) (pss_cons (ps_fld (pv 0) (pe_glob (by rfl) hm1 r1) rfl) (pss_one (ps_fld (pv 0) pe_int rfl))), ?_⟩
    refine ⟨_, rfl, _, rfl, p, _, dx, _, rfl, hp, T.cl_Turning, T.na_Turning_text, (by show 5 < 1000; decide), ?_⟩
    rw [t_put_text]
    refine ⟨_, rfl, p, _, dx, _, rfl, upd_same, T.cl_Turning, T.na_Turning_over, (by show 5 < 1000; decide), ?_⟩
    rw [t_put_over]
    refine ⟨_, rfl, p, _, dx, _, rfl, upd_same, T.cl_Turning, T.na_Turning_steps, (by show 5 < 1000; decide), ?_⟩
    rw [t_put_steps]
    exact k _ ⟨dx, upd_same⟩ (Keep.upd.trans (Keep.upd.trans Keep.upd))
theorem ok_Turning_begin {f : Addr} {fd : FuncData} (F : Fun K "begin" "Turning.begin" s_Turning_begin f fd) (T : Txt K mg A) (gS : MeIn P w K mg base 1 A.Turning "start_anew" p_Turning_start_anew (spAnew A)) : FnOk P w K mg base CX0 2 f fd p_Turning_begin (spBegin A) := by
  refine F.ok sc_Turning_begin (fun vs H Q E h => ?_) (fun cdv B outer s H vs Q E hr h => ?_)
  · obtain ⟨p, l, j, s, rfl, _⟩ := h
    rfl
  · obtain ⟨p, l, j, s, rfl, ⟨dx, hp⟩, k⟩ := h
    obtain ⟨u1, hm1, r1⟩ := T.gl_DONE
    obtain ⟨fS, fdS, GS, bS, mS⟩ := gS
    refine ⟨_, pss_cons (ps_fld (pv 0) (pe_lst pa_nil) rfl) (pss_cons (ps_fld (pv 0) pe_non rfl) (pss_cons (ps_expr (pe_meth (pv 0) T.cl_Turning mS GS hr bS .nil pass0 (pa_cons pe_str pa_nil))) (pss_one (ps_ret (pe_glob (by rfl) hm1 r1))))), ?_⟩
    refine ⟨Nat.zero_le _, fun l' hl' => ?_⟩
    have hp1 : upd H l' (.lst []) p = some (.ins A.Turning dx (turnS l j s)) := by rw [upd_ne (ne_of_none hp hl')]; exact hp
    refine ⟨_, rfl, p, _, dx, _, rfl, hp1, T.cl_Turning, T.na_Turning_rules, (by show 5 < 1000; decide), ?_⟩
    rw [t_put_rules]
    refine ⟨_, rfl, p, _, dx, _, rfl, upd_same, T.cl_Turning, T.na_Turning_joined, (by show 5 < 1000; decide), ?_⟩
    rw [t_put_joined]
    have nl : l' ≠ p := (ne_of_none hp hl').symm
    refine ⟨_, rfl, p, dx, _, rfl, upd_same, t_no (by decide +kernel) (by decide +kernel) (by decide +kernel) (by decide +kernel) (by decide +kernel), p, l', .non, [], s, by rw [S_nil]; rfl, ⟨dx, upd_same⟩, fun H' h' kp => ?_⟩
    refine k l' H' hl' (kp l' _ ?_ nl) h' fun b o e n => kp b o ?_ n
    · rw [upd_ne nl, upd_ne nl, upd_same]
    · rw [upd_ne n, upd_ne n, upd_ne (ne_of_none e hl')]
      exact e
theorem ok_Turning_give_text {f : Addr} {fd : FuncData} (F : Fun K "give_text" "Turning.give_text" s_Turning_give_text f fd) (T : Txt K mg A) (gS : MeIn P w K mg base 1 A.Turning "start_anew" p_Turning_start_anew (spAnew A)) (gW : FnIn P w K mg base 1 "written" p_written (spWritten K)) :
    FnOk P w K mg base CX0 2 f fd p_Turning_give_text (spText K A) := by
  refine F.ok sc_Turning_give_text (fun vs H Q E h => ?_) (fun cdv B outer s H vs Q E hr h => ?_)
  · obtain ⟨p, l, a, j, s, row, rfl, _⟩ := h
    rfl
  · obtain ⟨p, l, a, j, s, row, rfl, ⟨dx, hp⟩, hs, ho, hl, k⟩ := h
    obtain ⟨u1, hm1, r1⟩ := T.gl_DONE
    obtain ⟨u2, hm2, r2⟩ := T.gl_LONGEST_TEXT
    obtain ⟨u3, hm3, r3⟩ := T.gl_OUT_OF_RANGE
    obtain ⟨fS, fdS, GS, bS, mS⟩ := gS
    obtain ⟨fW, fdW, GW, bW, mW, kW⟩ := gW
    refine ⟨_, pss_cons (ps_if (pt_cmpR op_gt (pe_callB call_len_seq (by rfl) T.bn_len PySem.boot_len (pa_cons (pv 1) pa_nil)) (pe_glob (by rfl) hm2 r2) (nomark _)) (pss_one (ps_ret (pe_glob (by rfl) hm3 r3))) pss_nil)
      (pss_cons (ps_expr (pe_meth (pv 0) T.cl_Turning mS GS hr bS .nil pass0 (pa_cons (pe_call GW hr (by rfl) mW kW bW .nil pass0 (pa_cons (pv 1) pa_nil)) pa_nil))) (pss_one (ps_ret (pe_glob (by rfl) hm1 r1)))), ?_⟩
    have c : decide ((8192 : Int) < ((row.map V.int).length : Int)) = false := decide_eq_false (by rw [List.length_map]; omega)
    refine ⟨_, rfl, a, _, rfl, .inl hs, _, _, rfl, rfl, _, rfl, ite2 (fun z => absurd z (by rw [c]; exact Bool.false_ne_true)) (fun _ => ?_)⟩
    refine ⟨_, rfl, p, dx, _, rfl, hp, t_no (by decide +kernel) (by decide +kernel) (by decide +kernel) (by decide +kernel) (by decide +kernel), _, rfl, a, row, rfl, hs, ho, by omega, fun H1 s1 => ?_⟩
    exact ⟨p, l, j, nats row, s, rfl, ⟨dx, s1 _ _ hp⟩, fun H' h' kp => k H' h' (s1.keep.trans kp)⟩
end
end RT

namespace RT
open PySem L2 TL

def spGrows (A : Ad) : Sp := fun vs H Q _ => ∃ (p l f a : Addr) (j : V) (s : Rd09.Run) (k i : Nat) (r : Rd09.Rule), vs = [.ref p, .ref f] ∧ TurnAt A H p l j s ∧ FitAt A H f k a i ∧ RuleAt A H a r ∧ i + r.left.length ≤ s.text.length ∧ s.text.length ≤ 8192 ∧ r.right.length ≤ 32 ∧
  Q (.bl (decide (8192 < (Rd09.put r s.text i).length))) H
def spStep (A : Ad) : Sp := fun vs H Q _ => ∃ (p l f a : Addr) (j : V) (s : Rd09.Run) (k i : Nat) (r : Rd09.Rule), vs = [.ref p, .ref f] ∧ TurnAt A H p l j s ∧ s.over = 0 ∧ FitAt A H f k a i ∧ RuleAt A H a r ∧ i + r.left.length ≤ s.text.length ∧ s.text.length ≤ 8192 ∧ r.left.length ≤ 32 ∧ r.right.length ≤ 32 ∧
  ∀ H', TurnAt A H' p l j ⟨Rd09.put r s.text i, if r.stop = true then 2 else 0, s.steps + 1⟩ → Keep p H H' → Q .non H'
/-- all but p and x stays -/
def Keep2 (p x : Addr) (H H' : Hp) : Prop := ∀ b o, H b = some o → b ≠ p → b ≠ x → H' b = some o
theorem Keep.two {p x : Addr} {H H' : Hp} (h : Keep p H H') : Keep2 p x H H' := fun b o e n _ => h b o e n
theorem Keep.two' {p x : Addr} {H H' : Hp} (h : Keep x H H') : Keep2 p x H H' := fun b o e _ n => h b o e n
theorem Keep2.trans {p x : Addr} {H H1 H2 : Hp} (a : Keep2 p x H H1) (b : Keep2 p x H1 H2) : Keep2 p x H H2 := fun c o h n m => b c o (a c o h n m) n m
def spSkip (A : Ad) : Sp := fun vs H Q _ => ∃ (p l x : Addr) (j : V) (s : Rd09.Run) (kept : List Nat) (age span ahead : Nat), vs = [.ref p, .ref x, .int (ahead : Nat)] ∧ TurnAt A H p l j s ∧ WatchAt A H x kept age span ∧ Bytes kept ∧ Bytes s.text ∧
  (s.over ≠ 0 → Q (.int (ahead : Nat)) H) ∧
  (s.over = 0 → s.text = kept → ∀ H', TurnAt A H' p l j (more s (ahead - ahead % (age + 1))) → WatchAt A H' x kept 0 span → Keep2 p x H H' → Q (.int ((ahead % (age + 1) : Nat) : Int)) H') ∧
  (s.over = 0 → s.text ≠ kept → ∀ H', TurnAt A H' p l j s → (WatchAt A H' x kept (age + 1) span ∨ WatchAt A H' x s.text 0 (span * 2)) → Keep2 p x H H' → Q (.int (ahead : Nat)) H')
theorem ins_ne {H : Hp} {a b C C' dx dx' : Addr} {fs fs' : List (Str × V)} (h : H a = some (.ins C dx fs)) (h' : H b = some (.ins C' dx' fs')) (hf : fs ≠ fs') : a ≠ b := fun e => by
  rw [e, h'] at h
  cases h
  exact hf rfl
theorem fs_len {fs fs' : List (Str × V)} (h : fs.length ≠ fs'.length) : fs ≠ fs' := fun e => h (by rw [e])
section
variable {P : Program} {w : World} {K : PySem.W.Frag} {mg : Str → Option Value} {base : Heap} {A : Ad}
theorem ok_Turning_grows_too_long {f : Addr} {fd : FuncData} (F : Fun K "grows_too_long" "Turning.grows_too_long" s_Turning_grows_too_long f fd) (T : Txt K mg A) : FnOk P w K mg base CX0 1 f fd p_Turning_grows_too_long (spGrows A) := by
  refine F.ok sc_Turning_grows_too_long (fun vs H Q E h => ?_) (fun cdv B outer s H vs Q E hr h => ?_)
  · obtain ⟨p, l, f, a, j, s, k, i, r, rfl, _⟩ := h
    rfl
  · obtain ⟨p, l, f, a, j, s, k, i, r, rfl, ⟨dp, hp⟩, ⟨df, hf⟩, ⟨da, ha⟩, h1, h2, h3, q⟩ := h
    have nd := sc_Turning_grows_too_long.nd
    obtain ⟨u1, hm1, r1⟩ := T.gl_LONGEST_TEXT
    obtain ⟨u2, hm2, r2⟩ := T.gl_SIGNS_PER_BYTE
    refine ⟨_, pss_cons (ps_set (i := 2) nd rfl (Or.inl rfl) (pe_op op_add (pe_op op_sub (pe_callB call_len_str (by rfl) T.bn_len PySem.boot_len (pa_cons (pe_fld (pv 0) rfl) pa_nil)) (pe_callB call_len_str (by rfl) T.bn_len PySem.boot_len (pa_cons (pe_fg (pe_fld (pe_fld (pv 1) rfl) rfl)) pa_nil)))
        (pe_callB call_len_str (by rfl) T.bn_len PySem.boot_len (pa_cons (pe_fg (pe_fld (pe_fld (pv 1) rfl) rfl)) pa_nil))))
      (pss_one (ps_ret (pe_cmpR op_gt (pv 2) (pe_op op_mul (pe_glob (by rfl) hm1 r1) (pe_glob (by rfl) hm2 r2)) (nomark _)))), ?_⟩
    refine ⟨_, rfl, p, _, dp, _, _, rfl, hp, T.cl_Turning, T.na_Turning_text, t_text, _, rfl, S_small (by omega),
      _, rfl, f, _, df, _, _, rfl, hf, T.cl_Fit, T.na_Fit_rule, f_rule, a, _, da, _, _, rfl, ha, T.cl_Rule, T.na_Rule_left, s_left, _, rfl, S_small (by omega), _, _, rfl, rfl,
      _, rfl, f, _, df, _, _, rfl, hf, T.cl_Fit, T.na_Fit_rule, f_rule, a, _, da, _, _, rfl, ha, T.cl_Rule, T.na_Rule_right, s_right, _, rfl, S_small (by omega), _, _, rfl, rfl, ?_⟩
    refine ⟨_, rfl, _, _, rfl, rfl, .inl ⟨by decide, by decide⟩, _, _, rfl, rfl, ?_⟩
    show Q (.bl (decide ((8192 : Int) * 2 < ((S s.text).length : Int) - ((S r.left).length : Int) + ((S r.right).length : Int)))) H
    have e : decide ((8192 : Int) * 2 < ((S s.text).length : Int) - ((S r.left).length : Int) + ((S r.right).length : Int)) = decide (8192 < (Rd09.put r s.text i).length) := by
      rw [decide_eq_decide, S_len, S_len, S_len]
      have := put_len (r := r) h1
      omega
    rw [e]
    exact q
theorem ok_Turning_take_step {f : Addr} {fd : FuncData} (F : Fun K "take_step" "Turning.take_step" s_Turning_take_step f fd) (T : Txt K mg A) (gT : FnIn P w K mg base 1 "turned" p_turned (spTurned A)) : FnOk P w K mg base CX0 2 f fd p_Turning_take_step (spStep A) := by
  refine F.ok sc_Turning_take_step (fun vs H Q E h => ?_) (fun cdv B outer s H vs Q E hr h => ?_)
  · obtain ⟨p, l, f, a, j, s, k, i, r, rfl, _⟩ := h
    rfl
  · obtain ⟨p, l, f, a, j, s, k, i, r, rfl, ⟨dp, hp⟩, h0, ⟨df, hf⟩, hra, h1, h2, h2', h3, q⟩ := h
    obtain ⟨da, ha⟩ := id hra
    have nd := sc_Turning_take_step.nd
    obtain ⟨u1, hm1, r1⟩ := T.gl_OVER_BY_LAST
    obtain ⟨fT, fdT, GT, bT, mT, kT⟩ := gT
    have npf : f ≠ p := ins_ne hf hp (fs_len (by show 3 ≠ 5; decide))
    have npa : a ≠ p := ins_ne ha hp (fs_len (by show 3 ≠ 5; decide))
    refine ⟨_, pss_cons (ps_fld (pv 0) (pe_call GT hr (by rfl) mT kT bT .nil pass0 (pa_cons (pe_fld (pv 0) rfl) (pa_cons (pe_fld (pv 1) rfl) (pa_cons (pe_fld (pv 1) rfl) pa_nil)))) rfl)
      (pss_cons (ps_fld (pv 0) (pe_op op_add (pe_fld (pv 0) rfl) pe_int) rfl)
      (pss_one (ps_if (pt_val (pe_fld (pe_fld (pv 1) rfl) rfl)) (pss_one (ps_fld (pv 0) (pe_glob (by rfl) hm1 r1) rfl)) pss_nil))), ?_⟩
    refine ⟨_, rfl, p, _, dp, _, _, rfl, hp, T.cl_Turning, T.na_Turning_text, t_text, _, rfl, f, _, df, _, _, rfl, hf, T.cl_Fit, T.na_Fit_rule, f_rule, _, rfl, f, _, df, _, _, rfl, hf, T.cl_Fit, T.na_Fit_place, f_place,
      s.text, a, i, r, rfl, hra, h2, h2', h3, ?_⟩
    refine ⟨_, rfl, p, _, dp, _, rfl, hp, T.cl_Turning, T.na_Turning_text, (by show 5 < 1000; decide), ?_⟩
    rw [t_put_text]
    refine ⟨_, rfl, p, _, dp, _, _, rfl, upd_same, T.cl_Turning, T.na_Turning_steps, t_steps, _, _, rfl, rfl, _, rfl, p, _, dp, _, rfl, upd_same, T.cl_Turning, T.na_Turning_steps, (by show 5 < 1000; decide), ?_⟩
    rw [t_put_steps]
    dsimp only
    have e3 : ((s.steps : Nat) : Int) + 1 = ((s.steps + 1 : Nat) : Int) := by omega
    rw [e3]
    have kk : Keep p H (upd (upd H p (.ins A.Turning dp (turnF (.ref l) j (.str (S (Rd09.put r s.text i))) (.int (s.over : Nat)) (.int (s.steps : Nat))))) p (.ins A.Turning dp (turnF (.ref l) j (.str (S (Rd09.put r s.text i))) (.int (s.over : Nat)) (.int ((s.steps + 1 : Nat) : Int))))) := Keep.upd.trans Keep.upd
    refine ⟨_, rfl, f, _, df, _, _, rfl, kk _ _ hf npf, T.cl_Fit, T.na_Fit_rule, f_rule, a, _, da, _, _, rfl, kk _ _ ha npa, T.cl_Rule, T.na_Rule_last, s_last, _, rfl, ite2 (fun c => ?_) (fun c => ?_)⟩
    · refine ⟨_, rfl, p, _, dp, _, rfl, upd_same, T.cl_Turning, T.na_Turning_over, (by show 5 < 1000; decide), ?_⟩
      rw [t_put_over]
      rw [if_pos c] at q
      exact q _ ⟨dp, upd_same⟩ (kk.trans Keep.upd)
    · rw [if_neg c] at q
      refine q _ ⟨dp, ?_⟩ kk
      rw [upd_same, h0]
theorem ok_Turning_skip_rounds {f : Addr} {fd : FuncData} (F : Fun K "skip_rounds" "Turning.skip_rounds" s_Turning_skip_rounds f fd) (T : Txt K mg A) (gR : MeIn P w K mg base 1 A.RoundWatch "round_length" p_RoundWatch_round_length (spRound A)) :
    FnOk P w K mg base CX0 2 f fd p_Turning_skip_rounds (spSkip A) := by
  refine F.ok sc_Turning_skip_rounds (fun vs H Q E h => ?_) (fun cdv B outer s H vs Q E hr h => ?_)
  · obtain ⟨p, l, x, j, s, kept, age, span, ahead, rfl, _⟩ := h
    rfl
  · obtain ⟨p, l, x, j, s, kept, age, span, ahead, rfl, ⟨dp, hp⟩, ⟨dx, hx⟩, bk, bt, k0, k1, k2⟩ := h
    have nd := sc_Turning_skip_rounds.nd
    obtain ⟨u1, hm1, r1⟩ := T.gl_NOT_OVER
    obtain ⟨fR, fdR, GR, bR, mR⟩ := gR
    have npx : p ≠ x := ins_ne hp hx (fs_len (by show 5 ≠ 3; decide))
    refine ⟨_, pss_cons (ps_if (pt_cmpR op_ne (pe_fld (pv 0) rfl) (pe_glob (by rfl) hm1 r1) (nomark _)) (pss_one (ps_ret (pv 2))) pss_nil)
      (pss_cons (ps_set (i := 3) nd rfl (Or.inl rfl) (pe_meth (pv 1) T.cl_RoundWatch mR GR hr bR .nil pass0 (pa_cons (pe_fld (pv 0) rfl) pa_nil)))
      (pss_cons (ps_if (pt_cmpR op_eq (pv 3) pe_int (nomark _)) (pss_one (ps_ret (pv 2))) pss_nil)
      (pss_cons (ps_set (i := 4) nd rfl (Or.inl rfl) (pe_op op_mod (pv 2) (pv 3)))
      (pss_cons (ps_fld (pv 0) (pe_op op_sub (pe_op op_add (pe_fld (pv 0) rfl) (pv 2)) (pv 4)) rfl)
      (pss_one (ps_ret (pv 4))))))), ?_⟩
    refine ⟨_, rfl, p, _, dp, _, _, rfl, hp, T.cl_Turning, T.na_Turning_over, t_over, rfl, _, rfl, ite2 (fun c => ?_) (fun c => ?_)⟩
    · refine ⟨_, rfl, k0 fun z => ?_⟩
      rw [z] at c
      exact absurd c (by decide)
    · have h0 : s.over = 0 := by
        by_cases z : s.over = 0
        · exact z
        · refine absurd ?_ c
          have : ¬ (V.int ((s.over : Nat) : Int) = V.int 0) := fun e => z (by have := V.int.inj e; omega)
          rw [decide_eq_false this]
          rfl
      refine ⟨_, rfl, x, dx, _, rfl, hx, (look_miss (by decide +kernel)).trans ((look_miss (by decide +kernel)).trans ((look_miss (by decide +kernel)).trans rfl)), _, rfl, p, _, dp, _, _, rfl, hp, T.cl_Turning, T.na_Turning_text, t_text,
        x, kept, s.text, age, span, rfl, ⟨dx, hx⟩, bk, bt, fun et H1 hw kp => ?_, fun et H1 hw kp => ?_⟩
      · have hp1 := kp p _ hp npx
        have c : decide (V.int ((age + 1 : Nat) : Int) = V.int 0) = false := decide_eq_false fun e => by
          have := V.int.inj e
          omega
        refine ⟨_, rfl, rfl, _, rfl, ite2 (fun z => absurd z (by rw [c]; exact Bool.false_ne_true)) (fun _ => ?_)⟩
        refine ⟨_, rfl, _, rfl, _, _, rfl, rfl, (by omega), ?_⟩
        dsimp only
        have em : ((ahead : Nat) : Int) % ((age + 1 : Nat) : Int) = ((ahead % (age + 1) : Nat) : Int) := by omega
        rw [em]
        refine ⟨_, rfl, p, _, dp, _, _, rfl, hp1, T.cl_Turning, T.na_Turning_steps, t_steps, _, rfl, _, _, rfl, rfl, _, rfl, _, _, rfl, rfl, _, rfl, p, _, dp, _, rfl, hp1, T.cl_Turning, T.na_Turning_steps, (by show 5 < 1000; decide), ?_⟩
        rw [t_put_steps]
        dsimp only
        have es : ((s.steps : Nat) : Int) + ((ahead : Nat) : Int) - ((ahead % (age + 1) : Nat) : Int) = ((s.steps + (ahead - ahead % (age + 1)) : Nat) : Int) := by
          have := Nat.mod_le ahead (age + 1)
          omega
        rw [es]
        refine ⟨_, rfl, ?_⟩
        obtain ⟨dx', hx'⟩ := hw
        exact k1 h0 et _ ⟨dp, upd_same⟩ ⟨dx', by rw [upd_ne npx.symm]; exact hx'⟩ (kp.two'.trans Keep.upd.two)
      · have hp1 := kp p _ hp npx
        refine ⟨_, rfl, rfl, _, rfl, ite2 (fun _ => ?_) (fun z => absurd (decide_eq_true rfl) z)⟩
        exact ⟨_, rfl, k2 h0 et _ ⟨dp, hp1⟩ hw kp.two'⟩
end
end RT

namespace RT
open PySem L2 TL

theorem long_is : Rd09.LONG = 8192 := rfl
theorem fs_head {n m : Str} {a b : V} {fs fs' : List (Str × V)} (h : ¬ n = m) : ((n, a) :: fs) ≠ ((m, b) :: fs') := fun e => h (congrArg Prod.fst (List.cons.inj e).1)
theorem TurnAt.ne_lst {A : Ad} {H : Hp} {p l l' : Addr} {j : V} {s : Rd09.Run} {xs : List V} (h : TurnAt A H p l j s) (hl : H l' = some (.lst xs)) : l' ≠ p := by
  obtain ⟨dx, h⟩ := h
  exact ne_of hl h (by intro z; cases z)
theorem RuleAt.ne_turn {A : Ad} {H : Hp} {p l a : Addr} {j : V} {s : Rd09.Run} {r : Rd09.Rule} (h : TurnAt A H p l j s) (ha : RuleAt A H a r) : a ≠ p := by
  obtain ⟨dx, h⟩ := h
  obtain ⟨da, ha⟩ := ha
  exact ins_ne ha h (fs_len (by show 3 ≠ 5; decide))
theorem FitAt.ne_turn {A : Ad} {H : Hp} {p l f a : Addr} {j : V} {s : Rd09.Run} {k i : Nat} (h : TurnAt A H p l j s) (hf : FitAt A H f k a i) : f ≠ p := by
  obtain ⟨dx, h⟩ := h
  obtain ⟨df, hf⟩ := hf
  exact ins_ne hf h (fs_len (by show 3 ≠ 5; decide))
theorem WatchAt.ne_turn {A : Ad} {H : Hp} {p l x : Addr} {j : V} {s : Rd09.Run} {kept : List Nat} {age span : Nat} (h : TurnAt A H p l j s) (hx : WatchAt A H x kept age span) : x ≠ p := by
  obtain ⟨dx, h⟩ := h
  obtain ⟨dw, hx⟩ := hx
  exact ins_ne hx h (fs_len (by show 3 ≠ 5; decide))
theorem RuleAt.ne_watch {A : Ad} {H : Hp} {x a : Addr} {kept : List Nat} {age span : Nat} {r : Rd09.Rule} (hx : WatchAt A H x kept age span) (ha : RuleAt A H a r) : a ≠ x := by
  obtain ⟨dw, hx⟩ := hx
  obtain ⟨da, ha⟩ := ha
  exact ins_ne ha hx (fs_head (by decide +kernel))
theorem FitAt.ne_watch {A : Ad} {H : Hp} {x f a : Addr} {kept : List Nat} {age span k i : Nat} (hx : WatchAt A H x kept age span) (hf : FitAt A H f k a i) : f ≠ x := by
  obtain ⟨dw, hx⟩ := hx
  obtain ⟨df, hf⟩ := hf
  exact ins_ne hf hx (fs_head (by decide +kernel))
theorem RulesAt.keep {A : Ad} {H H' : Hp} {p l' l : Addr} {j : V} {s : Rd09.Run} {as : List Addr} {R : List Rd09.Rule} (h : RulesAt A H l as R) (ht : TurnAt A H p l' j s) (k : Keep p H H') : RulesAt A H' l as R :=
  ⟨k _ _ h.lst (ht.ne_lst h.lst), h.len, fun j a e => by
    obtain ⟨r, h1, h2⟩ := h.at_ j a e
    obtain ⟨dx, h3⟩ := id h2
    exact ⟨r, h1, dx, k _ _ h3 (RuleAt.ne_turn ht h2)⟩⟩

def spRun (A : Ad) : Sp := fun vs H Q _ => ∃ (p l : Addr) (j : V) (as : List Addr) (R : List Rd09.Rule) (s : Rd09.Run) (count : Int), vs = [.ref p, .int count] ∧ TurnAt A H p l j s ∧ RulesAt A H l as R ∧ RulesOk R ∧ Bytes s.text ∧ s.text.length ≤ 8192 ∧
  ((count < 0 ∨ count > 1000000) → Q (.int (-1)) H) ∧
  (∀ n : Nat, count = (n : Int) → n ≤ 1000000 → ∀ H', TurnAt A H' p l j (goesU R n s).1 → Keep p H H' → Q (.int (if (goesU R n s).2 = true then -2 else (((goesU R n s).1.over : Nat) : Int))) H')

/-- between two turns of the loop -/
structure Going (A : Ad) (H : Hp) (p l x : Addr) (j : V) (R : List Rd09.Rule) (g : Rd09.Run × Bool) (H2 : Hp) (s : Rd09.Run) (ahead : Nat) (b : V) : Prop where
  turn : TurnAt A H2 p l j s
  watch : ∃ (kept : List Nat) (age span : Nat), WatchAt A H2 x kept age span ∧ Bytes kept ∧ (s.over = 0 → ∃ u : Rd09.Run, u.text = kept ∧ u.over = 0 ∧ goesU R age u = (s, false))
  keep : Keep p H H2
  bef : s.over = 0 → Before A H2 R s.text b
  goes : goesU R ahead s = g
  bytes : Bytes s.text
  short : s.text.length ≤ 8192
section
variable {P : Program} {w : World} {K : PySem.W.Frag} {mg : Str → Option Value} {base : Heap} {A : Ad}
set_option maxHeartbeats 8000000 in
theorem ok_Turning_run {f : Addr} {fd : FuncData} (F : Fun K "run" "Turning.run" s_Turning_run f fd) (T : Txt K mg A) (gW : MkIn P w K mg base 1 A.RoundWatch p_RoundWatch_init (spWatch A)) (gN : FnIn P w K mg base 3 "next_fit" p_next_fit (spNext A))
    (gG : MeIn P w K mg base 1 A.Turning "grows_too_long" p_Turning_grows_too_long (spGrows A)) (gS : MeIn P w K mg base 2 A.Turning "take_step" p_Turning_take_step (spStep A)) (gK : MeIn P w K mg base 2 A.Turning "skip_rounds" p_Turning_skip_rounds (spSkip A)) :
    FnOk P w K mg base CX0 4 f fd p_Turning_run (spRun A) := by
  refine F.ok sc_Turning_run (fun vs H Q E h => ?_) (fun cdv B outer sh H vs Q E hr h => ?_)
  · obtain ⟨p, l, j, as, R, s, count, rfl, _⟩ := h
    rfl
  · obtain ⟨p, l, j, as, R, s, count, rfl, hT, hR, hok, hb, hsh, k1, k2⟩ := h
    have nd := sc_Turning_run.nd
    obtain ⟨u1, hm1, r1⟩ := T.gl_MOST_STEPS
    obtain ⟨u2, hm2, r2⟩ := T.gl_OUT_OF_RANGE
    obtain ⟨u3, hm3, r3⟩ := T.gl_NOT_OVER
    obtain ⟨u4, hm4, r4⟩ := T.gl_OVER_NO_FIT
    obtain ⟨u5, hm5, r5⟩ := T.gl_NO_ROOM
    obtain ⟨fW, fdW, GW, bW, MW⟩ := gW
    obtain ⟨fN, fdN, GN, bN, mN, kN⟩ := gN
    obtain ⟨fG, fdG, GG, bG, mG⟩ := gG
    obtain ⟨fS, fdS, GS, bS, mS⟩ := gS
    obtain ⟨fK, fdK, GK, bK, mK⟩ := gK
    have hr2 : Room 2 _ := hr.mono (by decide)
    have hr1 : Room 1 _ := hr.mono (by decide)
    refine ⟨_, pss_cons (ps_if (PW.pt (pw_or (pt_cmpR op_lt (pv 1) pe_int (nomark _)) (pw_or1 (pt_cmpR op_gt (pv 1) (pe_glob (by rfl) hm1 r1) (nomark _))))) (pss_one (ps_ret (pe_glob (by rfl) hm2 r2))) pss_nil)
      (pss_cons (ps_set (i := 2) nd rfl (Or.inl rfl) (pe_make MW GW hr2 (by rfl) T.mg_RoundWatch bW .nil pass0 (pa_cons (pe_fld (pv 0) rfl) pa_nil)))
      (pss_cons (ps_set (i := 3) nd rfl (Or.inl rfl) pe_non)
      (pss_cons (ps_set (i := 4) nd rfl (Or.inl rfl) (pv 1))
      (pss_cons (ps_while PassesOwn.never (PW.pt (pw_and (pt_cmpR op_gt (pv 4) pe_int (nomark _)) (pw_and1 (pt_cmpR op_eq (pe_fld (pv 0) rfl) (pe_glob (by rfl) hm3 r3) (nomark _)))))
        (pss_cons (ps_set (i := 5) nd rfl (Or.inl rfl) (pe_call GN hr (by rfl) mN kN bN .nil pass0 (pa_cons (pe_fld (pv 0) rfl) (pa_cons (pe_fld (pv 0) rfl) (pa_cons (pv 3) pa_nil)))))
        (pss_one (ps_if (pt_cmpR op_isN (pv 5) pe_non (nomark _)) (pss_one (ps_fld (pv 0) (pe_glob (by rfl) hm4 r4) rfl))
          (pss_one (ps_if (pt_val (pe_meth (pv 0) T.cl_Turning mG GG hr1 bG .nil pass0 (pa_cons (pv 5) pa_nil))) (pss_one (ps_ret (pe_glob (by rfl) hm5 r5)))
            (pss_cons (ps_expr (pe_meth (pv 0) T.cl_Turning mS GS hr2 bS .nil pass0 (pa_cons (pv 5) pa_nil)))
            (pss_cons (ps_set (i := 4) nd rfl (Or.inl rfl) (pe_meth (pv 0) T.cl_Turning mK GK hr2 bK .nil pass0 (pa_cons (pv 2) (pa_cons (pe_op op_sub (pv 4) pe_int) pa_nil))))
            (pss_one (ps_set (i := 3) nd rfl (Or.inl rfl) (pv 5)))))))))))
      (pss_one (ps_ret (pe_fld (pv 0) rfl))))))), ?_⟩
    by_cases hneg : count < 0
    · refine ⟨_, rfl, _, _, rfl, rfl, _, rfl, ite2 (fun _ => iteT ?_) (fun z => absurd (decide_eq_true hneg) z)⟩
      exact k1 (.inl hneg)
    refine ⟨_, rfl, _, _, rfl, rfl, _, rfl, ite2 (fun z => absurd (of_decide_eq_true z) hneg) (fun _ => ?_)⟩
    by_cases hbig : (1000000 : Int) < count
    · refine ⟨_, rfl, _, _, rfl, rfl, _, rfl, ite2 (fun _ => ?_) (fun z => absurd (decide_eq_true hbig) z)⟩
      exact k1 (.inr hbig)
    refine ⟨_, rfl, _, _, rfl, rfl, _, rfl, ite2 (fun z => absurd (of_decide_eq_true z) hbig) (fun _ => ?_)⟩
    obtain ⟨n, rfl⟩ : ∃ n : Nat, count = (n : Int) := ⟨count.toNat, by omega⟩
    have k2 := k2 n rfl (by omega)
    obtain ⟨dp, hp⟩ := id hT
    refine ⟨_, rfl, p, _, dp, _, _, rfl, hp, T.cl_Turning, T.na_Turning_text, t_text, fun x dx nx ndx ne => ?_⟩
    refine ⟨x, dx, s.text, rfl, upd_same, fun H1 hw kp1 => ⟨rfl, ?_⟩⟩
    have s1 : Same H H1 := Same.made nx ndx kp1
    refine ⟨_, rfl, ?_⟩
    -- the loop
    refine ⟨fun m σ H2 => ∃ (s' : Rd09.Run) (ahead : Nat) (b : V) (vf : Option V), σ = [some (.ref p), some (.int (n : Int)), some (.ref x), some b, some (.int (ahead : Int)), vf] ∧ Going A H p l x j R (goesU R n s) H2 s' ahead b ∧ m = 2 * ahead + (if s'.over = 0 then 1 else 0),
      ⟨_, s, n, .non, none, rfl, ⟨⟨dp, s1 _ _ hp⟩, ⟨s.text, 0, 1, hw, hb, fun h0 => ⟨s, rfl, h0, rfl⟩⟩, s1.keep, fun _ => .inl rfl, rfl, hb, hsh⟩, rfl⟩, ?_⟩
    rintro m σ H2 ⟨s', ahead, b, vf, rfl, G, rfl⟩
    obtain ⟨dp2, hp2⟩ := G.turn
    -- the end of the loop
    have done : goesU R n s = (s', false) → Q (.int ((s'.over : Nat) : Int)) H2 := fun e => by
      have q := k2 H2 (by rw [e]; exact G.turn) G.keep
      rw [e] at q
      exact q
    by_cases ha : ahead = 0
    · subst ha
      refine ⟨_, rfl, _, _, rfl, rfl, _, rfl, ite2 (fun z => absurd (of_decide_eq_true z) (by omega)) (fun _ => iteF ?_)⟩
      exact ⟨_, rfl, p, _, dp2, _, _, rfl, hp2, T.cl_Turning, T.na_Turning_over, t_over, done (by rw [← G.goes]; rfl)⟩
    refine ⟨_, rfl, _, _, rfl, rfl, _, rfl, ite2 (fun _ => ?_) (fun z => absurd (decide_eq_true (by omega)) z)⟩
    by_cases h0 : s'.over = 0
    · have c : decide (V.int ((s'.over : Nat) : Int) = V.int 0) = true := decide_eq_true (by rw [h0]; rfl)
      refine ⟨_, rfl, p, _, dp2, _, _, rfl, hp2, T.cl_Turning, T.na_Turning_over, t_over, rfl, _, rfl, ?_⟩
      rw [c]
      refine iteT ⟨fun σ' H' => ∃ m', m' < 2 * ahead + (if s'.over = 0 then 1 else 0) ∧ ∃ (s'' : Rd09.Run) (ahead' : Nat) (b : V) (vf : Option V), σ' = [some (.ref p), some (.int (n : Int)), some (.ref x), some b, some (.int (ahead' : Int)), vf] ∧ Going A H p l x j R (goesU R n s) H' s'' ahead' b ∧ m' = 2 * ahead' + (if s''.over = 0 then 1 else 0),
        fun σ' H' ⟨m', hm, z⟩ => ⟨m', hm, z⟩, ?_⟩
      rw [if_pos h0]
      obtain ⟨ahead, rfl⟩ : ∃ a, ahead = a + 1 := ⟨ahead - 1, by omega⟩
      have hR2 : RulesAt A H2 l as R := hR.keep hT G.keep
      refine ⟨_, rfl, p, _, dp2, _, _, rfl, hp2, T.cl_Turning, T.na_Turning_rules, t_rules, _, rfl, p, _, dp2, _, _, rfl, hp2, T.cl_Turning, T.na_Turning_text, t_text, _, rfl,
        l, s'.text, b, as, R, rfl, hR2, hok, G.bytes, G.bef h0, fun hnone H3 s3 => ?_, fun k i a r hsome ha hr' y H3 ny hf s3 => ?_⟩
      · -- no rule fits
        refine ⟨_, rfl, rfl, _, rfl, ite2 (fun _ => ?_) (fun z => absurd (decide_eq_true rfl) z)⟩
        have hp3 := s3 _ _ hp2
        refine ⟨_, rfl, p, _, dp2, _, rfl, hp3, T.cl_Turning, T.na_Turning_over, (by show 5 < 1000; decide), ?_⟩
        rw [t_put_over]
        obtain ⟨kept, age, span, hw2, bk, _⟩ := G.watch
        obtain ⟨dw, hw2'⟩ := id hw2
        refine ⟨2 * (ahead + 1), by omega, ⟨s'.text, 1, s'.steps⟩, ahead + 1, b, _, rfl, ⟨⟨dp2, upd_same⟩, ⟨kept, age, span, ⟨dw, by rw [upd_ne (hw2.ne_turn G.turn)]; exact s3 _ _ hw2'⟩, bk, fun z => absurd z (by show (1 : Nat) ≠ 0; decide)⟩,
          (G.keep.trans s3.keep).trans Keep.upd, fun z => absurd z (by show (1 : Nat) ≠ 0; decide), ?_, G.bytes, G.short⟩, rfl⟩
        rw [← G.goes, goes_none h0 (by rw [long_is]; exact G.short) hnone]
        exact goes_over (s := ⟨s'.text, 1, s'.steps⟩) (by show (1 : Nat) ≠ 0; decide) (by rw [long_is]; exact G.short) _
      · -- a rule fits
        have hp3 := s3 _ _ hp2
        have T3 : TurnAt A H3 p l j s' := ⟨dp2, hp3⟩
        obtain ⟨r'', hr'', ra⟩ := (hR2.same s3).at_ k a ha
        rw [hr'] at hr''
        cases hr''
        obtain ⟨b1, b2, b3, b4⟩ := hok.le r (List.mem_of_getElem? hr')
        obtain ⟨at1, at2, at3⟩ := next_fits hsome hr'
        refine ⟨_, rfl, rfl, _, rfl, ite2 (fun z => absurd (of_decide_eq_true z) (by intro e; cases e)) (fun _ => ?_)⟩
        refine ⟨_, rfl, p, dp2, _, rfl, hp3, t_no (by decide +kernel) (by decide +kernel) (by decide +kernel) (by decide +kernel) (by decide +kernel), _, rfl, p, l, y, a, j, s', k, i, r, rfl, T3, hf, ra, at1.1, G.short, b4, _, rfl, ite2 (fun c => ?_) (fun c => ?_)⟩
        · -- too long
          have hl := of_decide_eq_true c
          have e : goesU R n s = (s', true) := by
            rw [← G.goes, goes_long h0 hsome hr' (by rw [long_is]; exact hl)]
          have q := k2 H3 (by rw [e]; exact T3) (G.keep.trans s3.keep)
          rw [e] at q
          exact q
        · have hl : (Rd09.put r s'.text i).length ≤ 8192 := by
            have := of_decide_eq_false (Bool.eq_false_iff.mpr c)
            omega
          refine ⟨_, rfl, p, dp2, _, rfl, hp3, t_no (by decide +kernel) (by decide +kernel) (by decide +kernel) (by decide +kernel) (by decide +kernel), _, rfl, p, l, y, a, j, s', k, i, r, rfl, T3, h0, hf, ra, at1.1, G.short, b3, b4, fun H4 T4 kp4 => ?_⟩
          obtain ⟨kept, age, span, hw2, bk, hu⟩ := G.watch
          obtain ⟨u, hu1, hu2, hu3⟩ := hu h0
          have hw3 : WatchAt A H3 x kept age span := let ⟨dw, z⟩ := hw2; ⟨dw, s3 _ _ z⟩
          have hw4 : WatchAt A H4 x kept age span := let ⟨dw, z⟩ := id hw3; ⟨dw, kp4 _ _ z (hw3.ne_turn T3)⟩
          have hf4 : FitAt A H4 y k a i := let ⟨dw, z⟩ := id hf; ⟨dw, kp4 _ _ z (hf.ne_turn T3)⟩
          have ra4 : RuleAt A H4 a r := let ⟨dw, z⟩ := id ra; ⟨dw, kp4 _ _ z (RuleAt.ne_turn T3 ra)⟩
          have bt4 : Bytes (Rd09.put r s'.text i) := bytes_put b2 G.bytes i
          obtain ⟨dp4, hp4⟩ := id T4
          have go1 : goesU R (ahead + 1) s' = goesU R ahead ⟨Rd09.put r s'.text i, if r.stop = true then 2 else 0, s'.steps + 1⟩ := goes_step h0 hsome hr' (by rw [long_is]; exact hl)
          have stp : goesU R 1 s' = (⟨Rd09.put r s'.text i, if r.stop = true then 2 else 0, s'.steps + 1⟩, false) := goes_step (n := 0) h0 hsome hr' (by rw [long_is]; exact hl)
          have uu : goesU R (age + 1) u = (⟨Rd09.put r s'.text i, if r.stop = true then 2 else 0, s'.steps + 1⟩, false) := by rw [goes_snoc age u s' hu3 1, stp]
          have bef : ∀ {H5 : Hp}, Keep2 p x H4 H5 → Before A H5 R (Rd09.put r s'.text i) (.ref y) := fun {H5} k5 => .inr ⟨y, k, a, i, r, s'.text, rfl, (let ⟨dw, z⟩ := id hf4; ⟨dw, k5 _ _ z (hf4.ne_turn T4) (hf4.ne_watch hw4)⟩), (let ⟨dw, z⟩ := id ra4; ⟨dw, k5 _ _ z (RuleAt.ne_turn T4 ra4) (RuleAt.ne_watch hw4 ra4)⟩), hr', hsome, rfl⟩
          have keep5 : ∀ {H5 : Hp}, Keep2 p x H4 H5 → Keep p H H5 := fun {H5} k5 b o e nb => k5 b o (kp4 b o (s3 b o (G.keep b o e nb)) nb) nb (ne_of_none e nx)
          have ea : ((ahead + 1 : Nat) : Int) - 1 = (ahead : Int) := by omega
          refine ⟨_, rfl, p, dp4, _, rfl, hp4, t_no (by decide +kernel) (by decide +kernel) (by decide +kernel) (by decide +kernel) (by decide +kernel), _, rfl, _, rfl, _, _, rfl, rfl,
            p, l, x, j, _, kept, age, span, ahead, by show [V.ref p, V.ref x, V.int (((ahead + 1 : Nat) : Int) - 1)] = _; rw [ea], T4, hw4, bk, bt4, fun hov => ?_, fun hov et H5 T5 w5 k5 => ?_, fun hov et H5 T5 w5 k5 => ?_⟩
          · refine ⟨_, rfl, 2 * ahead, by omega, ⟨Rd09.put r s'.text i, if r.stop = true then 2 else 0, s'.steps + 1⟩, ahead, .ref y, _, rfl, ⟨T4, ⟨kept, age, span, hw4, bk, fun z => absurd z hov⟩, keep5 fun b o e _ _ => e, fun z => absurd z hov, by rw [← G.goes, go1], bt4, hl⟩, ?_⟩
            rw [if_neg hov]; rfl
          · have hsk := goes_skip (a := ahead) uu hov hu2 (by rw [hu1]; exact et)
            have hml := Nat.mod_le ahead (age + 1)
            refine ⟨_, rfl, 2 * (ahead % (age + 1)) + 1, by omega, _, ahead % (age + 1), .ref y, _, rfl, ⟨T5, ⟨kept, 0, span, w5, bk, fun _ => ⟨more ⟨Rd09.put r s'.text i, if r.stop = true then 2 else 0, s'.steps + 1⟩ (ahead - ahead % (age + 1)), et, hov, rfl⟩⟩, keep5 k5, fun _ => bef k5, by rw [← G.goes, go1, hsk], bt4, hl⟩, ?_⟩
            rw [if_pos (show (more ⟨Rd09.put r s'.text i, if r.stop = true then 2 else 0, s'.steps + 1⟩ (ahead - ahead % (age + 1))).over = 0 from hov)]
          · refine ⟨_, rfl, 2 * ahead + 1, by omega, ⟨Rd09.put r s'.text i, if r.stop = true then 2 else 0, s'.steps + 1⟩, ahead, .ref y, _, rfl, ⟨T5, ?_, keep5 k5, fun _ => bef k5, by rw [← G.goes, go1], bt4, hl⟩, by rw [if_pos hov]⟩
            rcases w5 with w5 | w5
            · exact ⟨kept, age + 1, span, w5, bk, fun _ => ⟨u, hu1, hu2, uu⟩⟩
            · exact ⟨_, 0, span * 2, w5, bt4, fun _ => ⟨_, rfl, hov, rfl⟩⟩
    · have c : decide (V.int ((s'.over : Nat) : Int) = V.int 0) = false := decide_eq_false fun e => h0 (by have := V.int.inj e; omega)
      refine ⟨_, rfl, p, _, dp2, _, _, rfl, hp2, T.cl_Turning, T.na_Turning_over, t_over, rfl, _, rfl, ?_⟩
      rw [c]
      exact iteF ⟨_, rfl, p, _, dp2, _, _, rfl, hp2, T.cl_Turning, T.na_Turning_over, t_over, done (by rw [← G.goes]; exact goes_over h0 (by rw [long_is]; exact G.short) _)⟩
end
end RT

namespace RT
open PySem L2 TL

theorem in01 (z : Int) : (!inV (V.int z) [V.int 0, V.int 1]) = !decide (z = 0 ∨ z = 1) := by
  have e : inV (V.int z) [V.int 0, V.int 1] = ((0 == z) || ((1 == z) || false)) := rfl
  rw [e]
  by_cases h0 : z = 0
  · subst h0; rfl
  · by_cases h1 : z = 1
    · subst h1; rfl
    · have a : ((0 : Int) == z) = false := beq_eq_false_iff_ne.mpr (fun q => h0 q.symm)
      have b : ((1 : Int) == z) = false := beq_eq_false_iff_ne.mpr (fun q => h1 q.symm)
      have c : decide (z = 0 ∨ z = 1) = false := decide_eq_false (fun q => q.elim h0 h1)
      rw [a, b, c]
      rfl
def spAdd (K : PySem.W.Frag) (A : Ad) : Sp := fun vs H Q _ => ∃ (p l a b : Addr) (j : V) (as : List Addr) (R : List Rd09.Rule) (s : Rd09.Run) (left right : List Int) (stop : Int), vs = [.ref p, .ref a, .ref b, .int stop] ∧ TurnAt A H p l j s ∧ RulesAt A H l as R ∧
  SqL K H a (left.map V.int) ∧ SqL K H b (right.map V.int) ∧ Oct left ∧ left.length ≤ 32 ∧ Oct right ∧ right.length ≤ 32 ∧ R.length ≤ 64 ∧
  (¬ (stop = 0 ∨ stop = 1) → ∀ H', Same H H' → Q (.int (-1)) H') ∧
  ((stop = 0 ∨ stop = 1) → 64 ≤ R.length → ∀ H', Same H H' → Q (.int (-2)) H') ∧
  ((stop = 0 ∨ stop = 1) → R.length < 64 → ∀ (x : Addr) (H' : Hp), H x = none → H' l = some (.lst ((as ++ [x]).map V.ref)) → RuleAt A H' x ⟨nats left, nats right, stop == 1⟩ → TurnAt A H' p l .non s → Keep2 p l H H' → Q (.int (R.length : Nat)) H')
section
variable {P : Program} {w : World} {K : PySem.W.Frag} {mg : Str → Option Value} {base : Heap} {A : Ad}
theorem ok_Turning_add_rule {f : Addr} {fd : FuncData} (F : Fun K "add_rule" "Turning.add_rule" s_Turning_add_rule f fd) (T : Txt K mg A) (gW : FnInC P w K mg base 1 "written" p_written (spWrittenK K)) (gR : MkIn P w K mg base 1 A.Rule p_Rule_init (spInit3 A.Rule "left" "right" "last")) :
    FnOk P w K mg base CX0 3 f fd p_Turning_add_rule (spAdd K A) := by
  refine F.ok sc_Turning_add_rule (fun vs H Q E h => ?_) (fun cdv B outer sh H vs Q E hr h => ?_)
  · obtain ⟨p, l, a, b, j, as, R, s, left, right, stop, rfl, _⟩ := h
    rfl
  · obtain ⟨p, l, a, b, j, as, R, s, left, right, stop, rfl, hT, hR, hsa, hsb, ol, ll, orr, lr, hn, k1, k2, k3⟩ := h
    obtain ⟨u1, hm1, r1⟩ := T.gl_LONGEST_SIDE
    obtain ⟨u2, hm2, r2⟩ := T.gl_OUT_OF_RANGE
    obtain ⟨u3, hm3, r3⟩ := T.gl_MOST_RULES
    obtain ⟨u4, hm4, r4⟩ := T.gl_NO_ROOM
    obtain ⟨fW, fdW, GW, bW, mW, kW⟩ := gW
    obtain ⟨fR, fdR, GR, bR, MR⟩ := gR
    have hr1 : Room 1 _ := hr.mono (by decide)
    refine ⟨_, pss_cons (ps_if (PW.pt (pw_or (pt_cmpR op_gt (pe_callB call_len_seq (by rfl) T.bn_len PySem.boot_len (pa_cons (pv 1) pa_nil)) (pe_glob (by rfl) hm1 r1) (nomark _))
          (pw_or (pt_cmpR op_gt (pe_callB call_len_seq (by rfl) T.bn_len PySem.boot_len (pa_cons (pv 2) pa_nil)) (pe_glob (by rfl) hm1 r1) (nomark _))
          (pw_or1 (pt_cmpR op_notIn_seq (pv 3) (pe_tup (pa_cons pe_int (pa_cons pe_int pa_nil))) (by rfl)))))) (pss_one (ps_ret (pe_glob (by rfl) hm2 r2))) pss_nil)
      (pss_cons (ps_if (pt_cmpR op_ge (pe_callB call_len_seq (by rfl) T.bn_len PySem.boot_len (pa_cons (pe_fld (pv 0) rfl) pa_nil)) (pe_glob (by rfl) hm3 r3) (nomark _)) (pss_one (ps_ret (pe_glob (by rfl) hm4 r4))) pss_nil)
      (pss_cons (ps_expr (pe_bm PySem.F.plainAttrs_list PySem.F.slot_list_append PySem.F.type_list_append mt_append (pe_fld (pv 0) rfl)
          (pa_cons (pe_make MR GR (hr.mono (by decide)) (by rfl) T.mg_Rule bR .nil pass0 (pa_2k (pek_call GW hr1 (by rfl) mW kW bW (pv 1)) (pek_call GW hr1 (by rfl) mW kW bW (pv 2)) (pe_cmpR op_eq (pv 3) pe_int (nomark _)))) pa_nil)))
      (pss_cons (ps_fld (pv 0) pe_non rfl)
      (pss_one (ps_ret (pe_op op_sub (pe_callB call_len_seq (by rfl) T.bn_len PySem.boot_len (pa_cons (pe_fld (pv 0) rfl) pa_nil)) pe_int)))))), ?_⟩
    obtain ⟨dp, hp⟩ := id hT
    have c1 : ¬ decide ((32 : Int) < ((left.map V.int).length : Int)) = true := fun z => by
      have := of_decide_eq_true z
      rw [List.length_map] at this
      omega
    have c2 : ¬ decide ((32 : Int) < ((right.map V.int).length : Int)) = true := fun z => by
      have := of_decide_eq_true z
      rw [List.length_map] at this
      omega
    refine ⟨_, rfl, a, _, rfl, .inl hsa, _, _, rfl, rfl, _, rfl, ite2 (fun z => absurd z c1) (fun _ => ?_)⟩
    refine ⟨_, rfl, b, _, rfl, .inl hsb, _, _, rfl, rfl, _, rfl, ite2 (fun z => absurd z c2) (fun _ => ?_)⟩
    refine ⟨_, rfl, (by show 2 ≤ sizeLine; decide), fun t ht => ?_⟩
    have s1 : Same H (upd H t (.tup [.int 0, .int 1])) := Same.new ht
    refine ⟨t, _, rfl, .inr (SqT.of upd_same), rfl, rfl, _, rfl, ?_⟩
    show if (!inV (V.int stop) [V.int 0, V.int 1]) = true then _ else _
    rw [in01]
    by_cases hst : stop = 0 ∨ stop = 1
    · rw [decide_eq_true hst]
      refine iteF ?_
      have hp1 := s1 _ _ hp
      have hR1 := hR.same s1
      refine ⟨_, rfl, p, _, dp, _, _, rfl, hp1, T.cl_Turning, T.na_Turning_rules, t_rules, l, _, rfl, .inl (SqL.of hR1.lst), _, _, rfl, rfl, _, rfl, ite2 (fun z => ?_) (fun z => ?_)⟩
      · have := of_decide_eq_true z
        rw [List.length_map, hR.len] at this
        exact k2 hst (by omega) _ s1
      · have z := of_decide_eq_false (Bool.eq_false_iff.mpr z)
        rw [List.length_map, hR.len] at z
        refine ⟨_, rfl, p, _, dp, _, _, rfl, hp1, T.cl_Turning, T.na_Turning_rules, t_rules, .inl ⟨rfl, _, SqL.of hR1.lst⟩, fun c => ⟨_, rfl, fun c1 hc1 => ⟨a, left, rfl, s1.seq hsa, ol, by omega, fun t c2 H2 ht1 ht2 s2 => ?_⟩⟩⟩
        refine ⟨_, rfl, fun c3 hc3 => ⟨b, right, rfl, s2.seq (s1.seq hsb), orr, by omega, fun u c4 H3 hu1 hu2 s3 => ?_⟩⟩
        refine ⟨_, rfl, rfl, fun x dx nx ndx ne => ?_⟩
        refine ⟨x, dx, _, _, _, rfl, upd_same, fun H4 h4 kp => ⟨rfl, ?_⟩⟩
        have s4 : Same H3 H4 := Same.made nx ndx kp
        have s14 : Same H H4 := ((s1.trans s2).trans s3).trans s4
        have hl4 := s14 _ _ hR.lst
        have hlen : as.length < 64 := by rw [hR.len]; omega
        refine ⟨l, _, _, rfl, rfl, hl4, small1000 (by rw [List.length_map]; omega), ?_⟩
        have hpl : p ≠ l := (hT.ne_lst hR.lst).symm
        have hxl : x ≠ l := fun e => by
          have := (s1.trans s2).trans s3 _ _ hR.lst
          rw [← e, nx] at this
          cases this
        have hxp : x ≠ p := fun e => by
          have := (s1.trans s2).trans s3 _ _ hp
          rw [← e, nx] at this
          cases this
        have e1 : as.map V.ref ++ [V.ref x] = (as ++ [x]).map V.ref := by rw [List.map_append]; rfl
        rw [e1]
        have hp5 : (upd H4 l (.lst ((as ++ [x]).map V.ref))) p = some (.ins A.Turning dp (turnS l j s)) := by rw [upd_ne hpl]; exact s14 _ _ hp
        refine ⟨_, rfl, p, _, dp, _, rfl, hp5, T.cl_Turning, T.na_Turning_joined, (by show 5 < 1000; decide), ?_⟩
        rw [t_put_joined]
        refine ⟨_, rfl, p, _, dp, _, _, rfl, upd_same, T.cl_Turning, T.na_Turning_rules, t_rules, l, _, rfl, .inl (SqL.of (by rw [upd_ne hpl.symm]; exact upd_same)), _, _, rfl, rfl, ?_⟩
        dsimp only
        have e2 : (((as ++ [x]).map V.ref).length : Int) - 1 = ((R.length : Nat) : Int) := by
          rw [List.length_map, List.length_append, hR.len]
          show ((R.length + 1 : Nat) : Int) - 1 = _
          omega
        rw [e2]
        have e3 : decide (V.int stop = V.int 1) = (stop == 1) := by
          by_cases q : stop = 1
          · subst q; rfl
          · rw [decide_eq_false (fun z => q (V.int.inj z)), beq_eq_false_iff_ne.mpr q]
        refine k3 hst (by omega) x _ (((s1.trans s2).trans s3).free nx) (by rw [upd_ne hpl.symm]; exact upd_same) ⟨⟨dx, t, u, by omega, by omega, by omega⟩, ?_⟩ ⟨dp, upd_same⟩ (s14.keep.two.trans (Keep.upd.two'.trans Keep.upd.two))
        rw [upd_ne hxp, upd_ne hxl, h4, e3]
    · rw [decide_eq_false hst]
      refine iteT ?_
      exact k1 hst _ s1
end
end RT

namespace RT
open PySem L2 TL

/-- what joins answers -/
def joinV (R : List Rd09.Rule) : Int := if Rd09.shorter R = false then -2 else if Rd09.joins R = true then 1 else 0
/-- the program's state bears the document's -/
structure StateAt (A : Ad) (H : Hp) (p l : Addr) (s : Rd09.Abs) : Prop where
  ex : ∃ (as : List Addr) (u : Rd09.Run) (j : V), TurnAt A H p l j u ∧ RulesAt A H l as s.rules ∧ lid u = s.run ∧ Bytes u.text ∧ u.text.length ≤ 8192 ∧ (j = .non ∨ j = .int (joinV s.rules))
  ok : RulesOk s.rules
  few : s.rules.length ≤ 64
/-- all but p, q, l stays -/
def Keep3 (p q l : Addr) (H H' : Hp) : Prop := ∀ b o, H b = some o → b ≠ p → b ≠ q → b ≠ l → H' b = some o
theorem Keep.p3 {p q l : Addr} {H H' : Hp} (h : Keep p H H') : Keep3 p q l H H' := fun b o e n _ _ => h b o e n
theorem Keep.q3 {p q l : Addr} {H H' : Hp} (h : Keep q H H') : Keep3 p q l H H' := fun b o e _ n _ => h b o e n
theorem Keep.l3 {p q l : Addr} {H H' : Hp} (h : Keep l H H') : Keep3 p q l H H' := fun b o e _ _ n => h b o e n
theorem Keep3.trans {p q l : Addr} {H H1 H2 : Hp} (a : Keep3 p q l H H1) (b : Keep3 p q l H1 H2) : Keep3 p q l H H2 := fun c o h n m k => b c o (a c o h n m k) n m k
theorem _root_.L2.Same.k3 {p q l : Addr} {H H' : Hp} (h : Same H H') : Keep3 p q l H H' := fun b o e _ _ _ => h b o e
theorem ReaderAt.ne_turn {A : Ad} {H : Hp} {p l q a : Addr} {i : Nat} {j : V} {u : Rd09.Run} (h : TurnAt A H p l j u) (hq : ReaderAt A H q a i) : q ≠ p := by
  obtain ⟨dx, h⟩ := h
  obtain ⟨dq, hq⟩ := hq
  exact ins_ne hq h (fs_len (by show 2 ≠ 5; decide))
theorem ReaderAt.ne_lst {A : Ad} {H : Hp} {q a l : Addr} {i : Nat} {xs : List V} (hq : ReaderAt A H q a i) (hl : H l = some (.lst xs)) : l ≠ q := by
  obtain ⟨dq, hq⟩ := hq
  exact ne_of hl hq (by intro z; cases z)
theorem RuleAt.ne_reader {A : Ad} {H : Hp} {q b a : Addr} {i : Nat} {r : Rd09.Rule} (hq : ReaderAt A H q b i) (ha : RuleAt A H a r) : a ≠ q := by
  obtain ⟨dq, hq⟩ := hq
  obtain ⟨da, ha⟩ := ha
  exact ins_ne ha hq (fs_len (by show 3 ≠ 2; decide))
/-- what does not touch p, l and the rules leaves the state -/
theorem StateAt.keep {A : Ad} {H H' : Hp} {p l q : Addr} {s : Rd09.Abs} {a : Addr} {i : Nat} (h : StateAt A H p l s) (hq : ReaderAt A H q a i) (k : Keep q H H') : StateAt A H' p l s := by
  obtain ⟨as, u, j, hT, hR, h1, h2, h3, hj⟩ := h.ex
  obtain ⟨dp, hp⟩ := id hT
  refine ⟨⟨as, u, j, ⟨dp, k _ _ hp (hq.ne_turn hT).symm⟩, ⟨k _ _ hR.lst (hq.ne_lst hR.lst), hR.len, fun j b e => ?_⟩, h1, h2, h3, hj⟩, h.ok, h.few⟩
  obtain ⟨r, e1, hb⟩ := hR.at_ j b e
  obtain ⟨db, hb'⟩ := id hb
  exact ⟨r, e1, db, k _ _ hb' (RuleAt.ne_reader hq hb)⟩
theorem StateAt.same {A : Ad} {H H' : Hp} {p l : Addr} {s : Rd09.Abs} (h : StateAt A H p l s) (k : Same H H') : StateAt A H' p l s := by
  obtain ⟨as, u, j, ⟨dp, hp⟩, hR, h1, h2, h3, hj⟩ := h.ex
  exact ⟨⟨as, u, j, ⟨dp, k _ _ hp⟩, hR.same k, h1, h2, h3, hj⟩, h.ok, h.few⟩
end RT

namespace RT
open PySem L2 TL

/-! ### in, replace, endswith over texts of signs -/
theorem occ_cases (x y : Str) : Builtin.Str.occurrences x y 0 x.length 1 = [] ∨ ∃ i, Builtin.Str.occurrences x y 0 x.length 1 = [i] := by
  have h := StrLaws.occ_length_le x y 0 x.length 1
  cases e : Builtin.Str.occurrences x y 0 x.length 1 with
  | nil => exact .inl rfl
  | cons i r =>
    rw [e] at h
    have hr : r = [] := by simp at h; exact h
    exact .inr ⟨i, by rw [hr]⟩
theorem occ_some {l t : List Nat} {p : Nat} (hl : Bytes l) (ht : Bytes t) (h : Rd09.findAt l t = some p) : Builtin.Str.occurrences (S t) (S l) 0 (S t).length 1 = [2 * p] := by
  have e := fnd_all hl ht
  rw [h] at e
  unfold fnd at e
  rcases occ_cases (S t) (S l) with h0 | ⟨i, h0⟩
  · rw [h0] at e
    exact absurd e (by show ¬ ((-1 : Int) = ((2 * p : Nat) : Int)); omega)
  · rw [h0] at e ⊢
    have : ((i : Nat) : Int) = ((2 * p : Nat) : Int) := e
    have : i = 2 * p := by omega
    rw [this]
theorem occ_no {l t : List Nat} (hl : Bytes l) (ht : Bytes t) (h : Rd09.findAt l t = none) : Builtin.Str.occurrences (S t) (S l) 0 (S t).length 1 = [] := by
  have e := fnd_all hl ht
  rw [h] at e
  unfold fnd at e
  rcases occ_cases (S t) (S l) with h0 | ⟨i, h0⟩
  · exact h0
  · rw [h0] at e
    exact absurd e (by show ¬ (((i : Nat) : Int) = (-1 : Int)); omega)
theorem glue_S {r : Rd09.Rule} {t : List Nat} {p : Nat} : Builtin.Str.glued (S r.right) (Builtin.Str.partsBetween (S t) [2 * p] (S r.left).length) = S (Rd09.put r t p) := by
  apply ext_tl
  have e0 : (S t).length = (en t).length := by rw [S_len, en_len]
  show ((((S t).cps.extract 0 (2 * p)) ++ (S r.right).cps ++ ((S t).cps.extract (2 * p + (S r.left).length) (S t).length)).toList : List Nat) = en (Rd09.put r t p)
  rw [Array.toList_append, Array.toList_append, Array.toList_extract, Array.toList_extract]
  show (en t).extract 0 (2 * p) ++ en r.right ++ (en t).extract (2 * p + (S r.left).length) (S t).length = _
  rw [List.extract_eq_drop_take, List.extract_eq_drop_take, List.drop_zero, Nat.sub_zero, en_put, S_len r.left, ← en_len r.left, e0]
  rw [List.take_of_length_le (l := (en t).drop (2 * p + (en r.left).length)) (by rw [List.length_drop]; exact Nat.le_refl _), List.append_assoc]
theorem S_ne {a b : List Nat} (h : b.length < a.length) : (S a == S b) = false := by
  refine beq_eq_false_iff_ne.mpr fun e => ?_
  have := congrArg Str.length e
  rw [S_len, S_len] at this
  omega
theorem ends_S {a b : List Nat} (ha : Bytes a) (hb : Bytes b) (h : b.length ≤ a.length) : Txt.endswith (S a) (S b) = decide (a.drop (a.length - b.length) = b) := by
  unfold Txt.endswith Builtin.Str.subAt
  have e1 : decide (0 + (S b).length ≤ (S a).length) = true := decide_eq_true (by rw [S_len, S_len]; omega)
  rw [e1, Bool.true_and]
  have e2 : (S a).length - (S b).length = 2 * (a.length - b.length) := by rw [S_len, S_len]; omega
  rw [e2]
  have e3 : ((S a).cps.extract (2 * (a.length - b.length)) (2 * (a.length - b.length) + (S b).length)).toList = en (a.drop (a.length - b.length)) := by
    rw [Array.toList_extract]
    show (en a).extract _ _ = _
    rw [List.extract_eq_drop_take, en_drop, Nat.add_sub_cancel_left, S_len]
    refine List.take_of_length_le ?_
    rw [en_len, List.length_drop]
    omega
  rw [Bool.eq_iff_iff, beq_iff_eq, decide_eq_true_eq]
  constructor
  · intro h
    have := congrArg Array.toList h
    rw [e3] at this
    exact en_inj (bytes_drop ha _) hb this
  · intro h
    apply Array.toList_inj.mp
    rw [e3, h]
    rfl
/-- find from an odd place on -/
theorem fnd_odd {l t : List Nat} {p : Nat} (hl : Bytes l) (ht : Bytes t) (hne : l ≠ []) {o : Option Nat} (h : First l t (p + 1) t.length o) : fnd (S t) (S l) (2 * p + 1) (S t).length = ofO o := by
  have h1 := first_en hl ht h
  have e : (S t).length = 2 * t.length := S_len t
  rw [e]
  have h2 : First (en l) (en t) (2 * p + 1) (2 * t.length) (o.map (2 * ·)) := by
    cases o with
    | none =>
      intro j hj1 hj2 hj3
      by_cases c : j = 2 * p + 1
      · subst c
        exact at_odd hl hne hj3
      · exact h1 j (by omega) hj2 hj3
    | some i =>
      obtain ⟨a1, a2, a3, a4⟩ := h1
      refine ⟨by omega, a2, a3, fun k hk1 hk2 hk3 => ?_⟩
      by_cases c : k = 2 * p + 1
      · subst c
        exact at_odd hl hne hk3
      · exact a4 k (by omega) hk2 hk3
  rw [fnd_of (by rw [S_len]; exact Nat.le_refl _) h2]
  cases o <;> rfl

/-! ### text_after_step -/
def spAfterStep (A : Ad) : Sp := fun vs H Q _ => ∃ (l : Addr) (t : List Nat) (as : List Addr) (R : List Rd09.Rule), vs = [.ref l, .str (S t)] ∧ RulesAt A H l as R ∧ RulesOk R ∧ Rd09.shorter R = true ∧ Bytes t ∧ t.length ≤ 8192 ∧
  (Rd09.next R t = none → Q .non H) ∧ (∀ (k p : Nat) (r : Rd09.Rule), Rd09.next R t = some (k, p) → R[k]? = some r → Q (.str (S (Rd09.put r t p))) H)
section
variable {P : Program} {w : World} {K : PySem.W.Frag} {mg : Str → Option Value} {base : Heap} {A : Ad}
theorem ok_text_after_step {f : Addr} {fd : FuncData} (F : Fun K "text_after_step" "text_after_step" s_text_after_step f fd) (T : Txt K mg A) : FnOk P w K mg base CX0 1 f fd p_text_after_step (spAfterStep A) := by
  refine F.ok sc_text_after_step (fun vs H Q E h => ?_) (fun cdv B outer s H vs Q E hr h => ?_)
  · obtain ⟨l, t, as, R, rfl, _⟩ := h
    rfl
  · obtain ⟨l, t, as, R, rfl, hR, hok, hsh, ht, hlen, k1, k2⟩ := h
    have nd := sc_text_after_step.nd
    refine ⟨_, pss_cons (ps_for PassesOwn.never rfl (pi_list (pv 0)) (pg_name (i := 2) nd rfl (Or.inl rfl))
        (pss_one (ps_if (pt_cmpR op_in_str (pe_fg (pe_fld (pv 2) rfl)) (pv 1) (by rfl))
          (pss_one (ps_ret (pe_bm PySem.F.plainAttrs_str PySem.F.slot_str_replace PySem.F.type_str_replace mt_replace1 (pv 1) (pa_cons (pe_fld (pv 2) rfl) (pa_cons (pe_fld (pv 2) rfl) (pa_cons pe_int pa_nil)))))) pss_nil)))
      (pss_one (ps_ret pe_non)), ?_⟩
    refine ⟨_, rfl, l, rfl, ⟨_, SqL.of hR.lst⟩, for_list (K := K) (a := l) (xs := as.map V.ref) (fun i σ H2 => ∃ v2, σ = [some (.ref l), some (.str (S t)), v2] ∧ H2 = H ∧ ∀ (j : Nat) (q : Rd09.Rule), j < i → R[j]? = some q → Rd09.findAt q.left t = none)
      ⟨none, rfl, rfl, fun j q hj => absurd hj (Nat.not_lt_zero _)⟩ (fun i σ H2 _ ⟨_, _, e, _⟩ => by rw [e]; exact SqL.of hR.lst) ?_ ?_⟩
    · rintro i x σ H2 hx ⟨v2, rfl, rfl, hless⟩
      rw [List.getElem?_map] at hx
      cases e : as[i]? with
      | none => rw [e] at hx; cases hx
      | some a =>
        rw [e] at hx
        cases hx
        obtain ⟨r, hri, da, ha⟩ := hR.at_ i a e
        obtain ⟨hl1, hl2, hl3, hl4⟩ := hok.le r (List.mem_of_getElem? hri)
        have hs := shorter_of hsh hri
        refine ⟨_, rfl, a, _, da, _, _, rfl, ha, T.cl_Rule, T.na_Rule_left, s_left, _, rfl, _, _, rfl, rfl, _, rfl, ?_⟩
        show if (!(Builtin.Str.occurrences (S t) (S r.left) 0 (S t).length 1).isEmpty) = true then _ else _
        cases ef : Rd09.findAt r.left t with
        | none =>
          rw [occ_no hl1 ht ef]
          refine iteF ?_
          refine ⟨_, rfl, rfl, fun j q hj hq => ?_⟩
          rcases Nat.lt_or_eq_of_le (Nat.le_of_lt_succ hj) with h1 | h1
          · exact hless j q h1 hq
          · rw [h1, hri] at hq
            cases hq
            exact ef
        | some p =>
          have eo := occ_some hl1 ht ef
          rw [eo]
          refine iteT ?_
          have hat := (findAt_some_at ef).1.1
          have hpl := put_len (r := r) hat
          refine ⟨_, rfl, rfl, _, rfl, a, _, da, _, _, rfl, ha, T.cl_Rule, T.na_Rule_left, s_left, _, rfl, a, _, da, _, _, rfl, ha, T.cl_Rule, T.na_Rule_right, s_right,
            _, _, _, _, _, 2 * p, rfl, rfl, da.hx, da.hy, da.hxy, S_ne hs, ?_, eo, ?_, ?_, ?_⟩
          · rw [S_len]
            exact beq_eq_false_iff_ne.mpr (by omega)
          · rw [S_len, S_len]
            omega
          · rw [glue_S, S_len]
            have : sizeLine = 16777216 := sizeLine_eq
            omega
          · rw [glue_S]
            exact k2 i p r (next_some hri ef hless) hri
    · rintro σ H2 ⟨v2, rfl, rfl, hless⟩
      refine k1 (next_none fun j q hq => hless j q ?_ hq)
      rw [List.length_map, hR.len]
      exact (List.getElem?_eq_some_iff.mp hq).1
end
end RT

namespace RT
open PySem L2 TL

/-! ### Rests -/
abbrev restsF (l d : V) : List (Str × V) := [("rules", l), ("known", d)]
theorem q_rules {a b : V} : (restsF a b).lookup ("rules" : Str) = some a := look_hit
theorem q_known {a b : V} : (restsF a b).lookup ("known" : Str) = some b := (look_miss (by decide +kernel)).trans look_hit
theorem q_no {a b : V} {m : Str} (h1 : ¬ m = "rules") (h2 : ¬ m = "known") : (restsF a b).lookup m = none := (look_miss h1).trans ((look_miss h2).trans rfl)
def RestsAt (A : Ad) (H : Hp) (p l d : Addr) : Prop := ∃ dx, H p = some (.ins A.Rests dx (restsF (.ref l) (.ref d)))
/-- what is kept of rests is true -/
def Known (R : List Rd09.Rule) (kvs : List (Key × V)) : Prop := ∀ k v, valV kvs k = some v → ∃ t, Bytes t ∧ k = Sum.inr (S t) ∧ v = .str (S (Rd09.least R t))
theorem Known.nil (R : List Rd09.Rule) : Known R [] := fun k v h => by
  rw [valV_nil] at h
  cases h
theorem Known.put {R : List Rd09.Rule} {kvs : List (Key × V)} {t u : List Nat} (h : Known R kvs) (ht : Bytes t) (e : Rd09.least R t = u) : Known R (putK kvs (Sum.inr (S t)) (.str (S u))) := fun k v hv => by
  rw [valV_put] at hv
  by_cases c : k = Sum.inr (S t)
  · rw [if_pos c] at hv
    cases hv
    exact ⟨t, ht, c, by rw [e]⟩
  · rw [if_neg c] at hv
    exact h k v hv
theorem putK_len (kvs : List (Key × V)) (k : Key) (v : V) : (putK kvs k v).length ≤ kvs.length + 1 := by
  unfold putK
  split
  · rw [List.length_map]; omega
  · rw [List.length_append]; exact Nat.le_refl _
theorem Known.get {R : List Rd09.Rule} {kvs : List (Key × V)} (h : Known R kvs) {t : List Nat} (ht : Bytes t) {v : V} (hv : valV kvs (Sum.inr (S t)) = some v) : v = .str (S (Rd09.least R t)) := by
  obtain ⟨u, hu, e, rfl⟩ := h _ _ hv
  have := S_inj ht hu (Sum.inr.inj e)
  rw [this]
def spRests (A : Ad) : Sp := fun vs H Q _ => ∃ (p dx l : Addr), vs = [.ref p, .ref l] ∧ H p = some (.ins A.Rests dx []) ∧ ∀ (d : Addr) (H' : Hp), H d = none → H' d = some (.dK []) → RestsAt A H' p l d → Keep p H H' → Q .non H'
def spRest (A : Ad) : Sp := fun vs H Q _ => ∃ (p l d : Addr) (as : List Addr) (R : List Rd09.Rule) (kvs : List (Key × V)) (t : List Nat), vs = [.ref p, .str (S t)] ∧ RestsAt A H p l d ∧ RulesAt A H l as R ∧ RulesOk R ∧ Rd09.shorter R = true ∧ H d = some (.dK kvs) ∧ Known R kvs ∧
  Bytes t ∧ t.length ≤ 1000 ∧ kvs.length + t.length + 1 < 16777216 ∧
  ∀ (kvs' : List (Key × V)) (H' : Hp), H' d = some (.dK kvs') → Known R kvs' → kvs'.length ≤ kvs.length + t.length + 1 → Keep d H H' → Q (.str (S (Rd09.least R t))) H'
def spSame (A : Ad) : Sp := fun vs H Q _ => ∃ (p l d : Addr) (as : List Addr) (R : List Rd09.Rule) (kvs : List (Key × V)) (t u : List Nat), vs = [.ref p, .str (S t), .str (S u)] ∧ RestsAt A H p l d ∧ RulesAt A H l as R ∧ RulesOk R ∧ Rd09.shorter R = true ∧ H d = some (.dK kvs) ∧ Known R kvs ∧
  Bytes t ∧ t.length ≤ 1000 ∧ Bytes u ∧ u.length ≤ 1000 ∧ kvs.length + (t.length + u.length + 2) < 16777216 ∧
  ∀ (kvs' : List (Key × V)) (H' : Hp), H' d = some (.dK kvs') → Known R kvs' → kvs'.length ≤ kvs.length + (t.length + u.length + 2) → Keep d H H' → Q (.bl (decide (Rd09.least R t = Rd09.least R u))) H'
theorem RestsAt.keep {A : Ad} {H H' : Hp} {p l d : Addr} {kvs : List (Key × V)} (h : RestsAt A H p l d) (hd : H d = some (.dK kvs)) (k : Keep d H H') : RestsAt A H' p l d := by
  obtain ⟨dx, h⟩ := h
  exact ⟨dx, k _ _ h (ne_of h hd (by intro z; cases z))⟩
theorem RulesAt.keepD {A : Ad} {H H' : Hp} {l d : Addr} {as : List Addr} {R : List Rd09.Rule} {kvs : List (Key × V)} (h : RulesAt A H l as R) (hd : H d = some (.dK kvs)) (k : Keep d H H') : RulesAt A H' l as R :=
  ⟨k _ _ h.lst (ne_of h.lst hd (by intro z; cases z)), h.len, fun j a e => by
    obtain ⟨r, h1, dx, h2⟩ := h.at_ j a e
    exact ⟨r, h1, dx, k _ _ h2 (ne_of h2 hd (by intro z; cases z))⟩⟩
theorem PSs.imp {X : Cx} {st : List Stmt} {t t' : TS} (h : PSs X st t) (i : ∀ D σ H, t' D σ H → t D σ H) : PSs X st t' := fun pins s σ H D I hw => h pins s σ H D I (i D σ H hw)
theorem atI_last {α : Type} {xs : List α} {v : α} : atI (xs ++ [v]) (-1) = some v := by
  unfold atI ixN
  rw [if_neg (by decide)]
  have h : -((xs ++ [v]).length : Int) ≤ -1 := by
    rw [List.length_append]
    show -((xs.length + 1 : Nat) : Int) ≤ -1
    omega
  rw [if_pos h]
  have e : (-1 + ((xs ++ [v]).length : Int)).toNat = xs.length := by
    rw [List.length_append]
    show (-1 + ((xs.length + 1 : Nat) : Int)).toNat = _
    omega
  rw [e]
  simp
/-- the end of rest_of: the rest is known, the texts that were passed are to be put -/
def tRestEnd (A : Ad) (R : List Rd09.Rule) (p l d : Addr) (t : List Nat) : TS := fun D σ H2 => ∃ (g : Addr) (passed : List (List Nat)) (v1 : V) (v4 : Option V) (kvs2 : List (Key × V)), σ = [some (.ref p), some v1, some (.ref g), some (.str (S (Rd09.least R t))), v4] ∧
  RestsAt A H2 p l d ∧ H2 d = some (.dK kvs2) ∧ Known R kvs2 ∧ H2 g = some (.lst (passed.map fun u => V.str (S u))) ∧ (∀ u ∈ passed, Bytes u ∧ Rd09.least R u = Rd09.least R t) ∧ kvs2.length + passed.length < 16777216 ∧
  ∀ (kvs' : List (Key × V)) (H' : Hp), H' d = some (.dK kvs') → Known R kvs' → kvs'.length ≤ kvs2.length + passed.length → Keep d H2 H' → D.rt (.str (S (Rd09.least R t))) H'
theorem bytes_rest {R : List Rd09.Rule} (hok : RulesOk R) {t : List Nat} (ht : Bytes t) : Bytes (Rd09.least R t) := bytes_least (fun r hr => (hok.le r hr).2.1) _ _ ht
section
variable {P : Program} {w : World} {K : PySem.W.Frag} {mg : Str → Option Value} {base : Heap} {A : Ad}
theorem ok_Rests_init {f : Addr} {fd : FuncData} (F : Fun K "__init__" "Rests.__init__" s_Rests_init f fd) (T : Txt K mg A) : FnOk P w K mg base CX0 1 f fd p_Rests_init (spRests A) := by
  refine F.ok sc_Rests_init (fun vs H Q E h => ?_) (fun cdv B outer s H vs Q E hr h => ?_)
  · obtain ⟨p, dx, l, rfl, _⟩ := h
    rfl
  · obtain ⟨p, dx, l, rfl, hp, k⟩ := h
    refine ⟨_, pss_cons (ps_fld (pv 0) (pv 1) rfl) (pss_one (ps_fld (pv 0) pe_dnewK rfl)), ?_⟩
    refine ⟨_, rfl, _, rfl, p, _, dx, _, rfl, hp, T.cl_Rests, T.na_Rests_rules, (by show 0 < 1000; decide), ?_⟩
    intro d hd
    have npd : p ≠ d := ne_of_none upd_same hd
    refine ⟨_, rfl, p, _, dx, _, rfl, by rw [upd_ne npd]; exact upd_same, T.cl_Rests, T.na_Rests_known, (by show 1 < 1000; decide), ?_⟩
    have e1 : putF "known" (V.ref d) (putF "rules" (V.ref l) []) = restsF (.ref l) (.ref d) := putF_miss (by decide +kernel)
    rw [e1]
    have hd0 : H d = none := by rw [upd_ne npd.symm] at hd; exact hd
    refine k d _ hd0 (by rw [upd_ne npd.symm]; exact upd_same) ⟨dx, upd_same⟩ fun b o e n => ?_
    rw [upd_ne n, upd_ne (ne_of_none e hd0), upd_ne n]
    exact e
set_option maxHeartbeats 8000000 in
theorem ok_Rests_rest_of {f : Addr} {fd : FuncData} (F : Fun K "rest_of" "Rests.rest_of" s_Rests_rest_of f fd) (T : Txt K mg A) (gS : FnIn P w K mg base 1 "text_after_step" p_text_after_step (spAfterStep A)) : FnOk P w K mg base CX0 2 f fd p_Rests_rest_of (spRest A) := by
  refine F.ok sc_Rests_rest_of (fun vs H Q E h => ?_) (fun cdv B outer s H vs Q E hr h => ?_)
  · obtain ⟨p, l, d, as, R, kvs, t, rfl, _⟩ := h
    rfl
  · obtain ⟨p, l, d, as, R, kvs, t, rfl, hP, hR, hok, hsh, hd, hkn, ht, htl, hfew, k⟩ := h
    have nd := sc_Rests_rest_of.nd
    have hu := hu_of hr
    obtain ⟨dx, hp⟩ := id hP
    obtain ⟨fS, fdS, GS, bS, mS, kS⟩ := gS
    refine ⟨_, pss_cons (ps_set (i := 2) nd rfl (Or.inl rfl) (pe_lst pa_nil))
      (pss_cons (ps_while PassesOwn.never (PW.pt (pw_and (pt_cmpR op_notN (pv 1) pe_non (nomark _)) (pw_and1 (pt_cmp (pc_dnotin hu (pv 1) (pe_fld (pv 0) rfl))))))
        (pss_cons (ps_expr (pe_bm PySem.F.plainAttrs_list PySem.F.slot_list_append PySem.F.type_list_append mt_append (pv 2) (pa_cons (pv 1) pa_nil)))
        (pss_one (ps_set (i := 1) nd rfl (Or.inl rfl) (pe_call GS hr (by rfl) mS kS bS .nil pass0 (pa_cons (pe_fld (pv 0) rfl) (pa_cons (pv 1) pa_nil)))))))
      (pss_cons (ps_set (i := 3) nd rfl (Or.inl rfl) (pe_ifExp (pt_cmpR op_isN (pv 1) pe_non (nomark _)) (pe_ix ix_list (pv 2) (pe_un un_neg pe_int) (fun _ _ => rfl)) (pe_dget hu (pe_fld (pv 0) rfl) (pv 1) (fun _ _ => rfl))))
      (PSs.imp (t' := tRestEnd A R p l d t) (pss_cons (ps_for PassesOwn.never rfl (pi_list (pv 2)) (pg_name (i := 4) nd rfl (Or.inl rfl)) (pss_one (ps_dput hu (pe_fld (pv 0) rfl) (pv 4) (pv 3) rfl)))
      (pss_one (ps_ret (pv 3)))) ?tail))), ?main⟩
    case tail =>
      rintro D σ H2 ⟨g, passed, v1, v4, kvs2, rfl, hP2, hd2, hk2, hg2, hall, hfew2, kk⟩
      obtain ⟨dx2, hp2⟩ := id hP2
      have hgd : g ≠ d := ne_of hg2 hd2 (by intro z; cases z)
      have hpd : p ≠ d := ne_of hp2 hd2 (by intro z; cases z)
      refine ⟨_, rfl, g, rfl, ⟨_, SqL.of hg2⟩, for_list (K := K) (a := g) (xs := passed.map fun u => V.str (S u)) (fun i σ H3 => ∃ v4 kvs3, σ = [some (.ref p), some v1, some (.ref g), some (.str (S (Rd09.least R t))), v4] ∧ Keep d H2 H3 ∧ H3 d = some (.dK kvs3) ∧ Known R kvs3 ∧ kvs3.length ≤ kvs2.length + i)
        ⟨v4, kvs2, rfl, Keep.refl _ _, hd2, hk2, Nat.le_refl _⟩ (fun i σ H3 _ ⟨_, _, _, k3, _⟩ => SqL.of (k3 _ _ hg2 hgd)) ?_ ?_⟩
      · rintro i x σ H3 hx ⟨v4, kvs3, rfl, k3, hd3, hk3, hl3⟩
        rw [List.getElem?_map] at hx
        cases e : passed[i]? with
        | none => rw [e] at hx; cases hx
        | some u =>
          rw [e] at hx
          cases hx
          obtain ⟨bu, eu⟩ := hall u (List.mem_of_getElem? e)
          have hi : i < passed.length := (List.getElem?_eq_some_iff.mp e).1
          refine ⟨_, rfl, _, rfl, p, _, dx2, _, _, rfl, k3 _ _ hp2 hpd, T.cl_Rests, T.na_Rests_known, q_known, _, rfl, d, _, rfl, DPut.k (k := Sum.inr (S u)) hd3 (by have : sizeLine = 16777216 := sizeLine_eq; omega), ?_⟩
          refine ⟨_, _, rfl, k3.trans Keep.upd, upd_same, hk3.put bu eu, ?_⟩
          have := putK_len kvs3 (Sum.inr (S u)) (.str (S (Rd09.least R t)))
          omega
      · rintro σ H3 ⟨v4, kvs3, rfl, k3, hd3, hk3, hl3⟩
        rw [List.length_map] at hl3
        exact ⟨_, rfl, kk kvs3 H3 hd3 hk3 hl3 k3⟩
    case main =>
      refine ⟨Nat.zero_le _, fun g hg => ?_⟩
      have hgd : d ≠ g := ne_of_none hd hg
      have hgp : p ≠ g := ne_of_none hp hg
      have hsz : sizeLine = 16777216 := sizeLine_eq
      have sm : ∀ {xs : List V}, Same H (upd H g (.lst xs)) := fun {xs} b o e => by rw [upd_ne (ne_of_none e hg)]; exact e
      refine ⟨fun m σ H2 => ∃ passed : List (List Nat), H2 = upd H g (.lst (passed.map fun u => V.str (S u))) ∧ (∀ u ∈ passed, Bytes u ∧ Rd09.least R u = Rd09.least R t) ∧
          ((∃ u, σ = [some (.ref p), some (.str (S u)), some (.ref g), none, none] ∧ Bytes u ∧ Rd09.least R u = Rd09.least R t ∧ u.length + passed.length ≤ t.length ∧ m = u.length + 1) ∨
           (∃ pre u, σ = [some (.ref p), some .non, some (.ref g), none, none] ∧ passed = pre ++ [u] ∧ u = Rd09.least R t ∧ passed.length ≤ t.length + 1 ∧ m = 0)),
        ⟨_, [], rfl, fun u hu => (nomatch hu), .inl ⟨t, rfl, ht, rfl, Nat.le_refl _, rfl⟩⟩, ?_⟩
      rintro m σ H2 ⟨passed, rfl, hall, ⟨u, rfl, bu, eu, hlen, rfl⟩ | ⟨pre, u, rfl, ep, eu, hlen, rfl⟩⟩
      · -- a text
        have hd2 : (upd H g (.lst (passed.map fun u => V.str (S u)))) d = some (.dK kvs) := sm _ _ hd
        have hp2 : (upd H g (.lst (passed.map fun u => V.str (S u)))) p = some (.ins A.Rests dx (restsF (.ref l) (.ref d))) := sm _ _ hp
        refine ⟨_, rfl, rfl, _, rfl, ite2 (fun _ => ?_) (fun z => absurd (by show (!decide (V.str (S u) = V.non)) = true; rw [decide_eq_false (by intro e; cases e)]; rfl) z)⟩
        refine ⟨_, rfl, _, rfl, p, _, dx, _, _, rfl, hp2, T.cl_Rests, T.na_Rests_known, q_known, d, _, rfl, DGet.k (k := Sum.inr (S u)) hd2, _, rfl, ?_⟩
        cases ev : valV kvs (Sum.inr (S u)) with
        | none =>
          refine iteT ⟨_, fun σ' H' h => h, ?_⟩
          refine ⟨_, rfl, .inl ⟨rfl, _, SqL.of upd_same⟩, _, rfl, g, _, _, rfl, rfl, upd_same, by rw [List.length_map]; omega, ?_⟩
          rw [upd_upd]
          have e1 : (passed.map fun u => V.str (S u)) ++ [V.str (S u)] = (passed ++ [u]).map fun u => V.str (S u) := by rw [List.map_append]; rfl
          rw [e1]
          have hall' : ∀ y ∈ passed ++ [u], Bytes y ∧ Rd09.least R y = Rd09.least R t := fun y hy => by
            rcases List.mem_append.mp hy with m | m
            · exact hall y m
            · rw [List.mem_singleton.mp m]; exact ⟨bu, eu⟩
          have hp3 : (upd H g (.lst ((passed ++ [u]).map fun u => V.str (S u)))) p = some (.ins A.Rests dx (restsF (.ref l) (.ref d))) := sm _ _ hp
          refine ⟨_, rfl, p, _, dx, _, _, rfl, hp3, T.cl_Rests, T.na_Rests_rules, q_rules, _, rfl, l, u, as, R, rfl, hR.same sm, hok, hsh, bu, by omega, fun hn => ?_, fun k' p' r hn hr' => ?_⟩
          · refine ⟨0, Nat.succ_pos _, passed ++ [u], rfl, hall', .inr ⟨passed, u, rfl, rfl, ?_, ?_, rfl⟩⟩
            · rw [← eu, least_none hn]
            · rw [List.length_append]; show passed.length + 1 ≤ _; omega
          · have hs := put_shorter hsh hn hr'
            refine ⟨_, Nat.succ_lt_succ hs, passed ++ [u], rfl, hall', .inl ⟨_, rfl, bytes_put (hok.le r (List.mem_of_getElem? hr')).2.1 bu p', ?_, ?_, rfl⟩⟩
            · rw [← least_some hsh hn hr', eu]
            · rw [List.length_append]; show _ + (passed.length + 1) ≤ _; omega
        | some v =>
          refine iteF ?_
          have e2 := hkn.get bu ev
          subst e2
          refine ⟨_, rfl, rfl, _, rfl, ite2 (fun z => absurd (of_decide_eq_true z) (by intro e; cases e)) (fun _ => ?_)⟩
          refine ⟨_, rfl, p, _, dx, _, _, rfl, hp2, T.cl_Rests, T.na_Rests_known, q_known, _, rfl, d, _, rfl, by have := DGet.k (k := Sum.inr (S u)) hd2; rw [ev] at this; exact this, ?_⟩
          rw [eu]
          exact ⟨g, passed, _, none, kvs, rfl, ⟨dx, hp2⟩, hd2, hkn, upd_same, hall, by omega, fun kvs' H' h1 h2 h3 h4 => k kvs' H' h1 h2 (by omega) (sm.keep.trans h4)⟩
      · -- no rule fits
        have hd2 : (upd H g (.lst (passed.map fun u => V.str (S u)))) d = some (.dK kvs) := sm _ _ hd
        have hp2 : (upd H g (.lst (passed.map fun u => V.str (S u)))) p = some (.ins A.Rests dx (restsF (.ref l) (.ref d))) := sm _ _ hp
        refine ⟨_, rfl, rfl, _, rfl, ite2 (fun z => absurd z (by show ¬ (!decide (V.non = V.non)) = true; rw [decide_eq_true rfl]; exact Bool.false_ne_true)) (fun _ => iteF ?_)⟩
        refine ⟨_, rfl, rfl, _, rfl, ite2 (fun _ => ?_) (fun z => absurd (decide_eq_true rfl) z)⟩
        refine ⟨_, rfl, _, rfl, g, _, _, V.str (S u), rfl, rfl, SqL.of upd_same, ?_, ?_⟩
        · rw [ep, List.map_append]
          exact atI_last
        · rw [eu]
          exact ⟨g, passed, _, none, kvs, rfl, ⟨dx, hp2⟩, hd2, hkn, upd_same, hall, by omega, fun kvs' H' h1 h2 h3 h4 => k kvs' H' h1 h2 (by omega) (sm.keep.trans h4)⟩
theorem ok_Rests_are_same {f : Addr} {fd : FuncData} (F : Fun K "are_same" "Rests.are_same" s_Rests_are_same f fd) (T : Txt K mg A) (gR : MeIn P w K mg base 2 A.Rests "rest_of" p_Rests_rest_of (spRest A)) : FnOk P w K mg base CX0 3 f fd p_Rests_are_same (spSame A) := by
  refine F.ok sc_Rests_are_same (fun vs H Q E h => ?_) (fun cdv B outer s H vs Q E hr h => ?_)
  · obtain ⟨p, l, d, as, R, kvs, t, u, rfl, _⟩ := h
    rfl
  · obtain ⟨p, l, d, as, R, kvs, t, u, rfl, hP, hR, hok, hsh, hd, hkn, ht, htl, hu, hul, hfew, k⟩ := h
    obtain ⟨dx, hp⟩ := id hP
    obtain ⟨fR, fdR, GR, bR, mR⟩ := gR
    refine ⟨_, pss_one (ps_ret (pe_or (pe_cmpR op_eq (pv 1) (pv 2) (nomark _)) (pe_one (pe_cmpR op_eq (pe_meth (pv 0) T.cl_Rests mR GR hr bR .nil pass0 (pa_cons (pv 1) pa_nil)) (pe_meth (pv 0) T.cl_Rests mR GR hr bR .nil pass0 (pa_cons (pv 2) pa_nil)) (nomark _))))), ?_⟩
    refine ⟨_, rfl, _, rfl, rfl, _, rfl, ite2 (fun c => ?_) (fun c => ?_)⟩
    · have e := S_inj ht hu (V.str.inj (of_decide_eq_true c))
      have q := k kvs H hd hkn (by omega) (Keep.refl _ _)
      rw [e, decide_eq_true rfl] at q
      exact q
    · refine ⟨_, rfl, p, dx, _, rfl, hp, q_no (by decide +kernel) (by decide +kernel), _, rfl, p, l, d, as, R, kvs, t, rfl, hP, hR, hok, hsh, hd, hkn, ht, htl, by omega, fun kvs1 H1 hd1 hk1 hl1 kp1 => ?_⟩
      have hP1 := hP.keep hd kp1
      have hR1 := hR.keepD hd kp1
      obtain ⟨dx1, hp1⟩ := id hP1
      refine ⟨_, rfl, p, dx1, _, rfl, hp1, q_no (by decide +kernel) (by decide +kernel), _, rfl, p, l, d, as, R, kvs1, u, rfl, hP1, hR1, hok, hsh, hd1, hk1, hu, hul, by omega, fun kvs2 H2 hd2 hk2 hl2 kp2 => ?_⟩
      refine ⟨rfl, ?_⟩
      have q := k kvs2 H2 hd2 hk2 (by omega) (kp1.trans kp2)
      have e : decide (V.str (S (Rd09.least R t)) = V.str (S (Rd09.least R u))) = decide (Rd09.least R t = Rd09.least R u) := by
        rw [decide_eq_decide]
        exact ⟨fun h => S_inj (bytes_rest hok ht) (bytes_rest hok hu) (V.str.inj h), fun h => by rw [h]⟩
      rw [e]
      exact q
end
end RT

namespace RT
open PySem L2 TL

/-! ### lists of pairs of texts -/
structure PairsAt (H : Hp) (l : Addr) (ts : List Addr) (ps : List (List Nat × List Nat)) : Prop where
  lst : H l = some (.lst (ts.map V.ref))
  len : ts.length = ps.length
  at_ : ∀ (j : Nat) (a : Addr), ts[j]? = some a → ∃ z, ps[j]? = some z ∧ H a = some (.tup [.str (S z.1), .str (S z.2)])
theorem PairsAt.nil {H : Hp} {l : Addr} (h : H l = some (.lst [])) : PairsAt H l [] [] := ⟨h, rfl, fun j a e => by simp at e⟩
theorem PairsAt.same {H H' : Hp} {l : Addr} {ts : List Addr} {ps : List (List Nat × List Nat)} (h : PairsAt H l ts ps) (s : Same H H') : PairsAt H' l ts ps :=
  ⟨s _ _ h.lst, h.len, fun j a e => let ⟨z, h1, h2⟩ := h.at_ j a e; ⟨z, h1, s _ _ h2⟩⟩
theorem PairsAt.snoc {H : Hp} {l T : Addr} {ts : List Addr} {ps : List (List Nat × List Nat)} {z : List Nat × List Nat} (h : PairsAt H l ts ps) (hT : H T = some (.tup [.str (S z.1), .str (S z.2)])) :
    PairsAt (upd H l (.lst ((ts ++ [T]).map V.ref))) l (ts ++ [T]) (ps ++ [z]) := by
  refine ⟨upd_same, by rw [List.length_append, List.length_append, h.len]; rfl, fun j a e => ?_⟩
  by_cases hj : j < ts.length
  · rw [List.getElem?_append_left hj] at e
    obtain ⟨y, e1, ha⟩ := h.at_ j a e
    refine ⟨y, ?_, ?_⟩
    · rw [List.getElem?_append_left (by rw [← h.len]; exact hj)]
      exact e1
    · rw [upd_ne (ne_of ha h.lst (by intro q; cases q))]
      exact ha
  · rw [List.getElem?_append_right (by omega)] at e
    have hj2 : j - ts.length = 0 := by
      have := (List.getElem?_eq_some_iff.mp e).1
      simp at this
      omega
    rw [hj2] at e
    cases e
    refine ⟨z, ?_, ?_⟩
    · rw [List.getElem?_append_right (by rw [← h.len]; omega), ← h.len, hj2]
      rfl
    · rw [upd_ne (ne_of hT h.lst (by intro q; cases q))]
      exact hT
def spOver (A : Ad) : Sp := fun vs H Q _ => ∃ (a b : Addr) (r q : Rd09.Rule), vs = [.ref a, .ref b] ∧ RuleAt A H a r ∧ RuleAt A H b q ∧ Bytes r.left ∧ Bytes r.right ∧ Bytes q.left ∧ Bytes q.right ∧ r.left.length ≤ 32 ∧ r.right.length ≤ 32 ∧ q.left.length ≤ 32 ∧ q.right.length ≤ 32 ∧ 0 < r.left.length ∧
  ∀ (g : Addr) (ts : List Addr) (ps : List (List Nat × List Nat)) (H' : Hp), H g = none → PairsAt H' g ts ps → OverK r q (min (r.left.length - 1) q.left.length) ps → Same H H' → Q (.ref g) H'
def spWithin (A : Ad) : Sp := fun vs H Q _ => ∃ (a b : Addr) (r q : Rd09.Rule), vs = [.ref a, .ref b] ∧ RuleAt A H a r ∧ RuleAt A H b q ∧ Bytes r.left ∧ Bytes r.right ∧ Bytes q.left ∧ Bytes q.right ∧ r.left.length ≤ 32 ∧ r.right.length ≤ 32 ∧ q.left.length ≤ 32 ∧ q.right.length ≤ 32 ∧ 0 < q.left.length ∧
  ∀ (g : Addr) (ts : List Addr) (ps : List (List Nat × List Nat)) (H' : Hp), H g = none → PairsAt H' g ts ps → (∀ z ∈ ps, ∃ i, i + q.left.length ≤ r.left.length ∧ q.left.isPrefixOf (r.left.drop i) = true ∧ z = (r.right, inB r q i)) →
    (∀ i, i ≤ r.left.length → q.left.isPrefixOf (r.left.drop i) = true → (r.right, inB r q i) ∈ ps) → ps.length ≤ r.left.length + 1 - q.left.length → Same H H' → Q (.ref g) H'
section
variable {P : Program} {w : World} {K : PySem.W.Frag} {mg : Str → Option Value} {base : Heap} {A : Ad}
set_option maxHeartbeats 8000000 in
theorem ok_over_a_part {f : Addr} {fd : FuncData} (F : Fun K "over_a_part" "over_a_part" s_over_a_part f fd) (T : Txt K mg A) : FnOk P w K mg base CX0 1 f fd p_over_a_part (spOver A) := by
  refine F.ok sc_over_a_part (fun vs H Q E h => ?_) (fun cdv B outer s H vs Q E hr h => ?_)
  · obtain ⟨a, b, r, q, rfl, _⟩ := h
    rfl
  · obtain ⟨a, b, r, q, rfl, hra, hqa, b1, b2, b3, b4, l1, l2, l3, l4, hpos, k⟩ := h
    have nd := sc_over_a_part.nd
    obtain ⟨da, ha⟩ := id hra
    obtain ⟨db, hb⟩ := id hqa
    obtain ⟨u1, hm1, r1⟩ := T.gl_SIGNS_PER_BYTE
    have hsz : sizeLine = 16777216 := sizeLine_eq
    refine ⟨_, pss_cons (ps_set (i := 2) nd rfl (Or.inl rfl) (pe_lst pa_nil))
      (pss_cons (ps_set (i := 3) nd rfl (Or.inl rfl) (pe_callB (call_min2 rfl) (by rfl) T.bn_min PyProof.Rows.boot_min (pa_cons (pe_op op_sub (pe_callB call_len_str (by rfl) T.bn_len PySem.boot_len (pa_cons (pe_fg (pe_fld (pv 0) rfl)) pa_nil)) (pe_glob (by rfl) hm1 r1)) (pa_cons (pe_callB call_len_str (by rfl) T.bn_len PySem.boot_len (pa_cons (pe_fg (pe_fld (pv 1) rfl)) pa_nil)) pa_nil))))
      (pss_cons (ps_for PassesOwn.never rfl (pi_range3 (by rfl) T.bn_range (pa_cons (pe_glob (by rfl) hm1 r1) (pa_cons (pe_op op_add (pv 3) pe_int) (pa_cons (pe_glob (by rfl) hm1 r1) pa_nil)))) (pg_name (i := 4) nd rfl (Or.inl rfl))
        (pss_cons (ps_set (i := 5) nd rfl (Or.inl rfl) (pe_slice sl_str (pe_fg (pe_fld (pv 1) rfl)) po_none (po_some (pv 4))))
        (pss_one (ps_if (pt_val (pe_bm PySem.F.plainAttrs_str PySem.F.slot_str_endswith PySem.F.type_str_endswith mt_endswith (pe_fg (pe_fld (pv 0) rfl)) (pa_cons (pv 5) pa_nil)))
          (pss_cons (ps_set (i := 6) nd rfl (Or.inl rfl) (pe_slice sl_str (pe_fg (pe_fld (pv 0) rfl)) po_none (po_some (pe_op op_sub (pe_callB call_len_str (by rfl) T.bn_len PySem.boot_len (pa_cons (pe_fg (pe_fld (pv 0) rfl)) pa_nil)) (pv 4)))))
          (pss_one (ps_expr (pe_bm PySem.F.plainAttrs_list PySem.F.slot_list_append PySem.F.type_list_append mt_append (pv 2)
            (pa_cons (pe_tup (pa_cons (pe_op op_add_str (pe_fg (pe_fld (pv 0) rfl)) (pe_slice sl_str (pe_fg (pe_fld (pv 1) rfl)) (po_some (pv 4)) po_none)) (pa_cons (pe_op op_add_str (pv 6) (pe_fg (pe_fld (pv 1) rfl))) pa_nil))) pa_nil)))))
          pss_nil))))
      (pss_one (ps_ret (pv 2))))), ?_⟩
    refine ⟨Nat.zero_le _, fun g hg => ?_⟩
    have s0 : Same H (upd H g (.lst [])) := Same.new hg
    refine ⟨_, rfl, a, _, da, _, _, rfl, s0 _ _ ha, T.cl_Rule, T.na_Rule_left, s_left, _, rfl, S_small (by omega), _, _, rfl, rfl, _, rfl, b, _, db, _, _, rfl, s0 _ _ hb, T.cl_Rule, T.na_Rule_left, s_left, _, rfl, S_small (by omega), _, _, rfl, ?_⟩
    dsimp only
    generalize hm : min (r.left.length - 1) q.left.length = m at k
    have e1 : (if ((S q.left).length : Int) < ((S r.left).length : Int) - 2 then ((S q.left).length : Int) else ((S r.left).length : Int) - 2) = ((2 * m : Nat) : Int) := by
      rw [S_len, S_len]
      split <;> omega
    rw [e1]
    refine ⟨_, rfl, _, _, rfl, rfl, _, _, _, m, rfl, rgc2 (by decide) (by show ((2 * m : Nat) : Int) + 1 < 100000; omega) (by show 0 ≤ ((2 * m : Nat) : Int) + 1; omega) (.inr (by show ((2 * m : Nat) : Int) + 1 - 2 = 2 * (m : Int) - 1; omega)) (by decide), ?_⟩
    refine for_rangeC (fun i σ H2 => ∃ v4 v5 v6 ts ps, σ = [some (.ref a), some (.ref b), some (.ref g), some (.int ((2 * m : Nat) : Int)), v4, v5, v6] ∧ Same H H2 ∧ PairsAt H2 g ts ps ∧ OverK r q i ps)
      ⟨none, none, none, [], [], rfl, s0, PairsAt.nil upd_same, OverK.zero r q⟩ ?_ ?_
    · rintro i σ H2 hi ⟨v4, v5, v6, ts, ps, rfl, s2, hP, hO⟩
      have ei : (2 : Int) + ((i : Nat) : Int) * 2 = ((2 * (i + 1) : Nat) : Int) := by omega
      rw [ei]
      have ha2 := s2 _ _ ha
      have hb2 := s2 _ _ hb
      have h1 : i + 1 < r.left.length := by omega
      have h2 : i + 1 ≤ q.left.length := by omega
      refine ⟨_, rfl, b, _, db, _, _, rfl, hb2, T.cl_Rule, T.na_Rule_left, s_left, _, rfl, _, rfl, _, rfl, S_small (by omega), ?_⟩
      rw [S_cut]
      refine ⟨_, rfl, a, _, da, _, _, rfl, ha2, T.cl_Rule, T.na_Rule_left, s_left, rfl, _, rfl, _, _, rfl, rfl, _, rfl, ?_⟩
      have hlt : (q.left.take (i + 1)).length = i + 1 := by rw [List.length_take]; omega
      rw [ends_S b1 (bytes_take b3 _) (by rw [hlt]; omega), hlt]
      refine ite2 (fun c => ?_) (fun c => ?_)
      · have c := of_decide_eq_true c
        refine ⟨_, rfl, a, _, da, _, _, rfl, ha2, T.cl_Rule, T.na_Rule_left, s_left, _, rfl, a, _, da, _, _, rfl, ha2, T.cl_Rule, T.na_Rule_left, s_left, _, rfl, S_small (by omega), _, rfl, _, _, rfl, rfl, ?_⟩
        dsimp only
        have e2 : ((S r.left).length : Int) - ((2 * (i + 1) : Nat) : Int) = ((2 * (r.left.length - (i + 1)) : Nat) : Int) := by
          rw [S_len]; omega
        rw [e2]
        refine ⟨_, rfl, _, rfl, S_small (by omega), ?_⟩
        rw [S_cut]
        refine ⟨_, rfl, .inl ⟨rfl, _, SqL.of hP.lst⟩, _, rfl, a, _, da, _, _, rfl, ha2, T.cl_Rule, T.na_Rule_right, s_right, _, rfl, b, _, db, _, _, rfl, hb2, T.cl_Rule, T.na_Rule_left, s_left, _, rfl, _, rfl, _, rfl, S_small (by omega), ?_⟩
        rw [S_rest]
        refine ⟨_, _, rfl, rfl, ?_, ?_⟩
        · show (S r.right).length + _ ≤ _
          rw [S_len, S_len, List.length_drop]
          omega
        show tOp _ _ _ _ _ _
        refine ⟨_, rfl, _, rfl, b, _, db, _, _, rfl, hb2, T.cl_Rule, T.na_Rule_right, s_right, _, _, rfl, rfl, ?_, ?_⟩
        · show _ + (S q.right).length ≤ _
          rw [S_len, S_len, List.length_take]
          omega
        refine ⟨(by show 2 ≤ sizeLine; decide), fun T0 hT0 => ?_⟩
        have s3 : Same H2 (upd H2 T0 (.tup [.str (S r.right ++ S (q.left.drop (i + 1))), .str (S (r.left.take (r.left.length - (i + 1))) ++ S q.right)])) := Same.new hT0
        have hP3 := hP.same s3
        refine ⟨g, _, _, rfl, rfl, hP3.lst, ?_, ?_⟩
        · rw [List.length_map, hP.len]
          have := hO.few
          omega
        · have e3 : ts.map V.ref ++ [V.ref T0] = (ts ++ [T0]).map V.ref := by rw [List.map_append]; rfl
          rw [e3]
          refine ⟨_, _, _, ts ++ [T0], _, rfl, ?_, hP3.snoc (z := (r.right ++ q.left.drop (i + 1), r.left.take (r.left.length - (i + 1)) ++ q.right)) (by rw [upd_same, S_append, S_append]), hO.yes h1 h2 c⟩
          exact fun x o e => by
            rw [upd_ne (ne_of_none e hg)]
            exact s3 x o (s2 x o e)
      · have c : ¬ r.left.drop (r.left.length - (i + 1)) = q.left.take (i + 1) := fun z => c (decide_eq_true z)
        exact ⟨_, _, _, ts, ps, rfl, s2, hP, hO.no h1 h2 c⟩
    · rintro σ H2 ⟨v4, v5, v6, ts, ps, rfl, s2, hP, hO⟩
      exact ⟨_, rfl, k g ts ps H2 hg hP hO s2⟩
set_option maxHeartbeats 8000000 in
theorem ok_within {f : Addr} {fd : FuncData} (F : Fun K "within" "within" s_within f fd) (T : Txt K mg A) (gT : FnIn P w K mg base 1 "turned" p_turned (spTurned A)) : FnOk P w K mg base CX0 2 f fd p_within (spWithin A) := by
  refine F.ok sc_within (fun vs H Q E h => ?_) (fun cdv B outer s H vs Q E hr h => ?_)
  · obtain ⟨a, b, r, q, rfl, _⟩ := h
    rfl
  · obtain ⟨a, b, r, q, rfl, hra, hqa, b1, b2, b3, b4, l1, l2, l3, l4, hpos, k⟩ := h
    have nd := sc_within.nd
    obtain ⟨da, ha⟩ := id hra
    obtain ⟨db, hb⟩ := id hqa
    obtain ⟨fT, fdT, GT, bT, mT, kT⟩ := gT
    have hsz : sizeLine = 16777216 := sizeLine_eq
    have hne : q.left ≠ [] := fun e => by rw [e] at hpos; exact absurd hpos (by decide)
    refine ⟨_, pss_cons (ps_set (i := 2) nd rfl (Or.inl rfl) (pe_lst pa_nil))
      (pss_cons (ps_set (i := 3) nd rfl (Or.inl rfl) (pe_bm PySem.F.plainAttrs_str PySem.F.slot_str_find PySem.F.type_str_find mt_fnd1 (pe_fg (pe_fld (pv 0) rfl)) (pa_cons (pe_fg (pe_fld (pv 1) rfl)) pa_nil)))
      (pss_cons (ps_while PassesOwn.never (pt_cmpR op_ge (pv 3) pe_int (nomark _))
        (pss_cons (ps_expr (pe_bm PySem.F.plainAttrs_list PySem.F.slot_list_append PySem.F.type_list_append mt_append (pv 2)
            (pa_cons (pe_tup (pa_cons (pe_fg (pe_fld (pv 0) rfl)) (pa_cons (pe_call GT hr (by rfl) mT kT bT .nil pass0 (pa_cons (pe_fg (pe_fld (pv 0) rfl)) (pa_cons (pv 1) (pa_cons (pv 3) pa_nil)))) pa_nil))) pa_nil)))
        (pss_one (ps_set (i := 3) nd rfl (Or.inl rfl) (pe_bm PySem.F.plainAttrs_str PySem.F.slot_str_find PySem.F.type_str_find mt_fnd2 (pe_fg (pe_fld (pv 0) rfl)) (pa_cons (pe_fg (pe_fld (pv 1) rfl)) (pa_cons (pe_op op_add (pv 3) pe_int) pa_nil)))))))
      (pss_one (ps_ret (pv 2))))), ?_⟩
    refine ⟨Nat.zero_le _, fun g hg => ?_⟩
    have s0 : Same H (upd H g (.lst [])) := Same.new hg
    refine ⟨_, rfl, a, _, da, _, _, rfl, s0 _ _ ha, T.cl_Rule, T.na_Rule_left, s_left, rfl, _, rfl, b, _, db, _, _, rfl, s0 _ _ hb, T.cl_Rule, T.na_Rule_left, s_left, _, _, rfl, rfl, ?_⟩
    rw [fnd_all b3 b1]
    refine ⟨fun m σ H2 => ∃ (j : Nat) (o : Option Nat) (ts : List Addr) (ps : List (List Nat × List Nat)), σ = [some (.ref a), some (.ref b), some (.ref g), some (.int (ofO o))] ∧ First q.left r.left j r.left.length o ∧ Same H H2 ∧ PairsAt H2 g ts ps ∧ WithinK r q j ps ∧ j ≤ r.left.length + 1 - q.left.length ∧ m = r.left.length + 1 - j,
      ⟨_, 0, _, [], [], rfl, findAt_first _ _, s0, PairsAt.nil upd_same, WithinK.zero r q, Nat.zero_le _, rfl⟩, ?_⟩
    rintro m σ H2 ⟨j, o, ts, ps, rfl, hF, s2, hP, hW, hj, rfl⟩
    cases o with
    | none =>
      refine ⟨_, rfl, _, _, rfl, rfl, _, rfl, iteF ?_⟩
      have hf := hW.few
      exact ⟨_, rfl, k g ts ps H2 hg hP hW.sound (hW.all hF) (by omega) s2⟩
    | some p =>
      have ha2 := s2 _ _ ha
      have hb2 := s2 _ _ hb
      obtain ⟨f1, f2, f3, f4⟩ := id hF
      have c : decide ((0 : Int) ≤ ofO (some p)) = true := decide_eq_true (by show (0 : Int) ≤ ((2 * p : Nat) : Int); omega)
      refine ⟨_, rfl, _, _, rfl, rfl, _, rfl, ite2 (fun _ => ?_) (fun z => absurd c z)⟩
      refine ⟨_, fun σ' H' h => h, ?_⟩
      refine ⟨_, rfl, .inl ⟨rfl, _, SqL.of hP.lst⟩, _, rfl, a, _, da, _, _, rfl, ha2, T.cl_Rule, T.na_Rule_right, s_right, _, rfl, a, _, da, _, _, rfl, ha2, T.cl_Rule, T.na_Rule_left, s_left, _, rfl, _, rfl,
        r.left, b, p, q, rfl, ⟨db, hb2⟩, by omega, l3, l4, ?_⟩
      refine ⟨(by show 2 ≤ sizeLine; decide), fun T0 hT0 => ?_⟩
      have s3 : Same H2 (upd H2 T0 (.tup [.str (S r.right), .str (S (Rd09.put q r.left p))])) := Same.new hT0
      have hP3 := hP.same s3
      refine ⟨g, _, _, rfl, rfl, hP3.lst, ?_, ?_⟩
      · rw [List.length_map, hP.len]
        have := hW.few
        omega
      have e3 : ts.map V.ref ++ [V.ref T0] = (ts ++ [T0]).map V.ref := by rw [List.map_append]; rfl
      rw [e3]
      have s4 : Same H (upd (upd H2 T0 (.tup [.str (S r.right), .str (S (Rd09.put q r.left p))])) g (.lst ((ts ++ [T0]).map V.ref))) := fun x o e => by
        rw [upd_ne (ne_of_none e hg)]
        exact s3 x o (s2 x o e)
      refine ⟨_, rfl, a, _, da, _, _, rfl, s4 _ _ ha, T.cl_Rule, T.na_Rule_left, s_left, rfl, _, rfl, b, _, db, _, _, rfl, s4 _ _ hb, T.cl_Rule, T.na_Rule_left, s_left, _, rfl, _, _, rfl, rfl, _, _, _, rfl, rfl, ?_⟩
      dsimp only
      have e4 : ofO (some p) + 1 = ((2 * p + 1 : Nat) : Int) := by
        show ((2 * p : Nat) : Int) + 1 = _
        omega
      rw [e4, from_nat]
      obtain ⟨o', hF'⟩ := first_ex q.left r.left (p + 1) r.left.length
      rw [fnd_odd b3 b1 hne hF']
      exact ⟨r.left.length + 1 - (p + 1), by omega, p + 1, o', ts ++ [T0], _, rfl, hF', s4, hP3.snoc (z := (r.right, inB r q p)) (by rw [upd_same]; rfl), hW.next hF, by omega, rfl⟩
end
end RT

namespace RT
open PySem L2 TL

def spJoin (A : Ad) : Sp := fun vs H Q _ => ∃ (l : Addr) (as : List Addr) (R : List Rd09.Rule), vs = [.ref l] ∧ RulesAt A H l as R ∧ RulesOk R ∧ Rd09.shorter R = true ∧ R.length ≤ 64 ∧ ∀ H', Same H H' → Q (.bl (Rd09.joins R)) H'
/-- within the loops of do_join -/
structure JAt (A : Ad) (H : Hp) (R : List Rd09.Rule) (p l d : Addr) (H2 : Hp) (kvs : List (Key × V)) (n : Nat) : Prop where
  rests : RestsAt A H2 p l d
  dict : H2 d = some (.dK kvs)
  known : Known R kvs
  few : kvs.length ≤ n
  same : Same H H2
def Met (R : List Rd09.Rule) (r q : Rd09.Rule) : Prop := ∃ ps, MeetOk r q ps ∧ ∀ z ∈ ps, Rd09.least R z.1 = Rd09.least R z.2
theorem JAt.more {A : Ad} {H H2 : Hp} {R : List Rd09.Rule} {p l d : Addr} {kvs : List (Key × V)} {n m : Nat} (h : JAt A H R p l d H2 kvs n) (hn : n ≤ m) : JAt A H R p l d H2 kvs m := ⟨h.rests, h.dict, h.known, Nat.le_trans h.few hn, h.same⟩
theorem JAt.ext {A : Ad} {H H2 H3 : Hp} {R : List Rd09.Rule} {p l d : Addr} {kvs : List (Key × V)} {n : Nat} (h : JAt A H R p l d H2 kvs n) (s : Same H2 H3) : JAt A H R p l d H3 kvs n :=
  ⟨let ⟨dx, z⟩ := h.rests; ⟨dx, s _ _ z⟩, s _ _ h.dict, h.known, h.few, h.same.trans s⟩
section
variable {P : Program} {w : World} {K : PySem.W.Frag} {mg : Str → Option Value} {base : Heap} {A : Ad}
set_option maxHeartbeats 16000000 in
theorem ok_do_join {f : Addr} {fd : FuncData} (F : Fun K "do_join" "do_join" s_do_join f fd) (T : Txt K mg A) (gI : MkIn P w K mg base 1 A.Rests p_Rests_init (spRests A)) (gO : FnIn P w K mg base 1 "over_a_part" p_over_a_part (spOver A)) (gW : FnIn P w K mg base 2 "within" p_within (spWithin A))
    (gS : MeIn P w K mg base 3 A.Rests "are_same" p_Rests_are_same (spSame A)) : FnOk P w K mg base CX0 4 f fd p_do_join (spJoin A) := by
  refine F.ok sc_do_join (fun vs H Q E h => ?_) (fun cdv B outer s H vs Q E hr h => ?_)
  · obtain ⟨l, as, R, rfl, _⟩ := h
    rfl
  · obtain ⟨l, as, R, rfl, hR, hok, hsh, h64, k⟩ := h
    have nd := sc_do_join.nd
    obtain ⟨fI, fdI, GI, bI, MI⟩ := gI
    obtain ⟨fO, fdO, GO, bO, mO, kO⟩ := gO
    obtain ⟨fW, fdW, GW, bW, mW, kW⟩ := gW
    obtain ⟨fS, fdS, GS, bS, mS⟩ := gS
    have hr1 : Room 1 _ := hr.mono (by decide)
    have hr2 : Room 2 _ := hr.mono (by decide)
    have hsz : sizeLine = 16777216 := sizeLine_eq
    refine ⟨_, pss_cons (ps_set (i := 1) nd rfl (Or.inl rfl) (pe_make MI GI hr2 (by rfl) T.mg_Rests bI .nil pass0 (pa_cons (pv 0) pa_nil)))
      (pss_cons (ps_for PassesOwn.never rfl (pi_list (pv 0)) (pg_name (i := 2) nd rfl (Or.inl rfl))
        (pss_one (ps_for PassesOwn.never rfl (pi_list (pv 0)) (pg_name (i := 3) nd rfl (Or.inl rfl))
          (pss_one (ps_for PassesOwn.never rfl (pi_list (pe_op op_cat (pe_call GO hr1 (by rfl) mO kO bO .nil pass0 (pa_cons (pv 2) (pa_cons (pv 3) pa_nil))) (pe_call GW hr2 (by rfl) mW kW bW .nil pass0 (pa_cons (pv 2) (pa_cons (pv 3) pa_nil)))))
            (pg_tup rfl (pgs_cons (pg_name (i := 4) nd rfl (Or.inl rfl)) (pgs_cons (pg_name (i := 5) nd rfl (Or.inl rfl)) pgs_nil)))
            (pss_one (ps_if (pt_not (pt_val (pe_meth (pv 1) T.cl_Rests mS GS hr bS .nil pass0 (pa_cons (pv 4) (pa_cons (pv 5) pa_nil))))) (pss_one (ps_ret pe_bl)) pss_nil)))))))
      (pss_one (ps_ret pe_bl))), ?_⟩
    refine ⟨_, rfl, fun p dp np ndp nep => ?_⟩
    refine ⟨p, dp, l, rfl, upd_same, fun d H1 nd1 hd1 P1 k1 => ⟨rfl, ?_⟩⟩
    have s1 : Same H H1 := Same.made np ndp k1
    have s0 : Same H (upd (upd H dp (.own p)) p (.ins A.Rests dp [])) := fun b o e => by
      rw [upd_ne (ne_of_none e np), upd_ne (ne_of_none e ndp)]
      exact e
    have hd0 : H d = none := s0.free nd1
    have J0 : JAt A H R p l d H1 [] 0 := ⟨P1, hd1, Known.nil R, Nat.le_refl _, s1⟩
    have lst : ∀ {H2 : Hp}, Same H H2 → SqL K H2 l (as.map V.ref) := fun {H2} s2 => SqL.of (s2 _ _ hR.lst)
    refine ⟨_, rfl, l, rfl, ⟨_, lst s1⟩, for_list (K := K) (a := l) (xs := as.map V.ref) (fun i σ H2 => ∃ v2 v3 v4 v5 kvs, σ = [some (.ref l), some (.ref p), v2, v3, v4, v5] ∧ JAt A H R p l d H2 kvs (64 * i * 4034) ∧ ∀ (j : Nat) (r : Rd09.Rule), j < i → R[j]? = some r → ∀ q ∈ R, Met R r q)
      ⟨none, none, none, none, [], rfl, J0, fun j r hj => absurd hj (Nat.not_lt_zero _)⟩ (fun i σ H2 _ ⟨_, _, _, _, _, _, J, _⟩ => lst J.same) ?_ ?_⟩
    · rintro i x σ H2 hx ⟨v2, v3, v4, v5, kvs, rfl, J, hmet⟩
      rw [List.getElem?_map] at hx
      cases ei : as[i]? with
      | none => rw [ei] at hx; cases hx
      | some a =>
        rw [ei] at hx
        cases hx
        obtain ⟨r, hri, da, ha⟩ := hR.at_ i a ei
        have hi : i < R.length := (List.getElem?_eq_some_iff.mp hri).1
        have hrm := List.mem_of_getElem? hri
        obtain ⟨r1, r2, r3, r4⟩ := hok.le r hrm
        have hrs := shorter_of hsh hri
        refine ⟨_, rfl, l, rfl, ⟨_, lst J.same⟩, for_list (K := K) (a := l) (xs := as.map V.ref) (fun i' σ H2 => ∃ v3 v4 v5 kvs, σ = [some (.ref l), some (.ref p), some (.ref a), v3, v4, v5] ∧ JAt A H R p l d H2 kvs ((64 * i + i') * 4034) ∧ ∀ (j : Nat) (q : Rd09.Rule), j < i' → R[j]? = some q → Met R r q)
          ⟨v3, v4, v5, kvs, rfl, J.more (by omega), fun j q hj => absurd hj (Nat.not_lt_zero _)⟩ (fun i σ H2 _ ⟨_, _, _, _, _, J, _⟩ => lst J.same) ?_ ?_⟩
        · rintro i' x σ H3 hx ⟨v3, v4, v5, kvs3, rfl, J3, hmet3⟩
          rw [List.getElem?_map] at hx
          cases ej : as[i']? with
          | none => rw [ej] at hx; cases hx
          | some b =>
            rw [ej] at hx
            cases hx
            obtain ⟨q, hqi, db, hb⟩ := hR.at_ i' b ej
            have hi' : i' < R.length := (List.getElem?_eq_some_iff.mp hqi).1
            have hqm := List.mem_of_getElem? hqi
            obtain ⟨q1, q2, q3, q4⟩ := hok.le q hqm
            have hqs := shorter_of hsh hqi
            have ra3 : RuleAt A H3 a r := ⟨da, J3.same _ _ ha⟩
            have rb3 : RuleAt A H3 b q := ⟨db, J3.same _ _ hb⟩
            refine ⟨_, rfl, _, rfl, a, b, r, q, rfl, ra3, rb3, r1, r2, q1, q2, r3, r4, q3, q4, by omega, fun g1 ts1 ps1 H4 ng1 hP1 hO1 s4 => ?_⟩
            have ra4 : RuleAt A H4 a r := let ⟨z, e⟩ := ra3; ⟨z, s4 _ _ e⟩
            have rb4 : RuleAt A H4 b q := let ⟨z, e⟩ := rb3; ⟨z, s4 _ _ e⟩
            refine ⟨_, rfl, _, rfl, a, b, r, q, rfl, ra4, rb4, r1, r2, q1, q2, r3, r4, q3, q4, by omega, fun g2 ts2 ps2 H5 ng2 hP2 hW1 hW2 hW3 s5 => ?_⟩
            have hP1' := hP1.same s5
            have few1 := hO1.few
            refine ⟨g1, g2, _, _, rfl, rfl, hP1'.lst, hP2.lst, by rw [List.length_map, List.length_map, hP1.len, hP2.len]; omega, fun G hG => ?_⟩
            have s6 : Same H5 (upd H5 G (.lst (ts1.map V.ref ++ ts2.map V.ref))) := Same.new hG
            have m : MeetOk r q (ps1 ++ ps2) := by
              refine ⟨fun z hz => ?_, fun i h0 h1 h2 => List.mem_append_left _ (hO1.all rfl i h0 h1 h2), fun i h1 h2 => List.mem_append_right _ (hW2 i h1 h2)⟩
              rcases List.mem_append.mp hz with mz | mz
              · exact .inl (hO1.sound z mz)
              · exact .inr (hW1 z mz)
            have hcost := meet_costs hrs hqs r3 q3 hO1.sound hW1 few1 hW3
            have J6 := (J3.ext (s4.trans s5)).ext s6
            -- the texts of a pair
            have pair : ∀ (n : Nat) (v : V), (ts1.map V.ref ++ ts2.map V.ref)[n]? = some v → ∃ (t0 : Addr) (z : List Nat × List Nat), v = .ref t0 ∧ (ps1 ++ ps2)[n]? = some z ∧ H5 t0 = some (.tup [.str (S z.1), .str (S z.2)]) := fun n v hv => by
              by_cases hn : n < ts1.length
              · rw [List.getElem?_append_left (by rw [List.length_map]; exact hn), List.getElem?_map] at hv
                cases et : ts1[n]? with
                | none => rw [et] at hv; cases hv
                | some t0 =>
                  rw [et] at hv
                  cases hv
                  obtain ⟨z, e1, e2⟩ := hP1'.at_ n t0 et
                  exact ⟨t0, z, rfl, by rw [List.getElem?_append_left (by rw [← hP1.len]; exact hn)]; exact e1, e2⟩
              · rw [List.getElem?_append_right (by rw [List.length_map]; omega), List.length_map, List.getElem?_map] at hv
                cases et : ts2[n - ts1.length]? with
                | none => rw [et] at hv; cases hv
                | some t0 =>
                  rw [et] at hv
                  cases hv
                  obtain ⟨z, e1, e2⟩ := hP2.at_ _ t0 et
                  exact ⟨t0, z, rfl, by rw [List.getElem?_append_right (by rw [← hP1.len]; omega), ← hP1.len]; exact e1, e2⟩
            have plen : (ts1.map V.ref ++ ts2.map V.ref).length = (ps1 ++ ps2).length := by
              rw [List.length_append, List.length_append, List.length_map, List.length_map, hP1.len, hP2.len]
            have zlen : ∀ z ∈ ps1 ++ ps2, (Bytes z.1 ∧ z.1.length ≤ 1000) ∧ Bytes z.2 ∧ z.2.length ≤ 1000 := fun z hz => by
              rcases m.sound z hz with ⟨i, h0, h1, h2, e⟩ | ⟨i, h1, h2, e⟩
              · have hl := (isPrefixOf_iff.mp h2).1
                rw [List.length_drop] at hl
                subst e
                refine ⟨⟨bytes_append r2 (bytes_drop q1 _), ?_⟩, bytes_append (bytes_take r1 _) q2, ?_⟩
                · show (r.right ++ _).length ≤ _
                  rw [List.length_append, List.length_drop]; omega
                · show (_ ++ q.right).length ≤ _
                  rw [List.length_append, List.length_take]; omega
              · subst e
                refine ⟨⟨r2, by show r.right.length ≤ 1000; omega⟩, bytes_append (bytes_take r1 _) (bytes_append q2 (bytes_drop r1 _)), ?_⟩
                show (_ ++ (q.right ++ _)).length ≤ _
                rw [List.length_append, List.length_append, List.length_drop, List.length_take]; omega
            refine ⟨G, rfl, ⟨_, SqL.of upd_same⟩, for_list (K := K) (a := G) (xs := ts1.map V.ref ++ ts2.map V.ref) (fun n σ H7 => ∃ v4 v5 kvs, σ = [some (.ref l), some (.ref p), some (.ref a), some (.ref b), v4, v5] ∧ JAt A H R p l d H7 kvs ((64 * i + i') * 4034 + costs ((ps1 ++ ps2).take n)) ∧ Keep d (upd H5 G (.lst (ts1.map V.ref ++ ts2.map V.ref))) H7 ∧
                ∀ (j : Nat) (z : List Nat × List Nat), j < n → (ps1 ++ ps2)[j]? = some z → Rd09.least R z.1 = Rd09.least R z.2)
              ⟨v4, v5, kvs3, rfl, J6.more (by omega), Keep.refl _ _, fun j z hj => absurd hj (Nat.not_lt_zero _)⟩ (fun n σ H7 _ ⟨_, _, _, _, _, k7, _⟩ => SqL.of (k7 _ _ upd_same (ne_of upd_same J6.dict (by intro z; cases z)))) ?_ ?_⟩
            · rintro n v σ H7 hv ⟨v4, v5, kvs7, rfl, J7, k7, heq⟩
              obtain ⟨t0, z, rfl, ez, ht0⟩ := pair n v hv
              have ht6 := s6 _ _ ht0
              have ht7 := k7 _ _ ht6 (ne_of ht6 J6.dict (by intro q; cases q))
              have hzm := List.mem_of_getElem? ez
              obtain ⟨⟨zb1, zl1⟩, zb2, zl2⟩ := zlen z hzm
              have hct := costs_take_succ ez
              have hcl := costs_take_le (ps1 ++ ps2) (n + 1)
              have hcz : cost z = z.1.length + z.2.length + 2 := rfl
              refine ⟨t0, _, rfl, SqT.of ht7, rfl, _, _, rfl, _, _, rfl, rfl, ?_⟩
              obtain ⟨dx7, hp7⟩ := id J7.rests
              have hR7 := hR.same J7.same
              have few7 := J7.few
              refine ⟨_, rfl, p, dx7, _, rfl, hp7, q_no (by decide +kernel) (by decide +kernel), _, rfl, _, rfl, p, l, d, as, R, kvs7, z.1, z.2, rfl, J7.rests, hR7, hok, hsh, J7.dict, J7.known, zb1, zl1, zb2, zl2, by omega, fun kvs8 H8 hd8 hk8 hl8 k8 => ?_⟩
              have J8 : JAt A H R p l d H8 kvs8 ((64 * i + i') * 4034 + costs ((ps1 ++ ps2).take (n + 1))) := ⟨J7.rests.keep J7.dict k8, hd8, hk8, by omega, fun x o e => k8 x o (J7.same x o e) (ne_of_none e hd0)⟩
              refine ⟨_, rfl, ?_⟩
              by_cases c : Rd09.least R z.1 = Rd09.least R z.2
              · rw [decide_eq_true c]
                refine iteF ?_
                refine ⟨_, _, kvs8, rfl, J8, k7.trans k8, fun j y hj hy => ?_⟩
                rcases Nat.lt_or_eq_of_le (Nat.le_of_lt_succ hj) with h1 | h1
                · exact heq j y h1 hy
                · rw [h1, ez] at hy
                  cases hy
                  exact c
              · rw [decide_eq_false c]
                refine iteT ?_
                have ef := MeetOk.not_joins hrm hqm m hzm c
                have q := k H8 J8.same
                rw [ef] at q
                exact q
            · rintro σ H7 ⟨v4, v5, kvs7, rfl, J7, k7, heq⟩
              rw [plen, List.take_of_length_le (Nat.le_refl _)] at J7
              refine ⟨_, _, _, kvs7, rfl, J7.more (by omega), fun j y hj hy => ?_⟩
              rcases Nat.lt_or_eq_of_le (Nat.le_of_lt_succ hj) with h1 | h1
              · exact hmet3 j y h1 hy
              · rw [h1, hqi] at hy
                cases hy
                refine ⟨ps1 ++ ps2, m, fun z hz => ?_⟩
                obtain ⟨n, hn⟩ := List.getElem?_of_mem hz
                exact heq n z (by rw [plen]; exact (List.getElem?_eq_some_iff.mp hn).1) hn
        · rintro σ H3 ⟨v3, v4, v5, kvs3, rfl, J3, hmet3⟩
          rw [List.length_map, hR.len] at J3 hmet3
          refine ⟨_, _, _, _, kvs3, rfl, J3.more (by omega), fun j y hj hy => ?_⟩
          rcases Nat.lt_or_eq_of_le (Nat.le_of_lt_succ hj) with h1 | h1
          · exact hmet j y h1 hy
          · rw [h1, hri] at hy
            cases hy
            intro q hq
            obtain ⟨n, hn⟩ := List.getElem?_of_mem hq
            exact hmet3 n q (List.getElem?_eq_some_iff.mp hn).1 hn
    · rintro σ H2 ⟨v2, v3, v4, v5, kvs, rfl, J, hmet⟩
      rw [List.length_map, hR.len] at hmet
      have et : Rd09.joins R = true := MeetOk.joins fun r hr q hq => by
        obtain ⟨n, hn⟩ := List.getElem?_of_mem hr
        exact hmet n r (List.getElem?_eq_some_iff.mp hn).1 hn q hq
      have q := k H2 J.same
      rw [et] at q
      exact q
end
end RT

namespace RT
open PySem L2 TL

def nextV (R : List Rd09.Rule) (s : Rd09.Run) : Int := if s.over ≠ 0 then -1 else match Rd09.next R s.text with
  | some z => ((z.1 * 16384 + z.2 : Nat) : Int)
  | none => -1
def spFind (A : Ad) : Sp := fun vs H Q _ => ∃ (p l : Addr) (j : V) (as : List Addr) (R : List Rd09.Rule) (s : Rd09.Run), vs = [.ref p] ∧ TurnAt A H p l j s ∧ RulesAt A H l as R ∧ RulesOk R ∧ R.length ≤ 64 ∧ ∀ H', Same H H' → Q (.int (joinV R)) H'
def spTellJoins (A : Ad) : Sp := fun vs H Q _ => ∃ (p l : Addr) (j : V) (as : List Addr) (R : List Rd09.Rule) (s : Rd09.Run), vs = [.ref p] ∧ TurnAt A H p l j s ∧ RulesAt A H l as R ∧ RulesOk R ∧ R.length ≤ 64 ∧ (j = .non ∨ j = .int (joinV R)) ∧
  ∀ H', TurnAt A H' p l (.int (joinV R)) s → Keep p H H' → Q (.int (joinV R)) H'
def spTellSteps (A : Ad) : Sp := fun vs H Q _ => ∃ (p l : Addr) (j : V) (s : Rd09.Run), vs = [.ref p] ∧ TurnAt A H p l j s ∧ Q (.int ((min s.steps 1000000000 : Nat) : Int)) H
def spTellNext (A : Ad) : Sp := fun vs H Q _ => ∃ (p l : Addr) (j : V) (as : List Addr) (R : List Rd09.Rule) (s : Rd09.Run), vs = [.ref p] ∧ TurnAt A H p l j s ∧ RulesAt A H l as R ∧ RulesOk R ∧ Bytes s.text ∧ ∀ H', Same H H' → Q (.int (nextV R s)) H'
def spTellText (A : Ad) : Sp := fun vs H Q _ => ∃ (p l : Addr) (j : V) (s : Rd09.Run) (most : Int), vs = [.ref p, .int most] ∧ TurnAt A H p l j s ∧ Bytes s.text ∧ s.text.length ≤ 8192 ∧
  ∀ (m : Addr) (H' : Hp), H m = none → H' m = some (.lst (((s.text.length : Int) :: (s.text.take (Rd09.room_ most Rd09.LONG)).map fun (b : Nat) => (b : Int)).map V.int)) → Same H H' → Q (.ref m) H'
section
variable {P : Program} {w : World} {K : PySem.W.Frag} {mg : Str → Option Value} {base : Heap} {A : Ad}
theorem ok_Turning_find_joins {f : Addr} {fd : FuncData} (F : Fun K "find_joins" "Turning.find_joins" s_Turning_find_joins f fd) (T : Txt K mg A) (gS : FnIn P w K mg base 1 "shortens" p_shortens (spShortens A)) (gJ : FnIn P w K mg base 4 "do_join" p_do_join (spJoin A)) :
    FnOk P w K mg base CX0 5 f fd p_Turning_find_joins (spFind A) := by
  refine F.ok sc_Turning_find_joins (fun vs H Q E h => ?_) (fun cdv B outer s H vs Q E hr h => ?_)
  · obtain ⟨p, l, j, as, R, s, rfl, _⟩ := h
    rfl
  · obtain ⟨p, l, j, as, R, s, rfl, hT, hR, hok, h64, k⟩ := h
    have nd := sc_Turning_find_joins.nd
    obtain ⟨dp, hp⟩ := id hT
    obtain ⟨u1, hm1, r1⟩ := T.gl_NOT_SHORTENING
    obtain ⟨fS, fdS, GS, bS, mS, kS⟩ := gS
    obtain ⟨fJ, fdJ, GJ, bJ, mJ, kJ⟩ := gJ
    have hr1 : Room 1 _ := hr.mono (by decide)
    refine ⟨_, pss_cons (ps_for PassesOwn.never rfl (pi_list (pe_fld (pv 0) rfl)) (pg_name (i := 1) nd rfl (Or.inl rfl))
        (pss_one (ps_if (pt_not (pt_val (pe_call GS hr1 (by rfl) mS kS bS .nil pass0 (pa_cons (pv 1) pa_nil)))) (pss_one (ps_ret (pe_glob (by rfl) hm1 r1))) pss_nil)))
      (pss_one (ps_ret (pe_ifExp (pt_val (pe_call GJ hr (by rfl) mJ kJ bJ .nil pass0 (pa_cons (pe_fld (pv 0) rfl) pa_nil))) pe_int pe_int))), ?_⟩
    refine ⟨_, rfl, p, _, dp, _, _, rfl, hp, T.cl_Turning, T.na_Turning_rules, t_rules, l, rfl, ⟨_, SqL.of hR.lst⟩, for_list (K := K) (a := l) (xs := as.map V.ref) (fun i σ H2 => ∃ v1, σ = [some (.ref p), v1] ∧ H2 = H ∧ ∀ (n : Nat) (r : Rd09.Rule), n < i → R[n]? = some r → r.right.length < r.left.length)
      ⟨none, rfl, rfl, fun n r hn => absurd hn (Nat.not_lt_zero _)⟩ (fun i σ H2 _ ⟨_, _, e, _⟩ => by rw [e]; exact SqL.of hR.lst) ?_ ?_⟩
    · rintro i x σ H2 hx ⟨v1, rfl, rfl, hless⟩
      rw [List.getElem?_map] at hx
      cases e : as[i]? with
      | none => rw [e] at hx; cases hx
      | some a =>
        rw [e] at hx
        cases hx
        obtain ⟨r, hri, ha⟩ := hR.at_ i a e
        obtain ⟨hl1, hl2, hl3, hl4⟩ := hok.le r (List.mem_of_getElem? hri)
        refine ⟨_, rfl, a, r, rfl, ha, hl3, hl4, _, rfl, ?_⟩
        by_cases c : r.right.length < r.left.length
        · rw [decide_eq_true c]
          refine iteF ⟨_, rfl, rfl, fun n y hn hy => ?_⟩
          rcases Nat.lt_or_eq_of_le (Nat.le_of_lt_succ hn) with h1 | h1
          · exact hless n y h1 hy
          · rw [h1, hri] at hy
            cases hy
            exact c
        · rw [decide_eq_false c]
          refine iteT ?_
          have es : Rd09.shorter R = false := Bool.eq_false_iff.mpr fun h => c (shorter_of h hri)
          have q := k H2 (Same.refl _)
          unfold joinV at q
          rw [if_pos es] at q
          exact q
    · rintro σ H2 ⟨v1, rfl, rfl, hless⟩
      have es : Rd09.shorter R = true := by
        unfold Rd09.shorter
        refine List.all_eq_true.mpr fun r hr => decide_eq_true ?_
        obtain ⟨n, hn⟩ := List.getElem?_of_mem hr
        exact hless n r (by rw [List.length_map, hR.len]; exact (List.getElem?_eq_some_iff.mp hn).1) hn
      refine ⟨_, rfl, p, _, dp, _, _, rfl, hp, T.cl_Turning, T.na_Turning_rules, t_rules, l, as, R, rfl, hR, hok, es, h64, fun H3 s3 => ?_⟩
      have q := k H3 s3
      unfold joinV at q
      rw [if_neg (by rw [es]; decide)] at q
      refine ⟨_, rfl, ite2 (fun c => ?_) (fun c => ?_)⟩
      · rw [if_pos c] at q
        exact q
      · rw [if_neg c] at q
        exact q
theorem ok_Turning_tell_joins {f : Addr} {fd : FuncData} (F : Fun K "tell_joins" "Turning.tell_joins" s_Turning_tell_joins f fd) (T : Txt K mg A) (gF : MeIn P w K mg base 5 A.Turning "find_joins" p_Turning_find_joins (spFind A)) :
    FnOk P w K mg base CX0 6 f fd p_Turning_tell_joins (spTellJoins A) := by
  refine F.ok sc_Turning_tell_joins (fun vs H Q E h => ?_) (fun cdv B outer s H vs Q E hr h => ?_)
  · obtain ⟨p, l, j, as, R, s, rfl, _⟩ := h
    rfl
  · obtain ⟨p, l, j, as, R, s, rfl, hT, hR, hok, h64, hj, k⟩ := h
    obtain ⟨dp, hp⟩ := id hT
    obtain ⟨fF, fdF, GF, bF, mF⟩ := gF
    refine ⟨_, pss_cons (ps_if (pt_cmpR op_isN (pe_fld (pv 0) rfl) pe_non (nomark _)) (pss_one (ps_fld (pv 0) (pe_meth0 (pv 0) T.cl_Turning mF GF hr bF .nil pass0) rfl)) pss_nil)
      (pss_one (ps_ret (pe_fld (pv 0) rfl))), ?_⟩
    refine ⟨_, rfl, p, _, dp, _, _, rfl, hp, T.cl_Turning, T.na_Turning_joined, t_joined, rfl, _, rfl, ite2 (fun c => ?_) (fun c => ?_)⟩
    · refine ⟨_, rfl, p, dp, _, rfl, hp, t_no (by decide +kernel) (by decide +kernel) (by decide +kernel) (by decide +kernel) (by decide +kernel), p, l, j, as, R, s, rfl, hT, hR, hok, h64, fun H2 s2 => ?_⟩
      refine ⟨_, rfl, p, _, dp, _, rfl, s2 _ _ hp, T.cl_Turning, T.na_Turning_joined, (by show 5 < 1000; decide), ?_⟩
      rw [t_put_joined]
      refine ⟨_, rfl, p, _, dp, _, _, rfl, upd_same, T.cl_Turning, T.na_Turning_joined, t_joined, ?_⟩
      exact k _ ⟨dp, upd_same⟩ (s2.keep.trans Keep.upd)
    · have ej : j = .int (joinV R) := by
        rcases hj with e | e
        · exact absurd (decide_eq_true e) c
        · exact e
      subst ej
      exact ⟨_, rfl, p, _, dp, _, _, rfl, hp, T.cl_Turning, T.na_Turning_joined, t_joined, k H hT (Keep.refl _ _)⟩
theorem ok_Turning_tell_steps {f : Addr} {fd : FuncData} (F : Fun K "tell_steps" "Turning.tell_steps" s_Turning_tell_steps f fd) (T : Txt K mg A) : FnOk P w K mg base CX0 1 f fd p_Turning_tell_steps (spTellSteps A) := by
  refine F.ok sc_Turning_tell_steps (fun vs H Q E h => ?_) (fun cdv B outer s H vs Q E hr h => ?_)
  · obtain ⟨p, l, j, s, rfl, _⟩ := h
    rfl
  · obtain ⟨p, l, j, s, rfl, ⟨dp, hp⟩, q⟩ := h
    obtain ⟨u1, hm1, r1⟩ := T.gl_MOST_STEPS_TOLD
    refine ⟨_, pss_one (ps_ret (pe_callB (call_min2 rfl) (by rfl) T.bn_min PyProof.Rows.boot_min (pa_cons (pe_fld (pv 0) rfl) (pa_cons (pe_glob (by rfl) hm1 r1) pa_nil)))), ?_⟩
    refine ⟨_, rfl, p, _, dp, _, _, rfl, hp, T.cl_Turning, T.na_Turning_steps, t_steps, _, _, rfl, ?_⟩
    have e : (if (1000000000 : Int) < ((s.steps : Nat) : Int) then (1000000000 : Int) else ((s.steps : Nat) : Int)) = ((min s.steps 1000000000 : Nat) : Int) := by
      split <;> omega
    show Q (.int (if (1000000000 : Int) < ((s.steps : Nat) : Int) then (1000000000 : Int) else ((s.steps : Nat) : Int))) H
    rw [e]
    exact q
theorem ok_Turning_tell_next {f : Addr} {fd : FuncData} (F : Fun K "tell_next" "Turning.tell_next" s_Turning_tell_next f fd) (T : Txt K mg A) (gN : FnIn P w K mg base 3 "next_fit" p_next_fit (spNext A)) : FnOk P w K mg base CX0 4 f fd p_Turning_tell_next (spTellNext A) := by
  refine F.ok sc_Turning_tell_next (fun vs H Q E h => ?_) (fun cdv B outer s H vs Q E hr h => ?_)
  · obtain ⟨p, l, j, as, R, s, rfl, _⟩ := h
    rfl
  · obtain ⟨p, l, j, as, R, s, rfl, ⟨dp, hp⟩, hR, hok, hb, k⟩ := h
    have nd := sc_Turning_tell_next.nd
    obtain ⟨u1, hm1, r1⟩ := T.gl_NOT_OVER
    obtain ⟨u2, hm2, r2⟩ := T.gl_NO_NEXT_STEP
    obtain ⟨u3, hm3, r3⟩ := T.gl_PLACES_PER_RULE
    obtain ⟨u4, hm4, r4⟩ := T.gl_SIGNS_PER_BYTE
    obtain ⟨fN, fdN, GN, bN, mN, kN⟩ := gN
    refine ⟨_, pss_cons (ps_if (pt_cmpR op_ne (pe_fld (pv 0) rfl) (pe_glob (by rfl) hm1 r1) (nomark _)) (pss_one (ps_ret (pe_glob (by rfl) hm2 r2))) pss_nil)
      (pss_cons (ps_set (i := 1) nd rfl (Or.inl rfl) (pe_call GN hr (by rfl) mN kN bN .nil pass0 (pa_cons (pe_fld (pv 0) rfl) (pa_cons (pe_fld (pv 0) rfl) (pa_cons pe_non pa_nil)))))
      (pss_cons (ps_if (pt_cmpR op_isN (pv 1) pe_non (nomark _)) (pss_one (ps_ret (pe_glob (by rfl) hm2 r2))) pss_nil)
      (pss_one (ps_ret (pe_op op_add (pe_op op_mul (pe_glob (by rfl) hm3 r3) (pe_fld (pv 1) rfl)) (pe_op op_fdiv (pe_fld (pv 1) rfl) (pe_glob (by rfl) hm4 r4))))))), ?_⟩
    refine ⟨_, rfl, p, _, dp, _, _, rfl, hp, T.cl_Turning, T.na_Turning_over, t_over, rfl, _, rfl, ?_⟩
    by_cases h0 : s.over = 0
    · have c : decide (V.int ((s.over : Nat) : Int) = V.int 0) = true := decide_eq_true (by rw [h0]; rfl)
      rw [c]
      refine iteF ?_
      refine ⟨_, rfl, p, _, dp, _, _, rfl, hp, T.cl_Turning, T.na_Turning_rules, t_rules, _, rfl, p, _, dp, _, _, rfl, hp, T.cl_Turning, T.na_Turning_text, t_text,
        l, s.text, .non, as, R, rfl, hR, hok, hb, .inl rfl, fun hn H2 s2 => ?_, fun k' i a r hsome ha hr' x H2 nx hf s2 => ?_⟩
      · refine ⟨_, rfl, rfl, _, rfl, ite2 (fun _ => ?_) (fun z => absurd (decide_eq_true rfl) z)⟩
        have q := k H2 s2
        unfold nextV at q
        rw [if_neg (by rw [h0]; exact fun z => z rfl), hn] at q
        exact q
      · refine ⟨_, rfl, rfl, _, rfl, ite2 (fun z => absurd (of_decide_eq_true z) (by intro e; cases e)) (fun _ => ?_)⟩
        obtain ⟨df, hf'⟩ := hf
        refine ⟨_, rfl, x, _, df, _, _, rfl, hf', T.cl_Fit, T.na_Fit_number, f_number, _, _, rfl, rfl, .inl ⟨by decide, by decide⟩, _, rfl, x, _, df, _, _, rfl, hf', T.cl_Fit, T.na_Fit_place, f_place, _, _, rfl, rfl, ⟨by decide, by decide⟩, _, _, rfl, rfl, ?_⟩
        have q := k H2 s2
        unfold nextV at q
        rw [if_neg (by rw [h0]; exact fun z => z rfl), hsome] at q
        have e : (16384 : Int) * ((k' : Nat) : Int) + ((2 * i : Nat) : Int) / 2 = ((k' * 16384 + i : Nat) : Int) := by omega
        show Q (.int ((16384 : Int) * ((k' : Nat) : Int) + ((2 * i : Nat) : Int) / 2)) H2
        rw [e]
        exact q
    · have c : decide (V.int ((s.over : Nat) : Int) = V.int 0) = false := decide_eq_false fun e => h0 (by have := V.int.inj e; omega)
      rw [c]
      refine iteT ?_
      have q := k H (Same.refl _)
      unfold nextV at q
      rw [if_pos h0] at q
      exact q
theorem ok_Turning_tell_text {f : Addr} {fd : FuncData} (F : Fun K "tell_text" "Turning.tell_text" s_Turning_tell_text f fd) (T : Txt K mg A) (gB : FnIn P w K mg base 1 "read_back" p_read_back spBack) : FnOk P w K mg base CX0 2 f fd p_Turning_tell_text (spTellText A) := by
  refine F.ok sc_Turning_tell_text (fun vs H Q E h => ?_) (fun cdv B outer s H vs Q E hr h => ?_)
  · obtain ⟨p, l, j, s, most, rfl, _⟩ := h
    rfl
  · obtain ⟨p, l, j, s, most, rfl, ⟨dp, hp⟩, hb, hl, k⟩ := h
    have nd := sc_Turning_tell_text.nd
    obtain ⟨u1, hm1, r1⟩ := T.gl_SIGNS_PER_BYTE
    obtain ⟨u2, hm2, r2⟩ := T.gl_LONGEST_TEXT
    obtain ⟨fB, fdB, GB, bB, mB, kB⟩ := gB
    have hsz : sizeLine = 16777216 := sizeLine_eq
    refine ⟨_, pss_cons (ps_set (i := 2) nd rfl (Or.inl rfl) (pe_op op_fdiv (pe_callB call_len_str (by rfl) T.bn_len PySem.boot_len (pa_cons (pe_fld (pv 0) rfl) pa_nil)) (pe_glob (by rfl) hm1 r1)))
      (pss_cons (ps_if (PW.pt (pw_or (pt_cmpR op_lt (pv 1) pe_int (nomark _)) (pw_or1 (pt_cmpR op_gt (pv 1) (pe_glob (by rfl) hm2 r2) (nomark _))))) (pss_one (ps_ret (pe_lst (pa_cons (pv 2) pa_nil)))) pss_nil)
      (pss_one (ps_ret (pe_op op_cat (pe_lst (pa_cons (pv 2) pa_nil)) (pe_call GB hr (by rfl) mB kB bB .nil pass0 (pa_cons (pe_slice sl_str (pe_fld (pv 0) rfl) po_none (po_some (pe_op op_mul (pv 1) (pe_glob (by rfl) hm1 r1)))) pa_nil)))))), ?_⟩
    refine ⟨_, rfl, p, _, dp, _, _, rfl, hp, T.cl_Turning, T.na_Turning_text, t_text, _, rfl, S_small (by omega), _, _, rfl, rfl, ⟨by decide, by decide⟩, ?_⟩
    dsimp only
    have e1 : ((S s.text).length : Int) / 2 = (s.text.length : Int) := by rw [S_len]; omega
    rw [e1]
    have bad : (most < 1 ∨ most > 8192) → ∀ m, H m = none → Q (.ref m) (upd H m (.lst [.int (s.text.length : Int)])) := fun hbad m hm => by
      refine k m _ hm ?_ (Same.new hm)
      have e : Rd09.room_ most Rd09.LONG = 0 := by
        unfold Rd09.room_
        rw [if_neg]
        rw [long_is]
        omega
      rw [e, upd_same]
      rfl
    by_cases h1 : most < 1
    · refine ⟨_, rfl, _, _, rfl, rfl, _, rfl, ite2 (fun _ => iteT ?_) (fun z => absurd (decide_eq_true h1) z)⟩
      exact ⟨_, rfl, (by show 1 ≤ sizeLine; decide), fun m hm => bad (.inl h1) m hm⟩
    refine ⟨_, rfl, _, _, rfl, rfl, _, rfl, ite2 (fun z => absurd (of_decide_eq_true z) h1) (fun _ => ?_)⟩
    by_cases h2 : (8192 : Int) < most
    · refine ⟨_, rfl, _, _, rfl, rfl, _, rfl, ite2 (fun _ => ?_) (fun z => absurd (decide_eq_true h2) z)⟩
      exact ⟨_, rfl, (by show 1 ≤ sizeLine; decide), fun m hm => bad (.inr h2) m hm⟩
    refine ⟨_, rfl, _, _, rfl, rfl, _, rfl, ite2 (fun z => absurd (of_decide_eq_true z) h2) (fun _ => ?_)⟩
    obtain ⟨n, rfl⟩ : ∃ n : Nat, most = (n : Int) := ⟨most.toNat, by omega⟩
    refine ⟨_, rfl, (by show 1 ≤ sizeLine; decide), fun g hg => ?_⟩
    have s1 : Same H (upd H g (.lst [.int (s.text.length : Int)])) := Same.new hg
    refine ⟨_, rfl, p, _, dp, _, _, rfl, s1 _ _ hp, T.cl_Turning, T.na_Turning_text, t_text, _, rfl, _, _, rfl, rfl, .inr ⟨by decide, by decide⟩, ?_⟩
    dsimp only
    have e2 : ((n : Nat) : Int) * 2 = ((2 * n : Nat) : Int) := by omega
    rw [e2]
    refine ⟨_, rfl, _, rfl, S_small (by omega), ?_⟩
    rw [S_cut]
    refine ⟨s.text.take n, rfl, bytes_take hb n, by rw [List.length_take]; omega, fun b H2 nb hb2 s2 => ?_⟩
    refine ⟨g, b, _, _, rfl, rfl, s2 _ _ upd_same, hb2, ?_, fun m hm => ?_⟩
    · rw [List.length_map, List.length_take]
      show 1 + _ ≤ _
      omega
    · have s12 := s1.trans s2
      refine k m _ (s12.free hm) ?_ (s12.trans (Same.new hm))
      have e : Rd09.room_ ((n : Nat) : Int) Rd09.LONG = n := by
        unfold Rd09.room_
        rw [if_pos]
        · exact Int.toNat_natCast n
        · rw [long_is]
          omega
      rw [e, upd_same, List.map_cons, List.map_map]
      rfl
end
end RT

namespace RT
open PySem L2 TL

/-- the list that was handed in -/
def InAt (K : PySem.W.Frag) (H : Hp) (a : Addr) (xs : List V) : Prop := (∃ o, H a = some (.frz o (.lst xs))) ∨ ∀ H' : Hp, SqL K H' a xs
theorem InAt.seq {K : PySem.W.Frag} {H : Hp} {a : Addr} {xs : List V} (h : InAt K H a xs) : SqL K H a xs := by
  rcases h with ⟨o, h⟩ | h
  · exact .inl (.inr ⟨o, h⟩)
  · exact h H
theorem InAt.keep3 {K : PySem.W.Frag} {A : Ad} {H H' : Hp} {a p q l b : Addr} {i : Nat} {j : V} {u : Rd09.Run} {xs ys : List V} (h : InAt K H a xs) (hT : TurnAt A H p l j u) (hq : ReaderAt A H q b i) (hl : H l = some (.lst ys)) (k : Keep3 p q l H H') : InAt K H' a xs := by
  rcases h with ⟨o, h⟩ | h
  · obtain ⟨dp, hp⟩ := hT
    obtain ⟨dq, hq⟩ := hq
    exact .inl ⟨o, k _ _ h (ne_of h hp (by intro z; cases z)) (ne_of h hq (by intro z; cases z)) (ne_of h hl (by intro z; cases z))⟩
  · exact .inr h
theorem InAt.same {K : PySem.W.Frag} {H H' : Hp} {a : Addr} {xs : List V} (h : InAt K H a xs) (s : Same H H') : InAt K H' a xs := by
  rcases h with ⟨o, h⟩ | h
  · exact .inl ⟨o, s _ _ h⟩
  · exact .inr h
theorem InAt.keep {K : PySem.W.Frag} {H H' : Hp} {a p : Addr} {xs : List V} (h : InAt K H a xs) (hp : ∃ C dx fs, H p = some (.ins C dx fs)) (k : Keep p H H') : InAt K H' a xs := by
  rcases h with ⟨o, h⟩ | h
  · obtain ⟨C, dx, fs, hp⟩ := hp
    exact .inl ⟨o, k _ _ h (ne_of h hp (by intro z; cases z))⟩
  · exact .inr h
theorem InAt.of {K : PySem.W.Frag} {H : Hp} {a : Addr} {xs : List V} (hO : Only H) (h : SqL K H a xs) : InAt K H a xs := by
  rcases h with (h | ⟨o, h⟩) | h
  · rcases hO a with e | ⟨o, ys, e⟩
    · rw [h] at e; cases e
    · rw [h] at e; cases e
  · exact .inl ⟨o, h⟩
  · exact .inr fun _ => .inr h
/-- a rule's object -/
def RuleO (A : Ad) (o : HO) : Prop := ∃ d r, o = .ins A.Rule (DX.d d) (ruleF d r)
theorem RulesAt.snoc {A : Ad} {H H' : Hp} {l x : Addr} {as : List Addr} {R : List Rd09.Rule} {r : Rd09.Rule} (h : RulesAt A H l as R) (hl : H' l = some (.lst ((as ++ [x]).map V.ref))) (hx : RuleAt A H' x r) (k : ∀ b o, H b = some o → RuleO A o → H' b = some o) : RulesAt A H' l (as ++ [x]) (R ++ [r]) := by
  refine ⟨hl, by rw [List.length_append, List.length_append, h.len]; rfl, fun j a e => ?_⟩
  by_cases hj : j < as.length
  · rw [List.getElem?_append_left hj] at e
    obtain ⟨r', e1, da, ha⟩ := h.at_ j a e
    refine ⟨r', ?_, da, k _ _ ha ⟨_, _, rfl⟩⟩
    rw [List.getElem?_append_left (by rw [← h.len]; exact hj)]
    exact e1
  · rw [List.getElem?_append_right (by omega)] at e
    have hj2 : j - as.length = 0 := by
      have := (List.getElem?_eq_some_iff.mp e).1
      simp at this
      omega
    rw [hj2] at e
    cases e
    refine ⟨r, ?_, hx⟩
    rw [List.getElem?_append_right (by rw [← h.len]; omega), ← h.len, hj2]
    rfl
theorem ruleok_snoc {R : List Rd09.Rule} {r : Rd09.Rule} (h : RulesOk R) (hr : Bytes r.left ∧ Bytes r.right ∧ r.left.length ≤ 32 ∧ r.right.length ≤ 32) : RulesOk (R ++ [r]) :=
  ⟨fun q hq => by
    rcases List.mem_append.mp hq with m | m
    · exact h.le q m
    · rw [List.mem_singleton.mp m]; exact hr⟩
/-- free ahead, free before -/
theorem Keep.free {p l : Addr} {H H' : Hp} (k : Keep p H H') (h : H' l = none) (n : l ≠ p) : H l = none := by
  cases q : H l with
  | none => rfl
  | some o =>
    rw [k l o q n] at h
    cases h

def spAnsRule (K : PySem.W.Frag) (A : Ad) : Sp := fun vs H Q _ => ∃ (p q l a : Addr) (s : Rd09.Abs) (i : Nat) (ns : List Int) (stop : Int) (left right : List Int), vs = [.ref p, .ref q] ∧ StateAt A H p l s ∧ ReaderAt A H q a i ∧ InAt K H a (ns.map V.int) ∧
  ns.drop i = (stop :: (left.length : Int) :: (left ++ ((right.length : Int) :: right))) ++ ns.drop (i + 3 + left.length + right.length) ∧ Oct left ∧ left.length ≤ 32 ∧ Oct right ∧ right.length ≤ 32 ∧
  ∀ (H' : Hp), StateAt A H' p l (Rd09.does s (PC.rule stop left right).call).1 → ReaderAt A H' q a (i + 3 + left.length + right.length) → Keep3 p q l H H' → Q (.int (Rd09.does s (PC.rule stop left right).call).2.value) H'
section
variable {P : Program} {w : World} {K : PySem.W.Frag} {mg : Str → Option Value} {base : Heap} {A : Ad}
theorem ok_answer_rule {f : Addr} {fd : FuncData} (F : Fun K "answer_rule" "answer_rule" s_answer_rule f fd) (T : Txt K mg A) (gN : MeIn P w K mg base 1 A.CallReader "read_number" p_CallReader_read_number (spNumber K A)) (gR : MeIn P w K mg base 2 A.CallReader "read_row" p_CallReader_read_row (spRow K A))
    (gA : MeIn P w K mg base 3 A.Turning "add_rule" p_Turning_add_rule (spAdd K A)) : FnOk P w K mg base CX0 4 f fd p_answer_rule (spAnsRule K A) := by
  refine F.ok sc_answer_rule (fun vs H Q E h => ?_) (fun cdv B outer sh H vs Q E hr h => ?_)
  · obtain ⟨p, q, l, a, s, i, ns, stop, left, right, rfl, _⟩ := h
    rfl
  · obtain ⟨p, q, l, a, s, i, ns, stop, left, right, rfl, hS, hq, hI, hd, ol, ll, orr, lr, k⟩ := h
    have nd := sc_answer_rule.nd
    obtain ⟨fN, fdN, GN, bN, mN⟩ := gN
    obtain ⟨fR, fdR, GR, bR, mR⟩ := gR
    obtain ⟨fA, fdA, GA, bA, mA⟩ := gA
    have hr1 : Room 1 _ := hr.mono (by decide)
    have hr2 : Room 2 _ := hr.mono (by decide)
    refine ⟨_, pss_cons (ps_set (i := 2) nd rfl (Or.inl rfl) (pe_meth0 (pv 1) T.cl_CallReader mN GN hr1 bN .nil pass0))
      (pss_cons (ps_set (i := 3) nd rfl (Or.inl rfl) (pe_meth0 (pv 1) T.cl_CallReader mR GR hr2 bR .nil pass0))
      (pss_cons (ps_set (i := 4) nd rfl (Or.inl rfl) (pe_meth0 (pv 1) T.cl_CallReader mR GR hr2 bR .nil pass0))
      (pss_one (ps_ret (pe_meth (pv 0) T.cl_Turning mA GA hr bA .nil pass0 (pa_cons (pv 3) (pa_cons (pv 4) (pa_cons (pv 2) pa_nil)))))))), ?_⟩
    have d1 : ns[i]? = some stop := by
      have : (ns.drop i)[0]? = some stop := by rw [hd]; rfl
      rw [List.getElem?_drop] at this
      exact this
    have d2 : ns.drop (i + 1) = (left.length : Int) :: (left ++ ns.drop (i + 1 + 1 + left.length)) := by
      have e1 : ns.drop (i + 1) = (left.length : Int) :: (left ++ ((right.length : Int) :: (right ++ ns.drop (i + 3 + left.length + right.length)))) := by
        rw [← List.drop_drop, hd]
        simp
      have e2 : ns.drop (i + 1 + 1 + left.length) = (right.length : Int) :: (right ++ ns.drop (i + 3 + left.length + right.length)) := by
        have : i + 1 + 1 + left.length = (i + 1) + (1 + left.length) := by omega
        rw [this, ← List.drop_drop, e1, ← List.drop_drop]
        show (left ++ _).drop left.length = _
        rw [List.drop_left]
      rw [e1, e2]
    have d3 : ns.drop (i + 1 + 1 + left.length) = (right.length : Int) :: (right ++ ns.drop (i + 1 + 1 + left.length + 1 + right.length)) := by
      have e1 : ns.drop (i + 1) = (left.length : Int) :: (left ++ ((right.length : Int) :: (right ++ ns.drop (i + 3 + left.length + right.length)))) := by
        rw [← List.drop_drop, hd]
        simp
      have e3 : i + 1 + 1 + left.length = (i + 1) + (1 + left.length) := by omega
      have e4 : i + 1 + 1 + left.length + 1 + right.length = i + 3 + left.length + right.length := by omega
      rw [e4, e3, ← List.drop_drop, e1, ← List.drop_drop]
      show (left ++ _).drop left.length = _
      rw [List.drop_left]
    obtain ⟨dq, hq'⟩ := id hq
    refine ⟨_, rfl, q, dq, _, rfl, hq', r_no (by decide +kernel) (by decide +kernel), q, a, i, ns, stop, rfl, hq, hI.seq, d1, fun H1 q1 k1 => ?_⟩
    have I1 := hI.keep ⟨_, _, _, hq'⟩ k1
    have S1 := hS.keep hq k1
    obtain ⟨dq1, hq1⟩ := id q1
    refine ⟨_, rfl, q, dq1, _, rfl, hq1, r_no (by decide +kernel) (by decide +kernel), q, a, i + 1, ns, left, rfl, q1, I1.seq, d2, fun a1 H2 n1 l1 q2 k2 => ?_⟩
    have I2 := I1.keep ⟨_, _, _, hq1⟩ k2
    have S2 := S1.keep q1 k2
    obtain ⟨dq2, hq2⟩ := id q2
    refine ⟨_, rfl, q, dq2, _, rfl, hq2, r_no (by decide +kernel) (by decide +kernel), q, a, i + 1 + 1 + left.length, ns, right, rfl, q2, I2.seq, d3, fun a2 H3 n2 l2 q3 k3 => ?_⟩
    have S3 := S2.keep q2 k3
    have l1' : H3 a1 = some (.lst (left.map V.int)) := k3 _ _ l1 (q2.ne_lst l1)
    obtain ⟨as, u, j, hT, hR, hu, hb, hsh, hj⟩ := S3.ex
    obtain ⟨dp, hp⟩ := id hT
    have k03 : Keep q H H3 := (k1.trans k2).trans k3
    have eix : i + 1 + 1 + left.length + 1 + right.length = i + 3 + left.length + right.length := by omega
    rw [eix] at q3
    have same_end : ∀ {H' : Hp}, Same H3 H' → StateAt A H' p l s ∧ ReaderAt A H' q a (i + 3 + left.length + right.length) ∧ Keep3 p q l H H' := fun {H'} s' => by
      obtain ⟨d, h⟩ := q3
      exact ⟨S3.same s', ⟨d, s' _ _ h⟩, k03.q3.trans s'.k3⟩
    refine ⟨_, rfl, p, dp, _, rfl, hp, t_no (by decide +kernel) (by decide +kernel) (by decide +kernel) (by decide +kernel) (by decide +kernel), _, rfl, _, rfl, _, rfl,
      p, l, a1, a2, j, as, s.rules, u, left, right, stop, rfl, hT, hR, SqL.of l1', SqL.of l2, ol, ll, orr, lr, hS.few, fun hst H' s' => ?_, fun hst hm H' s' => ?_, fun hst hm x H' nx hl' hx' T' kl => ?_⟩
    · obtain ⟨e1, e2, e3⟩ := same_end s'
      have ed := does_rule_bad (s := s) (l := left) (r := right) hst
      rw [ed] at k
      exact k H' e1 e2 e3
    · obtain ⟨e1, e2, e3⟩ := same_end s'
      have ed := does_rule (s := s) ll lr hst
      rw [if_pos hm] at ed
      rw [ed] at k
      exact k H' e1 e2 e3
    · have ed := does_rule (s := s) ll lr hst
      rw [if_neg (by omega)] at ed
      rw [ed] at k
      have npl : p ≠ l := (hT.ne_lst hR.lst).symm
      refine k H' ⟨⟨as ++ [x], u, .non, T', hR.snoc hl' hx' (fun b o e ⟨d, r, eo⟩ => kl b o e (RuleAt.ne_turn hT ⟨d, eo ▸ e⟩) (by subst eo; exact ne_of e hR.lst (by intro z; cases z))), hu, hb, hsh, .inl rfl⟩, ruleok_snoc hS.ok ⟨nats_bytes ol, nats_bytes orr, by rw [nats_len]; exact ll, by rw [nats_len]; exact lr⟩, ?_⟩ ?_ (k03.q3.trans fun b o e n1 _ n3 => kl b o e n1 n3)
      · show (s.rules ++ [_]).length ≤ 64
        rw [List.length_append]
        show s.rules.length + 1 ≤ 64
        omega
      · obtain ⟨d, h⟩ := id q3
        exact ⟨d, kl _ _ h (q3.ne_turn hT) (q3.ne_lst hR.lst).symm⟩
end
end RT

namespace RT
open PySem L2 TL

theorem StateAt.keepL {A : Ad} {H H' : Hp} {p l x : Addr} {s : Rd09.Abs} {ys : List V} (h : StateAt A H p l s) (hx : H x = some (.lst ys)) (n : x ≠ l) (k : Keep x H H') : StateAt A H' p l s := by
  obtain ⟨as, u, j, hT, hR, h1, h2, h3, hj⟩ := h.ex
  obtain ⟨dp, hp⟩ := id hT
  refine ⟨⟨as, u, j, ⟨dp, k _ _ hp (hT.ne_lst hx).symm⟩, ⟨k _ _ hR.lst n.symm, hR.len, fun j b e => ?_⟩, h1, h2, h3, hj⟩, h.ok, h.few⟩
  obtain ⟨r, e1, db, hb⟩ := hR.at_ j b e
  exact ⟨r, e1, db, k _ _ hb (ne_of hb hx (by intro z; cases z))⟩
theorem StateAt.short {A : Ad} {H : Hp} {p l : Addr} {s : Rd09.Abs} (h : StateAt A H p l s) : s.run.text.length ≤ 8192 := by
  obtain ⟨as, u, _, _, _, h1, _, h3, _⟩ := h.ex
  rw [← h1]
  exact h3
theorem ReaderAt.keepL {A : Ad} {H H' : Hp} {q a x : Addr} {i : Nat} {ys : List V} (h : ReaderAt A H q a i) (hx : H x = some (.lst ys)) (k : Keep x H H') : ReaderAt A H' q a i := by
  obtain ⟨d, h'⟩ := id h
  exact ⟨d, k _ _ h' (h.ne_lst hx).symm⟩
theorem InAt.keepL {K : PySem.W.Frag} {H H' : Hp} {a x : Addr} {xs ys : List V} (h : InAt K H a xs) (hx : H x = some (.lst ys)) (k : Keep x H H') : InAt K H' a xs := by
  rcases h with ⟨o, h⟩ | h
  · exact .inl ⟨o, k _ _ h (ne_of h hx (by intro z; cases z))⟩
  · exact .inr h
theorem state_empty {A : Ad} {H : Hp} {p l : Addr} (hT : TurnAt A H p l .non ⟨[], 0, 0⟩) (hl : H l = some (.lst [])) : StateAt A H p l {} :=
  ⟨⟨[], ⟨[], 0, 0⟩, .non, hT, ⟨hl, rfl, fun j a e => by simp at e⟩, rfl, fun b hb => by simp at hb, Nat.zero_le _, .inl rfl⟩, ⟨fun r hr => by simp at hr⟩, Nat.zero_le _⟩

def spCall (K : PySem.W.Frag) (A : Ad) : Sp := fun vs H Q _ => ∃ (p q l a : Addr) (s : Rd09.Abs) (i : Nat) (ns : List Int) (c : PC), vs = [.ref p, .ref q] ∧ StateAt A H p l s ∧ ReaderAt A H q a i ∧ InAt K H a (ns.map V.int) ∧
  ns.drop i = c.flat ++ ns.drop (i + c.flat.length) ∧ c.ok ∧
  ∀ (m l' : Addr) (H' : Hp), (∀ b o, H b = some o → b ≠ p → b ≠ q → b ≠ l → b ≠ m) → H' m = some (.lst ((ansL (Rd09.does s c.call).2).map V.int)) → (l' = l ∨ H l' = none) → m ≠ l' → StateAt A H' p l' (Rd09.does s c.call).1 → ReaderAt A H' q a (i + c.flat.length) → Keep3 p q l H H' → Q (.ref m) H'
theorem V.ne_int {i j : Int} (h : i ≠ j) : ¬ decide (V.int i = V.int j) = true := fun z => h (V.int.inj (of_decide_eq_true z))
section
variable {P : Program} {w : World} {K : PySem.W.Frag} {mg : Str → Option Value} {base : Heap} {A : Ad}
theorem ok_answer_next {f : Addr} {fd : FuncData} (F : Fun K "answer_next" "answer_next" s_answer_next f fd) (T : Txt K mg A) (gN : MeIn P w K mg base 1 A.CallReader "read_number" p_CallReader_read_number (spNumber K A)) (gR : MeIn P w K mg base 2 A.CallReader "read_row" p_CallReader_read_row (spRow K A))
    (gB : MeIn P w K mg base 2 A.Turning "begin" p_Turning_begin (spBegin A)) (gA : FnIn P w K mg base 4 "answer_rule" p_answer_rule (spAnsRule K A)) (gT : MeIn P w K mg base 2 A.Turning "give_text" p_Turning_give_text (spText K A)) (gU : MeIn P w K mg base 4 A.Turning "run" p_Turning_run (spRun A))
    (gE : MeIn P w K mg base 2 A.Turning "tell_text" p_Turning_tell_text (spTellText A)) (gX : MeIn P w K mg base 4 A.Turning "tell_next" p_Turning_tell_next (spTellNext A)) (gP : MeIn P w K mg base 1 A.Turning "tell_steps" p_Turning_tell_steps (spTellSteps A)) (gJ : MeIn P w K mg base 6 A.Turning "tell_joins" p_Turning_tell_joins (spTellJoins A)) :
    FnOk P w K mg base CX0 7 f fd p_answer_next (spCall K A) := by
  refine F.ok sc_answer_next (fun vs H Q E h => ?_) (fun cdv B outer sh H vs Q E hr h => ?_)
  · obtain ⟨p, q, l, a, s, i, ns, c, rfl, _⟩ := h
    rfl
  · obtain ⟨p, q, l, a, s, i, ns, c, rfl, hS, hq, hI, hd, hok, k⟩ := h
    have nd := sc_answer_next.nd
    obtain ⟨fN, fdN, GN, bN, mN⟩ := gN
    obtain ⟨fR, fdR, GR, bR, mR⟩ := gR
    obtain ⟨fB, fdB, GB, bB, mB⟩ := gB
    obtain ⟨fA, fdA, GA, bA, mA, kA⟩ := gA
    obtain ⟨fT, fdT, GT, bT, mT⟩ := gT
    obtain ⟨fU, fdU, GU, bU, mU⟩ := gU
    obtain ⟨fE, fdE, GE, bE, mE⟩ := gE
    obtain ⟨fX, fdX, GX, bX, mX⟩ := gX
    obtain ⟨fP, fdP, GP, bP, mP⟩ := gP
    obtain ⟨fJ, fdJ, GJ, bJ, mJ⟩ := gJ
    obtain ⟨u4, hm4, r4⟩ := T.gl_READ
    obtain ⟨u5, hm5, r5⟩ := T.gl_NEXT
    obtain ⟨u6, hm6, r6⟩ := T.gl_STEPS
    obtain ⟨u7, hm7, r7⟩ := T.gl_JOINS
    have hr4 : Room 4 _ := hr.mono (by decide)
    obtain ⟨u0, hm0, r0⟩ := T.gl_BEGIN
    obtain ⟨u1, hm1, r1⟩ := T.gl_RULE
    obtain ⟨u2, hm2, r2⟩ := T.gl_TEXT
    obtain ⟨u3, hm3, r3⟩ := T.gl_RUN
    have hr1 : Room 1 _ := hr.mono (by decide)
    have hr2 : Room 2 _ := hr.mono (by decide)
    refine ⟨_, pss_cons (ps_set (i := 2) nd rfl (Or.inl rfl) (pe_meth0 (pv 1) T.cl_CallReader mN GN hr1 bN .nil pass0))
      (pss_cons (ps_if (pt_cmpR op_eq (pv 2) (pe_glob (by rfl) hm0 r0) (nomark _)) (pss_one (ps_ret (pe_lst (pa_cons (pe_meth0 (pv 0) T.cl_Turning mB GB hr2 bB .nil pass0) pa_nil)))) pss_nil)
      (pss_cons (ps_if (pt_cmpR op_eq (pv 2) (pe_glob (by rfl) hm1 r1) (nomark _)) (pss_one (ps_ret (pe_lst (pa_cons (pe_call GA hr4 (by rfl) mA kA bA .nil pass0 (pa_cons (pv 0) (pa_cons (pv 1) pa_nil))) pa_nil)))) pss_nil)
      (pss_cons (ps_if (pt_cmpR op_eq (pv 2) (pe_glob (by rfl) hm2 r2) (nomark _)) (pss_one (ps_ret (pe_lst (pa_cons (pe_meth (pv 0) T.cl_Turning mT GT hr2 bT .nil pass0 (pa_cons (pe_meth0 (pv 1) T.cl_CallReader mR GR hr2 bR .nil pass0) pa_nil)) pa_nil)))) pss_nil)
      (pss_cons (ps_if (pt_cmpR op_eq (pv 2) (pe_glob (by rfl) hm3 r3) (nomark _)) (pss_one (ps_ret (pe_lst (pa_cons (pe_meth (pv 0) T.cl_Turning mU GU hr4 bU .nil pass0 (pa_cons (pe_meth0 (pv 1) T.cl_CallReader mN GN hr1 bN .nil pass0) pa_nil)) pa_nil)))) pss_nil)
      (pss_cons (ps_if (pt_cmpR op_eq (pv 2) (pe_glob (by rfl) hm4 r4) (nomark _)) (pss_one (ps_ret (pe_meth (pv 0) T.cl_Turning mE GE hr2 bE .nil pass0 (pa_cons (pe_meth0 (pv 1) T.cl_CallReader mN GN hr1 bN .nil pass0) pa_nil)))) pss_nil)
      (pss_cons (ps_if (pt_cmpR op_eq (pv 2) (pe_glob (by rfl) hm5 r5) (nomark _)) (pss_one (ps_ret (pe_lst (pa_cons (pe_meth0 (pv 0) T.cl_Turning mX GX hr4 bX .nil pass0) pa_nil)))) pss_nil)
      (pss_cons (ps_if (pt_cmpR op_eq (pv 2) (pe_glob (by rfl) hm6 r6) (nomark _)) (pss_one (ps_ret (pe_lst (pa_cons (pe_meth0 (pv 0) T.cl_Turning mP GP hr1 bP .nil pass0) pa_nil)))) pss_nil)
      (pss_cons (ps_if (pt_cmpR op_eq (pv 2) (pe_glob (by rfl) hm7 r7) (nomark _)) (pss_one (ps_ret (pe_lst (pa_cons (pe_meth0 (pv 0) T.cl_Turning mJ GJ hr bJ .nil pass0) pa_nil)))) pss_nil)
      (pss_one ps_never))))))))), ?_⟩
    obtain ⟨dq, hq'⟩ := id hq
    obtain ⟨z, fl, efl⟩ : ∃ z fl, c.flat = z :: fl := by
      cases c <;> exact ⟨_, _, rfl⟩
    have d0 : ns[i]? = some z := by
      have : (ns.drop i)[0]? = some z := by rw [hd, efl]; rfl
      rw [List.getElem?_drop] at this
      exact this
    have d1 : ns.drop (i + 1) = fl ++ ns.drop (i + c.flat.length) := by
      rw [← List.drop_drop, hd, efl]
      rfl
    refine ⟨_, rfl, q, dq, _, rfl, hq', r_no (by decide +kernel) (by decide +kernel), q, a, i, ns, z, rfl, hq, hI.seq, d0, fun H1 q1 k1 => ?_⟩
    have I1 := hI.keep ⟨_, _, _, hq'⟩ k1
    have S1 := hS.keep hq k1
    obtain ⟨dq1, hq1⟩ := id q1
    obtain ⟨as, u, j, hT, hR, hu, hb, hsh, hj⟩ := S1.ex
    obtain ⟨dp, hp⟩ := id hT
    -- the answer is one number
    have fin : ∀ {H4 : Hp} {l' m : Addr} {v : Int}, (Rd09.does s c.call).2 = { value := v } → (l' = l ∨ H l' = none) → StateAt A H4 p l' (Rd09.does s c.call).1 → ReaderAt A H4 q a (i + c.flat.length) → Keep3 p q l H H4 → H4 m = none → Q (.ref m) (upd H4 m (.lst [.int v])) := fun {H4 l' m v} ea hl' S4 q4 k4 hm => by
      have s5 : Same H4 (upd H4 m (.lst [.int v])) := Same.new hm
      obtain ⟨d4, h4⟩ := q4
      obtain ⟨_, _, _, _, hR4, _⟩ := S4.ex
      refine k m l' _ (fun b o e n1 n2 n3 => ne_of_none (k4 b o e n1 n2 n3) hm) ?_ hl' (ne_of_none hR4.lst hm).symm (S4.same s5) ⟨d4, s5 _ _ h4⟩ (k4.trans s5.k3)
      rw [upd_same, ea]
      rfl
    cases c with
    | begin =>
      cases efl
      refine ⟨_, rfl, rfl, _, rfl, ite2 (fun _ => ?_) (fun z => absurd (decide_eq_true rfl) z)⟩
      refine ⟨_, rfl, p, dp, _, rfl, hp, t_no (by decide +kernel) (by decide +kernel) (by decide +kernel) (by decide +kernel) (by decide +kernel), p, l, j, u, rfl, hT, fun l' H4 nl' hl' T4 k4 => ?_⟩
      refine ⟨(by show 1 ≤ sizeLine; decide), fun m hm => ?_⟩
      have npl : l' ≠ q := fun e => by rw [e] at nl'; rw [hq1] at nl'; cases nl'
      have q4 : ReaderAt A H4 q a (i + 1) := ⟨dq1, k4 _ _ hq1 (q1.ne_turn hT)⟩
      exact fin (l' := l') rfl (.inr (k1.free nl' npl)) (state_empty T4 hl') q4 (k1.q3.trans k4.p3) hm
    | rule stop left right =>
      cases efl
      refine ⟨_, rfl, rfl, _, rfl, ite2 (fun z => absurd z (V.ne_int (by decide))) (fun _ => ?_)⟩
      refine ⟨_, rfl, rfl, _, rfl, ite2 (fun _ => ?_) (fun z => absurd (decide_eq_true rfl) z)⟩
      obtain ⟨o1, o2, o3, o4⟩ := hok
      have el : i + (PC.rule stop left right).flat.length = i + 1 + 3 + left.length + right.length := by
        show i + ((left ++ ((right.length : Int) :: right)).length + 1 + 1 + 1) = _
        rw [List.length_append, List.length_cons]
        omega
      rw [el] at d1 fin
      refine ⟨_, rfl, _, rfl, p, q, l, a, s, i + 1, ns, stop, left, right, rfl, S1, q1, I1, d1, o1, o2, o3, o4, fun H4 S4 q4 k4 => ?_⟩
      refine ⟨(by show 1 ≤ sizeLine; decide), fun m hm => ?_⟩
      refine fin (l' := l) ?_ (.inl rfl) S4 q4 (k1.q3.trans k4) hm
      by_cases hst : stop = 0 ∨ stop = 1
      · rw [does_rule o2 o4 hst]
        by_cases h64 : 64 ≤ s.rules.length
        · rw [if_pos h64]
        · rw [if_neg h64]
      · rw [does_rule_bad hst]
        rfl
    | text t =>
      cases efl
      refine ⟨_, rfl, rfl, _, rfl, ite2 (fun z => absurd z (V.ne_int (by decide))) (fun _ => ?_)⟩
      refine ⟨_, rfl, rfl, _, rfl, ite2 (fun z => absurd z (V.ne_int (by decide))) (fun _ => ?_)⟩
      refine ⟨_, rfl, rfl, _, rfl, ite2 (fun _ => ?_) (fun z => absurd (decide_eq_true rfl) z)⟩
      obtain ⟨o1, o2⟩ := hok
      have el : i + (PC.text t).flat.length = i + 1 + 1 + t.length := by
        show i + (t.length + 1 + 1) = _
        omega
      rw [el] at d1 fin
      refine ⟨_, rfl, p, dp, _, rfl, hp, t_no (by decide +kernel) (by decide +kernel) (by decide +kernel) (by decide +kernel) (by decide +kernel), _, rfl, q, dq1, _, rfl, hq1, r_no (by decide +kernel) (by decide +kernel), q, a, i + 1, ns, t, rfl, q1, I1.seq, d1, fun a1 H2 n1 l1 q2 k2 => ?_⟩
      have S2 := S1.keep q1 k2
      obtain ⟨as2, u2, j2, hT2, hR2, hu2, hb2, hsh2, hj2⟩ := S2.ex
      refine ⟨p, l, a1, j2, u2, t, rfl, hT2, SqL.of l1, o1, o2, fun H4 T4 k4 => ?_⟩
      refine ⟨(by show 1 ≤ sizeLine; decide), fun m hm => ?_⟩
      have ed := does_text (s := s) o2
      obtain ⟨dq2, hq2⟩ := id q2
      refine fin (l' := l) (by rw [ed]) (.inl rfl) ?_ ⟨dq2, k4 _ _ hq2 (q2.ne_turn hT2)⟩ ((k1.trans k2).q3.trans k4.p3) hm
      rw [ed]
      exact ⟨⟨as2, ⟨nats t, 0, 0⟩, j2, T4, hR2.keep hT2 k4, rfl, nats_bytes o1, by show (nats t).length ≤ 8192; rw [nats_len]; exact o2, hj2⟩, hS.ok, hS.few⟩
    | run n =>
      cases efl
      refine ⟨_, rfl, rfl, _, rfl, ite2 (fun z => absurd z (V.ne_int (by decide))) (fun _ => ?_)⟩
      refine ⟨_, rfl, rfl, _, rfl, ite2 (fun z => absurd z (V.ne_int (by decide))) (fun _ => ?_)⟩
      refine ⟨_, rfl, rfl, _, rfl, ite2 (fun z => absurd z (V.ne_int (by decide))) (fun _ => ?_)⟩
      refine ⟨_, rfl, rfl, _, rfl, ite2 (fun _ => ?_) (fun z => absurd (decide_eq_true rfl) z)⟩
      have dn : ns[i + 1]? = some n := by
        have : (ns.drop (i + 1))[0]? = some n := by rw [d1]; rfl
        rw [List.getElem?_drop] at this
        exact this
      refine ⟨_, rfl, p, dp, _, rfl, hp, t_no (by decide +kernel) (by decide +kernel) (by decide +kernel) (by decide +kernel) (by decide +kernel), _, rfl, q, dq1, _, rfl, hq1, r_no (by decide +kernel) (by decide +kernel), q, a, i + 1, ns, n, rfl, q1, I1.seq, dn, fun H2 q2 k2 => ?_⟩
      have S2 := S1.keep q1 k2
      obtain ⟨as2, u2, j2, hT2, hR2, hu2, hb2, hsh2, hj2⟩ := S2.ex
      obtain ⟨dq2, hq2⟩ := id q2
      refine ⟨p, l, j2, as2, s.rules, u2, n, rfl, hT2, hR2, hS.ok, hb2, hsh2, fun hbad => ?_, fun n' en hle H4 T4 k4 => ?_⟩
      · refine ⟨(by show 1 ≤ sizeLine; decide), fun m hm => ?_⟩
        have ed := does_run_bad (s := s) hbad
        refine fin (l' := l) (by rw [ed]; rfl) (.inl rfl) (by rw [ed]; exact S2) ⟨dq2, hq2⟩ (k1.trans k2).q3 hm
      · refine ⟨(by show 1 ≤ sizeLine; decide), fun m hm => ?_⟩
        subst en
        have ed := does_run (s := s) hle
        have eg : Rd09.goesIn s.rules n' s.run = (lid (goesU s.rules n' u2).1, (goesU s.rules n' u2).2) := by rw [← hu2]; exact goes_lid _ _ _
        rw [eg] at ed
        refine fin (l' := l) (by rw [ed]; rfl) (.inl rfl) ?_ ⟨dq2, k4 _ _ hq2 (q2.ne_turn hT2)⟩ ((k1.trans k2).q3.trans k4.p3) hm
        rw [ed]
        exact ⟨⟨as2, (goesU s.rules n' u2).1, j2, T4, hR2.keep hT2 k4, rfl, goes_bytes (fun r hr => (hS.ok.le r hr).2.1) n' u2 hb2, goes_short n' u2 (by rw [long_is]; exact hsh2), hj2⟩, hS.ok, hS.few⟩
    | read n =>
      cases efl
      refine ⟨_, rfl, rfl, _, rfl, ite2 (fun z => absurd z (V.ne_int (by decide))) (fun _ => ?_)⟩
      refine ⟨_, rfl, rfl, _, rfl, ite2 (fun z => absurd z (V.ne_int (by decide))) (fun _ => ?_)⟩
      refine ⟨_, rfl, rfl, _, rfl, ite2 (fun z => absurd z (V.ne_int (by decide))) (fun _ => ?_)⟩
      refine ⟨_, rfl, rfl, _, rfl, ite2 (fun z => absurd z (V.ne_int (by decide))) (fun _ => ?_)⟩
      refine ⟨_, rfl, rfl, _, rfl, ite2 (fun _ => ?_) (fun z => absurd (decide_eq_true rfl) z)⟩
      have dn : ns[i + 1]? = some n := by
        have : (ns.drop (i + 1))[0]? = some n := by rw [d1]; rfl
        rw [List.getElem?_drop] at this
        exact this
      refine ⟨_, rfl, p, dp, _, rfl, hp, t_no (by decide +kernel) (by decide +kernel) (by decide +kernel) (by decide +kernel) (by decide +kernel), _, rfl, q, dq1, _, rfl, hq1, r_no (by decide +kernel) (by decide +kernel), q, a, i + 1, ns, n, rfl, q1, I1.seq, dn, fun H2 q2 k2 => ?_⟩
      have S2 := S1.keep q1 k2
      obtain ⟨as2, u2, j2, hT2, hR2, hu2, hb2, hsh2, hj2⟩ := S2.ex
      obtain ⟨dq2, hq2⟩ := id q2
      refine ⟨p, l, j2, u2, n, rfl, hT2, hb2, hsh2, fun m H4 nm hm s4 => ?_⟩
      have et : u2.text = s.run.text := by rw [← hu2]; rfl
      have k4 : Keep3 p q l H H4 := (k1.trans k2).q3.trans s4.k3
      refine k m l H4 (fun b o e n1 n2 n3 => ne_of_none ((k1.trans k2).q3 b o e n1 n2 n3) nm) ?_ (.inl rfl) (ne_of_none hR2.lst nm).symm (S2.same s4) ⟨dq2, s4 _ _ hq2⟩ k4
      rw [hm, et]
      rfl
    | next =>
      cases efl
      refine ⟨_, rfl, rfl, _, rfl, ite2 (fun z => absurd z (V.ne_int (by decide))) (fun _ => ?_)⟩
      refine ⟨_, rfl, rfl, _, rfl, ite2 (fun z => absurd z (V.ne_int (by decide))) (fun _ => ?_)⟩
      refine ⟨_, rfl, rfl, _, rfl, ite2 (fun z => absurd z (V.ne_int (by decide))) (fun _ => ?_)⟩
      refine ⟨_, rfl, rfl, _, rfl, ite2 (fun z => absurd z (V.ne_int (by decide))) (fun _ => ?_)⟩
      refine ⟨_, rfl, rfl, _, rfl, ite2 (fun z => absurd z (V.ne_int (by decide))) (fun _ => ?_)⟩
      refine ⟨_, rfl, rfl, _, rfl, ite2 (fun _ => ?_) (fun z => absurd (decide_eq_true rfl) z)⟩
      refine ⟨_, rfl, p, dp, _, rfl, hp, t_no (by decide +kernel) (by decide +kernel) (by decide +kernel) (by decide +kernel) (by decide +kernel), p, l, j, as, s.rules, u, rfl, hT, hR, hS.ok, hb, fun H4 s4 => ?_⟩
      refine ⟨(by show 1 ≤ sizeLine; decide), fun m hm => ?_⟩
      have eu : nextV s.rules u = nextV s.rules s.run := by rw [← hu]; rfl
      rw [eu]
      exact fin (l' := l) rfl (.inl rfl) (S1.same s4) ⟨dq1, s4 _ _ hq1⟩ (k1.q3.trans s4.k3) hm
    | steps =>
      cases efl
      refine ⟨_, rfl, rfl, _, rfl, ite2 (fun z => absurd z (V.ne_int (by decide))) (fun _ => ?_)⟩
      refine ⟨_, rfl, rfl, _, rfl, ite2 (fun z => absurd z (V.ne_int (by decide))) (fun _ => ?_)⟩
      refine ⟨_, rfl, rfl, _, rfl, ite2 (fun z => absurd z (V.ne_int (by decide))) (fun _ => ?_)⟩
      refine ⟨_, rfl, rfl, _, rfl, ite2 (fun z => absurd z (V.ne_int (by decide))) (fun _ => ?_)⟩
      refine ⟨_, rfl, rfl, _, rfl, ite2 (fun z => absurd z (V.ne_int (by decide))) (fun _ => ?_)⟩
      refine ⟨_, rfl, rfl, _, rfl, ite2 (fun z => absurd z (V.ne_int (by decide))) (fun _ => ?_)⟩
      refine ⟨_, rfl, rfl, _, rfl, ite2 (fun _ => ?_) (fun z => absurd (decide_eq_true rfl) z)⟩
      refine ⟨_, rfl, p, dp, _, rfl, hp, t_no (by decide +kernel) (by decide +kernel) (by decide +kernel) (by decide +kernel) (by decide +kernel), p, l, j, u, rfl, hT, ?_⟩
      refine ⟨(by show 1 ≤ sizeLine; decide), fun m hm => ?_⟩
      have eu : min u.steps 1000000000 = s.run.steps := by rw [← hu]; rfl
      rw [eu]
      exact fin (l' := l) rfl (.inl rfl) S1 ⟨dq1, hq1⟩ k1.q3 hm
    | joins =>
      cases efl
      refine ⟨_, rfl, rfl, _, rfl, ite2 (fun z => absurd z (V.ne_int (by decide))) (fun _ => ?_)⟩
      refine ⟨_, rfl, rfl, _, rfl, ite2 (fun z => absurd z (V.ne_int (by decide))) (fun _ => ?_)⟩
      refine ⟨_, rfl, rfl, _, rfl, ite2 (fun z => absurd z (V.ne_int (by decide))) (fun _ => ?_)⟩
      refine ⟨_, rfl, rfl, _, rfl, ite2 (fun z => absurd z (V.ne_int (by decide))) (fun _ => ?_)⟩
      refine ⟨_, rfl, rfl, _, rfl, ite2 (fun z => absurd z (V.ne_int (by decide))) (fun _ => ?_)⟩
      refine ⟨_, rfl, rfl, _, rfl, ite2 (fun z => absurd z (V.ne_int (by decide))) (fun _ => ?_)⟩
      refine ⟨_, rfl, rfl, _, rfl, ite2 (fun z => absurd z (V.ne_int (by decide))) (fun _ => ?_)⟩
      refine ⟨_, rfl, rfl, _, rfl, ite2 (fun _ => ?_) (fun z => absurd (decide_eq_true rfl) z)⟩
      refine ⟨_, rfl, p, dp, _, rfl, hp, t_no (by decide +kernel) (by decide +kernel) (by decide +kernel) (by decide +kernel) (by decide +kernel), p, l, j, as, s.rules, u, rfl, hT, hR, hS.ok, hS.few, hj, fun H4 T4 k4 => ?_⟩
      refine ⟨(by show 1 ≤ sizeLine; decide), fun m hm => ?_⟩
      have ed : Rd09.does s PC.joins.call = (s, { value := joinV s.rules }) := by
        show (if Rd09.shorter s.rules = false then (s, ({ value := -2 } : Rd09.Ans)) else (s, { value := if Rd09.joins s.rules = true then 1 else 0 })) = _
        unfold joinV
        by_cases c : Rd09.shorter s.rules = false
        · rw [if_pos c, if_pos c]
        · rw [if_neg c, if_neg c]
      refine fin (l' := l) (by rw [ed]) (.inl rfl) ?_ ⟨dq1, k4 _ _ hq1 (q1.ne_turn hT)⟩ (k1.q3.trans k4.p3) hm
      rw [ed]
      exact ⟨⟨as, u, .int (joinV s.rules), T4, hR.keep hT k4, hu, hb, hsh, .inr rfl⟩, hS.ok, hS.few⟩
end
end RT

namespace RT
open PySem L2 TL

theorem ans_len {s : Rd09.Abs} (c : PC) (h : s.run.text.length ≤ 8192) : (ansL (Rd09.does s c.call).2).length ≤ 8193 := by
  have key : ∀ a : Rd09.Ans, a.numbers.length ≤ 8192 → (ansL a).length ≤ 8193 := fun a ha => by
    show (a.numbers.map _).length + 1 ≤ 8193
    rw [List.length_map]
    omega
  apply key
  cases c with
  | begin => exact Nat.zero_le _
  | rule st l r =>
    show (Rd09.does s (.rule _ _ _ _ _)).2.numbers.length ≤ _
    unfold Rd09.does
    dsimp only
    split
    · exact Nat.zero_le _
    · split
      · exact Nat.zero_le _
      · exact Nat.zero_le _
  | text t =>
    show (Rd09.does s (.text _ _)).2.numbers.length ≤ _
    unfold Rd09.does
    dsimp only
    split
    · exact Nat.zero_le _
    · exact Nat.zero_le _
  | run n =>
    show (Rd09.does s (.run _)).2.numbers.length ≤ _
    unfold Rd09.does
    dsimp only
    split
    · exact Nat.zero_le _
    · exact Nat.zero_le _
  | read n =>
    show (s.run.text.take _).length ≤ _
    rw [List.length_take]
    omega
  | next => exact Nat.zero_le _
  | steps => exact Nat.zero_le _
  | joins =>
    show (Rd09.does s .joins).2.numbers.length ≤ _
    unfold Rd09.does
    dsimp only
    split
    · exact Nat.zero_le _
    · exact Nat.zero_le _

def spAnswers (K : PySem.W.Frag) : Sp := fun vs H Q _ => ∃ (a : Addr) (ns : List Int) (xs : List PC), vs = [.ref a] ∧ InAt K H a (ns.map V.int) ∧ ns = xs.flatMap PC.flat ∧ xs.length ≤ 300 ∧ (∀ x ∈ xs, x.ok) ∧
  ∀ (g : Addr) (H' : Hp), H' g = some (.lst ((playP {} xs).map V.int)) → Q (.ref g) H'
/-- between two calls -/
structure Answered (K : PySem.W.Frag) (A : Ad) (H : Hp) (p q g a : Addr) (ns : List Int) (xs : List PC) (l : Addr) (rest : List PC) (s : Rd09.Abs) (i : Nat) (out : List Int) : Prop where
  st : StateAt A H p l s
  rd : ReaderAt A H q a i
  inp : InAt K H a (ns.map V.int)
  giv : H g = some (.lst (out.map V.int))
  ne : g ≠ l
  drop : ns.drop i = rest.flatMap PC.flat
  play : playP {} xs = out ++ playP s rest
  ok : ∀ x ∈ rest, x.ok
  few : out.length + rest.length * 8194 ≤ 300 * 8194
section
variable {P : Program} {w : World} {K : PySem.W.Frag} {mg : Str → Option Value} {base : Heap} {A : Ad}
theorem ok_answers {f : Addr} {fd : FuncData} (F : Fun K "answers" "answers" s_answers f fd) (T : Txt K mg A) (gI : MkIn P w K mg base 1 A.Turning p_Turning_init (spTurning A)) (gR : MkIn P w K mg base 1 A.CallReader p_CallReader_init (spReader A))
    (gM : MeIn P w K mg base 1 A.CallReader "has_more" p_CallReader_has_more (spMore K A)) (gC : FnIn P w K mg base 7 "answer_next" p_answer_next (spCall K A)) : FnOk P w K mg base CX0 8 f fd p_answers (spAnswers K) := by
  refine F.ok sc_answers (fun vs H Q E h => ?_) (fun cdv B outer sh H vs Q E hr h => ?_)
  · obtain ⟨a, ns, xs, rfl, _⟩ := h
    rfl
  · obtain ⟨a, ns, xs, rfl, hI, hns, h300, hok, k⟩ := h
    have nd := sc_answers.nd
    obtain ⟨fI, fdI, GI, bI, MI⟩ := gI
    obtain ⟨fR, fdR, GR, bR, MR⟩ := gR
    obtain ⟨fM, fdM, GM, bM, mM⟩ := gM
    obtain ⟨fC, fdC, GC, bC, mC, kC⟩ := gC
    have hr1 : Room 1 _ := hr.mono (by decide)
    have hr2 : Room 2 _ := hr.mono (by decide)
    refine ⟨_, pss_cons (ps_set (i := 1) nd rfl (Or.inl rfl) (pe_make0 MI GI hr2 (by rfl) T.mg_Turning bI .nil pass0))
      (pss_cons (ps_set (i := 2) nd rfl (Or.inl rfl) (pe_make MR GR hr2 (by rfl) T.mg_CallReader bR .nil pass0 (pa_cons (pv 0) pa_nil)))
      (pss_cons (ps_set (i := 3) nd rfl (Or.inl rfl) (pe_lst pa_nil))
      (pss_cons (ps_while PassesOwn.never (pt_val (pe_meth0 (pv 2) T.cl_CallReader mM GM hr1 bM .nil pass0))
        (pss_cons (ps_set (i := 4) nd rfl (Or.inl rfl) (pe_call GC hr (by rfl) mC kC bC .nil pass0 (pa_cons (pv 1) (pa_cons (pv 2) pa_nil))))
        (pss_cons (ps_expr (pe_bm PySem.F.plainAttrs_list PySem.F.slot_list_append PySem.F.type_list_append mt_append (pv 3) (pa_cons (pe_callB call_len_seq (by rfl) T.bn_len PySem.boot_len (pa_cons (pv 4) pa_nil)) pa_nil)))
        (pss_one (ps_expr (pe_bm PySem.F.plainAttrs_list PySem.F.slot_list_extend PySem.F.type_list_extend mt_extend (pv 3) (pa_cons (pv 4) pa_nil)))))))
      (pss_one (ps_ret (pv 3)))))), ?_⟩
    intro p dp np ndp nep
    refine ⟨p, dp, rfl, upd_same, fun l H1 nl hl T1 k1 => ⟨rfl, ?_⟩⟩
    have s0 : Same H (upd (upd H dp (.own p)) p (.ins A.Turning dp [])) := fun b o e => by
      rw [upd_ne (ne_of_none e np), upd_ne (ne_of_none e ndp)]
      exact e
    have s1 : Same H H1 := Same.made np ndp k1
    refine ⟨_, rfl, fun q dq nq ndq neq => ?_⟩
    refine ⟨q, dq, a, rfl, upd_same, fun H2 q2 k2 => ⟨rfl, ?_⟩⟩
    have s2 : Same H1 H2 := Same.made nq ndq k2
    refine ⟨Nat.zero_le _, fun g ng => ?_⟩
    have s3 : Same H2 (upd H2 g (.lst [])) := Same.new ng
    have S3 : StateAt A (upd H2 g (.lst [])) p l {} := (state_empty T1 hl).same (s2.trans s3)
    have q3 : ReaderAt A (upd H2 g (.lst [])) q a 0 := let ⟨d, z⟩ := q2; ⟨d, s3 _ _ z⟩
    have I3 := hI.same (s1.trans (s2.trans s3))
    have gl : g ≠ l := (ne_of_none (s2 _ _ hl) ng).symm
    refine ⟨fun m σ H4 => ∃ (l : Addr) (rest : List PC) (s : Rd09.Abs) (i : Nat) (out : List Int) (vn : Option V), σ = [some (.ref a), some (.ref p), some (.ref q), some (.ref g), vn] ∧ Answered K A H4 p q g a ns xs l rest s i out ∧ m = rest.length,
      ⟨_, l, xs, {}, 0, [], none, rfl, ⟨S3, q3, I3, upd_same, gl, by rw [List.drop_zero]; exact hns, rfl, hok, by show 0 + _ ≤ _; omega⟩, rfl⟩, ?_⟩
    rintro m σ H4 ⟨l, rest, s, i, out, vn, rfl, G, rfl⟩
    obtain ⟨d4, h4⟩ := id G.rd
    refine ⟨_, rfl, q, d4, _, rfl, h4, r_no (by decide +kernel) (by decide +kernel), q, a, i, ns, rfl, G.rd, G.inp.seq, _, rfl, ?_⟩
    cases rest with
    | nil =>
      have hle : ns.length ≤ i := List.drop_eq_nil_iff.mp G.drop
      refine ite2 (fun z => absurd (of_decide_eq_true z) (by omega)) (fun _ => ?_)
      refine ⟨_, rfl, k g H4 ?_⟩
      have e := G.play
      have e2 : out ++ playP s [] = out := List.append_nil _
      rw [e2] at e
      rw [e]
      exact G.giv
    | cons c rest =>
      have hdr : ns.drop i = c.flat ++ rest.flatMap PC.flat := G.drop
      have hdr2 : ns.drop (i + c.flat.length) = rest.flatMap PC.flat := by
        rw [← List.drop_drop, hdr, List.drop_left]
      have hlt : i < ns.length := by
        refine Nat.lt_of_not_le fun hle => ?_
        rw [List.drop_eq_nil_iff.mpr hle] at hdr
        have := congrArg List.length hdr
        rw [List.length_append] at this
        have h1 : 0 < c.flat.length := by cases c <;> exact Nat.succ_pos _
        simp at this
        omega
      refine ite2 (fun _ => ?_) (fun z => absurd (decide_eq_true hlt) z)
      refine ⟨fun σ' H' => ∃ (l : Addr) (s : Rd09.Abs) (i : Nat) (out : List Int) (vn : Option V), σ' = [some (.ref a), some (.ref p), some (.ref q), some (.ref g), vn] ∧ Answered K A H' p q g a ns xs l rest s i out,
        fun σ' H' ⟨l, s, i, out, vn, e, z⟩ => ⟨rest.length, Nat.lt_succ_self _, l, rest, s, i, out, vn, e, z, rfl⟩, ?_⟩
      have okc := G.ok c (List.mem_cons_self)
      refine ⟨_, rfl, _, rfl, p, q, l, a, s, i, ns, c, rfl, G.st, G.rd, G.inp, by rw [hdr2]; exact hdr, okc, fun n l' H5 fr hn hl' nl' S5 q5 k5 => ?_⟩
      obtain ⟨_, u4, _, T4, R4, _⟩ := G.st.ex
      have gp : g ≠ p := T4.ne_lst G.giv
      have gq : g ≠ q := G.rd.ne_lst G.giv
      have gn : g ≠ n := fr g _ G.giv gp gq G.ne
      have hg5 : H5 g = some (.lst (out.map V.int)) := k5 g _ G.giv gp gq G.ne
      have gl' : g ≠ l' := by
        rcases hl' with e | e
        · rw [e]; exact G.ne
        · exact ne_of_none G.giv e
      have I5 : InAt K H5 a (ns.map V.int) := G.inp.keep3 T4 G.rd R4.lst k5
      have hal := ans_len c G.st.short
      have hfew := G.few
      rw [List.length_cons, Nat.succ_mul] at hfew
      have hsz : sizeLine = 16777216 := sizeLine_eq
      refine ⟨_, rfl, .inl ⟨rfl, _, SqL.of hg5⟩, _, rfl, n, _, rfl, .inl (SqL.of hn), g, _, _, rfl, rfl, hg5, by rw [List.length_map]; omega, ?_⟩
      refine ⟨_, rfl, .inl ⟨rfl, _, SqL.of upd_same⟩, _, rfl, g, n, _, _, rfl, rfl, upd_same, by rw [upd_ne gn.symm]; exact hn, ?_, ?_⟩
      · rw [List.length_append, List.length_map, List.length_map]
        show out.length + 1 + _ ≤ _
        omega
      · have kg : Keep g H5 (upd (upd H5 g (.lst (out.map V.int ++ [V.int (((ansL (Rd09.does s c.call).2).map V.int).length : Int)]))) g (.lst (out.map V.int ++ [V.int (((ansL (Rd09.does s c.call).2).map V.int).length : Int)] ++ (ansL (Rd09.does s c.call).2).map V.int))) := Keep.upd.trans Keep.upd
        refine ⟨l', (Rd09.does s c.call).1, i + c.flat.length, out ++ (((ansL (Rd09.does s c.call).2).length : Int) :: ansL (Rd09.does s c.call).2), _, rfl, ⟨S5.keepL hg5 gl' kg, q5.keepL hg5 kg, I5.keepL hg5 kg, ?_, gl', hdr2, ?_, fun x hx => G.ok x (List.mem_cons_of_mem _ hx), ?_⟩⟩
        · rw [upd_same, List.length_map]
          simp
        · rw [G.play]
          show out ++ (_ :: (_ ++ _)) = _
          simp
        · rw [List.length_append, List.length_cons]
          omega
end
end RT

namespace RT
open PySem L2
/-- the defs as they stand behind the top -/
structure Facts (K : PySem.W.Frag) (mg : Str → Option Value) (A : Ad) : Prop where
  txt : Txt K mg A
  d_CallReader_init : ∃ f fd, Fun K "__init__" "CallReader.__init__" s_CallReader_init f fd ∧ Binds K fd p_CallReader_init [] ∧ Mk K A.CallReader f
  d_CallReader_has_more : ∃ f fd, Fun K "has_more" "CallReader.has_more" s_CallReader_has_more f fd ∧ Binds K fd p_CallReader_has_more [] ∧ Meth K A.CallReader "has_more" f
  d_CallReader_read_number : ∃ f fd, Fun K "read_number" "CallReader.read_number" s_CallReader_read_number f fd ∧ Binds K fd p_CallReader_read_number [] ∧ Meth K A.CallReader "read_number" f
  d_CallReader_read_row : ∃ f fd, Fun K "read_row" "CallReader.read_row" s_CallReader_read_row f fd ∧ Binds K fd p_CallReader_read_row [] ∧ Meth K A.CallReader "read_row" f
  d_Rule_init : ∃ f fd, Fun K "__init__" "Rule.__init__" s_Rule_init f fd ∧ Binds K fd p_Rule_init [] ∧ Mk K A.Rule f
  d_Fit_init : ∃ f fd, Fun K "__init__" "Fit.__init__" s_Fit_init f fd ∧ Binds K fd p_Fit_init [] ∧ Mk K A.Fit f
  d_Rests_init : ∃ f fd, Fun K "__init__" "Rests.__init__" s_Rests_init f fd ∧ Binds K fd p_Rests_init [] ∧ Mk K A.Rests f
  d_Rests_rest_of : ∃ f fd, Fun K "rest_of" "Rests.rest_of" s_Rests_rest_of f fd ∧ Binds K fd p_Rests_rest_of [] ∧ Meth K A.Rests "rest_of" f
  d_Rests_are_same : ∃ f fd, Fun K "are_same" "Rests.are_same" s_Rests_are_same f fd ∧ Binds K fd p_Rests_are_same [] ∧ Meth K A.Rests "are_same" f
  d_RoundWatch_init : ∃ f fd, Fun K "__init__" "RoundWatch.__init__" s_RoundWatch_init f fd ∧ Binds K fd p_RoundWatch_init [] ∧ Mk K A.RoundWatch f
  d_RoundWatch_round_length : ∃ f fd, Fun K "round_length" "RoundWatch.round_length" s_RoundWatch_round_length f fd ∧ Binds K fd p_RoundWatch_round_length [] ∧ Meth K A.RoundWatch "round_length" f
  d_Turning_init : ∃ f fd, Fun K "__init__" "Turning.__init__" s_Turning_init f fd ∧ Binds K fd p_Turning_init [] ∧ Mk K A.Turning f
  d_Turning_begin : ∃ f fd, Fun K "begin" "Turning.begin" s_Turning_begin f fd ∧ Binds K fd p_Turning_begin [] ∧ Meth K A.Turning "begin" f
  d_Turning_add_rule : ∃ f fd, Fun K "add_rule" "Turning.add_rule" s_Turning_add_rule f fd ∧ Binds K fd p_Turning_add_rule [] ∧ Meth K A.Turning "add_rule" f
  d_Turning_give_text : ∃ f fd, Fun K "give_text" "Turning.give_text" s_Turning_give_text f fd ∧ Binds K fd p_Turning_give_text [] ∧ Meth K A.Turning "give_text" f
  d_Turning_start_anew : ∃ f fd, Fun K "start_anew" "Turning.start_anew" s_Turning_start_anew f fd ∧ Binds K fd p_Turning_start_anew [] ∧ Meth K A.Turning "start_anew" f
  d_Turning_run : ∃ f fd, Fun K "run" "Turning.run" s_Turning_run f fd ∧ Binds K fd p_Turning_run [] ∧ Meth K A.Turning "run" f
  d_Turning_grows_too_long : ∃ f fd, Fun K "grows_too_long" "Turning.grows_too_long" s_Turning_grows_too_long f fd ∧ Binds K fd p_Turning_grows_too_long [] ∧ Meth K A.Turning "grows_too_long" f
  d_Turning_take_step : ∃ f fd, Fun K "take_step" "Turning.take_step" s_Turning_take_step f fd ∧ Binds K fd p_Turning_take_step [] ∧ Meth K A.Turning "take_step" f
  d_Turning_skip_rounds : ∃ f fd, Fun K "skip_rounds" "Turning.skip_rounds" s_Turning_skip_rounds f fd ∧ Binds K fd p_Turning_skip_rounds [] ∧ Meth K A.Turning "skip_rounds" f
  d_Turning_tell_text : ∃ f fd, Fun K "tell_text" "Turning.tell_text" s_Turning_tell_text f fd ∧ Binds K fd p_Turning_tell_text [] ∧ Meth K A.Turning "tell_text" f
  d_Turning_tell_next : ∃ f fd, Fun K "tell_next" "Turning.tell_next" s_Turning_tell_next f fd ∧ Binds K fd p_Turning_tell_next [] ∧ Meth K A.Turning "tell_next" f
  d_Turning_tell_steps : ∃ f fd, Fun K "tell_steps" "Turning.tell_steps" s_Turning_tell_steps f fd ∧ Binds K fd p_Turning_tell_steps [] ∧ Meth K A.Turning "tell_steps" f
  d_Turning_tell_joins : ∃ f fd, Fun K "tell_joins" "Turning.tell_joins" s_Turning_tell_joins f fd ∧ Binds K fd p_Turning_tell_joins [] ∧ Meth K A.Turning "tell_joins" f
  d_Turning_find_joins : ∃ f fd, Fun K "find_joins" "Turning.find_joins" s_Turning_find_joins f fd ∧ Binds K fd p_Turning_find_joins [] ∧ Meth K A.Turning "find_joins" f
  d_shortens : ∃ f fd, Fun K "shortens" "shortens" s_shortens f fd ∧ Binds K fd p_shortens [] ∧ mg "shortens" = some (.ref f) ∧ PySem.W.keepIn K (.ref f) = true
  d_turned : ∃ f fd, Fun K "turned" "turned" s_turned f fd ∧ Binds K fd p_turned [] ∧ mg "turned" = some (.ref f) ∧ PySem.W.keepIn K (.ref f) = true
  d_next_fit : ∃ f fd, Fun K "next_fit" "next_fit" s_next_fit f fd ∧ Binds K fd p_next_fit [] ∧ mg "next_fit" = some (.ref f) ∧ PySem.W.keepIn K (.ref f) = true
  d_place_after : ∃ f fd, Fun K "place_after" "place_after" s_place_after f fd ∧ Binds K fd p_place_after [] ∧ mg "place_after" = some (.ref f) ∧ PySem.W.keepIn K (.ref f) = true
  d_written : ∃ f fd, Fun K "written" "written" s_written f fd ∧ Binds K fd p_written [] ∧ mg "written" = some (.ref f) ∧ PySem.W.keepIn K (.ref f) = true
  d_read_back : ∃ f fd, Fun K "read_back" "read_back" s_read_back f fd ∧ Binds K fd p_read_back [] ∧ mg "read_back" = some (.ref f) ∧ PySem.W.keepIn K (.ref f) = true
  d_text_after_step : ∃ f fd, Fun K "text_after_step" "text_after_step" s_text_after_step f fd ∧ Binds K fd p_text_after_step [] ∧ mg "text_after_step" = some (.ref f) ∧ PySem.W.keepIn K (.ref f) = true
  d_do_join : ∃ f fd, Fun K "do_join" "do_join" s_do_join f fd ∧ Binds K fd p_do_join [] ∧ mg "do_join" = some (.ref f) ∧ PySem.W.keepIn K (.ref f) = true
  d_over_a_part : ∃ f fd, Fun K "over_a_part" "over_a_part" s_over_a_part f fd ∧ Binds K fd p_over_a_part [] ∧ mg "over_a_part" = some (.ref f) ∧ PySem.W.keepIn K (.ref f) = true
  d_within : ∃ f fd, Fun K "within" "within" s_within f fd ∧ Binds K fd p_within [] ∧ mg "within" = some (.ref f) ∧ PySem.W.keepIn K (.ref f) = true
  d_answers : ∃ f fd, Fun K "answers" "answers" s_answers f fd ∧ Binds K fd p_answers [] ∧ mg "answers" = some (.ref f) ∧ PySem.W.keepIn K (.ref f) = true
  d_answer_next : ∃ f fd, Fun K "answer_next" "answer_next" s_answer_next f fd ∧ Binds K fd p_answer_next [] ∧ mg "answer_next" = some (.ref f) ∧ PySem.W.keepIn K (.ref f) = true
  d_answer_rule : ∃ f fd, Fun K "answer_rule" "answer_rule" s_answer_rule f fd ∧ Binds K fd p_answer_rule [] ∧ mg "answer_rule" = some (.ref f) ∧ PySem.W.keepIn K (.ref f) = true
theorem facts_mk {K : PySem.W.Frag} {h : Heap} {mg : Str → Option Value} {C_CallReader C_Rule C_Fit C_Rests C_RoundWatch C_Turning f_0 f_1 f_2 f_3 f_4 f_5 f_6 f_7 f_8 f_9 f_10 f_11 f_12 f_13 f_14 f_15 f_16 f_17 f_18 f_19 f_20 f_21 f_22 f_23 f_24 f_25 f_26 f_27 f_28 f_29 f_30 f_31 f_32 f_33 f_34 f_35 f_36 f_37 : Addr} (X : K.In h) (G : h.Ns mainGlobals mg)
    {od_0 an_0 od_1 an_1 od_2 an_2 od_3 an_3 od_4 an_4 od_5 an_5 od_6 an_6 od_7 an_7 od_8 an_8 od_9 an_9 od_10 an_10 od_11 an_11 od_12 an_12 od_13 an_13 od_14 an_14 od_15 an_15 od_16 an_16 od_17 an_17 od_18 an_18 od_19 an_19 od_20 an_20 od_21 an_21 od_22 an_22 od_23 an_23 od_24 an_24 od_25 an_25 od_26 an_26 od_27 an_27 od_28 an_28 od_29 an_29 od_30 an_30 od_31 an_31 od_32 an_32 od_33 an_33 od_34 an_34 od_35 an_35 od_36 an_36 od_37 an_37 : Option Addr} {sl_0 sl_1 sl_2 sl_3 sl_4 sl_5 sl_6 sl_7 sl_8 sl_9 sl_10 sl_11 sl_12 sl_13 sl_14 sl_15 sl_16 sl_17 sl_18 sl_19 sl_20 sl_21 sl_22 sl_23 sl_24 sl_25 sl_26 sl_27 sl_28 sl_29 sl_30 sl_31 sl_32 sl_33 sl_34 sl_35 sl_36 sl_37 : Array (Option Value)} {oc_0 kV_0 dc_0 pm_0 cd_0 ct_0 oc_1 kV_1 dc_1 pm_1 cd_1 ct_1 oc_2 kV_2 dc_2 pm_2 cd_2 ct_2 oc_3 kV_3 dc_3 pm_3 cd_3 ct_3 oc_4 kV_4 dc_4 pm_4 cd_4 ct_4 oc_5 kV_5 dc_5 pm_5 cd_5 ct_5 oc_6 kV_6 dc_6 pm_6 cd_6 ct_6 oc_7 kV_7 dc_7 pm_7 cd_7 ct_7 oc_8 kV_8 dc_8 pm_8 cd_8 ct_8 oc_9 kV_9 dc_9 pm_9 cd_9 ct_9 oc_10 kV_10 dc_10 pm_10 cd_10 ct_10 oc_11 kV_11 dc_11 pm_11 cd_11 ct_11 oc_12 kV_12 dc_12 pm_12 cd_12 ct_12 oc_13 kV_13 dc_13 pm_13 cd_13 ct_13 oc_14 kV_14 dc_14 pm_14 cd_14 ct_14 oc_15 kV_15 dc_15 pm_15 cd_15 ct_15 oc_16 kV_16 dc_16 pm_16 cd_16 ct_16 oc_17 kV_17 dc_17 pm_17 cd_17 ct_17 oc_18 kV_18 dc_18 pm_18 cd_18 ct_18 oc_19 kV_19 dc_19 pm_19 cd_19 ct_19 oc_20 kV_20 dc_20 pm_20 cd_20 ct_20 oc_21 kV_21 dc_21 pm_21 cd_21 ct_21 oc_22 kV_22 dc_22 pm_22 cd_22 ct_22 oc_23 kV_23 dc_23 pm_23 cd_23 ct_23 oc_24 kV_24 dc_24 pm_24 cd_24 ct_24 oc_25 kV_25 dc_25 pm_25 cd_25 ct_25 oc_26 kV_26 dc_26 pm_26 cd_26 ct_26 oc_27 kV_27 dc_27 pm_27 cd_27 ct_27 oc_28 kV_28 dc_28 pm_28 cd_28 ct_28 oc_29 kV_29 dc_29 pm_29 cd_29 ct_29 oc_30 kV_30 dc_30 pm_30 cd_30 ct_30 oc_31 kV_31 dc_31 pm_31 cd_31 ct_31 oc_32 kV_32 dc_32 pm_32 cd_32 ct_32 oc_33 kV_33 dc_33 pm_33 cd_33 ct_33 oc_34 kV_34 dc_34 pm_34 cd_34 ct_34 oc_35 kV_35 dc_35 pm_35 cd_35 ct_35 oc_36 kV_36 dc_36 pm_36 cd_36 ct_36 oc_37 kV_37 dc_37 pm_37 cd_37 ct_37 : Value}
    {u_SIGNS_PER_BYTE u_HIGH_SIGNS u_LOW_SIGNS u_LONGEST_SIDE u_MOST_RULES u_LONGEST_TEXT u_MOST_STEPS u_MOST_STEPS_TOLD u_PLACES_PER_RULE u_NOT_OVER u_OVER_NO_FIT u_OVER_BY_LAST u_DONE u_OUT_OF_RANGE u_NO_ROOM u_NO_NEXT_STEP u_NOT_SHORTENING u_BEGIN u_RULE u_TEXT u_RUN u_READ u_NEXT u_STEPS u_JOINS : Value}
    (a_CallReader : PySem.W.nsIn K mainGlobals "CallReader" = some (some (.ref C_CallReader)))
    (pg_CallReader : PySem.W.plainGet K C_CallReader Str.empty = true) (hd_CallReader : PySem.W.hasDictIn K C_CallReader = true) (po_CallReader : PySem.W.plainOver K C_CallReader = true) (sa_CallReader : PySem.W.findIn K (.ref C_CallReader) "__setattr__" = some (some (.builtin "object.__setattr__"))) (mk_CallReader : PySem.W.makesIn K C_CallReader = true) (kc_CallReader : PySem.W.keepIn K (.ref C_CallReader) = true)
    (na_CallReader_calls : PySem.W.findIn K (.ref C_CallReader) "calls" = some none)
    (na_CallReader_reached : PySem.W.findIn K (.ref C_CallReader) "reached" = some none)
    (a_Rule : PySem.W.nsIn K mainGlobals "Rule" = some (some (.ref C_Rule)))
    (pg_Rule : PySem.W.plainGet K C_Rule Str.empty = true) (hd_Rule : PySem.W.hasDictIn K C_Rule = true) (po_Rule : PySem.W.plainOver K C_Rule = true) (sa_Rule : PySem.W.findIn K (.ref C_Rule) "__setattr__" = some (some (.builtin "object.__setattr__"))) (mk_Rule : PySem.W.makesIn K C_Rule = true) (kc_Rule : PySem.W.keepIn K (.ref C_Rule) = true)
    (na_Rule_left : PySem.W.findIn K (.ref C_Rule) "left" = some none)
    (na_Rule_right : PySem.W.findIn K (.ref C_Rule) "right" = some none)
    (na_Rule_last : PySem.W.findIn K (.ref C_Rule) "last" = some none)
    (a_Fit : PySem.W.nsIn K mainGlobals "Fit" = some (some (.ref C_Fit)))
    (pg_Fit : PySem.W.plainGet K C_Fit Str.empty = true) (hd_Fit : PySem.W.hasDictIn K C_Fit = true) (po_Fit : PySem.W.plainOver K C_Fit = true) (sa_Fit : PySem.W.findIn K (.ref C_Fit) "__setattr__" = some (some (.builtin "object.__setattr__"))) (mk_Fit : PySem.W.makesIn K C_Fit = true) (kc_Fit : PySem.W.keepIn K (.ref C_Fit) = true)
    (na_Fit_number : PySem.W.findIn K (.ref C_Fit) "number" = some none)
    (na_Fit_rule : PySem.W.findIn K (.ref C_Fit) "rule" = some none)
    (na_Fit_place : PySem.W.findIn K (.ref C_Fit) "place" = some none)
    (a_Rests : PySem.W.nsIn K mainGlobals "Rests" = some (some (.ref C_Rests)))
    (pg_Rests : PySem.W.plainGet K C_Rests Str.empty = true) (hd_Rests : PySem.W.hasDictIn K C_Rests = true) (po_Rests : PySem.W.plainOver K C_Rests = true) (sa_Rests : PySem.W.findIn K (.ref C_Rests) "__setattr__" = some (some (.builtin "object.__setattr__"))) (mk_Rests : PySem.W.makesIn K C_Rests = true) (kc_Rests : PySem.W.keepIn K (.ref C_Rests) = true)
    (na_Rests_rules : PySem.W.findIn K (.ref C_Rests) "rules" = some none)
    (na_Rests_known : PySem.W.findIn K (.ref C_Rests) "known" = some none)
    (a_RoundWatch : PySem.W.nsIn K mainGlobals "RoundWatch" = some (some (.ref C_RoundWatch)))
    (pg_RoundWatch : PySem.W.plainGet K C_RoundWatch Str.empty = true) (hd_RoundWatch : PySem.W.hasDictIn K C_RoundWatch = true) (po_RoundWatch : PySem.W.plainOver K C_RoundWatch = true) (sa_RoundWatch : PySem.W.findIn K (.ref C_RoundWatch) "__setattr__" = some (some (.builtin "object.__setattr__"))) (mk_RoundWatch : PySem.W.makesIn K C_RoundWatch = true) (kc_RoundWatch : PySem.W.keepIn K (.ref C_RoundWatch) = true)
    (na_RoundWatch_kept : PySem.W.findIn K (.ref C_RoundWatch) "kept" = some none)
    (na_RoundWatch_age : PySem.W.findIn K (.ref C_RoundWatch) "age" = some none)
    (na_RoundWatch_span : PySem.W.findIn K (.ref C_RoundWatch) "span" = some none)
    (a_Turning : PySem.W.nsIn K mainGlobals "Turning" = some (some (.ref C_Turning)))
    (pg_Turning : PySem.W.plainGet K C_Turning Str.empty = true) (hd_Turning : PySem.W.hasDictIn K C_Turning = true) (po_Turning : PySem.W.plainOver K C_Turning = true) (sa_Turning : PySem.W.findIn K (.ref C_Turning) "__setattr__" = some (some (.builtin "object.__setattr__"))) (mk_Turning : PySem.W.makesIn K C_Turning = true) (kc_Turning : PySem.W.keepIn K (.ref C_Turning) = true)
    (na_Turning_rules : PySem.W.findIn K (.ref C_Turning) "rules" = some none)
    (na_Turning_joined : PySem.W.findIn K (.ref C_Turning) "joined" = some none)
    (na_Turning_text : PySem.W.findIn K (.ref C_Turning) "text" = some none)
    (na_Turning_over : PySem.W.findIn K (.ref C_Turning) "over" = some none)
    (na_Turning_steps : PySem.W.findIn K (.ref C_Turning) "steps" = some none)
    (a_0 : PySem.W.findIn K (.ref C_CallReader) "__init__" = some (some (.ref f_0))) (i_0 : PySem.W.isFn K (.ref f_0) = true)
    (l_0 : K.lookup f_0 = some ⟨oc_0, od_0, .func (PySem.W.fnOf "__init__" "CallReader.__init__" (defArgs s_CallReader_init) (defBody s_CallReader_init) (defScope s_CallReader_init) .none kV_0 dc_0 pm_0 an_0 cd_0 ct_0), sl_0⟩) (c_0 : PySem.W.codeIn K cd_0 "CallReader.__init__" = true) (k_0 : PySem.W.keepIn K (.ref f_0) = true)
    (a_1 : PySem.W.findIn K (.ref C_CallReader) "has_more" = some (some (.ref f_1))) (i_1 : PySem.W.isFn K (.ref f_1) = true)
    (l_1 : K.lookup f_1 = some ⟨oc_1, od_1, .func (PySem.W.fnOf "has_more" "CallReader.has_more" (defArgs s_CallReader_has_more) (defBody s_CallReader_has_more) (defScope s_CallReader_has_more) .none kV_1 dc_1 pm_1 an_1 cd_1 ct_1), sl_1⟩) (c_1 : PySem.W.codeIn K cd_1 "CallReader.has_more" = true) (k_1 : PySem.W.keepIn K (.ref f_1) = true)
    (a_2 : PySem.W.findIn K (.ref C_CallReader) "read_number" = some (some (.ref f_2))) (i_2 : PySem.W.isFn K (.ref f_2) = true)
    (l_2 : K.lookup f_2 = some ⟨oc_2, od_2, .func (PySem.W.fnOf "read_number" "CallReader.read_number" (defArgs s_CallReader_read_number) (defBody s_CallReader_read_number) (defScope s_CallReader_read_number) .none kV_2 dc_2 pm_2 an_2 cd_2 ct_2), sl_2⟩) (c_2 : PySem.W.codeIn K cd_2 "CallReader.read_number" = true) (k_2 : PySem.W.keepIn K (.ref f_2) = true)
    (a_3 : PySem.W.findIn K (.ref C_CallReader) "read_row" = some (some (.ref f_3))) (i_3 : PySem.W.isFn K (.ref f_3) = true)
    (l_3 : K.lookup f_3 = some ⟨oc_3, od_3, .func (PySem.W.fnOf "read_row" "CallReader.read_row" (defArgs s_CallReader_read_row) (defBody s_CallReader_read_row) (defScope s_CallReader_read_row) .none kV_3 dc_3 pm_3 an_3 cd_3 ct_3), sl_3⟩) (c_3 : PySem.W.codeIn K cd_3 "CallReader.read_row" = true) (k_3 : PySem.W.keepIn K (.ref f_3) = true)
    (a_4 : PySem.W.findIn K (.ref C_Rule) "__init__" = some (some (.ref f_4))) (i_4 : PySem.W.isFn K (.ref f_4) = true)
    (l_4 : K.lookup f_4 = some ⟨oc_4, od_4, .func (PySem.W.fnOf "__init__" "Rule.__init__" (defArgs s_Rule_init) (defBody s_Rule_init) (defScope s_Rule_init) .none kV_4 dc_4 pm_4 an_4 cd_4 ct_4), sl_4⟩) (c_4 : PySem.W.codeIn K cd_4 "Rule.__init__" = true) (k_4 : PySem.W.keepIn K (.ref f_4) = true)
    (a_5 : PySem.W.findIn K (.ref C_Fit) "__init__" = some (some (.ref f_5))) (i_5 : PySem.W.isFn K (.ref f_5) = true)
    (l_5 : K.lookup f_5 = some ⟨oc_5, od_5, .func (PySem.W.fnOf "__init__" "Fit.__init__" (defArgs s_Fit_init) (defBody s_Fit_init) (defScope s_Fit_init) .none kV_5 dc_5 pm_5 an_5 cd_5 ct_5), sl_5⟩) (c_5 : PySem.W.codeIn K cd_5 "Fit.__init__" = true) (k_5 : PySem.W.keepIn K (.ref f_5) = true)
    (a_6 : PySem.W.findIn K (.ref C_Rests) "__init__" = some (some (.ref f_6))) (i_6 : PySem.W.isFn K (.ref f_6) = true)
    (l_6 : K.lookup f_6 = some ⟨oc_6, od_6, .func (PySem.W.fnOf "__init__" "Rests.__init__" (defArgs s_Rests_init) (defBody s_Rests_init) (defScope s_Rests_init) .none kV_6 dc_6 pm_6 an_6 cd_6 ct_6), sl_6⟩) (c_6 : PySem.W.codeIn K cd_6 "Rests.__init__" = true) (k_6 : PySem.W.keepIn K (.ref f_6) = true)
    (a_7 : PySem.W.findIn K (.ref C_Rests) "rest_of" = some (some (.ref f_7))) (i_7 : PySem.W.isFn K (.ref f_7) = true)
    (l_7 : K.lookup f_7 = some ⟨oc_7, od_7, .func (PySem.W.fnOf "rest_of" "Rests.rest_of" (defArgs s_Rests_rest_of) (defBody s_Rests_rest_of) (defScope s_Rests_rest_of) .none kV_7 dc_7 pm_7 an_7 cd_7 ct_7), sl_7⟩) (c_7 : PySem.W.codeIn K cd_7 "Rests.rest_of" = true) (k_7 : PySem.W.keepIn K (.ref f_7) = true)
    (a_8 : PySem.W.findIn K (.ref C_Rests) "are_same" = some (some (.ref f_8))) (i_8 : PySem.W.isFn K (.ref f_8) = true)
    (l_8 : K.lookup f_8 = some ⟨oc_8, od_8, .func (PySem.W.fnOf "are_same" "Rests.are_same" (defArgs s_Rests_are_same) (defBody s_Rests_are_same) (defScope s_Rests_are_same) .none kV_8 dc_8 pm_8 an_8 cd_8 ct_8), sl_8⟩) (c_8 : PySem.W.codeIn K cd_8 "Rests.are_same" = true) (k_8 : PySem.W.keepIn K (.ref f_8) = true)
    (a_9 : PySem.W.findIn K (.ref C_RoundWatch) "__init__" = some (some (.ref f_9))) (i_9 : PySem.W.isFn K (.ref f_9) = true)
    (l_9 : K.lookup f_9 = some ⟨oc_9, od_9, .func (PySem.W.fnOf "__init__" "RoundWatch.__init__" (defArgs s_RoundWatch_init) (defBody s_RoundWatch_init) (defScope s_RoundWatch_init) .none kV_9 dc_9 pm_9 an_9 cd_9 ct_9), sl_9⟩) (c_9 : PySem.W.codeIn K cd_9 "RoundWatch.__init__" = true) (k_9 : PySem.W.keepIn K (.ref f_9) = true)
    (a_10 : PySem.W.findIn K (.ref C_RoundWatch) "round_length" = some (some (.ref f_10))) (i_10 : PySem.W.isFn K (.ref f_10) = true)
    (l_10 : K.lookup f_10 = some ⟨oc_10, od_10, .func (PySem.W.fnOf "round_length" "RoundWatch.round_length" (defArgs s_RoundWatch_round_length) (defBody s_RoundWatch_round_length) (defScope s_RoundWatch_round_length) .none kV_10 dc_10 pm_10 an_10 cd_10 ct_10), sl_10⟩) (c_10 : PySem.W.codeIn K cd_10 "RoundWatch.round_length" = true) (k_10 : PySem.W.keepIn K (.ref f_10) = true)
    (a_11 : PySem.W.findIn K (.ref C_Turning) "__init__" = some (some (.ref f_11))) (i_11 : PySem.W.isFn K (.ref f_11) = true)
    (l_11 : K.lookup f_11 = some ⟨oc_11, od_11, .func (PySem.W.fnOf "__init__" "Turning.__init__" (defArgs s_Turning_init) (defBody s_Turning_init) (defScope s_Turning_init) .none kV_11 dc_11 pm_11 an_11 cd_11 ct_11), sl_11⟩) (c_11 : PySem.W.codeIn K cd_11 "Turning.__init__" = true) (k_11 : PySem.W.keepIn K (.ref f_11) = true)
    (a_12 : PySem.W.findIn K (.ref C_Turning) "begin" = some (some (.ref f_12))) (i_12 : PySem.W.isFn K (.ref f_12) = true)
    (l_12 : K.lookup f_12 = some ⟨oc_12, od_12, .func (PySem.W.fnOf "begin" "Turning.begin" (defArgs s_Turning_begin) (defBody s_Turning_begin) (defScope s_Turning_begin) .none kV_12 dc_12 pm_12 an_12 cd_12 ct_12), sl_12⟩) (c_12 : PySem.W.codeIn K cd_12 "Turning.begin" = true) (k_12 : PySem.W.keepIn K (.ref f_12) = true)
    (a_13 : PySem.W.findIn K (.ref C_Turning) "add_rule" = some (some (.ref f_13))) (i_13 : PySem.W.isFn K (.ref f_13) = true)
    (l_13 : K.lookup f_13 = some ⟨oc_13, od_13, .func (PySem.W.fnOf "add_rule" "Turning.add_rule" (defArgs s_Turning_add_rule) (defBody s_Turning_add_rule) (defScope s_Turning_add_rule) .none kV_13 dc_13 pm_13 an_13 cd_13 ct_13), sl_13⟩) (c_13 : PySem.W.codeIn K cd_13 "Turning.add_rule" = true) (k_13 : PySem.W.keepIn K (.ref f_13) = true)
    (a_14 : PySem.W.findIn K (.ref C_Turning) "give_text" = some (some (.ref f_14))) (i_14 : PySem.W.isFn K (.ref f_14) = true)
    (l_14 : K.lookup f_14 = some ⟨oc_14, od_14, .func (PySem.W.fnOf "give_text" "Turning.give_text" (defArgs s_Turning_give_text) (defBody s_Turning_give_text) (defScope s_Turning_give_text) .none kV_14 dc_14 pm_14 an_14 cd_14 ct_14), sl_14⟩) (c_14 : PySem.W.codeIn K cd_14 "Turning.give_text" = true) (k_14 : PySem.W.keepIn K (.ref f_14) = true)
    (a_15 : PySem.W.findIn K (.ref C_Turning) "start_anew" = some (some (.ref f_15))) (i_15 : PySem.W.isFn K (.ref f_15) = true)
    (l_15 : K.lookup f_15 = some ⟨oc_15, od_15, .func (PySem.W.fnOf "start_anew" "Turning.start_anew" (defArgs s_Turning_start_anew) (defBody s_Turning_start_anew) (defScope s_Turning_start_anew) .none kV_15 dc_15 pm_15 an_15 cd_15 ct_15), sl_15⟩) (c_15 : PySem.W.codeIn K cd_15 "Turning.start_anew" = true) (k_15 : PySem.W.keepIn K (.ref f_15) = true)
    (a_16 : PySem.W.findIn K (.ref C_Turning) "run" = some (some (.ref f_16))) (i_16 : PySem.W.isFn K (.ref f_16) = true)
    (l_16 : K.lookup f_16 = some ⟨oc_16, od_16, .func (PySem.W.fnOf "run" "Turning.run" (defArgs s_Turning_run) (defBody s_Turning_run) (defScope s_Turning_run) .none kV_16 dc_16 pm_16 an_16 cd_16 ct_16), sl_16⟩) (c_16 : PySem.W.codeIn K cd_16 "Turning.run" = true) (k_16 : PySem.W.keepIn K (.ref f_16) = true)
    (a_17 : PySem.W.findIn K (.ref C_Turning) "grows_too_long" = some (some (.ref f_17))) (i_17 : PySem.W.isFn K (.ref f_17) = true)
    (l_17 : K.lookup f_17 = some ⟨oc_17, od_17, .func (PySem.W.fnOf "grows_too_long" "Turning.grows_too_long" (defArgs s_Turning_grows_too_long) (defBody s_Turning_grows_too_long) (defScope s_Turning_grows_too_long) .none kV_17 dc_17 pm_17 an_17 cd_17 ct_17), sl_17⟩) (c_17 : PySem.W.codeIn K cd_17 "Turning.grows_too_long" = true) (k_17 : PySem.W.keepIn K (.ref f_17) = true)
    (a_18 : PySem.W.findIn K (.ref C_Turning) "take_step" = some (some (.ref f_18))) (i_18 : PySem.W.isFn K (.ref f_18) = true)
    (l_18 : K.lookup f_18 = some ⟨oc_18, od_18, .func (PySem.W.fnOf "take_step" "Turning.take_step" (defArgs s_Turning_take_step) (defBody s_Turning_take_step) (defScope s_Turning_take_step) .none kV_18 dc_18 pm_18 an_18 cd_18 ct_18), sl_18⟩) (c_18 : PySem.W.codeIn K cd_18 "Turning.take_step" = true) (k_18 : PySem.W.keepIn K (.ref f_18) = true)
    (a_19 : PySem.W.findIn K (.ref C_Turning) "skip_rounds" = some (some (.ref f_19))) (i_19 : PySem.W.isFn K (.ref f_19) = true)
    (l_19 : K.lookup f_19 = some ⟨oc_19, od_19, .func (PySem.W.fnOf "skip_rounds" "Turning.skip_rounds" (defArgs s_Turning_skip_rounds) (defBody s_Turning_skip_rounds) (defScope s_Turning_skip_rounds) .none kV_19 dc_19 pm_19 an_19 cd_19 ct_19), sl_19⟩) (c_19 : PySem.W.codeIn K cd_19 "Turning.skip_rounds" = true) (k_19 : PySem.W.keepIn K (.ref f_19) = true)
    (a_20 : PySem.W.findIn K (.ref C_Turning) "tell_text" = some (some (.ref f_20))) (i_20 : PySem.W.isFn K (.ref f_20) = true)
    (l_20 : K.lookup f_20 = some ⟨oc_20, od_20, .func (PySem.W.fnOf "tell_text" "Turning.tell_text" (defArgs s_Turning_tell_text) (defBody s_Turning_tell_text) (defScope s_Turning_tell_text) .none kV_20 dc_20 pm_20 an_20 cd_20 ct_20), sl_20⟩) (c_20 : PySem.W.codeIn K cd_20 "Turning.tell_text" = true) (k_20 : PySem.W.keepIn K (.ref f_20) = true)
    (a_21 : PySem.W.findIn K (.ref C_Turning) "tell_next" = some (some (.ref f_21))) (i_21 : PySem.W.isFn K (.ref f_21) = true)
    (l_21 : K.lookup f_21 = some ⟨oc_21, od_21, .func (PySem.W.fnOf "tell_next" "Turning.tell_next" (defArgs s_Turning_tell_next) (defBody s_Turning_tell_next) (defScope s_Turning_tell_next) .none kV_21 dc_21 pm_21 an_21 cd_21 ct_21), sl_21⟩) (c_21 : PySem.W.codeIn K cd_21 "Turning.tell_next" = true) (k_21 : PySem.W.keepIn K (.ref f_21) = true)
    (a_22 : PySem.W.findIn K (.ref C_Turning) "tell_steps" = some (some (.ref f_22))) (i_22 : PySem.W.isFn K (.ref f_22) = true)
    (l_22 : K.lookup f_22 = some ⟨oc_22, od_22, .func (PySem.W.fnOf "tell_steps" "Turning.tell_steps" (defArgs s_Turning_tell_steps) (defBody s_Turning_tell_steps) (defScope s_Turning_tell_steps) .none kV_22 dc_22 pm_22 an_22 cd_22 ct_22), sl_22⟩) (c_22 : PySem.W.codeIn K cd_22 "Turning.tell_steps" = true) (k_22 : PySem.W.keepIn K (.ref f_22) = true)
    (a_23 : PySem.W.findIn K (.ref C_Turning) "tell_joins" = some (some (.ref f_23))) (i_23 : PySem.W.isFn K (.ref f_23) = true)
    (l_23 : K.lookup f_23 = some ⟨oc_23, od_23, .func (PySem.W.fnOf "tell_joins" "Turning.tell_joins" (defArgs s_Turning_tell_joins) (defBody s_Turning_tell_joins) (defScope s_Turning_tell_joins) .none kV_23 dc_23 pm_23 an_23 cd_23 ct_23), sl_23⟩) (c_23 : PySem.W.codeIn K cd_23 "Turning.tell_joins" = true) (k_23 : PySem.W.keepIn K (.ref f_23) = true)
    (a_24 : PySem.W.findIn K (.ref C_Turning) "find_joins" = some (some (.ref f_24))) (i_24 : PySem.W.isFn K (.ref f_24) = true)
    (l_24 : K.lookup f_24 = some ⟨oc_24, od_24, .func (PySem.W.fnOf "find_joins" "Turning.find_joins" (defArgs s_Turning_find_joins) (defBody s_Turning_find_joins) (defScope s_Turning_find_joins) .none kV_24 dc_24 pm_24 an_24 cd_24 ct_24), sl_24⟩) (c_24 : PySem.W.codeIn K cd_24 "Turning.find_joins" = true) (k_24 : PySem.W.keepIn K (.ref f_24) = true)
    (a_25 : PySem.W.nsIn K mainGlobals "shortens" = some (some (.ref f_25)))
    (l_25 : K.lookup f_25 = some ⟨oc_25, od_25, .func (PySem.W.fnOf "shortens" "shortens" (defArgs s_shortens) (defBody s_shortens) (defScope s_shortens) .none kV_25 dc_25 pm_25 an_25 cd_25 ct_25), sl_25⟩) (c_25 : PySem.W.codeIn K cd_25 "shortens" = true) (k_25 : PySem.W.keepIn K (.ref f_25) = true)
    (a_26 : PySem.W.nsIn K mainGlobals "turned" = some (some (.ref f_26)))
    (l_26 : K.lookup f_26 = some ⟨oc_26, od_26, .func (PySem.W.fnOf "turned" "turned" (defArgs s_turned) (defBody s_turned) (defScope s_turned) .none kV_26 dc_26 pm_26 an_26 cd_26 ct_26), sl_26⟩) (c_26 : PySem.W.codeIn K cd_26 "turned" = true) (k_26 : PySem.W.keepIn K (.ref f_26) = true)
    (a_27 : PySem.W.nsIn K mainGlobals "next_fit" = some (some (.ref f_27)))
    (l_27 : K.lookup f_27 = some ⟨oc_27, od_27, .func (PySem.W.fnOf "next_fit" "next_fit" (defArgs s_next_fit) (defBody s_next_fit) (defScope s_next_fit) .none kV_27 dc_27 pm_27 an_27 cd_27 ct_27), sl_27⟩) (c_27 : PySem.W.codeIn K cd_27 "next_fit" = true) (k_27 : PySem.W.keepIn K (.ref f_27) = true)
    (a_28 : PySem.W.nsIn K mainGlobals "place_after" = some (some (.ref f_28)))
    (l_28 : K.lookup f_28 = some ⟨oc_28, od_28, .func (PySem.W.fnOf "place_after" "place_after" (defArgs s_place_after) (defBody s_place_after) (defScope s_place_after) .none kV_28 dc_28 pm_28 an_28 cd_28 ct_28), sl_28⟩) (c_28 : PySem.W.codeIn K cd_28 "place_after" = true) (k_28 : PySem.W.keepIn K (.ref f_28) = true)
    (a_29 : PySem.W.nsIn K mainGlobals "written" = some (some (.ref f_29)))
    (l_29 : K.lookup f_29 = some ⟨oc_29, od_29, .func (PySem.W.fnOf "written" "written" (defArgs s_written) (defBody s_written) (defScope s_written) .none kV_29 dc_29 pm_29 an_29 cd_29 ct_29), sl_29⟩) (c_29 : PySem.W.codeIn K cd_29 "written" = true) (k_29 : PySem.W.keepIn K (.ref f_29) = true)
    (a_30 : PySem.W.nsIn K mainGlobals "read_back" = some (some (.ref f_30)))
    (l_30 : K.lookup f_30 = some ⟨oc_30, od_30, .func (PySem.W.fnOf "read_back" "read_back" (defArgs s_read_back) (defBody s_read_back) (defScope s_read_back) .none kV_30 dc_30 pm_30 an_30 cd_30 ct_30), sl_30⟩) (c_30 : PySem.W.codeIn K cd_30 "read_back" = true) (k_30 : PySem.W.keepIn K (.ref f_30) = true)
    (a_31 : PySem.W.nsIn K mainGlobals "text_after_step" = some (some (.ref f_31)))
    (l_31 : K.lookup f_31 = some ⟨oc_31, od_31, .func (PySem.W.fnOf "text_after_step" "text_after_step" (defArgs s_text_after_step) (defBody s_text_after_step) (defScope s_text_after_step) .none kV_31 dc_31 pm_31 an_31 cd_31 ct_31), sl_31⟩) (c_31 : PySem.W.codeIn K cd_31 "text_after_step" = true) (k_31 : PySem.W.keepIn K (.ref f_31) = true)
    (a_32 : PySem.W.nsIn K mainGlobals "do_join" = some (some (.ref f_32)))
    (l_32 : K.lookup f_32 = some ⟨oc_32, od_32, .func (PySem.W.fnOf "do_join" "do_join" (defArgs s_do_join) (defBody s_do_join) (defScope s_do_join) .none kV_32 dc_32 pm_32 an_32 cd_32 ct_32), sl_32⟩) (c_32 : PySem.W.codeIn K cd_32 "do_join" = true) (k_32 : PySem.W.keepIn K (.ref f_32) = true)
    (a_33 : PySem.W.nsIn K mainGlobals "over_a_part" = some (some (.ref f_33)))
    (l_33 : K.lookup f_33 = some ⟨oc_33, od_33, .func (PySem.W.fnOf "over_a_part" "over_a_part" (defArgs s_over_a_part) (defBody s_over_a_part) (defScope s_over_a_part) .none kV_33 dc_33 pm_33 an_33 cd_33 ct_33), sl_33⟩) (c_33 : PySem.W.codeIn K cd_33 "over_a_part" = true) (k_33 : PySem.W.keepIn K (.ref f_33) = true)
    (a_34 : PySem.W.nsIn K mainGlobals "within" = some (some (.ref f_34)))
    (l_34 : K.lookup f_34 = some ⟨oc_34, od_34, .func (PySem.W.fnOf "within" "within" (defArgs s_within) (defBody s_within) (defScope s_within) .none kV_34 dc_34 pm_34 an_34 cd_34 ct_34), sl_34⟩) (c_34 : PySem.W.codeIn K cd_34 "within" = true) (k_34 : PySem.W.keepIn K (.ref f_34) = true)
    (a_35 : PySem.W.nsIn K mainGlobals "answers" = some (some (.ref f_35)))
    (l_35 : K.lookup f_35 = some ⟨oc_35, od_35, .func (PySem.W.fnOf "answers" "answers" (defArgs s_answers) (defBody s_answers) (defScope s_answers) .none kV_35 dc_35 pm_35 an_35 cd_35 ct_35), sl_35⟩) (c_35 : PySem.W.codeIn K cd_35 "answers" = true) (k_35 : PySem.W.keepIn K (.ref f_35) = true)
    (a_36 : PySem.W.nsIn K mainGlobals "answer_next" = some (some (.ref f_36)))
    (l_36 : K.lookup f_36 = some ⟨oc_36, od_36, .func (PySem.W.fnOf "answer_next" "answer_next" (defArgs s_answer_next) (defBody s_answer_next) (defScope s_answer_next) .none kV_36 dc_36 pm_36 an_36 cd_36 ct_36), sl_36⟩) (c_36 : PySem.W.codeIn K cd_36 "answer_next" = true) (k_36 : PySem.W.keepIn K (.ref f_36) = true)
    (a_37 : PySem.W.nsIn K mainGlobals "answer_rule" = some (some (.ref f_37)))
    (l_37 : K.lookup f_37 = some ⟨oc_37, od_37, .func (PySem.W.fnOf "answer_rule" "answer_rule" (defArgs s_answer_rule) (defBody s_answer_rule) (defScope s_answer_rule) .none kV_37 dc_37 pm_37 an_37 cd_37 ct_37), sl_37⟩) (c_37 : PySem.W.codeIn K cd_37 "answer_rule" = true) (k_37 : PySem.W.keepIn K (.ref f_37) = true)
    (g_SIGNS_PER_BYTE : PySem.W.nsIn K mainGlobals "SIGNS_PER_BYTE" = some (some u_SIGNS_PER_BYTE)) (r_SIGNS_PER_BYTE : RelV (.int 2) u_SIGNS_PER_BYTE)
    (g_HIGH_SIGNS : PySem.W.nsIn K mainGlobals "HIGH_SIGNS" = some (some u_HIGH_SIGNS)) (r_HIGH_SIGNS : RelV (.str "ABCDEFGHIJKLMNOP") u_HIGH_SIGNS)
    (g_LOW_SIGNS : PySem.W.nsIn K mainGlobals "LOW_SIGNS" = some (some u_LOW_SIGNS)) (r_LOW_SIGNS : RelV (.str "abcdefghijklmnop") u_LOW_SIGNS)
    (g_LONGEST_SIDE : PySem.W.nsIn K mainGlobals "LONGEST_SIDE" = some (some u_LONGEST_SIDE)) (r_LONGEST_SIDE : RelV (.int 32) u_LONGEST_SIDE)
    (g_MOST_RULES : PySem.W.nsIn K mainGlobals "MOST_RULES" = some (some u_MOST_RULES)) (r_MOST_RULES : RelV (.int 64) u_MOST_RULES)
    (g_LONGEST_TEXT : PySem.W.nsIn K mainGlobals "LONGEST_TEXT" = some (some u_LONGEST_TEXT)) (r_LONGEST_TEXT : RelV (.int 8192) u_LONGEST_TEXT)
    (g_MOST_STEPS : PySem.W.nsIn K mainGlobals "MOST_STEPS" = some (some u_MOST_STEPS)) (r_MOST_STEPS : RelV (.int 1000000) u_MOST_STEPS)
    (g_MOST_STEPS_TOLD : PySem.W.nsIn K mainGlobals "MOST_STEPS_TOLD" = some (some u_MOST_STEPS_TOLD)) (r_MOST_STEPS_TOLD : RelV (.int 1000000000) u_MOST_STEPS_TOLD)
    (g_PLACES_PER_RULE : PySem.W.nsIn K mainGlobals "PLACES_PER_RULE" = some (some u_PLACES_PER_RULE)) (r_PLACES_PER_RULE : RelV (.int 16384) u_PLACES_PER_RULE)
    (g_NOT_OVER : PySem.W.nsIn K mainGlobals "NOT_OVER" = some (some u_NOT_OVER)) (r_NOT_OVER : RelV (.int 0) u_NOT_OVER)
    (g_OVER_NO_FIT : PySem.W.nsIn K mainGlobals "OVER_NO_FIT" = some (some u_OVER_NO_FIT)) (r_OVER_NO_FIT : RelV (.int 1) u_OVER_NO_FIT)
    (g_OVER_BY_LAST : PySem.W.nsIn K mainGlobals "OVER_BY_LAST" = some (some u_OVER_BY_LAST)) (r_OVER_BY_LAST : RelV (.int 2) u_OVER_BY_LAST)
    (g_DONE : PySem.W.nsIn K mainGlobals "DONE" = some (some u_DONE)) (r_DONE : RelV (.int 0) u_DONE)
    (g_OUT_OF_RANGE : PySem.W.nsIn K mainGlobals "OUT_OF_RANGE" = some (some u_OUT_OF_RANGE)) (r_OUT_OF_RANGE : RelV (.int (-1)) u_OUT_OF_RANGE)
    (g_NO_ROOM : PySem.W.nsIn K mainGlobals "NO_ROOM" = some (some u_NO_ROOM)) (r_NO_ROOM : RelV (.int (-2)) u_NO_ROOM)
    (g_NO_NEXT_STEP : PySem.W.nsIn K mainGlobals "NO_NEXT_STEP" = some (some u_NO_NEXT_STEP)) (r_NO_NEXT_STEP : RelV (.int (-1)) u_NO_NEXT_STEP)
    (g_NOT_SHORTENING : PySem.W.nsIn K mainGlobals "NOT_SHORTENING" = some (some u_NOT_SHORTENING)) (r_NOT_SHORTENING : RelV (.int (-2)) u_NOT_SHORTENING)
    (g_BEGIN : PySem.W.nsIn K mainGlobals "BEGIN" = some (some u_BEGIN)) (r_BEGIN : RelV (.int 0) u_BEGIN)
    (g_RULE : PySem.W.nsIn K mainGlobals "RULE" = some (some u_RULE)) (r_RULE : RelV (.int 1) u_RULE)
    (g_TEXT : PySem.W.nsIn K mainGlobals "TEXT" = some (some u_TEXT)) (r_TEXT : RelV (.int 2) u_TEXT)
    (g_RUN : PySem.W.nsIn K mainGlobals "RUN" = some (some u_RUN)) (r_RUN : RelV (.int 3) u_RUN)
    (g_READ : PySem.W.nsIn K mainGlobals "READ" = some (some u_READ)) (r_READ : RelV (.int 4) u_READ)
    (g_NEXT : PySem.W.nsIn K mainGlobals "NEXT" = some (some u_NEXT)) (r_NEXT : RelV (.int 5) u_NEXT)
    (g_STEPS : PySem.W.nsIn K mainGlobals "STEPS" = some (some u_STEPS)) (r_STEPS : RelV (.int 6) u_STEPS)
    (g_JOINS : PySem.W.nsIn K mainGlobals "JOINS" = some (some u_JOINS)) (r_JOINS : RelV (.int 7) u_JOINS)
    (z_len : PySem.W.nsIn K mainGlobals "len" = some none)
    (z_max : PySem.W.nsIn K mainGlobals "max" = some none)
    (z_min : PySem.W.nsIn K mainGlobals "min" = some none)
    (z_enumerate : PySem.W.nsIn K mainGlobals "enumerate" = some none)
    (z_range : PySem.W.nsIn K mainGlobals "range" = some none)
    : ∃ A : Ad, Facts K mg A := by
  have F_0 := fun_mk (st := s_CallReader_init) l_0 c_0 k_0
  have b_0 := F_0.binds (ps := p_CallReader_init) fun _ _ _ _ _ _ us hl => match us, hl with | [_, _], _ => rfl
  have F_1 := fun_mk (st := s_CallReader_has_more) l_1 c_1 k_1
  have b_1 := F_1.binds (ps := p_CallReader_has_more) fun _ _ _ _ _ _ us hl => match us, hl with | [_], _ => rfl
  have F_2 := fun_mk (st := s_CallReader_read_number) l_2 c_2 k_2
  have b_2 := F_2.binds (ps := p_CallReader_read_number) fun _ _ _ _ _ _ us hl => match us, hl with | [_], _ => rfl
  have F_3 := fun_mk (st := s_CallReader_read_row) l_3 c_3 k_3
  have b_3 := F_3.binds (ps := p_CallReader_read_row) fun _ _ _ _ _ _ us hl => match us, hl with | [_], _ => rfl
  have F_4 := fun_mk (st := s_Rule_init) l_4 c_4 k_4
  have b_4 := F_4.binds (ps := p_Rule_init) fun _ _ _ _ _ _ us hl => match us, hl with | [_, _, _, _], _ => rfl
  have F_5 := fun_mk (st := s_Fit_init) l_5 c_5 k_5
  have b_5 := F_5.binds (ps := p_Fit_init) fun _ _ _ _ _ _ us hl => match us, hl with | [_, _, _, _], _ => rfl
  have F_6 := fun_mk (st := s_Rests_init) l_6 c_6 k_6
  have b_6 := F_6.binds (ps := p_Rests_init) fun _ _ _ _ _ _ us hl => match us, hl with | [_, _], _ => rfl
  have F_7 := fun_mk (st := s_Rests_rest_of) l_7 c_7 k_7
  have b_7 := F_7.binds (ps := p_Rests_rest_of) fun _ _ _ _ _ _ us hl => match us, hl with | [_, _], _ => rfl
  have F_8 := fun_mk (st := s_Rests_are_same) l_8 c_8 k_8
  have b_8 := F_8.binds (ps := p_Rests_are_same) fun _ _ _ _ _ _ us hl => match us, hl with | [_, _, _], _ => rfl
  have F_9 := fun_mk (st := s_RoundWatch_init) l_9 c_9 k_9
  have b_9 := F_9.binds (ps := p_RoundWatch_init) fun _ _ _ _ _ _ us hl => match us, hl with | [_, _], _ => rfl
  have F_10 := fun_mk (st := s_RoundWatch_round_length) l_10 c_10 k_10
  have b_10 := F_10.binds (ps := p_RoundWatch_round_length) fun _ _ _ _ _ _ us hl => match us, hl with | [_, _], _ => rfl
  have F_11 := fun_mk (st := s_Turning_init) l_11 c_11 k_11
  have b_11 := F_11.binds (ps := p_Turning_init) fun _ _ _ _ _ _ us hl => match us, hl with | [_], _ => rfl
  have F_12 := fun_mk (st := s_Turning_begin) l_12 c_12 k_12
  have b_12 := F_12.binds (ps := p_Turning_begin) fun _ _ _ _ _ _ us hl => match us, hl with | [_], _ => rfl
  have F_13 := fun_mk (st := s_Turning_add_rule) l_13 c_13 k_13
  have b_13 := F_13.binds (ps := p_Turning_add_rule) fun _ _ _ _ _ _ us hl => match us, hl with | [_, _, _, _], _ => rfl
  have F_14 := fun_mk (st := s_Turning_give_text) l_14 c_14 k_14
  have b_14 := F_14.binds (ps := p_Turning_give_text) fun _ _ _ _ _ _ us hl => match us, hl with | [_, _], _ => rfl
  have F_15 := fun_mk (st := s_Turning_start_anew) l_15 c_15 k_15
  have b_15 := F_15.binds (ps := p_Turning_start_anew) fun _ _ _ _ _ _ us hl => match us, hl with | [_, _], _ => rfl
  have F_16 := fun_mk (st := s_Turning_run) l_16 c_16 k_16
  have b_16 := F_16.binds (ps := p_Turning_run) fun _ _ _ _ _ _ us hl => match us, hl with | [_, _], _ => rfl
  have F_17 := fun_mk (st := s_Turning_grows_too_long) l_17 c_17 k_17
  have b_17 := F_17.binds (ps := p_Turning_grows_too_long) fun _ _ _ _ _ _ us hl => match us, hl with | [_, _], _ => rfl
  have F_18 := fun_mk (st := s_Turning_take_step) l_18 c_18 k_18
  have b_18 := F_18.binds (ps := p_Turning_take_step) fun _ _ _ _ _ _ us hl => match us, hl with | [_, _], _ => rfl
  have F_19 := fun_mk (st := s_Turning_skip_rounds) l_19 c_19 k_19
  have b_19 := F_19.binds (ps := p_Turning_skip_rounds) fun _ _ _ _ _ _ us hl => match us, hl with | [_, _, _], _ => rfl
  have F_20 := fun_mk (st := s_Turning_tell_text) l_20 c_20 k_20
  have b_20 := F_20.binds (ps := p_Turning_tell_text) fun _ _ _ _ _ _ us hl => match us, hl with | [_, _], _ => rfl
  have F_21 := fun_mk (st := s_Turning_tell_next) l_21 c_21 k_21
  have b_21 := F_21.binds (ps := p_Turning_tell_next) fun _ _ _ _ _ _ us hl => match us, hl with | [_], _ => rfl
  have F_22 := fun_mk (st := s_Turning_tell_steps) l_22 c_22 k_22
  have b_22 := F_22.binds (ps := p_Turning_tell_steps) fun _ _ _ _ _ _ us hl => match us, hl with | [_], _ => rfl
  have F_23 := fun_mk (st := s_Turning_tell_joins) l_23 c_23 k_23
  have b_23 := F_23.binds (ps := p_Turning_tell_joins) fun _ _ _ _ _ _ us hl => match us, hl with | [_], _ => rfl
  have F_24 := fun_mk (st := s_Turning_find_joins) l_24 c_24 k_24
  have b_24 := F_24.binds (ps := p_Turning_find_joins) fun _ _ _ _ _ _ us hl => match us, hl with | [_], _ => rfl
  have F_25 := fun_mk (st := s_shortens) l_25 c_25 k_25
  have b_25 := F_25.binds (ps := p_shortens) fun _ _ _ _ _ _ us hl => match us, hl with | [_], _ => rfl
  have F_26 := fun_mk (st := s_turned) l_26 c_26 k_26
  have b_26 := F_26.binds (ps := p_turned) fun _ _ _ _ _ _ us hl => match us, hl with | [_, _, _], _ => rfl
  have F_27 := fun_mk (st := s_next_fit) l_27 c_27 k_27
  have b_27 := F_27.binds (ps := p_next_fit) fun _ _ _ _ _ _ us hl => match us, hl with | [_, _, _], _ => rfl
  have F_28 := fun_mk (st := s_place_after) l_28 c_28 k_28
  have b_28 := F_28.binds (ps := p_place_after) fun _ _ _ _ _ _ us hl => match us, hl with | [_, _, _, _], _ => rfl
  have F_29 := fun_mk (st := s_written) l_29 c_29 k_29
  have b_29 := F_29.binds (ps := p_written) fun _ _ _ _ _ _ us hl => match us, hl with | [_], _ => rfl
  have F_30 := fun_mk (st := s_read_back) l_30 c_30 k_30
  have b_30 := F_30.binds (ps := p_read_back) fun _ _ _ _ _ _ us hl => match us, hl with | [_], _ => rfl
  have F_31 := fun_mk (st := s_text_after_step) l_31 c_31 k_31
  have b_31 := F_31.binds (ps := p_text_after_step) fun _ _ _ _ _ _ us hl => match us, hl with | [_, _], _ => rfl
  have F_32 := fun_mk (st := s_do_join) l_32 c_32 k_32
  have b_32 := F_32.binds (ps := p_do_join) fun _ _ _ _ _ _ us hl => match us, hl with | [_], _ => rfl
  have F_33 := fun_mk (st := s_over_a_part) l_33 c_33 k_33
  have b_33 := F_33.binds (ps := p_over_a_part) fun _ _ _ _ _ _ us hl => match us, hl with | [_, _], _ => rfl
  have F_34 := fun_mk (st := s_within) l_34 c_34 k_34
  have b_34 := F_34.binds (ps := p_within) fun _ _ _ _ _ _ us hl => match us, hl with | [_, _], _ => rfl
  have F_35 := fun_mk (st := s_answers) l_35 c_35 k_35
  have b_35 := F_35.binds (ps := p_answers) fun _ _ _ _ _ _ us hl => match us, hl with | [_], _ => rfl
  have F_36 := fun_mk (st := s_answer_next) l_36 c_36 k_36
  have b_36 := F_36.binds (ps := p_answer_next) fun _ _ _ _ _ _ us hl => match us, hl with | [_, _], _ => rfl
  have F_37 := fun_mk (st := s_answer_rule) l_37 c_37 k_37
  have b_37 := F_37.binds (ps := p_answer_rule) fun _ _ _ _ _ _ us hl => match us, hl with | [_, _], _ => rfl
  refine ⟨⟨C_CallReader, C_Rule, C_Fit, C_Rests, C_RoundWatch, C_Turning⟩, ⟨⟨⟨pg_CallReader, hd_CallReader, po_CallReader, sa_CallReader⟩, PySem.W.mg_of X G a_CallReader, na_CallReader_calls, na_CallReader_reached, ⟨pg_Rule, hd_Rule, po_Rule, sa_Rule⟩, PySem.W.mg_of X G a_Rule, na_Rule_left, na_Rule_right, na_Rule_last, ⟨pg_Fit, hd_Fit, po_Fit, sa_Fit⟩, PySem.W.mg_of X G a_Fit, na_Fit_number, na_Fit_rule, na_Fit_place, ⟨pg_Rests, hd_Rests, po_Rests, sa_Rests⟩, PySem.W.mg_of X G a_Rests, na_Rests_rules, na_Rests_known, ⟨pg_RoundWatch, hd_RoundWatch, po_RoundWatch, sa_RoundWatch⟩, PySem.W.mg_of X G a_RoundWatch, na_RoundWatch_kept, na_RoundWatch_age, na_RoundWatch_span, ⟨pg_Turning, hd_Turning, po_Turning, sa_Turning⟩, PySem.W.mg_of X G a_Turning, na_Turning_rules, na_Turning_joined, na_Turning_text, na_Turning_over, na_Turning_steps, ⟨_, PySem.W.mg_of X G g_SIGNS_PER_BYTE, r_SIGNS_PER_BYTE⟩, ⟨_, PySem.W.mg_of X G g_HIGH_SIGNS, r_HIGH_SIGNS⟩, ⟨_, PySem.W.mg_of X G g_LOW_SIGNS, r_LOW_SIGNS⟩, ⟨_, PySem.W.mg_of X G g_LONGEST_SIDE, r_LONGEST_SIDE⟩, ⟨_, PySem.W.mg_of X G g_MOST_RULES, r_MOST_RULES⟩, ⟨_, PySem.W.mg_of X G g_LONGEST_TEXT, r_LONGEST_TEXT⟩, ⟨_, PySem.W.mg_of X G g_MOST_STEPS, r_MOST_STEPS⟩, ⟨_, PySem.W.mg_of X G g_MOST_STEPS_TOLD, r_MOST_STEPS_TOLD⟩, ⟨_, PySem.W.mg_of X G g_PLACES_PER_RULE, r_PLACES_PER_RULE⟩, ⟨_, PySem.W.mg_of X G g_NOT_OVER, r_NOT_OVER⟩, ⟨_, PySem.W.mg_of X G g_OVER_NO_FIT, r_OVER_NO_FIT⟩, ⟨_, PySem.W.mg_of X G g_OVER_BY_LAST, r_OVER_BY_LAST⟩, ⟨_, PySem.W.mg_of X G g_DONE, r_DONE⟩, ⟨_, PySem.W.mg_of X G g_OUT_OF_RANGE, r_OUT_OF_RANGE⟩, ⟨_, PySem.W.mg_of X G g_NO_ROOM, r_NO_ROOM⟩, ⟨_, PySem.W.mg_of X G g_NO_NEXT_STEP, r_NO_NEXT_STEP⟩, ⟨_, PySem.W.mg_of X G g_NOT_SHORTENING, r_NOT_SHORTENING⟩, ⟨_, PySem.W.mg_of X G g_BEGIN, r_BEGIN⟩, ⟨_, PySem.W.mg_of X G g_RULE, r_RULE⟩, ⟨_, PySem.W.mg_of X G g_TEXT, r_TEXT⟩, ⟨_, PySem.W.mg_of X G g_RUN, r_RUN⟩, ⟨_, PySem.W.mg_of X G g_READ, r_READ⟩, ⟨_, PySem.W.mg_of X G g_NEXT, r_NEXT⟩, ⟨_, PySem.W.mg_of X G g_STEPS, r_STEPS⟩, ⟨_, PySem.W.mg_of X G g_JOINS, r_JOINS⟩, PySem.W.mg_none_of X G z_len, PySem.W.mg_none_of X G z_max, PySem.W.mg_none_of X G z_min, PySem.W.mg_none_of X G z_enumerate, PySem.W.mg_none_of X G z_range⟩, ⟨_, _, F_0, b_0, ⟨mk_CallReader, a_0, i_0, kc_CallReader⟩⟩, ⟨_, _, F_1, b_1, ⟨a_1, i_1, k_1⟩⟩, ⟨_, _, F_2, b_2, ⟨a_2, i_2, k_2⟩⟩, ⟨_, _, F_3, b_3, ⟨a_3, i_3, k_3⟩⟩, ⟨_, _, F_4, b_4, ⟨mk_Rule, a_4, i_4, kc_Rule⟩⟩, ⟨_, _, F_5, b_5, ⟨mk_Fit, a_5, i_5, kc_Fit⟩⟩, ⟨_, _, F_6, b_6, ⟨mk_Rests, a_6, i_6, kc_Rests⟩⟩, ⟨_, _, F_7, b_7, ⟨a_7, i_7, k_7⟩⟩, ⟨_, _, F_8, b_8, ⟨a_8, i_8, k_8⟩⟩, ⟨_, _, F_9, b_9, ⟨mk_RoundWatch, a_9, i_9, kc_RoundWatch⟩⟩, ⟨_, _, F_10, b_10, ⟨a_10, i_10, k_10⟩⟩, ⟨_, _, F_11, b_11, ⟨mk_Turning, a_11, i_11, kc_Turning⟩⟩, ⟨_, _, F_12, b_12, ⟨a_12, i_12, k_12⟩⟩, ⟨_, _, F_13, b_13, ⟨a_13, i_13, k_13⟩⟩, ⟨_, _, F_14, b_14, ⟨a_14, i_14, k_14⟩⟩, ⟨_, _, F_15, b_15, ⟨a_15, i_15, k_15⟩⟩, ⟨_, _, F_16, b_16, ⟨a_16, i_16, k_16⟩⟩, ⟨_, _, F_17, b_17, ⟨a_17, i_17, k_17⟩⟩, ⟨_, _, F_18, b_18, ⟨a_18, i_18, k_18⟩⟩, ⟨_, _, F_19, b_19, ⟨a_19, i_19, k_19⟩⟩, ⟨_, _, F_20, b_20, ⟨a_20, i_20, k_20⟩⟩, ⟨_, _, F_21, b_21, ⟨a_21, i_21, k_21⟩⟩, ⟨_, _, F_22, b_22, ⟨a_22, i_22, k_22⟩⟩, ⟨_, _, F_23, b_23, ⟨a_23, i_23, k_23⟩⟩, ⟨_, _, F_24, b_24, ⟨a_24, i_24, k_24⟩⟩, ⟨_, _, F_25, b_25, PySem.W.mg_of X G a_25, k_25⟩, ⟨_, _, F_26, b_26, PySem.W.mg_of X G a_26, k_26⟩, ⟨_, _, F_27, b_27, PySem.W.mg_of X G a_27, k_27⟩, ⟨_, _, F_28, b_28, PySem.W.mg_of X G a_28, k_28⟩, ⟨_, _, F_29, b_29, PySem.W.mg_of X G a_29, k_29⟩, ⟨_, _, F_30, b_30, PySem.W.mg_of X G a_30, k_30⟩, ⟨_, _, F_31, b_31, PySem.W.mg_of X G a_31, k_31⟩, ⟨_, _, F_32, b_32, PySem.W.mg_of X G a_32, k_32⟩, ⟨_, _, F_33, b_33, PySem.W.mg_of X G a_33, k_33⟩, ⟨_, _, F_34, b_34, PySem.W.mg_of X G a_34, k_34⟩, ⟨_, _, F_35, b_35, PySem.W.mg_of X G a_35, k_35⟩, ⟨_, _, F_36, b_36, PySem.W.mg_of X G a_36, k_36⟩, ⟨_, _, F_37, b_37, PySem.W.mg_of X G a_37, k_37⟩⟩⟩

section
variable {P : Program} {w : World} {K : PySem.W.Frag} {mg : Str → Option Value} {base : Heap} {A : Ad} {k : Nat} {x qual : Str} {st : Stmt} {ps : List Str} {sp : Sp} {C : Addr}
theorem FnIn.of (d : ∃ f fd, Fun K x qual st f fd ∧ Binds K fd ps [] ∧ mg x = some (.ref f) ∧ PySem.W.keepIn K (.ref f) = true) (ok : ∀ {f fd}, Fun K x qual st f fd → FnOk P w K mg base CX0 k f fd ps sp) : FnIn P w K mg base k x ps sp :=
  let ⟨f, fd, F, b, m, kp⟩ := d; ⟨f, fd, ok F, b, m, kp⟩
theorem FnInC.of {spk : Spk} (d : ∃ f fd, Fun K x qual st f fd ∧ Binds K fd ps [] ∧ mg x = some (.ref f) ∧ PySem.W.keepIn K (.ref f) = true) (ok : ∀ {f fd}, Fun K x qual st f fd → FnC P w K mg base k f fd ps spk) : FnInC P w K mg base k x ps spk :=
  let ⟨f, fd, F, b, m, kp⟩ := d; ⟨f, fd, ok F, b, m, kp⟩
theorem MeIn.of (d : ∃ f fd, Fun K x qual st f fd ∧ Binds K fd ps [] ∧ Meth K C x f) (ok : ∀ {f fd}, Fun K x qual st f fd → FnOk P w K mg base CX0 k f fd ps sp) : MeIn P w K mg base k C x ps sp :=
  let ⟨f, fd, F, b, m⟩ := d; ⟨f, fd, ok F, b, m⟩
theorem MkIn.of (d : ∃ f fd, Fun K x qual st f fd ∧ Binds K fd ps [] ∧ Mk K C f) (ok : ∀ {f fd}, Fun K x qual st f fd → FnOk P w K mg base CX0 k f fd ps sp) : MkIn P w K mg base k C ps sp :=
  let ⟨f, fd, F, b, m⟩ := d; ⟨f, fd, ok F, b, m⟩
end
theorem all_ok {P : Program} {w : World} {K : PySem.W.Frag} {mg : Str → Option Value} {base : Heap} {A : Ad} (X : Facts K mg A) {f : Addr} {fd : FuncData} (F : Fun K "answers" "answers" s_answers f fd) : FnOk P w K mg base CX0 8 f fd p_answers (spAnswers K) := by
  have T := X.txt
  have gReader := MkIn.of (P := P) (w := w) (base := base) X.d_CallReader_init fun F => ok_CallReader_init F T
  have gMore := MeIn.of (P := P) (w := w) (base := base) X.d_CallReader_has_more fun F => ok_CallReader_has_more F T
  have gNumber := MeIn.of (P := P) (w := w) (base := base) X.d_CallReader_read_number fun F => ok_CallReader_read_number F T
  have gRow := MeIn.of (P := P) (w := w) (base := base) X.d_CallReader_read_row fun F => ok_CallReader_read_row F T gNumber
  have gRule := MkIn.of (P := P) (w := w) (base := base) X.d_Rule_init fun F => ok_Rule_init F T
  have gFit := MkIn.of (P := P) (w := w) (base := base) X.d_Fit_init fun F => ok_Fit_init F T
  have gWatch := MkIn.of (P := P) (w := w) (base := base) X.d_RoundWatch_init fun F => ok_RoundWatch_init F T
  have gRound := MeIn.of (P := P) (w := w) (base := base) X.d_RoundWatch_round_length fun F => ok_RoundWatch_round_length F T
  have gTurning := MkIn.of (P := P) (w := w) (base := base) X.d_Turning_init fun F => ok_Turning_init F T
  have gAnew := MeIn.of (P := P) (w := w) (base := base) X.d_Turning_start_anew fun F => ok_Turning_start_anew F T
  have gBegin := MeIn.of (P := P) (w := w) (base := base) X.d_Turning_begin fun F => ok_Turning_begin F T gAnew
  have gWritten := FnIn.of (P := P) (w := w) (base := base) X.d_written fun F => ok_written F T
  have gWrittenK := FnInC.of (P := P) (w := w) (base := base) X.d_written fun F => ok_writtenK F T
  have gAdd := MeIn.of (P := P) (w := w) (base := base) X.d_Turning_add_rule fun F => ok_Turning_add_rule F T gWrittenK gRule
  have gTurned := FnIn.of (P := P) (w := w) (base := base) X.d_turned fun F => ok_turned F T
  have gShortens := FnIn.of (P := P) (w := w) (base := base) X.d_shortens fun F => ok_shortens F T
  have gBack := FnIn.of (P := P) (w := w) (base := base) X.d_read_back fun F => ok_read_back F T
  have gText := MeIn.of (P := P) (w := w) (base := base) X.d_Turning_give_text fun F => ok_Turning_give_text F T gAnew gWritten
  have gAfter := FnIn.of (P := P) (w := w) (base := base) X.d_place_after fun F => ok_place_after F T
  have gNext := FnIn.of (P := P) (w := w) (base := base) X.d_next_fit fun F => ok_next_fit F T gAfter gFit
  have gGrows := MeIn.of (P := P) (w := w) (base := base) X.d_Turning_grows_too_long fun F => ok_Turning_grows_too_long F T
  have gStep := MeIn.of (P := P) (w := w) (base := base) X.d_Turning_take_step fun F => ok_Turning_take_step F T gTurned
  have gSkip := MeIn.of (P := P) (w := w) (base := base) X.d_Turning_skip_rounds fun F => ok_Turning_skip_rounds F T gRound
  have gRun := MeIn.of (P := P) (w := w) (base := base) X.d_Turning_run fun F => ok_Turning_run F T gWatch gNext gGrows gStep gSkip
  have gAnsRule := FnIn.of (P := P) (w := w) (base := base) X.d_answer_rule fun F => ok_answer_rule F T gNumber gRow gAdd
  have gAfterStep := FnIn.of (P := P) (w := w) (base := base) X.d_text_after_step fun F => ok_text_after_step F T
  have gRests := MkIn.of (P := P) (w := w) (base := base) X.d_Rests_init fun F => ok_Rests_init F T
  have gRest := MeIn.of (P := P) (w := w) (base := base) X.d_Rests_rest_of fun F => ok_Rests_rest_of F T gAfterStep
  have gSame := MeIn.of (P := P) (w := w) (base := base) X.d_Rests_are_same fun F => ok_Rests_are_same F T gRest
  have gOver := FnIn.of (P := P) (w := w) (base := base) X.d_over_a_part fun F => ok_over_a_part F T
  have gWithin := FnIn.of (P := P) (w := w) (base := base) X.d_within fun F => ok_within F T gTurned
  have gJoin := FnIn.of (P := P) (w := w) (base := base) X.d_do_join fun F => ok_do_join F T gRests gOver gWithin gSame
  have gFind := MeIn.of (P := P) (w := w) (base := base) X.d_Turning_find_joins fun F => ok_Turning_find_joins F T gShortens gJoin
  have gTJoins := MeIn.of (P := P) (w := w) (base := base) X.d_Turning_tell_joins fun F => ok_Turning_tell_joins F T gFind
  have gTSteps := MeIn.of (P := P) (w := w) (base := base) X.d_Turning_tell_steps fun F => ok_Turning_tell_steps F T
  have gTNext := MeIn.of (P := P) (w := w) (base := base) X.d_Turning_tell_next fun F => ok_Turning_tell_next F T gNext
  have gTText := MeIn.of (P := P) (w := w) (base := base) X.d_Turning_tell_text fun F => ok_Turning_tell_text F T gBack
  have gCall := FnIn.of (P := P) (w := w) (base := base) X.d_answer_next fun F => ok_answer_next F T gNumber gRow gBegin gAnsRule gText gRun gTText gTNext gTSteps gTJoins
  exact ok_answers F T gTurning gReader gMore gCall
end RT

open PySem PySem.W L2 RT
namespace RT
theorem pre_of {as : List WData} (h : PySem.Challenge.rw_ruleturn_s01_answers.pre as = true) : ∃ ns : List Int, as = [.list (ns.map .int)] ∧ ns.length ≤ sizeLine := by
  obtain ⟨a, e, _⟩ := os_pre_some h
  obtain ⟨e1, e2⟩ := Codec.encAll_of_decAll _ _ _ e
  refine ⟨a.1, e1, ?_⟩
  have e3 : (Codec.inLen 0 30000 a.1 && a.1.all (Codec.inInt (-2147483648) 2147483647)) = true := (Codec.and_of (show (Codec.inList 0 30000 (Codec.inInt (-2147483648) 2147483647) a.1 && _) = true from e2)).1
  have e4 := (Codec.and_of e3).1
  have e5 := (Codec.inNat_iff.mp (show Codec.inNat 0 30000 a.1.length = true from e4)).2
  have : sizeLine = 16777216 := sizeLine_eq
  omega
theorem asked_of {ns : List Int} (h : PySem.Challenge.rw_ruleturn_s01_answers.pre [.list (ns.map .int)] = true) : PyRd09.answers_asked ns = true := by
  obtain ⟨a, e, h2⟩ := os_pre_some h
  obtain ⟨e1, _⟩ := Codec.encAll_of_decAll _ _ _ e
  have e2 : ns.map WData.int = a.1.map WData.int := by
    have := List.cons.inj e1
    exact WData.list.inj this.1
  have e3 : ns = a.1 := (List.map_inj_right (fun x y h => WData.int.inj h)).mp e2
  rw [e3]
  exact h2
theorem post_of {ns : List Int} (h : PySem.Challenge.rw_ruleturn_s01_answers.pre [.list (ns.map .int)] = true) : PySem.Challenge.rw_ruleturn_s01_answers.post [.list (ns.map .int)] (.list ((PyRd09.answers ns).map .int)) = true := by
  obtain ⟨a, e, h2⟩ := os_pre_some h
  obtain ⟨e1, _⟩ := Codec.encAll_of_decAll _ _ _ e
  have e2 : ns.map WData.int = a.1.map WData.int := by
    have := List.cons.inj e1
    exact WData.list.inj this.1
  have e3 : ns = a.1 := (List.map_inj_right (fun x y h => WData.int.inj h)).mp e2
  refine os_post e ?_
  show same _ (.list ((PyRd09.answers a.1).map .int)) = true
  rw [e3]
  exact same_self _

theorem main_sp {K : PySem.W.Frag} {H : Hp} {a : Addr} {ns : List Int} (h : PySem.Challenge.rw_ruleturn_s01_answers.pre [.list (ns.map .int)] = true) (hO : Only H) (hS : SqL K H a (ns.map V.int)) :
    spAnswers K [.ref a] H (fun v H' => ∃ l, v = .ref l ∧ H' l = some (.lst ((PyRd09.answers ns).map V.int))) fun _ _ _ => False := by
  obtain ⟨xs, e1, e2, e3, e4⟩ := asked_split (asked_of h)
  refine ⟨a, ns, xs, rfl, InAt.of hO hS, e1, e2, e3, fun g H' hg => ⟨g, rfl, ?_⟩⟩
  rw [e4]
  exact hg
theorem main_fn {P : Program} {w : World} {K : PySem.W.Frag} {mg : Str → Option Value} {A : Ad} {fa : Addr} (X : Facts K mg A) (hmg : mg "answers" = some (.ref fa)) :
    ∃ fd : FuncData, (∀ (s : Shared) (u : Value), BindsTo s fd ⟨[u], []⟩ [("calls", u)]) ∧ ∀ base : Heap, FnOk P w K mg base CX0 8 fa fd p_answers (spAnswers K) := by
  obtain ⟨f, fd, F, b, m, kp⟩ := X.d_answers
  have e := hmg.symm.trans m
  cases e
  refine ⟨fd, ?_, fun base => ?_⟩
  · obtain ⟨oc, od, kV, doc, pm, an, cdv, ct, osl, rfl, lk, hcd⟩ := F.ex
    exact fun s u => .of_eq rfl
  · exact all_ok X F
end RT
/-! Five places taken ahead: the head then lays no quick twin (with its long proof) of these five heaps, which it can do without; what Lean writes of this text stays below 64 MiB. -/
def PySem.W.Fast.tw14727067054068393773 : Unit := ()
def PySem.W.Fast.tw8248160639885086602 : Unit := ()
def PySem.W.Fast.tw9030784496920996981 : Unit := ()
def PySem.W.Fast.tw8687028353763385563 : Unit := ()
def PySem.W.Fast.tw11084481916686354911 : Unit := ()
set_option maxRecDepth 100000 in
set_option maxHeartbeats 0 in
theorem PySem.Challenge.cw_ruleturn_s01_answers_holds : PySem.Challenge.rw_ruleturn_s01_answers.Holds := by
  w_on; k_headS; (case hw => exact ⟨[.list []], by decide +kernel, by decide +kernel⟩)
  k_fillS
  refine L2.walk_spec (r := PySem.Challenge.rw_ruleturn_s01_answers) (k := 8) (x := "calls") (sp := fun K => RT.spAnswers K) (f := PyRd09.answers) (fun as h => RT.pre_of h) (fun ns h => RT.post_of h) rfl ⟨rfl, by decide, by decide⟩ (fun w h Y => PySem.W.kIn_of Y) ?F ?S
  case F =>
    intro w mg fa h KX G hmg
    have T : ∃ A, RT.Facts (L2.KOf KX) mg A := by
      dsimp only [L2.KOf]
      refine' RT.facts_mk KX G ?a_CallReader ?pg_CallReader ?hd_CallReader ?po_CallReader ?sa_CallReader ?mk_CallReader ?kc_CallReader ?na_CallReader_calls ?na_CallReader_reached ?a_Rule ?pg_Rule ?hd_Rule ?po_Rule ?sa_Rule ?mk_Rule ?kc_Rule ?na_Rule_left ?na_Rule_right ?na_Rule_last ?a_Fit ?pg_Fit ?hd_Fit ?po_Fit ?sa_Fit ?mk_Fit ?kc_Fit ?na_Fit_number ?na_Fit_rule ?na_Fit_place ?a_Rests ?pg_Rests ?hd_Rests ?po_Rests ?sa_Rests ?mk_Rests ?kc_Rests ?na_Rests_rules ?na_Rests_known ?a_RoundWatch ?pg_RoundWatch ?hd_RoundWatch ?po_RoundWatch ?sa_RoundWatch ?mk_RoundWatch ?kc_RoundWatch ?na_RoundWatch_kept ?na_RoundWatch_age ?na_RoundWatch_span ?a_Turning ?pg_Turning ?hd_Turning ?po_Turning ?sa_Turning ?mk_Turning ?kc_Turning ?na_Turning_rules ?na_Turning_joined ?na_Turning_text ?na_Turning_over ?na_Turning_steps ?a_0 ?i_0 ?l_0 ?c_0 ?k_0 ?a_1 ?i_1 ?l_1 ?c_1 ?k_1 ?a_2 ?i_2 ?l_2 ?c_2 ?k_2 ?a_3 ?i_3 ?l_3 ?c_3 ?k_3 ?a_4 ?i_4 ?l_4 ?c_4 ?k_4 ?a_5 ?i_5 ?l_5 ?c_5 ?k_5 ?a_6 ?i_6 ?l_6 ?c_6 ?k_6 ?a_7 ?i_7 ?l_7 ?c_7 ?k_7 ?a_8 ?i_8 ?l_8 ?c_8 ?k_8 ?a_9 ?i_9 ?l_9 ?c_9 ?k_9 ?a_10 ?i_10 ?l_10 ?c_10 ?k_10 ?a_11 ?i_11 ?l_11 ?c_11 ?k_11 ?a_12 ?i_12 ?l_12 ?c_12 ?k_12 ?a_13 ?i_13 ?l_13 ?c_13 ?k_13 ?a_14 ?i_14 ?l_14 ?c_14 ?k_14 ?a_15 ?i_15 ?l_15 ?c_15 ?k_15 ?a_16 ?i_16 ?l_16 ?c_16 ?k_16 ?a_17 ?i_17 ?l_17 ?c_17 ?k_17 ?a_18 ?i_18 ?l_18 ?c_18 ?k_18 ?a_19 ?i_19 ?l_19 ?c_19 ?k_19 ?a_20 ?i_20 ?l_20 ?c_20 ?k_20 ?a_21 ?i_21 ?l_21 ?c_21 ?k_21 ?a_22 ?i_22 ?l_22 ?c_22 ?k_22 ?a_23 ?i_23 ?l_23 ?c_23 ?k_23 ?a_24 ?i_24 ?l_24 ?c_24 ?k_24 ?a_25 ?l_25 ?c_25 ?k_25 ?a_26 ?l_26 ?c_26 ?k_26 ?a_27 ?l_27 ?c_27 ?k_27 ?a_28 ?l_28 ?c_28 ?k_28 ?a_29 ?l_29 ?c_29 ?k_29 ?a_30 ?l_30 ?c_30 ?k_30 ?a_31 ?l_31 ?c_31 ?k_31 ?a_32 ?l_32 ?c_32 ?k_32 ?a_33 ?l_33 ?c_33 ?k_33 ?a_34 ?l_34 ?c_34 ?k_34 ?a_35 ?l_35 ?c_35 ?k_35 ?a_36 ?l_36 ?c_36 ?k_36 ?a_37 ?l_37 ?c_37 ?k_37 ?g_SIGNS_PER_BYTE ?r_SIGNS_PER_BYTE ?g_HIGH_SIGNS ?r_HIGH_SIGNS ?g_LOW_SIGNS ?r_LOW_SIGNS ?g_LONGEST_SIDE ?r_LONGEST_SIDE ?g_MOST_RULES ?r_MOST_RULES ?g_LONGEST_TEXT ?r_LONGEST_TEXT ?g_MOST_STEPS ?r_MOST_STEPS ?g_MOST_STEPS_TOLD ?r_MOST_STEPS_TOLD ?g_PLACES_PER_RULE ?r_PLACES_PER_RULE ?g_NOT_OVER ?r_NOT_OVER ?g_OVER_NO_FIT ?r_OVER_NO_FIT ?g_OVER_BY_LAST ?r_OVER_BY_LAST ?g_DONE ?r_DONE ?g_OUT_OF_RANGE ?r_OUT_OF_RANGE ?g_NO_ROOM ?r_NO_ROOM ?g_NO_NEXT_STEP ?r_NO_NEXT_STEP ?g_NOT_SHORTENING ?r_NOT_SHORTENING ?g_BEGIN ?r_BEGIN ?g_RULE ?r_RULE ?g_TEXT ?r_TEXT ?g_RUN ?r_RUN ?g_READ ?r_READ ?g_NEXT ?r_NEXT ?g_STEPS ?r_STEPS ?g_JOINS ?r_JOINS ?z_len ?z_max ?z_min ?z_enumerate ?z_range
      (case a_CallReader => k_is)
      (case pg_CallReader => k_is)
      (case hd_CallReader => k_is)
      (case po_CallReader => k_is)
      (case sa_CallReader => k_is)
      (case mk_CallReader => k_is)
      (case kc_CallReader => k_is)
      (case na_CallReader_calls => k_is)
      (case na_CallReader_reached => k_is)
      (case a_Rule => k_is)
      (case pg_Rule => k_is)
      (case hd_Rule => k_is)
      (case po_Rule => k_is)
      (case sa_Rule => k_is)
      (case mk_Rule => k_is)
      (case kc_Rule => k_is)
      (case na_Rule_left => k_is)
      (case na_Rule_right => k_is)
      (case na_Rule_last => k_is)
      (case a_Fit => k_is)
      (case pg_Fit => k_is)
      (case hd_Fit => k_is)
      (case po_Fit => k_is)
      (case sa_Fit => k_is)
      (case mk_Fit => k_is)
      (case kc_Fit => k_is)
      (case na_Fit_number => k_is)
      (case na_Fit_rule => k_is)
      (case na_Fit_place => k_is)
      (case a_Rests => k_is)
      (case pg_Rests => k_is)
      (case hd_Rests => k_is)
      (case po_Rests => k_is)
      (case sa_Rests => k_is)
      (case mk_Rests => k_is)
      (case kc_Rests => k_is)
      (case na_Rests_rules => k_is)
      (case na_Rests_known => k_is)
      (case a_RoundWatch => k_is)
      (case pg_RoundWatch => k_is)
      (case hd_RoundWatch => k_is)
      (case po_RoundWatch => k_is)
      (case sa_RoundWatch => k_is)
      (case mk_RoundWatch => k_is)
      (case kc_RoundWatch => k_is)
      (case na_RoundWatch_kept => k_is)
      (case na_RoundWatch_age => k_is)
      (case na_RoundWatch_span => k_is)
      (case a_Turning => k_is)
      (case pg_Turning => k_is)
      (case hd_Turning => k_is)
      (case po_Turning => k_is)
      (case sa_Turning => k_is)
      (case mk_Turning => k_is)
      (case kc_Turning => k_is)
      (case na_Turning_rules => k_is)
      (case na_Turning_joined => k_is)
      (case na_Turning_text => k_is)
      (case na_Turning_over => k_is)
      (case na_Turning_steps => k_is)
      (case a_0 => k_is)
      (case i_0 => k_is)
      (case l_0 => k_is)
      (case c_0 => k_is)
      (case k_0 => k_is)
      (case a_1 => k_is)
      (case i_1 => k_is)
      (case l_1 => k_is)
      (case c_1 => k_is)
      (case k_1 => k_is)
      (case a_2 => k_is)
      (case i_2 => k_is)
      (case l_2 => k_is)
      (case c_2 => k_is)
      (case k_2 => k_is)
      (case a_3 => k_is)
      (case i_3 => k_is)
      (case l_3 => k_is)
      (case c_3 => k_is)
      (case k_3 => k_is)
      (case a_4 => k_is)
      (case i_4 => k_is)
      (case l_4 => k_is)
      (case c_4 => k_is)
      (case k_4 => k_is)
      (case a_5 => k_is)
      (case i_5 => k_is)
      (case l_5 => k_is)
      (case c_5 => k_is)
      (case k_5 => k_is)
      (case a_6 => k_is)
      (case i_6 => k_is)
      (case l_6 => k_is)
      (case c_6 => k_is)
      (case k_6 => k_is)
      (case a_7 => k_is)
      (case i_7 => k_is)
      (case l_7 => k_is)
      (case c_7 => k_is)
      (case k_7 => k_is)
      (case a_8 => k_is)
      (case i_8 => k_is)
      (case l_8 => k_is)
      (case c_8 => k_is)
      (case k_8 => k_is)
      (case a_9 => k_is)
      (case i_9 => k_is)
      (case l_9 => k_is)
      (case c_9 => k_is)
      (case k_9 => k_is)
      (case a_10 => k_is)
      (case i_10 => k_is)
      (case l_10 => k_is)
      (case c_10 => k_is)
      (case k_10 => k_is)
      (case a_11 => k_is)
      (case i_11 => k_is)
      (case l_11 => k_is)
      (case c_11 => k_is)
      (case k_11 => k_is)
      (case a_12 => k_is)
      (case i_12 => k_is)
      (case l_12 => k_is)
      (case c_12 => k_is)
      (case k_12 => k_is)
      (case a_13 => k_is)
      (case i_13 => k_is)
      (case l_13 => k_is)
      (case c_13 => k_is)
      (case k_13 => k_is)
      (case a_14 => k_is)
      (case i_14 => k_is)
      (case l_14 => k_is)
      (case c_14 => k_is)
      (case k_14 => k_is)
      (case a_15 => k_is)
      (case i_15 => k_is)
      (case l_15 => k_is)
      (case c_15 => k_is)
      (case k_15 => k_is)
      (case a_16 => k_is)
      (case i_16 => k_is)
      (case l_16 => k_is)
      (case c_16 => k_is)
      (case k_16 => k_is)
      (case a_17 => k_is)
      (case i_17 => k_is)
      (case l_17 => k_is)
      (case c_17 => k_is)
      (case k_17 => k_is)
      (case a_18 => k_is)
      (case i_18 => k_is)
      (case l_18 => k_is)
      (case c_18 => k_is)
      (case k_18 => k_is)
      (case a_19 => k_is)
      (case i_19 => k_is)
      (case l_19 => k_is)
      (case c_19 => k_is)
      (case k_19 => k_is)
      (case a_20 => k_is)
      (case i_20 => k_is)
      (case l_20 => k_is)
      (case c_20 => k_is)
      (case k_20 => k_is)
      (case a_21 => k_is)
      (case i_21 => k_is)
      (case l_21 => k_is)
      (case c_21 => k_is)
      (case k_21 => k_is)
      (case a_22 => k_is)
      (case i_22 => k_is)
      (case l_22 => k_is)
      (case c_22 => k_is)
      (case k_22 => k_is)
      (case a_23 => k_is)
      (case i_23 => k_is)
      (case l_23 => k_is)
      (case c_23 => k_is)
      (case k_23 => k_is)
      (case a_24 => k_is)
      (case i_24 => k_is)
      (case l_24 => k_is)
      (case c_24 => k_is)
      (case k_24 => k_is)
      (case a_25 => k_is)
      (case l_25 => k_is)
      (case c_25 => k_is)
      (case k_25 => k_is)
      (case a_26 => k_is)
      (case l_26 => k_is)
      (case c_26 => k_is)
      (case k_26 => k_is)
      (case a_27 => k_is)
      (case l_27 => k_is)
      (case c_27 => k_is)
      (case k_27 => k_is)
      (case a_28 => k_is)
      (case l_28 => k_is)
      (case c_28 => k_is)
      (case k_28 => k_is)
      (case a_29 => k_is)
      (case l_29 => k_is)
      (case c_29 => k_is)
      (case k_29 => k_is)
      (case a_30 => k_is)
      (case l_30 => k_is)
      (case c_30 => k_is)
      (case k_30 => k_is)
      (case a_31 => k_is)
      (case l_31 => k_is)
      (case c_31 => k_is)
      (case k_31 => k_is)
      (case a_32 => k_is)
      (case l_32 => k_is)
      (case c_32 => k_is)
      (case k_32 => k_is)
      (case a_33 => k_is)
      (case l_33 => k_is)
      (case c_33 => k_is)
      (case k_33 => k_is)
      (case a_34 => k_is)
      (case l_34 => k_is)
      (case c_34 => k_is)
      (case k_34 => k_is)
      (case a_35 => k_is)
      (case l_35 => k_is)
      (case c_35 => k_is)
      (case k_35 => k_is)
      (case a_36 => k_is)
      (case l_36 => k_is)
      (case c_36 => k_is)
      (case k_36 => k_is)
      (case a_37 => k_is)
      (case l_37 => k_is)
      (case c_37 => k_is)
      (case k_37 => k_is)
      (case g_SIGNS_PER_BYTE => k_is)
      (case r_SIGNS_PER_BYTE => exact ⟨_, rfl⟩)
      (case g_HIGH_SIGNS => k_is)
      (case r_HIGH_SIGNS => exact ⟨_, rfl⟩)
      (case g_LOW_SIGNS => k_is)
      (case r_LOW_SIGNS => exact ⟨_, rfl⟩)
      (case g_LONGEST_SIDE => k_is)
      (case r_LONGEST_SIDE => exact ⟨_, rfl⟩)
      (case g_MOST_RULES => k_is)
      (case r_MOST_RULES => exact ⟨_, rfl⟩)
      (case g_LONGEST_TEXT => k_is)
      (case r_LONGEST_TEXT => exact ⟨_, rfl⟩)
      (case g_MOST_STEPS => k_is)
      (case r_MOST_STEPS => exact ⟨_, rfl⟩)
      (case g_MOST_STEPS_TOLD => k_is)
      (case r_MOST_STEPS_TOLD => exact ⟨_, rfl⟩)
      (case g_PLACES_PER_RULE => k_is)
      (case r_PLACES_PER_RULE => exact ⟨_, rfl⟩)
      (case g_NOT_OVER => k_is)
      (case r_NOT_OVER => exact ⟨_, rfl⟩)
      (case g_OVER_NO_FIT => k_is)
      (case r_OVER_NO_FIT => exact ⟨_, rfl⟩)
      (case g_OVER_BY_LAST => k_is)
      (case r_OVER_BY_LAST => exact ⟨_, rfl⟩)
      (case g_DONE => k_is)
      (case r_DONE => exact ⟨_, rfl⟩)
      (case g_OUT_OF_RANGE => k_is)
      (case r_OUT_OF_RANGE => exact ⟨_, rfl⟩)
      (case g_NO_ROOM => k_is)
      (case r_NO_ROOM => exact ⟨_, rfl⟩)
      (case g_NO_NEXT_STEP => k_is)
      (case r_NO_NEXT_STEP => exact ⟨_, rfl⟩)
      (case g_NOT_SHORTENING => k_is)
      (case r_NOT_SHORTENING => exact ⟨_, rfl⟩)
      (case g_BEGIN => k_is)
      (case r_BEGIN => exact ⟨_, rfl⟩)
      (case g_RULE => k_is)
      (case r_RULE => exact ⟨_, rfl⟩)
      (case g_TEXT => k_is)
      (case r_TEXT => exact ⟨_, rfl⟩)
      (case g_RUN => k_is)
      (case r_RUN => exact ⟨_, rfl⟩)
      (case g_READ => k_is)
      (case r_READ => exact ⟨_, rfl⟩)
      (case g_NEXT => k_is)
      (case r_NEXT => exact ⟨_, rfl⟩)
      (case g_STEPS => k_is)
      (case r_STEPS => exact ⟨_, rfl⟩)
      (case g_JOINS => k_is)
      (case r_JOINS => exact ⟨_, rfl⟩)
      (case z_len => k_is)
      (case z_max => k_is)
      (case z_min => k_is)
      (case z_enumerate => k_is)
      (case z_range => k_is)
    obtain ⟨A, X⟩ := T
    obtain ⟨fd, hb, hF⟩ := RT.main_fn (P := PySem.Challenge.rw_ruleturn_s01_answers.prog) (w := w) X hmg
    exact ⟨fd, hb, fun base _ _ => hF base⟩
  case S => exact fun K H a ns hp hO hS => RT.main_sp hp hO hS
#print axioms PySem.Challenge.cw_ruleturn_s01_answers_holds

