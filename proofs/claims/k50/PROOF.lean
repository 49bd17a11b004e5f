import PyProof.Rows.All
import Wide.All
import OpenK.AllK
import Wide.FinOn
import Lean
import PyProof.EqAt
import PyProof.EqKinds
import PyProof.TupleCall
import PySem.Challenge.RW_balancehall_k50_amounts
set_option Elab.async false
set_option linter.all false
set_option maxRecDepth 100000
/-! THE HAND LAYER, for ints, bools, texts, own classes, DICTS (int and text keys), calls, loops. Paste it whole ahead of your own text; what your proof does not reach may be deleted. -/
namespace L2
open PySem PySem.Spec PyProof.Rows

/-- a key: an int or a str -/
abbrev Key := Sum Int Str
def keyIs : Key → Value → Bool
  | .inl k, v => Value.isInt k v
  | .inr x, v => Value.isStrOf x v
def keyH (w : World) : Key → Int
  | .inl k => hashInt k
  | .inr x => hashStr w x
theorem keyIs_shape : ∀ {k : Key} {v : Value}, keyIs k v = true → (∃ i t, k = Sum.inl i ∧ v = Value.int i t) ∨ (∃ x t, k = Sum.inr x ∧ v = Value.str x t)
  | .inl i, v, h => by
    obtain ⟨t, e⟩ := Value.isInt_shape (k := i) (v := v) h
    exact .inl ⟨i, t, rfl, e⟩
  | .inr x, v, h => by
    obtain ⟨t, e⟩ := Value.isStrOf_shape (x := x) (v := v) h
    exact .inr ⟨x, t, rfl, e⟩
theorem keyIs_int (i : Int) (t : Tok) : keyIs (.inl i) (.int i t) = true := by simp [keyIs, Value.isInt]
theorem keyIs_str (x : Str) (t : Tok) : keyIs (.inr x) (.str x t) = true := by simp [keyIs, Value.isStrOf]
theorem key_ll (a b : Int) : decide ((Sum.inl a : Key) = Sum.inl b) = (a == b) := by
  by_cases e : a = b
  · subst e; simp
  · have h : ¬ (Sum.inl a : Key) = Sum.inl b := fun q => e (Sum.inl.inj q)
    rw [decide_eq_false h]
    exact (beq_eq_false_iff_ne.mpr e).symm
theorem key_rr (a b : Str) : decide ((Sum.inr a : Key) = Sum.inr b) = decide (a = b) := by
  by_cases e : a = b
  · subst e; simp
  · have h : ¬ (Sum.inr a : Key) = Sum.inr b := fun q => e (Sum.inr.inj q)
    rw [decide_eq_false h, decide_eq_false e]
theorem key_lr (a : Int) (b : Str) : decide ((Sum.inl a : Key) = Sum.inr b) = false := decide_eq_false (fun q => nomatch q)
theorem key_rl (a : Str) (b : Int) : decide ((Sum.inr a : Key) = Sum.inl b) = false := decide_eq_false (fun q => nomatch q)

def mixKind (prog : Program) (w : World) : PySem.KeyKind prog w Key where
  is := keyIs
  hash := keyH w
  inj := fun v a b ha hb => by
    rcases keyIs_shape ha with ⟨i, t, rfl, rfl⟩ | ⟨x, t, rfl, rfl⟩
    · rcases keyIs_shape hb with ⟨j, u, rfl, e⟩ | ⟨y, u, rfl, e⟩
      · injection e with e1 _; rw [e1]
      · exact nomatch e
    · rcases keyIs_shape hb with ⟨j, u, rfl, e⟩ | ⟨y, u, rfl, e⟩
      · exact nomatch e
      · injection e with e1 _; rw [e1]
  byValue := fun k v h => by
    rcases keyIs_shape h with ⟨i, t, rfl, rfl⟩ | ⟨x, t, rfl, rfl⟩ <;> rfl
  pyHash := fun hv h => by
    rcases keyIs_shape hv with ⟨i, t, rfl, rfl⟩ | ⟨x, t, rfl, rfl⟩
    · exact wpAny_pyHash_int h
    · exact wpAny_pyHash_str h
  eqBool := fun hu hv h => by
    rcases keyIs_shape hu with ⟨i, t, rfl, rfl⟩ | ⟨x, t, rfl, rfl⟩
    · rcases keyIs_shape hv with ⟨j, u, rfl, rfl⟩ | ⟨y, u, rfl, rfl⟩
      · rw [key_ll] at h; exact wpAny_eqBool_int h
      · rw [key_lr] at h; exact SeqAt.EqAt.int_str i t y u _ _ _ _ h
    · rcases keyIs_shape hv with ⟨j, u, rfl, rfl⟩ | ⟨y, u, rfl, rfl⟩
      · rw [key_rl] at h; exact SeqAt.EqAt.str_int x t j u _ _ _ _ h
      · rw [key_rr] at h; exact wpAny_eqBool_str h
  «strs» := fun k x t v h => by
    rcases keyIs_shape h with ⟨i, u, rfl, e⟩ | ⟨y, u, rfl, e⟩
    · exact nomatch e
    · injection e with e1 _
      subst e1
      cases v <;> rfl

theorem mixKind_is (prog : Program) (w : World) (k : Key) (v : Value) : (mixKind prog w).is k v = keyIs k v := rfl
theorem mixKind_int (prog : Program) (w : World) (i : Int) (t : Tok) : (mixKind prog w).is (.inl i) (.int i t) = true := keyIs_int i t
theorem mixKind_str (prog : Program) (w : World) (x : Str) (t : Tok) : (mixKind prog w).is (.inr x) (.str x t) = true := keyIs_str x t
end L2

namespace L2
open PySem PySem.Spec PyProof.Rows

/-- a value, without the heap -/
inductive V where
  | non | bl (b : Bool) | int (i : Int) | str (x : Str) | byt (b : Array UInt8) | flt (b : UInt64) | ref (a : Addr) | ty (n : String)
  deriving DecidableEq

def RelV : V → Value → Prop
  | .non, u => u = Value.none
  | .bl b, u => u = Value.bool b
  | .int i, u => ∃ t, u = Value.int i t
  | .str x, u => ∃ t, u = Value.str x t
  | .byt b, u => ∃ t, u = Value.bytes b t
  | .flt b, u => ∃ t, u = Value.float b t
  | .ref a, u => u = Value.ref a
  | .ty n, u => u = Value.type n

abbrev Vals : List V → List Value → Prop := Paired RelV
theorem Vals.length {xs : List V} {us : List Value} (r : Vals xs us) : xs.length = us.length := Paired.length r
theorem Vals.get : ∀ {xs : List V} {us : List Value} {i : Nat} {x : V}, Vals xs us → xs[i]? = some x → ∃ u, us[i]? = some u ∧ RelV x u
  | _, _, _, _, .nil, e => by simp at e
  | _, _, 0, _, .cons r _, e => by simp at e; subst e; exact ⟨_, rfl, r⟩
  | _, _, i + 1, x, .cons _ t, e => by
    obtain ⟨u, h1, h2⟩ := Vals.get (i := i) (x := x) t (by simpa using e)
    exact ⟨u, by simpa using h1, h2⟩
theorem Vals.set {x : V} {u : Value} (r : RelV x u) : ∀ {xs : List V} {us : List Value} (i : Nat), Vals xs us → Vals (xs.set i x) (us.set i u)
  | _, _, _, .nil => .nil
  | _, _, 0, .cons _ t => .cons r t
  | _, _, i + 1, .cons q t => .cons q (Vals.set r i t)
theorem Vals.append : ∀ {xs ys : List V} {us ws : List Value}, Vals xs us → Vals ys ws → Vals (xs ++ ys) (us ++ ws)
  | _, _, _, _, .nil, s => s
  | _, _, _, _, .cons r t, s => .cons r (Vals.append t s)
theorem Vals.take : ∀ {xs : List V} {us : List Value} (n : Nat), Vals xs us → Vals (xs.take n) (us.take n)
  | _, _, 0, _ => .nil
  | _, _, _ + 1, .nil => .nil
  | _, _, n + 1, .cons r t => .cons r (Vals.take n t)
theorem Vals.drop : ∀ {xs : List V} {us : List Value} (n : Nat), Vals xs us → Vals (xs.drop n) (us.drop n)
  | _, _, 0, r => r
  | _, _, _ + 1, .nil => .nil
  | _, _, n + 1, .cons _ t => Vals.drop n t
theorem Vals.none_of : ∀ {xs : List V} {us : List Value} {i : Nat}, Vals xs us → xs[i]? = none → us[i]? = none := fun {xs us i} r e => by
  have h1 := r.length
  have h2 : xs.length ≤ i := List.getElem?_eq_none_iff.mp e
  exact List.getElem?_eq_none_iff.mpr (by omega)

def RelO : Option V → Option Value → Prop
  | some v, some u => RelV v u
  | none, none => True
  | _, _ => False
def KV {κ : Type} : List (κ × V) → List (κ × Value) → Prop := Paired fun (p : κ × V) (q : κ × Value) => p.1 = q.1 ∧ RelV p.2 q.2

/-- a key of a dict (00_mix): an int or a text -/
def kV : Key → V
  | .inl i => .int i
  | .inr x => .str x

/-- what stands at a tracked address -/
inductive HO where
  /-- a list -/
  | lst (xs : List V)
  /-- a tuple (never changes) -/
  | tup (xs : List V)
  /-- a dict whose keys are ints and texts; one whose keys are tuples of ints and texts (the empty one is both) -/
  | dK (kvs : List (Key × V)) | dT (kvs : List (List Key × V))
  /-- a set of ints: its members, its size -/
  | set (S : Int → Bool) (n : Nat)
  /-- an instance of the class at C, its dict at dx, its attributes -/
  | ins (C dx : Addr) (fs : List (Str × V))
  /-- the dict of the instance at x -/
  | own (x : Addr)
  /-- the dict of an exception -/
  | xd (fs : List (Str × V))
  /-- a bound method, f of x -/
  | met (f x : Addr)
  /-- a range object lo, lo + 1, .. below hi -/
  | rng (lo hi : Int)
  /-- a thing that is known to the object (the script; a dict while a loop walks it): read, never written while it is so -/
  | frz (o : Obj) (u : HO)
  /-- a code object's table -/
  | tbl (ps : Array Value)
  /-- any other thing, by what is true of its one object (a def of one's own: SetO a S n := HO.ext fun h => ..) -/
  | ext (φ : Heap → Prop)

abbrev Hp := Addr → Option HO
def upd (H : Hp) (a : Addr) (o : HO) : Hp := fun b => if b = a then some o else H b
theorem upd_same {H : Hp} {a : Addr} {o : HO} : upd H a o a = some o := by unfold upd; rw [if_pos rfl]
theorem upd_ne {H : Hp} {a b : Addr} {o : HO} (h : b ≠ a) : upd H a o b = H b := by unfold upd; rw [if_neg h]
theorem upd_upd {H : Hp} {a : Addr} {o u : HO} : upd (upd H a o) a u = upd H a u := by
  funext b; unfold upd; split <;> rfl
/-- two objects of different content stand apart -/
theorem ne_of {H : Hp} {a b : Addr} {o u : HO} (h : H a = some o) (h' : H b = some u) (d : o ≠ u) : a ≠ b := by
  intro e; subst e; rw [h] at h'; exact d (Option.some.inj h')
theorem ne_of_none {H : Hp} {a b : Addr} {o : HO} (h : H a = some o) (h' : H b = none) : a ≠ b := by
  intro e; subst e; rw [h] at h'; cases h'

section
variable (P : Program) (w : World)
def ObjOk (H : Hp) (h : Heap) (a : Addr) : HO → Prop
  | .lst xs => xs.length ≤ sizeLine ∧ ∃ (its : List Value) (n : Nat), Vals xs its ∧ h.get? a = some { cls := .type "list", data := .seq its.toArray n }
  | .tup xs => xs.length ≤ sizeLine ∧ ∃ its : List Value, Vals xs its ∧ IsTup h a its.toArray
  | .dK kvs => kvs.length ≤ sizeLine ∧ (a == sysModules) = false ∧ ∃ vs, KV kvs vs ∧ h.DictOf (mixKind P w) a vs
  | .dT kvs => kvs.length ≤ sizeLine ∧ (a == sysModules) = false ∧ ∃ xs : List (List Key × Addr × Value),
      Paired (fun (p : List Key × V) (q : List Key × Addr × Value) => p.1 = q.1 ∧ H q.2.1 = some (.tup (p.1.map kV)) ∧ RelV p.2 q.2.2) kvs xs ∧
      ∃ o es ep, h.get? a = some o ∧ o.ExactDict ∧ o.data = .dict es ep ∧ es.toList = xs.map (entryOfKey (tupleKind (mixKind P w))) ∧ (xs.map (·.1)).Nodup
  | .set S n => h.SetOf (intKind P w) a S n
  | .ins C dx fs => H dx = some (.own a) ∧ fs.length ≤ 1000 ∧ dx ≠ a ∧ h.get? a = some (PySem.W.instObj C dx) ∧
      ∃ mA, h.Ns1 dx mA ∧ (∀ f, RelO (fs.lookup f) (mA f)) ∧ PySem.Within mA (fs.map (·.1))
  | .own _ => ∃ o, h.get? a = some o
  | .xd fs => ∃ mA, h.Ns1 a mA ∧ ∀ f, RelO (fs.lookup f) (mA f)
  | .rng lo hi => ∃ t u v, h.get? a = some { cls := .type "range", data := .fields #[.int lo t, .int hi u, .int 1 v] }
  | .frz o u => h.get? a = some o ∧ ObjOk H h a u
  | .tbl ps => h.get? a = some { cls := .none, data := .fields ps }
  | .met f x => h.get? a = some (PySem.W.methodObj (.ref f) (.ref x))
  | .ext φ => φ h ∧ (∃ o, h.get? a = some o) ∧ ∀ h1 h2 : Heap, φ h1 → (∀ o, h1.get? a = some o → h2.get? a = some o) → φ h2
/-- the abstract heap is held -/
def HOk (H : Hp) (h : Heap) : Prop := ∀ a o, H a = some o → ObjOk P w H h a o
end

section
variable {P : Program} {w : World} {H H' : Hp} {h h' : Heap} {a : Addr} {o : HO}
theorem ObjOk.lt (x : ObjOk P w H h a o) : a < h.objs.size := by
  cases o with
  | lst xs => obtain ⟨_, _, _, _, e⟩ := x; exact Heap.lt_size e
  | tup xs => obtain ⟨_, _, _, p⟩ := x; exact p.lt
  | dK kvs => obtain ⟨_, _, _, _, o, _, _, e, _⟩ := x; exact Heap.lt_size e
  | dT kvs => obtain ⟨_, _, _, _, o, _, _, e, _⟩ := x; exact Heap.lt_size e
  | set S n => obtain ⟨o, _, _, _, e, _⟩ := x; exact Heap.lt_size e
  | ins C dx fs => obtain ⟨_, _, _, e, _⟩ := x; exact Heap.lt_size e
  | own y => obtain ⟨_, e⟩ := x; exact Heap.lt_size e
  | xd fs => obtain ⟨_, ⟨_, _, _, e, _⟩, _⟩ := x; exact Heap.lt_size e
  | rng lo hi => obtain ⟨_, _, _, e⟩ := x; exact Heap.lt_size e
  | frz ob u => obtain ⟨e, _⟩ := x; exact Heap.lt_size e
  | tbl ps => exact Heap.lt_size (show h.get? a = some _ from x)
  | met f y => exact Heap.lt_size (show h.get? a = some _ from x)
  | ext φ => obtain ⟨_, ⟨_, e⟩, _⟩ := x; exact Heap.lt_size e
theorem Paired.mapP {α β : Type} {F G : α → β → Prop} : ∀ {l₁ : List α} {l₂ : List β}, Paired F l₁ l₂ → (∀ a b, F a b → G a b) → Paired G l₁ l₂
  | _, _, .nil, _ => .nil
  | _, _, .cons r t, f => .cons (f _ _ r) (Paired.mapP t f)
/-- what an object's description leans on: its own object, its own dict, the tuples -/
theorem ObjOk.stay (x : ObjOk P w H h a o) (k : ∀ b u, (b = a ∨ H b = some (.own a)) → h.get? b = some u → h'.get? b = some u)
    (ho : ∀ b, H b = some (.own a) → H' b = some (.own a)) (ht : ∀ b xs, H b = some (.tup xs) → H' b = some (.tup xs)) : ObjOk P w H' h' a o := by
  induction o with
  | lst xs => obtain ⟨z, its, n, r, e⟩ := x; exact ⟨z, its, n, r, k _ _ (.inl rfl) e⟩
  | tup xs => obtain ⟨z, its, r, ob, e, c⟩ := x; exact ⟨z, its, r, ob, k _ _ (.inl rfl) e, c⟩
  | dK kvs => obtain ⟨z, y, vs, r, ob, es, ep, e, c⟩ := x; exact ⟨z, y, vs, r, ob, es, ep, k _ _ (.inl rfl) e, c⟩
  | dT kvs =>
    obtain ⟨z, y, xs, r, ob, es, ep, e, c⟩ := x
    exact ⟨z, y, xs, Paired.mapP r fun p q z => ⟨z.1, ht _ _ z.2.1, z.2.2⟩, ob, es, ep, k _ _ (.inl rfl) e, c⟩
  | set S n => obtain ⟨ob, es, ep, t, e, c⟩ := x; exact ⟨ob, es, ep, t, k _ _ (.inl rfl) e, c⟩
  | ins C dx fs =>
    obtain ⟨d, z, ne, e, mA, ⟨od, es, ep, e2, c⟩, r⟩ := x
    exact ⟨ho _ d, z, ne, k _ _ (.inl rfl) e, mA, ⟨od, es, ep, k _ _ (.inr d) e2, c⟩, r⟩
  | own y => obtain ⟨ob, e⟩ := x; exact ⟨ob, k _ _ (.inl rfl) e⟩
  | xd fs => obtain ⟨mA, ⟨od, es, ep, e, c⟩, r⟩ := x; exact ⟨mA, ⟨od, es, ep, k _ _ (.inl rfl) e, c⟩, r⟩
  | rng lo hi => obtain ⟨t, u, v, e⟩ := x; exact ⟨t, u, v, k _ _ (.inl rfl) e⟩
  | frz ob u ih => obtain ⟨e, q⟩ := x; exact ⟨k _ _ (.inl rfl) e, ih q⟩
  | tbl ps =>
    have e : h.get? a = some { cls := .none, data := .fields ps } := x
    show h'.get? a = some { cls := .none, data := .fields ps }
    exact k a _ (.inl rfl) e
  | met f y =>
    have e : h.get? a = some (PySem.W.methodObj (.ref f) (.ref y)) := x
    show h'.get? a = some (PySem.W.methodObj (.ref f) (.ref y))
    exact k a _ (.inl rfl) e
  | ext φ => obtain ⟨p, ⟨o, e⟩, st⟩ := x; exact ⟨st _ _ p fun o q => k _ _ (.inl rfl) q, ⟨o, k _ _ (.inl rfl) e⟩, st⟩
theorem HOk.lt (x : HOk P w H h) (e : H a = some o) : a < h.objs.size := (x a o e).lt
theorem HOk.fresh (x : HOk P w H h) (e : h.objs.size ≤ a) : H a = none := by
  cases q : H a with
  | none => rfl
  | some u => exact absurd (Nat.lt_of_lt_of_le (x.lt q) e) (Nat.lt_irrefl _)
/-- every object of the heap is kept -/
theorem HOk.kept (x : HOk P w H h) (k : ∀ b u, h.get? b = some u → h'.get? b = some u) : HOk P w H h' := fun a o e =>
  (x a o e).stay (fun b u _ q => k b u q) (fun _ q => q) fun _ _ q => q
/-- a new object is laid and tracked -/
theorem HOk.laid (x : HOk P w H h) (k : ∀ b u, h.get? b = some u → h'.get? b = some u) (hp : h.objs.size ≤ a) (new : ObjOk P w (upd H a o) h' a o) : HOk P w (upd H a o) h' := fun b u e => by
  have hn := x.fresh hp
  by_cases hb : b = a
  · subst hb; rw [upd_same] at e; cases e; exact new
  · rw [upd_ne hb] at e
    exact (x b u e).stay (fun c v _ q => k c v q) (fun c q => by rw [upd_ne (ne_of_none q hn)]; exact q) fun c xs q => by rw [upd_ne (ne_of_none q hn)]; exact q
end

/-- what may be read as u: it is u, or a known u -/
def Rd (H : Hp) (a : Addr) (u : HO) : Prop := H a = some u ∨ ∃ o, H a = some (.frz o u)
theorem Rd.of {H : Hp} {a : Addr} {u : HO} (h : H a = some u) : Rd H a u := .inl h
theorem Rd.ok {P : Program} {w : World} {H : Hp} {h : Heap} {a : Addr} {u : HO} (r : Rd H a u) (x : HOk P w H h) : ObjOk P w H h a u := by
  rcases r with r | ⟨o, r⟩
  · exact x a u r
  · obtain ⟨_, q⟩ := x a _ r
    exact q
/-- what may be written -/
def Mut : Option HO → Prop
  | some (.lst _) => True
  | some (.dK _) => True
  | some (.dT _) => True
  | some (.set _ _) => True
  | some (.ins _ _ _) => True
  | some (.ext _) => True
  | _ => False
section
variable {P : Program} {w : World} {H : Hp} {h h' : Heap} {x e : Addr} {o' : HO}
/-- the object at e is changed: x itself, or the dict of the instance x -/
theorem HOk.write (ok : HOk P w H h) (mu : Mut (H x)) (he : e = x ∨ H e = some (.own x)) (k : ∀ b u, b ≠ e → h.get? b = some u → h'.get? b = some u) (heo : ∃ u, h'.get? e = some u)
    (new : ObjOk P w (upd H x o') h' x o') : HOk P w (upd H x o') h' := fun b u q => by
  have nown : ∀ c y, H c = some (.own y) → c ≠ x := fun c y r z => by subst z; rw [r] at mu; exact mu
  have ntup : ∀ c xs, H c = some (.tup xs) → c ≠ x := fun c xs r z => by subst z; rw [r] at mu; exact mu
  by_cases hb : b = x
  · subst hb; rw [upd_same] at q; cases q; exact new
  · rw [upd_ne hb] at q
    by_cases hbe : b = e
    · have q' : H b = some (.own x) := by
        rcases he with z | z
        · exact absurd (hbe.trans z) hb
        · rw [hbe]; exact z
      rw [q] at q'; cases q'
      obtain ⟨v, hv⟩ := heo
      exact ⟨v, by rw [hbe]; exact hv⟩
    · refine (ok b u q).stay (fun c v hc r => k c v ?_ r) (fun c r => by rw [upd_ne (nown c b r)]; exact r) fun c xs r => by rw [upd_ne (ntup c xs r)]; exact r
      rcases hc with rfl | hc
      · exact hbe
      · rintro rfl
        rcases he with z | z
        · exact nown c b hc z
        · rw [hc] at z; cases z; exact hb rfl
end

/-! ### kept unless tracked; of the frames at fs (the callers') the slots may change (an exception that passes writes there); of the records at ex (iterators) nothing is said -/
structure Un (fs ex : List Addr) (H H' : Hp) (h h' : Heap) : Prop where
  keep : ∀ b o, h.get? b = some o → H b = none → b ∉ fs → b ∉ ex → h'.get? b = some o
  slot : ∀ b o, h.get? b = some o → H b = none → b ∈ fs → b ∉ ex → ∃ sl, h'.get? b = some { o with slots := sl }
  free : ∀ b o, h.get? b = some o → H b = none → b ∉ ex → H' b = none
  there : ∀ b o, h.get? b = some o → b ∉ ex → ∃ o', h'.get? b = some o'
  tups : ∀ b xs, H b = some (.tup xs) → H' b = some (.tup xs)
  frzs : ∀ b o u, H b = some (.frz o u) → H' b = some (.frz o u)
  tbls : ∀ b ps, H b = some (.tbl ps) → ∃ more, H' b = some (.tbl (ps ++ more))
section
variable {fs fs' ex ex' : List Addr} {H H1 H2 : Hp} {h h1 h2 h' : Heap} {a x e : Addr} {o : HO}
theorem Un.any (u : Un fs ex H H1 h h1) {b : Addr} {ob : Obj} (q : h.get? b = some ob) (n : H b = none) (hx : b ∉ ex) : ∃ sl, h1.get? b = some { ob with slots := sl } := by
  by_cases hb : b ∈ fs
  · exact u.slot b ob q n hb hx
  · exact ⟨ob.slots, u.keep b ob q n hb hx⟩
theorem Un.trans (a : Un fs ex H H1 h h1) (b : Un fs ex H1 H2 h1 h2) : Un fs ex H H2 h h2 where
  keep := fun c ob q n hc hx => b.keep c ob (a.keep c ob q n hc hx) (a.free c ob q n hx) hc hx
  slot := fun c ob q n hc hx => by
    obtain ⟨sl, e1⟩ := a.slot c ob q n hc hx
    obtain ⟨sl', e2⟩ := b.slot c _ e1 (a.free c ob q n hx) hc hx
    exact ⟨sl', e2⟩
  free := fun c ob q n hx => by
    obtain ⟨o', e1⟩ := a.there c ob q hx
    exact b.free c o' e1 (a.free c ob q n hx) hx
  there := fun c ob q hx => by
    obtain ⟨o', e1⟩ := a.there c ob q hx
    exact b.there c o' e1 hx
  tups := fun c xs q => b.tups c xs (a.tups c xs q)
  frzs := fun c ob xs q => b.frzs c ob xs (a.frzs c ob xs q)
  tbls := fun c ps q => by
    obtain ⟨m1, e1⟩ := a.tbls c ps q
    obtain ⟨m2, e2⟩ := b.tbls c _ e1
    exact ⟨m1 ++ m2, by rw [e2, Array.append_assoc]⟩
theorem Un.kept (k : ∀ b u, h.get? b = some u → h'.get? b = some u) : Un fs ex H H h h' :=
  ⟨fun b ob q _ _ _ => k b ob q, fun b ob q _ _ _ => ⟨ob.slots, k b ob q⟩, fun _ _ _ n _ => n, fun b ob q _ => ⟨ob, k b ob q⟩, fun _ _ q => q, fun _ _ _ q => q, fun _ ps q => ⟨#[], by rw [q]; simp⟩⟩
theorem Un.refl : Un fs ex H H h h := Un.kept fun _ _ q => q
theorem Un.laid (k : ∀ b u, h.get? b = some u → h'.get? b = some u) (hp : h.objs.size ≤ a) (hn : H a = none) : Un fs ex H (upd H a o) h h' where
  keep := fun b u q _ _ _ => k b u q
  slot := fun b u q _ _ _ => ⟨u.slots, k b u q⟩
  free := fun b u q n _ => by rw [upd_ne (Nat.ne_of_lt (Nat.lt_of_lt_of_le (Heap.lt_size q) hp))]; exact n
  there := fun b u q _ => ⟨u, k b u q⟩
  tups := fun b xs q => by rw [upd_ne (ne_of_none q hn)]; exact q
  frzs := fun b u xs q => by rw [upd_ne (ne_of_none q hn)]; exact q
  tbls := fun b ps q => ⟨#[], by rw [upd_ne (ne_of_none q hn), q]; simp⟩
theorem Un.write (mu : Mut (H x)) (he : e = x ∨ H e = some (.own x)) (k : ∀ b u, b ≠ e → h.get? b = some u → h'.get? b = some u) (heo : ∃ u, h'.get? e = some u) : Un fs ex H (upd H x o) h h' := by
  have hx : ∀ b, H b = none → b ≠ x := fun b n z => by subst z; rw [n] at mu; exact mu
  have hb : ∀ b, H b = none → b ≠ e := fun b n z => by
    subst z
    rcases he with r | r
    · exact hx b n r
    · rw [n] at r; cases r
  have hm : ∀ b u, H b = some u → ¬ Mut (some u) → b ≠ x := fun b u q nm z => by subst z; rw [q] at mu; exact nm mu
  refine ⟨fun b u q n _ _ => k b u (hb b n) q, fun b u q n _ _ => ⟨u.slots, k b u (hb b n) q⟩, fun b u q n _ => by rw [upd_ne (hx b n)]; exact n, fun b u q _ => ?_,
    fun b xs q => by rw [upd_ne (hm b _ q fun z => z)]; exact q, fun b u xs q => by rw [upd_ne (hm b _ q fun z => z)]; exact q, fun b ps q => ⟨#[], by rw [upd_ne (hm b _ q fun z => z), q]; simp⟩⟩
  by_cases hbe : b = e
  · subst hbe; exact heo
  · exact ⟨u, k b u hbe q⟩
theorem Un.mono (u : Un fs ex H H1 h h1) (hs : ∀ b ∈ fs, b ∈ fs') (hx : ∀ b ∈ ex, b ∈ ex') : Un fs' ex' H H1 h h1 :=
  ⟨fun b ob q n hb he => u.keep b ob q n (fun z => hb (hs b z)) fun z => he (hx b z), fun _ _ q n _ he => u.any q n fun z => he (hx _ z), fun b ob q n he => u.free b ob q n fun z => he (hx b z), fun b ob q he => u.there b ob q fun z => he (hx b z), u.tups, u.frzs, u.tbls⟩
end

/-! ### the heap without what is tracked -/
def trk (h : Heap) (H : Hp) : List Addr := (List.range h.objs.size).filter fun a => (H a).isSome
def hidT (h : Heap) (H : Hp) : Heap := PySem.W.hideAll h (trk h H)
theorem hidT_size (h : Heap) (H : Hp) : (hidT h H).objs.size = h.objs.size := PySem.W.hideAll_size _ _
theorem hidT_get {h : Heap} {H : Hp} {b : Addr} {o : Obj} (e : h.get? b = some o) (n : H b = none) : (hidT h H).get? b = some o :=
  PySem.W.hideAll_get _ e fun hm => by
    have q : (H b).isSome = true := (List.mem_filter.mp hm).2
    rw [n] at q; simp at q
theorem of_hidT {h : Heap} {H : Hp} {b : Addr} {o : Obj} (e : (hidT h H).get? b = some o) : h.get? b = some o ∧ H b = none := by
  have e' : h.get? b = some o := PySem.W.of_hideAll (trk h H) e
  refine ⟨e', ?_⟩
  cases q : H b with
  | none => rfl
  | some x =>
    have hm : b ∈ trk h H := List.mem_filter.mpr ⟨List.mem_range.mpr (Heap.lt_size e'), by simp [q]⟩
    have z : (hidT h H).get? b = none := PySem.W.hideAll_none (trk h H) hm
    rw [z] at e; cases e

/-! ### OpenK's ledger, filled with every new object but one -/
def allNews (g h : Heap) (L : Addr) : List (Addr × Obj) := (List.range h.objs.size).filterMap fun a => if a = L ∨ (g.get? a).isSome = true then none else (h.get? a).map fun o => (a, o)
def rest (g h : Heap) (L d : Addr) : List (Addr × Obj) := (allNews g h L).filter fun p => decide (p.1 ≠ d)
end L2

namespace L2
open PySem PySem.Spec PyProof.Rows

/-- the module's facts, over the base: the heap at the law's entry without what is tracked there -/
structure Mod (K : PySem.W.Frag) (mg : Str → Option Value) (base : Heap) : Prop where
  kin : K.In base
  glob : base.Ns mainGlobals mg
  blt : ∃ mb, base.Ns builtinsNs mb ∧ ∀ x : Str, x ≠ "__name__" → mb x = bootBuiltins x
  nolimit : base.NoLimit

/-- the context: a def's body (or a comprehension's block) running. base: fixed through the whole law; s₀, H₀: the entry; outer: the frames whose slots others may change (a def's callers); stack: all frames that run;
   ex: iterators that were made ahead of the entry and are walked here (a comprehension's); fn: the names whose cells were made at the entry (a def: all; a comprehension's block: its own); calm: not within an except suite; pn: pins that every state bears; xe: what is wanted of an exception that leaves the code -/
structure Cx where
  prog : Program
  w : World
  K : PySem.W.Frag
  mg : Str → Option Value
  base : Heap
  A : Around
  N : List Str
  s₀ : Shared
  H₀ : Hp
  env : Env
  outer : List Env
  stack : List Env
  ex : List Addr
  fn : Str → Bool
  calm : Bool
  pn : List (Addr × Obj)
  xe : Value → Shared → Prop
/-- the callers' frames -/
def frs (l : List Env) : List Addr := l.filterMap (·.frame)
abbrev Cx.fs (X : Cx) : List Addr := frs X.outer

def Vis (sc : Scope) (x : Str) : Prop := sc.names.lookup x = some .local ∨ sc.names.lookup x = some .cell ∨ sc.names.lookup x = some .free
def Loc (sc : Scope) (x : Str) : Prop := sc.names.lookup x = some .local ∨ sc.names.lookup x = some .cell
def Look (env : Env) (h : Heap) (m : Str → Option Value) (x : Str) (u : Value) : Prop :=
  (env.kindOf x = some .local ∧ m x = some u) ∨ ((env.kindOf x = some .cell ∨ env.kindOf x = some .free) ∧ ∃ c, env.cells.lookup x = some c ∧ h.IsCell c (some u))

structure Cx.Ok (X : Cx) : Prop where
  mod : Mod X.K X.mg X.base
  kind : X.env.scope.kind = .function
  glob : X.env.globals = mainGlobals
  blt : X.env.builtins = builtinsNs
  above : X.s₀.heap.objs.size ≤ X.env.locals
  inj : ∀ x y c, X.env.cells.lookup x = some c → X.env.cells.lookup y = some c → x = y
  has : ∀ x, (X.env.kindOf x = some .cell ∨ X.env.kindOf x = some .free) → ∃ c, X.env.cells.lookup x = some c
  cab : ∀ x c, X.fn x = true → X.env.cells.lookup x = some c → X.s₀.heap.objs.size ≤ c
  hd : X.calm = true → X.A.handled = none
  frames : X.A.frames = some X.stack
  stk : X.stack = X.outer ∨ (X.stack = X.env :: X.outer ∧ X.env.frame = some X.env.locals)
  exf : ∀ b ∈ X.ex, b ≠ X.env.locals ∧ ∀ x c, X.env.cells.lookup x = some c → c ≠ b
  bs : ∀ b o, X.base.get? b = some o → X.s₀.heap.get? b = some o ∧ X.H₀ b = none
  bsz : X.base.objs.size ≤ X.s₀.heap.objs.size
  noex : ∀ b o, X.base.get? b = some o → b ∉ X.ex
  exfs : ∀ b ∈ X.ex, b ∉ X.fs
  funs : X.s₀.heap.FunFrames X.base X.outer
  frf : ∀ b ∈ X.fs, X.H₀ b = none

structure Inv (X : Cx) (pins : List (Addr × Obj)) (σ : List (Option V)) (H : Hp) (s : Shared) : Prop where
  ok : X.Ok
  os : s.os = X.s₀.os
  bare : AllBare s.gens
  base : Un X.fs X.ex X.H₀ H X.s₀.heap s.heap
  loc : ∃ m, s.heap.Ns X.env.locals m ∧ ∀ (i : Nat) (x : Str) (v : V), X.N[i]? = some x → σ[i]? = some (some v) → Vis X.env.scope x → ∃ u, RelV v u ∧ Look X.env s.heap m x u
  cell : ∀ x c, X.env.cells.lookup x = some c → ∃ v, s.heap.IsCell c v
  free : H X.env.locals = none
  freeC : ∀ x c, X.env.cells.lookup x = some c → H c = none
  pin : ∀ p ∈ X.pn ++ pins, s.heap.get? p.1 = some p.2 ∧ H p.1 = none ∧ p.1 ≠ X.env.locals ∧ p.1 ∉ X.fs ∧ ∀ v, p.2.data ≠ .cell v
  hok : HOk X.prog X.w H s.heap
  len : σ.length = X.N.length

section
variable {X : Cx} {pins : List (Addr × Obj)} {σ : List (Option V)} {H H' : Hp} {s : Shared} {h' : Heap}

theorem Cx.Ok.nofr (ok : X.Ok) {b : Addr} {o : Obj} (e : X.base.get? b = some o) : b ∉ X.fs := fun hb => by
  have := (ok.funs.mem hb).1
  rw [e] at this; cases this
theorem Inv.bs (I : Inv X pins σ H s) : ∀ b o, X.base.get? b = some o → s.heap.get? b = some o ∧ H b = none := fun b o e =>
  ⟨I.base.keep b o (I.ok.bs b o e).1 (I.ok.bs b o e).2 (I.ok.nofr e) (I.ok.noex b o e), I.base.free b o (I.ok.bs b o e).1 (I.ok.bs b o e).2 (I.ok.noex b o e)⟩
theorem Inv.bk (I : Inv X pins σ H s) : ∀ b o, X.base.get? b = some o → s.heap.get? b = some o := fun b o e => (I.bs b o e).1
theorem Inv.mod (I : Inv X pins σ H s) : Mod X.K X.mg X.base := I.ok.mod
theorem Inv.kIn (I : Inv X pins σ H s) : X.K.In s.heap := I.ok.mod.kin.keeps I.bk
theorem Inv.nolimit (I : Inv X pins σ H s) : s.heap.NoLimit := I.ok.mod.nolimit.keeps I.bk
/-- the frame over the base: for OpenK's rules (K.In X.base is I.mod.kin) -/
theorem Inv.fr (I : Inv X pins σ H s) : ∃ m, Fr X.base X.env.locals s.heap m :=
  let ⟨m, hn, _⟩ := I.loc
  ⟨m, hn, I.bk, Nat.le_trans I.ok.bsz I.ok.above⟩
theorem Inv.lt (I : Inv X pins σ H s) : X.env.locals < s.heap.objs.size := let ⟨_, hn, _⟩ := I.loc; hn.lt
theorem Inv.sz (I : Inv X pins σ H s) : X.s₀.heap.objs.size ≤ s.heap.objs.size := Nat.le_trans I.ok.above (Nat.le_of_lt I.lt)
theorem Inv.nofs (I : Inv X pins σ H s) {a : Addr} (h : s.heap.objs.size ≤ a) : a ∉ X.fs := fun hb => by
  obtain ⟨_, o, ho, _⟩ := I.ok.funs.mem hb
  exact absurd (Nat.lt_of_lt_of_le (Heap.lt_size ho) (Nat.le_trans I.sz h)) (Nat.lt_irrefl _)
theorem Inv.cne (I : Inv X pins σ H s) : ∀ x c, X.env.cells.lookup x = some c → c ≠ X.env.locals := fun x c e z => by
  obtain ⟨v, o, ho, hd⟩ := I.cell x c e
  obtain ⟨m, ⟨o', es, ep, ho', hd', _⟩, _⟩ := I.loc
  rw [z, ho'] at ho; cases ho; rw [hd'] at hd; cases hd
theorem Inv.funs (I : Inv X pins σ H s) : s.heap.FunFrames X.base X.outer := by
  have all : ∀ (l : List Env), (∀ b ∈ frs l, b ∈ X.fs) → X.s₀.heap.FunFrames X.base l → s.heap.FunFrames X.base l := by
    intro l
    induction l with
    | nil => intro _ _; trivial
    | cons env r ih =>
      intro hs hl
      obtain ⟨hk, ⟨L, o, hf, hn, ho, hd⟩, hr⟩ := hl
      have hL : L ∈ X.fs := hs L (by unfold frs; rw [List.filterMap_cons, hf]; exact List.mem_cons_self)
      obtain ⟨sl, e⟩ := I.base.slot L o ho (I.ok.frf L hL) hL fun z => I.ok.exfs L z hL
      exact ⟨hk, ⟨L, _, hf, hn, e, hd⟩, ih (fun b hb => hs b (by unfold frs; rw [List.filterMap_cons, hf]; exact List.mem_cons_of_mem _ hb)) hr⟩
  exact all X.outer (fun _ hb => hb) I.ok.funs

/-- the frames that run, for a call -/
theorem Inv.stack (I : Inv X pins σ H s) : s.heap.FunFrames X.base X.stack := by
  rcases I.ok.stk with e | ⟨e, hf⟩
  · rw [e]; exact I.funs
  · rw [e]
    obtain ⟨m, hn, _⟩ := I.loc
    refine .cons (by rw [I.ok.kind]; decide) hf hn ?_ I.funs
    exact Heap.get?_none_of_le (Nat.le_trans I.ok.bsz I.ok.above)
theorem Inv.stkSub (I : Inv X pins σ H s) : ∀ b ∈ frs X.stack, b ∈ X.env.locals :: X.fs := fun b hb => by
  rcases I.ok.stk with e | ⟨e, hf⟩
  · rw [e] at hb; exact List.mem_cons_of_mem _ hb
  · rw [e] at hb
    unfold frs at hb
    rw [List.filterMap_cons, hf] at hb
    exact hb
theorem Inv.stkFree (I : Inv X pins σ H s) : ∀ b ∈ frs X.stack, H b = none := fun b hb => by
  rcases List.mem_cons.mp (I.stkSub b hb) with e | hb
  · rw [e]; exact I.free
  · obtain ⟨_, o, ho, _⟩ := I.ok.funs.mem hb
    exact I.base.free b o ho (I.ok.frf b hb) fun z => I.ok.exfs b z hb

/-- THE STEP: the untracked objects but the frame and the records at ch are kept (the callers' frames up to slots), the frame's map is kept, the new abstract heap is held -/
theorem Inv.step {g' : Array GenState} {t' : Nat} {d' : Drawn} {ch : List Addr} (I : Inv X pins σ H s)
    (hch : ∀ b ∈ ch, (b ∈ X.ex ∨ X.s₀.heap.objs.size ≤ b) ∧ b ≠ X.env.locals ∧ (∀ x c, X.env.cells.lookup x = some c → c ≠ b) ∧ ∀ p ∈ X.pn ++ pins, p.1 ≠ b)
    (keep : ∀ b o, b ≠ X.env.locals → b ∉ X.fs → b ∉ ch → s.heap.get? b = some o → H b = none → h'.get? b = some o)
    (slot : ∀ b o, b ≠ X.env.locals → b ∈ X.fs → b ∉ ch → s.heap.get? b = some o → H b = none → ∃ sl, h'.get? b = some { o with slots := sl }) (free : ∀ b o, b ∉ ch → s.heap.get? b = some o → H b = none → H' b = none)
    (there : ∀ b o, b ∉ ch → s.heap.get? b = some o → ∃ o', h'.get? b = some o')
    (tups : ∀ b xs, H b = some (.tup xs) → H' b = some (.tup xs)) (frzs : ∀ b o u, H b = some (.frz o u) → H' b = some (.frz o u)) (tbls : ∀ b ps, H b = some (.tbl ps) → ∃ more, H' b = some (.tbl (ps ++ more)))
    (ns : ∀ m, s.heap.Ns X.env.locals m → h'.Ns X.env.locals m) (hok : HOk X.prog X.w H' h') (hg : AllBare g') :
    Inv X pins σ H' { s with heap := h', gens := g', drawn := d', toks := t' } := by
  have neL : ∀ b o, X.s₀.heap.get? b = some o → b ≠ X.env.locals := fun b o e => Nat.ne_of_lt (Nat.lt_of_lt_of_le (Heap.lt_size e) I.ok.above)
  have neC : ∀ b o, X.s₀.heap.get? b = some o → b ∉ X.ex → b ∉ ch := fun b o e hx hb => by
    rcases (hch b hb).1 with z | z
    · exact hx z
    · exact absurd (Nat.lt_of_lt_of_le (Heap.lt_size e) z) (Nat.lt_irrefl _)
  have cellK : ∀ x c, X.env.cells.lookup x = some c → ∀ v, s.heap.IsCell c v → h'.IsCell c v := fun x c e v ⟨o, ho, hd⟩ => by
    have nch : c ∉ ch := fun z => (hch c z).2.2.1 x c e rfl
    by_cases hc : c ∈ X.fs
    · obtain ⟨sl, q⟩ := slot c o (I.cne x c e) hc nch ho (I.freeC x c e)
      exact ⟨_, q, hd⟩
    · exact ⟨o, keep c o (I.cne x c e) hc nch ho (I.freeC x c e), hd⟩
  refine ⟨I.ok, I.os, hg, ⟨fun b o e n hb hx => ?_, fun b o e n hb hx => ?_, fun b o e n hx => ?_, fun b o e hx => ?_, fun b xs e => tups b xs (I.base.tups b xs e), fun b o xs e => frzs b o xs (I.base.frzs b o xs e), fun b ps e => ?_⟩, ?_, fun x c e => ?_, ?_, fun x c e => ?_, fun p hp => ?_, hok, I.len⟩
  · exact keep b o (neL b o e) hb (neC b o e hx) (I.base.keep b o e n hb hx) (I.base.free b o e n hx)
  · obtain ⟨sl, e1⟩ := I.base.slot b o e n hb hx
    obtain ⟨sl', e2⟩ := slot b _ (neL b o e) hb (neC b o e hx) e1 (I.base.free b o e n hx)
    exact ⟨sl', e2⟩
  · obtain ⟨o', e1⟩ := I.base.there b o e hx
    exact free b o' (neC b o e hx) e1 (I.base.free b o e n hx)
  · obtain ⟨o', e1⟩ := I.base.there b o e hx
    exact there b o' (neC b o e hx) e1
  · obtain ⟨m1, e1⟩ := I.base.tbls b ps e
    obtain ⟨m2, e2⟩ := tbls b _ e1
    exact ⟨m1 ++ m2, by rw [e2, Array.append_assoc]⟩
  · obtain ⟨m, hn, hl⟩ := I.loc
    refine ⟨m, ns m hn, fun i x v e1 e2 e3 => ?_⟩
    obtain ⟨u, r, l⟩ := hl i x v e1 e2 e3
    refine ⟨u, r, ?_⟩
    rcases l with l | ⟨k, c, e, z⟩
    · exact .inl l
    · exact .inr ⟨k, c, e, cellK x c e _ z⟩
  · obtain ⟨v, z⟩ := I.cell x c e
    exact ⟨v, cellK x c e v z⟩
  · obtain ⟨m, ⟨o, _, _, ho, _⟩, _⟩ := I.loc
    exact free _ o (fun z => (hch _ z).2.1 rfl) ho I.free
  · obtain ⟨v, o, ho, hd⟩ := I.cell x c e
    exact free c o (fun z => (hch c z).2.2.1 x c e rfl) ho (I.freeC x c e)
  · obtain ⟨e, n, ne, nf, d⟩ := I.pin p hp
    have nch : p.1 ∉ ch := fun z => (hch p.1 z).2.2.2 p hp rfl
    exact ⟨keep p.1 p.2 ne nf nch e n, free p.1 p.2 nch e n, ne, nf, d⟩
/-- .. where the frame's own object is kept too -/
theorem Inv.un {t' : Nat} (I : Inv X pins σ H s) (u : Un X.fs [] H H' s.heap h') (hok : HOk X.prog X.w H' h') : Inv X pins σ H' { s with heap := h', toks := t' } := by
  obtain ⟨m, ⟨o, es, ep, ho, r⟩, _⟩ := id I.loc
  obtain ⟨sl, hL⟩ := u.any ho I.free (by simp)
  exact I.step (g' := s.gens) (d' := s.drawn) (ch := []) (fun _ z => nomatch z) (fun b o _ hb _ e n => u.keep b o e n hb (by simp)) (fun b o _ hb _ e n => u.slot b o e n hb (by simp)) (fun b o _ e n => u.free b o e n (by simp)) (fun b o _ e => u.there b o e (by simp)) u.tups u.frzs u.tbls (fun m' hm => by
    obtain ⟨o', es', ep', ho', r'⟩ := hm
    rw [ho] at ho'; cases ho'
    exact ⟨_, es', ep', hL, r'⟩) hok I.bare
/-- behind a call (or a comprehension's block): the slots of this frame may have changed too, the records at ch may have turned -/
theorem Inv.call {g' : Array GenState} {t' : Nat} {d' : Drawn} {ch : List Addr} (I : Inv X pins σ H s) (u : Un (frs X.stack) ch H H' s.heap h') (hok : HOk X.prog X.w H' h') (hg : AllBare g')
    (hch : ∀ b ∈ ch, (b ∈ X.ex ∨ X.s₀.heap.objs.size ≤ b) ∧ b ≠ X.env.locals ∧ (∀ x c, X.env.cells.lookup x = some c → c ≠ b) ∧ ∀ p ∈ X.pn ++ pins, p.1 ≠ b) :
    Inv X pins σ H' { s with heap := h', gens := g', drawn := d', toks := t' } := by
  obtain ⟨m, ⟨o, es, ep, ho, r⟩, _⟩ := id I.loc
  obtain ⟨sl, hL⟩ := u.any ho I.free fun z => (hch _ z).2.1 rfl
  exact I.step (ch := ch) hch (fun b o hL hb hc e n => u.keep b o e n (fun z => (List.mem_cons.mp (I.stkSub b z)).elim hL hb) hc) (fun b o _ _ hc e n => u.any e n hc) (fun b o hc e n => u.free b o e n hc) (fun b o hc e => u.there b o e hc) u.tups u.frzs u.tbls (fun m' hm => by
    obtain ⟨o', es', ep', ho', r'⟩ := hm
    rw [ho] at ho'; cases ho'
    exact ⟨_, es', ep', hL, r'⟩) hok hg
/-- an untracked record of ours (an iterator) has turned -/
theorem Inv.turned {t' : Nat} {it : Addr} (I : Inv X pins σ H s) (k : ∀ b o, b ≠ it → s.heap.get? b = some o → h'.get? b = some o) (hn : H it = none) (hL : it ≠ X.env.locals)
    (h1 : it ∈ X.ex ∨ X.s₀.heap.objs.size ≤ it) (h2 : ∀ x c, X.env.cells.lookup x = some c → c ≠ it) (h3 : ∀ p ∈ X.pn ++ pins, p.1 ≠ it) : Inv X pins σ H { s with heap := h', toks := t' } := by
  have nit : ∀ b u, H b = some u → b ≠ it := fun b u e z => by rw [z, hn] at e; cases e
  refine I.step (g' := s.gens) (d' := s.drawn) (ch := [it]) (fun b hb => ?_) (fun b o _ _ hc e _ => k b o (fun z => hc (by simp [z])) e) (fun b o _ _ hc e _ => ⟨o.slots, k b o (fun z => hc (by simp [z])) e⟩) (fun _ _ _ _ n => n)
    (fun b o hc e => ⟨o, k b o (fun z => hc (by simp [z])) e⟩) (fun _ _ e => e) (fun _ _ _ e => e) (fun b ps e => ⟨#[], by rw [e]; simp⟩) (fun m hm => ?_) (fun b u e => ?_) I.bare
  · have e : b = it := by simpa using hb
    subst e
    exact ⟨h1, hL, h2, h3⟩
  · obtain ⟨o, es, ep, ho, r⟩ := hm
    exact ⟨o, es, ep, k _ o (Ne.symm hL) ho, r⟩
  · refine (I.hok b u e).stay (fun c v hc q => k c v ?_ q) (fun _ q => q) fun _ _ q => q
    rcases hc with z | z
    · rw [z]; exact nit b u e
    · exact nit c _ z
theorem Inv.tok (I : Inv X pins σ H s) (t : Nat) : Inv X pins σ H { s with toks := t } := I.un (h' := s.heap) (t' := t) Un.refl I.hok
/-- all objects kept -/
theorem Inv.kept {t' : Nat} (I : Inv X pins σ H s) (k : ∀ b u, s.heap.get? b = some u → h'.get? b = some u) : Inv X pins σ H { s with heap := h', toks := t' } := I.un (Un.kept k) (I.hok.kept k)
/-- a new object laid and tracked -/
theorem Inv.laid {a : Addr} {o : HO} {t' : Nat} (I : Inv X pins σ H s) (k : ∀ b u, s.heap.get? b = some u → h'.get? b = some u) (hp : s.heap.objs.size ≤ a) (new : ObjOk X.prog X.w (upd H a o) h' a o) :
    Inv X pins σ (upd H a o) { s with heap := h', toks := t' } := I.un (Un.laid k hp (I.hok.fresh hp)) (I.hok.laid k hp new)
/-- an object written -/
theorem Inv.write {x e : Addr} {o : HO} {t' : Nat} (I : Inv X pins σ H s) (mu : Mut (H x)) (he : e = x ∨ H e = some (.own x)) (k : ∀ b u, b ≠ e → s.heap.get? b = some u → h'.get? b = some u) (heo : ∃ u, h'.get? e = some u)
    (new : ObjOk X.prog X.w (upd H x o) h' x o) : Inv X pins σ (upd H x o) { s with heap := h', toks := t' } := I.un (Un.write mu he k heo) (I.hok.write mu he k heo new)
theorem Inv.pins_of {pins' : List (Addr × Obj)} (I : Inv X pins σ H s) (h : ∀ p ∈ pins', s.heap.get? p.1 = some p.2 ∧ H p.1 = none ∧ p.1 ≠ X.env.locals ∧ p.1 ∉ X.fs ∧ ∀ v, p.2.data ≠ .cell v) : Inv X pins' σ H s :=
  ⟨I.ok, I.os, I.bare, I.base, I.loc, I.cell, I.free, I.freeC, fun p hp => (List.mem_append.mp hp).elim (fun z => I.pin p (List.mem_append_left _ z)) (h p), I.hok, I.len⟩

theorem nodup_ix {N : List Str} (hN : N.Nodup) {i j : Nat} {x : Str} (a : N[i]? = some x) (b : N[j]? = some x) : i = j := by
  obtain ⟨h1, e1⟩ := List.getElem?_eq_some_iff.mp a
  obtain ⟨h2, e2⟩ := List.getElem?_eq_some_iff.mp b
  exact (List.getElem_inj hN).mp (e1.trans e2.symm)

/-- a name is stored; what changed -/
theorem store_ok2 {M : Model} {A : Around} {E : Value → Shared → Prop} {i : Nat} {x : Str} {v : V} {u : Value} {Q : Unit → Shared → Prop} (I : Inv X pins σ H s) (hN : X.N.Nodup) (hi : X.N[i]? = some x) (hx : Loc X.env.scope x) (r : RelV v u)
    (h : ∀ s', Inv X pins (σ.set i (some v)) H s' → (∃ a, Heap.SameBut a s.heap s'.heap ∧ (a = X.env.locals ∨ X.env.cells.lookup x = some a)) → Q () s') (hf : X.fn x = true ∨ X.env.scope.names.lookup x = some .local := by first | exact .inl rfl | exact .inr rfl | assumption) : wpAny M A (storeName X.env x u) Q E s := by
  obtain ⟨m, hn, hl⟩ := id I.loc
  have hcls : (X.env.scope.kind == .class || (X.env.scope.kind == .module && X.env.locals != X.env.globals)) = false := by rw [I.ok.kind]; rfl
  have hiσ : i < σ.length := by rw [I.len]; exact (List.getElem?_eq_some_iff.mp hi).1
  have cne := I.cne
  have tracked : ∀ {a : Addr} {h' : Heap}, (∃ o, s.heap.get? a = some o ∧ H a = none) → Heap.SameBut a s.heap h' → HOk X.prog X.w H h' := fun {a h'} ha hs b ob e => by
    obtain ⟨_, _, hfree⟩ := ha
    refine (I.hok b ob e).stay (fun c w' hc q => (hs.2 c ?_).trans q) (fun _ q => q) fun _ _ q => q
    rintro rfl
    rcases hc with rfl | hc
    · rw [hfree] at e; cases e
    · rw [hfree] at hc; cases hc
  rcases hx with hk | hk
  · refine wpAny_storeName_local hk hn (fun h' hn' hs => ?_) hcls
    obtain ⟨oL, _, _, hoL, _⟩ := id hn
    refine h _ ⟨I.ok, I.os, I.bare, ⟨fun b o e n hb hx => ?_, fun b o e n hb hx => ?_, I.base.free, fun b o e hx => ?_, I.base.tups, I.base.frzs, I.base.tbls⟩, ⟨_, hn', fun j y v' e1 e2 e3 => ?_⟩, fun y c e => ?_, I.free, I.freeC, fun p hp => ?_, tracked ⟨oL, hoL, I.free⟩ hs, by simpa using I.len⟩ ⟨_, hs, .inl rfl⟩
    · exact (hs.2 b (Nat.ne_of_lt (Nat.lt_of_lt_of_le (Heap.lt_size e) I.ok.above))).trans (I.base.keep b o e n hb hx)
    · obtain ⟨sl, e1⟩ := I.base.slot b o e n hb hx
      exact ⟨sl, (hs.2 b (Nat.ne_of_lt (Nat.lt_of_lt_of_le (Heap.lt_size e) I.ok.above))).trans e1⟩
    · obtain ⟨o', e1⟩ := I.base.there b o e hx
      exact ⟨o', (hs.2 b (Nat.ne_of_lt (Nat.lt_of_lt_of_le (Heap.lt_size e) I.ok.above))).trans e1⟩
    · by_cases hj : j = i
      · subst hj
        rw [hi] at e1; cases e1
        rw [List.getElem?_set_self hiσ] at e2
        cases e2
        exact ⟨u, r, .inl ⟨hk, by simp⟩⟩
      · rw [List.getElem?_set_ne (Ne.symm hj)] at e2
        obtain ⟨u', r', q⟩ := hl j y v' e1 e2 e3
        refine ⟨u', r', ?_⟩
        rcases q with ⟨k, e⟩ | ⟨k, c, e, z⟩
        · refine .inl ⟨k, ?_⟩
          have : y ≠ x := fun e => hj (nodup_ix hN e1 (e ▸ hi))
          simp [this, e]
        · exact .inr ⟨k, c, e, z.sameBut hs (cne y c e)⟩
    · obtain ⟨w', z⟩ := I.cell y c e
      exact ⟨w', z.sameBut hs (cne y c e)⟩
    · obtain ⟨e, n, ne, nf, d⟩ := I.pin p hp
      exact ⟨(hs.2 p.1 ne).trans e, n, ne, nf, d⟩
  · have hfn : X.fn x = true := by
      rcases hf with z | z
      · exact z
      · rw [z] at hk; cases hk
    obtain ⟨c, hc⟩ := I.ok.has x (.inl hk)
    obtain ⟨w', z⟩ := I.cell x c hc
    refine wpAny_storeName_cell I.ok.kind hk hc z (fun h' hc' hs => ?_)
    obtain ⟨oc, hoc, hocd⟩ := id z
    refine h { s with heap := h' } ⟨I.ok, I.os, I.bare, ⟨fun b o e n hb hx => ?_, fun b o e n hb hx => ?_, I.base.free, fun b o e hx => ?_, I.base.tups, I.base.frzs, I.base.tbls⟩, ⟨m, hn.sameBut hs (Ne.symm (cne x c hc)), fun j y v' e1 e2 e3 => ?_⟩, fun y c' e => ?_, I.free, I.freeC, fun p hp => ?_, tracked ⟨oc, hoc, I.freeC x c hc⟩ hs, by simpa using I.len⟩ ⟨c, hs, .inr hc⟩
    · exact (hs.2 b (Nat.ne_of_lt (Nat.lt_of_lt_of_le (Heap.lt_size e) (I.ok.cab x c hfn hc)))).trans (I.base.keep b o e n hb hx)
    · obtain ⟨sl, e1⟩ := I.base.slot b o e n hb hx
      exact ⟨sl, (hs.2 b (Nat.ne_of_lt (Nat.lt_of_lt_of_le (Heap.lt_size e) (I.ok.cab x c hfn hc)))).trans e1⟩
    · obtain ⟨o', e1⟩ := I.base.there b o e hx
      exact ⟨o', (hs.2 b (Nat.ne_of_lt (Nat.lt_of_lt_of_le (Heap.lt_size e) (I.ok.cab x c hfn hc)))).trans e1⟩
    · by_cases hj : j = i
      · subst hj
        rw [hi] at e1; cases e1
        rw [List.getElem?_set_self hiσ] at e2
        cases e2
        exact ⟨u, r, .inr ⟨.inl hk, c, hc, hc'⟩⟩
      · rw [List.getElem?_set_ne (Ne.symm hj)] at e2
        obtain ⟨u', r', q⟩ := hl j y v' e1 e2 e3
        refine ⟨u', r', ?_⟩
        rcases q with q | ⟨k, c', e, z'⟩
        · exact .inl q
        · refine .inr ⟨k, c', e, z'.sameBut hs ?_⟩
          rintro rfl
          exact hj (nodup_ix hN e1 (I.ok.inj _ _ _ e hc ▸ hi))
    · by_cases hcc : c' = c
      · subst hcc; exact ⟨_, hc'⟩
      · obtain ⟨w2, z2⟩ := I.cell y c' e
        exact ⟨w2, z2.sameBut hs hcc⟩
    · obtain ⟨e, n, ne, nf, d⟩ := I.pin p hp
      refine ⟨(hs.2 p.1 ?_).trans e, n, ne, nf, d⟩
      intro q
      rw [q, hoc] at e
      have q' : oc = p.2 := Option.some.inj e
      exact d w' (by rw [← q']; exact hocd)
theorem store_ok {M : Model} {A : Around} {E : Value → Shared → Prop} {i : Nat} {x : Str} {v : V} {u : Value} {Q : Unit → Shared → Prop} (I : Inv X pins σ H s) (hN : X.N.Nodup) (hi : X.N[i]? = some x) (hx : Loc X.env.scope x) (r : RelV v u)
    (h : ∀ s', Inv X pins (σ.set i (some v)) H s' → Q () s') (hf : X.fn x = true ∨ X.env.scope.names.lookup x = some .local := by first | exact .inl rfl | exact .inr rfl | assumption) : wpAny M A (storeName X.env x u) Q E s :=
  store_ok2 I hN hi hx r (fun s' I' _ => h s' I') hf
/-- behind a call or a block, the state as it is -/
theorem Inv.call' {s' : Shared} {ch : List Addr} (I : Inv X pins σ H s) (ho : s'.os = s.os) (u : Un (frs X.stack) ch H H' s.heap s'.heap) (hok : HOk X.prog X.w H' s'.heap) (hg : AllBare s'.gens)
    (hch : ∀ b ∈ ch, (b ∈ X.ex ∨ X.s₀.heap.objs.size ≤ b) ∧ b ≠ X.env.locals ∧ (∀ x c, X.env.cells.lookup x = some c → c ≠ b) ∧ ∀ p ∈ X.pn ++ pins, p.1 ≠ b) : Inv X pins σ H' s' := by
  obtain ⟨h', g', d', t', o'⟩ := s'
  have e : o' = s.os := ho
  subst e
  exact I.call (g' := g') (t' := t') (d' := d') u hok hg hch
end

/-! ### the judgements -/
/-- an exception: its class, its own dict's address (where it has one), the abstract heap behind it -/
abbrev XK := Value → Option Addr → Hp → Prop
abbrev St := List (Option V)
abbrev VK := V → Hp → Prop
/-- an expression's reading; a test's; an argument list's -/
abbrev TE := St → Hp → VK → Prop
abbrev TT := St → Hp → (Bool → Hp → Prop) → Prop
abbrev TA := St → Hp → (List V → Hp → Prop) → Prop
/-- what is wanted behind a statement -/
structure Ends where
  nx : St → Hp → Prop
  rt : VK
  bk : St → Hp → Prop := fun _ _ => False
  ct : St → Hp → Prop := fun _ _ => False
abbrev TS := Ends → St → Hp → Prop

def EP (X : Cx) (pins : List (Addr × Obj)) (σ : St) (Q : VK) (u : Value) (s' : Shared) : Prop := ∃ v H', Inv X pins σ H' s' ∧ RelV v u ∧ Q v H'
def TP (X : Cx) (pins : List (Addr × Obj)) (σ : St) (Q : Bool → Hp → Prop) (b : Bool) (s' : Shared) : Prop := ∃ H', Inv X pins σ H' s' ∧ Q b H'
def AP (X : Cx) (pins : List (Addr × Obj)) (σ : St) (Q : List V → Hp → Prop) (us : List Value) (s' : Shared) : Prop := ∃ vs H', Inv X pins σ H' s' ∧ Vals vs us ∧ Q vs H'
def SP (X : Cx) (pins : List (Addr × Obj)) (D : Ends) (f : Flow) (s' : Shared) : Prop :=
  match f with
  | .next => ∃ σ' H', Inv X pins σ' H' s' ∧ D.nx σ' H'
  | .brk => ∃ σ' H', Inv X pins σ' H' s' ∧ D.bk σ' H'
  | .cont => ∃ σ' H', Inv X pins σ' H' s' ∧ D.ct σ' H'
  | .ret u => ∃ v σ' H', Inv X pins σ' H' s' ∧ RelV v u ∧ D.rt v H'

def PE (X : Cx) (e : Expr) (t : TE) : Prop :=
  ∀ (pins : List (Addr × Obj)) (s : Shared) (σ : St) (H : Hp) (Q : VK), Inv X pins σ H s → t σ H Q → wpAny (model X.prog X.w) X.A (eval e X.env) (EP X pins σ Q) X.xe s
def PT (X : Cx) (e : Expr) (t : TT) : Prop :=
  ∀ (pins : List (Addr × Obj)) (s : Shared) (σ : St) (H : Hp) (Q : Bool → Hp → Prop), Inv X pins σ H s → t σ H Q → wpAny (model X.prog X.w) X.A (isTrue e X.env (eval e X.env)) (TP X pins σ Q) X.xe s
/-- a test whatever its 'whole' is (and, or) -/
def PW (X : Cx) (e : Expr) (t : TT) : Prop :=
  ∀ (whole : Sem Value) (pins : List (Addr × Obj)) (s : Shared) (σ : St) (H : Hp) (Q : Bool → Hp → Prop), Inv X pins σ H s → t σ H Q → wpAny (model X.prog X.w) X.A (isTrue e X.env whole) (TP X pins σ Q) X.xe s
theorem PW.pt {X : Cx} {e : Expr} {t : TT} (h : PW X e t) : PT X e t := h _
/-- an argument list (no star), from the left -/
def PA (X : Cx) (es : List Expr) (t : TA) : Prop :=
  ∀ (pos : Pos) (pins : List (Addr × Obj)) (s : Shared) (σ : St) (H : Hp) (Q : List V → Hp → Prop), Inv X pins σ H s → t σ H Q → wpAny (model X.prog X.w) X.A (spliced (backTo pos (starEach es X.env))) (AP X pins σ Q) X.xe s
def PS (X : Cx) (st : Stmt) (t : TS) : Prop :=
  ∀ (pins : List (Addr × Obj)) (s : Shared) (σ : St) (H : Hp) (D : Ends), Inv X pins σ H s → t D σ H → wpAny (model X.prog X.w) X.A (exec st X.env) (SP X pins D) X.xe s
def PSs (X : Cx) (st : List Stmt) (t : TS) : Prop :=
  ∀ (pins : List (Addr × Obj)) (s : Shared) (σ : St) (H : Hp) (D : Ends), Inv X pins σ H s → t D σ H → wpAny (model X.prog X.w) X.A (execs st X.env) (SP X pins D) X.xe s
/-- weaken the end -/
theorem thn {α : Type} {t : Sem α} {Q Q' : α → Shared → Prop} {M : Model} {A : Around} {E : Value → Shared → Prop} {s : Shared} (h : wpAny M A t Q E s) (hQ : ∀ a s, Q a s → Q' a s) : wpAny M A t Q' E s := wpAny_mono h hQ fun _ _ x => x
end L2

namespace L2
open PySem PySem.Spec PyProof.Rows
section
variable {X : Cx}

/-! ### names and constants -/
def tVar (i : Nat) : TE := fun σ H Q => ∃ v, σ[i]? = some (some v) ∧ Q v H
def tC (v : V) : TE := fun _ H Q => Q v H
theorem pe_var {i : Nat} {x : Str} {pos : Pos} (hN : X.N[i]? = some x) (hv : Vis X.env.scope x) (hd : (x == ("__debug__" : Str)) = false := by decide) (hcd : (x == ("__classdict__" : Str)) = false := by decide) : PE X (.Name x pos) (tVar i) := by
  intro pins s σ H Q I h
  obtain ⟨v, e, h⟩ := h
  obtain ⟨m, hn, hl⟩ := I.loc
  obtain ⟨u, r, l⟩ := hl i x v hN e hv
  have fin : EP X pins σ Q u s := ⟨v, H, I, r, h⟩
  rcases l with ⟨hk, hm⟩ | ⟨hk, c, hc, hcell⟩
  · exact wpAny_Name (wpAny_loadName_local I.ok.kind hk hn hm fin) hd
  · rcases hk with hk | hk
    · exact wpAny_Name (wpAny_loadName_cell I.ok.kind hk hc hcell fin) hd
    · exact wpAny_Name (wpAny_loadName_free I.ok.kind hk hc hcell fin hcd) hd
theorem pe_int {i j pos} : PE X (.Constant (.int i) j pos) (tC (.int i)) := fun _ _ _ H _ I h => wpAny_Constant_int ⟨.int i, H, I.tok _, ⟨_, rfl⟩, h⟩
theorem pe_bl {b j pos} : PE X (.Constant (.bool b) j pos) (tC (.bl b)) := fun _ _ _ H _ I h => Constant_bool ⟨.bl b, H, I, rfl, h⟩
theorem pe_str {x j pos} : PE X (.Constant (.str x) j pos) (tC (.str x)) := fun _ _ _ H _ I h => Calls.Constant_str ⟨.str x, H, I.tok _, ⟨_, rfl⟩, h⟩

/-- a global name of the def -/
def Gl (X : Cx) (x : Str) : Prop := X.env.kindOf x = some .globalImplicit
theorem ld_glob {E : Value → Shared → Prop} {pins : List (Addr × Obj)} {s : Shared} {σ : St} {H : Hp} {x : Str} {u : Value} {pos : Pos} {Q : Value → Shared → Prop} (I : Inv X pins σ H s) (hg : Gl X x) (hm : X.mg x = some u) (h : Q u s)
    (hd : (x == ("__debug__" : Str)) = false := by decide) : wpAny (model X.prog X.w) X.A (eval (.Name x pos) X.env) Q E s :=
  Calls.Name_function_global I.ok.kind hg (Calls.loadGlobal_global (by rw [I.ok.glob]; exact I.mod.glob.keeps I.bk) hm h) hd
theorem ld_blt {E : Value → Shared → Prop} {pins : List (Addr × Obj)} {s : Shared} {σ : St} {H : Hp} {x : Str} {u : Value} {pos : Pos} {Q : Value → Shared → Prop} (I : Inv X pins σ H s) (hg : Gl X x) (hm : X.mg x = none) (hv : bootBuiltins x = some u) (h : Q u s)
    (hn : x ≠ "__name__" := by decide) (hd : (x == ("__debug__" : Str)) = false := by decide) : wpAny (model X.prog X.w) X.A (eval (.Name x pos) X.env) Q E s := by
  obtain ⟨mb, h1, h2⟩ := I.mod.blt
  exact Calls.Name_function_global I.ok.kind hg (Calls.loadGlobal_builtin (by rw [I.ok.glob]; exact I.mod.glob.keeps I.bk) hm (by rw [I.ok.blt]; exact h1.keeps I.bk) ((h2 x hn).trans hv) h) hd
/-- a module's constant, a class, a function, as a value -/
theorem pe_glob {x : Str} {v : V} {u : Value} {pos : Pos} (hg : Gl X x) (hm : X.mg x = some u) (r : RelV v u) (hd : (x == ("__debug__" : Str)) = false := by decide) : PE X (.Name x pos) (tC v) :=
  fun _ _ _ H _ I h => ld_glob I hg hm ⟨v, H, I, r, h⟩ hd
theorem pe_bltn {x : Str} {v : V} {u : Value} {pos : Pos} (hg : Gl X x) (hm : X.mg x = none) (hv : bootBuiltins x = some u) (r : RelV v u) (hn : x ≠ "__name__" := by decide) (hd : (x == ("__debug__" : Str)) = false := by decide) : PE X (.Name x pos) (tC v) :=
  fun _ _ _ H _ I h => ld_blt I hg hm hv ⟨v, H, I, r, h⟩ hn hd

/-! ### arithmetic -/
/-- two ints -/
def t2I (ta tb : TE) (k : Int → Int → Hp → Prop) : St → Hp → Prop := fun σ H => ta σ H fun x H1 => tb σ H1 fun y H2 => ∃ i j, x = .int i ∧ y = .int j ∧ k i j H2
def tAdd (ta tb : TE) : TE := fun σ H Q => t2I ta tb (fun i j H2 => Q (.int (i + j)) H2) σ H
def tSub (ta tb : TE) : TE := fun σ H Q => t2I ta tb (fun i j H2 => Q (.int (i - j)) H2) σ H
/-- the left factor below 2^64 -/
def tMul (ta tb : TE) : TE := fun σ H Q => t2I ta tb (fun i j H2 => (-(2 ^ 64) < i ∧ i < 2 ^ 64) ∧ Q (.int (i * j)) H2) σ H
variable {a b : Expr} {ta tb : TE} {pos : Pos}
/-! ### comparisons -/
def PC (X : Cx) (op : CmpOp) (a b : Expr) (t : TE) : Prop :=
  ∀ (pins : List (Addr × Obj)) (s : Shared) (σ : St) (H : Hp) (Q : VK), Inv X pins σ H s → t σ H Q →
    wpAny (model X.prog X.w) X.A (eval a X.env) (fun v s₁ => wpAny (model X.prog X.w) X.A (eval b X.env) (fun u s₂ => wpAny (model X.prog X.w) X.A (compareOp op v u) (EP X pins σ Q) X.xe s₂) X.xe s₁) X.xe s
theorem nobehind (b : Expr) {op : CmpOp} (h : op ≠ .In) (h2 : op ≠ .NotIn) : behindInMarks op b = false := by
  have e1 : (op == CmpOp.In) = false := by cases op <;> first | rfl | exact absurd rfl h
  have e2 : (op == CmpOp.NotIn) = false := by cases op <;> first | rfl | exact absurd rfl h2
  cases b <;> simp [behindInMarks, e1, e2]
def tCmp (p : Int → Int → Bool) (ta tb : TE) : TE := fun σ H Q => t2I ta tb (fun i j H2 => Q (.bl (p i j)) H2) σ H
abbrev tLt : TE → TE → TE := tCmp fun i j => decide (i < j)
abbrev tLe : TE → TE → TE := tCmp fun i j => decide (i ≤ j)
abbrev tGt : TE → TE → TE := tCmp fun i j => decide (j < i)
abbrev tGe : TE → TE → TE := tCmp fun i j => decide (j ≤ i)
abbrev tEqI : TE → TE → TE := tCmp fun i j => decide (i = j)
abbrev tNeI : TE → TE → TE := tCmp fun i j => !decide (i = j)
/-- is None -/
def tIsN (ta : TE) : TE := fun σ H Q => ta σ H fun x H1 => Q (.bl (decide (x = .non))) H1
def tNotN (ta : TE) : TE := fun σ H Q => ta σ H fun x H1 => Q (.bl (!decide (x = .non))) H1
theorem RelV.none_iff {x : V} {v : Value} (r : RelV x v) : (v == Value.none) = decide (x = .non) := by
  cases x with
  | non => cases r; rfl
  | bl _ => cases r; rfl
  | int _ => obtain ⟨t, rfl⟩ := r; rfl
  | str _ => obtain ⟨t, rfl⟩ := r; rfl
  | byt _ => obtain ⟨t, rfl⟩ := r; rfl
  | flt _ => obtain ⟨t, rfl⟩ := r; rfl
  | ref _ => cases r; rfl
  | ty _ => cases r; rfl
theorem pc_notN {j pos'} (ha : PE X a ta) : PC X .IsNot a (.Constant .none j pos') (tNotN ta) := by
  intro pins s σ H Q I h
  refine thn (ha pins s σ H _ I h) fun v s1 ⟨x, H1, I1, r1, q1⟩ => ?_
  exact Constant_none (isnot_none_gen ⟨.bl _, H1, I1, by rw [r1.none_iff]; rfl, q1⟩)
/-- a comparison as a value, as a test -/
def tB (t : TE) : TT := fun σ H Q => t σ H fun x H1 => ∃ c, x = .bl c ∧ Q c H1
theorem pt_cmp {op : CmpOp} {t : TE} (h : PC X op a b t) (h1 : behindInMarks op b = false := by first | exact nobehind _ (by decide) (by decide) | rfl) : PT X (.Compare a [op] [b] pos) (tB t) := by
  intro pins s σ H Q I hw
  refine wpAny_isTrue_Compare1 (thn (h pins s σ H _ I hw) fun v s1 h1 => thn h1 fun u s2 h2 => thn h2 fun c s3 ⟨x, H1, I1, r1, q1⟩ => ?_) h1
  obtain ⟨d, rfl, q⟩ := q1
  cases r1
  exact wpAny_truthy_bool ⟨H1, I1, q⟩
/-- an expression whose value is a bool, as a test -/
theorem pt_val {e : Expr} {t : TE} (h : PE X e t) (he : ∀ whole, isTrue e X.env whole = (do let v ← whole; standAt e.pos; holding [v] (truthy v)) := by intro _; rfl) : PT X e (tB t) := by
  intro pins s σ H Q I hw
  refine isTrue_plain (thn (h pins s σ H _ I hw) fun v s1 ⟨x, H1, I1, r1, q1⟩ => ?_) (he _)
  obtain ⟨d, rfl, q⟩ := q1
  cases r1
  exact wpAny_truthy_bool ⟨H1, I1, q⟩

/-! ### and, or, not -/
variable {tA tB' : TT} {rest : List Expr}
def tAnd (t u : TT) : TT := fun σ H Q => t σ H fun c H1 => if c = true then u σ H1 Q else Q false H1
def tOr (t u : TT) : TT := fun σ H Q => t σ H fun c H1 => if c = true then Q true H1 else u σ H1 Q
def tNot (t : TT) : TT := fun σ H Q => t σ H fun c H1 => Q (!c) H1
theorem pw_and1 (ha : PT X a tA) : PW X (.BoolOp .And [a] pos) tA := by
  intro wh pins s σ H Q I h
  refine isTrue_and (thn (ha pins s σ H Q I h) fun c s1 e => ?_)
  cases c with
  | true => exact isTrue_and_nil e
  | false => exact e
theorem pw_or1 (ha : PT X a tA) : PW X (.BoolOp .Or [a] pos) tA := by
  intro wh pins s σ H Q I h
  refine isTrue_or (thn (ha pins s σ H Q I h) fun c s1 e => ?_)
  cases c with
  | false => exact isTrue_or_nil e
  | true => exact e
theorem pw_and (ha : PT X a tA) (hb : PW X (.BoolOp .And (b :: rest) pos) tB') : PW X (.BoolOp .And (a :: b :: rest) pos) (tAnd tA tB') := by
  intro wh pins s σ H Q I h
  refine isTrue_and (thn (ha pins s σ H _ I h) fun c s1 ⟨H1, I1, q1⟩ => ?_)
  cases c with
  | true => exact hb wh pins s1 σ H1 Q I1 q1
  | false => exact ⟨H1, I1, q1⟩
theorem pw_or (ha : PT X a tA) (hb : PW X (.BoolOp .Or (b :: rest) pos) tB') : PW X (.BoolOp .Or (a :: b :: rest) pos) (tOr tA tB') := by
  intro wh pins s σ H Q I h
  refine isTrue_or (thn (ha pins s σ H _ I h) fun c s1 ⟨H1, I1, q1⟩ => ?_)
  cases c with
  | true => exact ⟨H1, I1, q1⟩
  | false => exact hb wh pins s1 σ H1 Q I1 q1
theorem pt_not (ha : PT X a tA) : PT X (.UnaryOp .Not a pos) (tNot tA) := by
  intro pins s σ H Q I h
  exact isTrue_not (ha pins s σ H (fun c H1 => Q (!c) H1) I h)
/-- .. as values (bools) -/
def tAndV (ta tb : TE) : TE := fun σ H Q => ta σ H fun x H1 => ∃ c, x = .bl c ∧ if c = true then tb σ H1 Q else Q (.bl false) H1
def tOrV (ta tb : TE) : TE := fun σ H Q => ta σ H fun x H1 => ∃ c, x = .bl c ∧ if c = true then Q (.bl true) H1 else tb σ H1 Q
def tNotV (ta : TE) : TE := fun σ H Q => ta σ H fun x H1 => ∃ c, x = .bl c ∧ Q (.bl (!c)) H1
theorem pe_one {op} {t : TE} (h : PE X a t) : PE X (.BoolOp op [a] pos) t := fun pins s σ H Q I hw => BoolOp_one (h pins s σ H Q I hw)
theorem pe_and (ha : PE X a ta) (hb : PE X (.BoolOp .And (b :: rest) pos) tb) : PE X (.BoolOp .And (a :: b :: rest) pos) (tAndV ta tb) := by
  intro pins s σ H Q I h
  refine BoolOp_and (thn (ha pins s σ H _ I h) fun v s1 ⟨x, H1, I1, r1, q1⟩ => ?_)
  obtain ⟨c, rfl, q1⟩ := q1
  cases r1
  refine wpAny_truthy_bool ?_
  cases c with
  | true => exact hb pins s1 σ H1 Q I1 q1
  | false => exact ⟨.bl false, H1, I1, rfl, q1⟩
theorem pe_not (ha : PE X a ta) : PE X (.UnaryOp .Not a pos) (tNotV ta) := by
  intro pins s σ H Q I h
  refine UnaryOp_ (thn (ha pins s σ H _ I h) fun v s1 ⟨x, H1, I1, r1, q1⟩ => ?_)
  obtain ⟨c, rfl, q1⟩ := q1
  cases r1
  exact not_of (wpAny_truthy_bool ⟨.bl (!c), H1, I1, rfl, q1⟩)
/-- a if t else b -/
def tIf (t : TT) (ta tb : TE) : TE := fun σ H Q => t σ H fun c H1 => if c = true then ta σ H1 Q else tb σ H1 Q
theorem pe_ifExp {c : Expr} (hc : PT X c tA) (ha : PE X a ta) (hb : PE X b tb) : PE X (.IfExp c a b pos) (tIf tA ta tb) := by
  intro pins s σ H Q I h
  refine wpAny_IfExp (thn (hc pins s σ H _ I h) fun d s1 ⟨H1, I1, q1⟩ => ?_)
  cases d with
  | true => exact ha pins s1 σ H1 Q I1 q1
  | false => exact hb pins s1 σ H1 Q I1 q1
end
end L2

namespace L2
open PySem PySem.Spec PyProof.Rows

/-! ### a list, a tuple that is read: tracked, frozen, or an object of the module -/
def SqL (K : PySem.W.Frag) (H : Hp) (a : Addr) (xs : List V) : Prop :=
  Rd H a (.lst xs) ∨
    ∃ (o : Obj) (its : Array Value) (n : Nat), K.lookup a = some o ∧ o.cls = .type "list" ∧ o.dict = none ∧ o.data = .seq its n ∧ its.size ≤ sizeLine ∧ Vals xs its.toList
def SqT (K : PySem.W.Frag) (H : Hp) (a : Addr) (xs : List V) : Prop :=
  Rd H a (.tup xs) ∨
    ∃ (o : Obj) (its : Array Value) (n : Nat), K.lookup a = some o ∧ o.cls = .type "tuple" ∧ o.data = .seq its n ∧ its.size ≤ sizeLine ∧ Vals xs its.toList
def absV : Value → Option V
  | .none => some .non
  | .bool b => some (.bl b)
  | .int i _ => some (.int i)
  | .str x _ => some (.str x)
  | .bytes b _ => some (.byt b)
  | .float b _ => some (.flt b)
  | .ref a => some (.ref a)
  | .type n => some (.ty n)
  | _ => none
theorem RelV.abs {x : V} {u : Value} (r : RelV x u) : absV u = some x := by
  cases x with
  | non => cases r; rfl
  | bl _ => cases r; rfl
  | int _ => obtain ⟨t, rfl⟩ := r; rfl
  | str _ => obtain ⟨t, rfl⟩ := r; rfl
  | byt _ => obtain ⟨t, rfl⟩ := r; rfl
  | flt _ => obtain ⟨t, rfl⟩ := r; rfl
  | ref _ => cases r; rfl
  | ty _ => cases r; rfl
theorem RelV.inj {x y : V} {u : Value} (r : RelV x u) (q : RelV y u) : x = y := Option.some.inj (r.abs.symm.trans q.abs)
theorem Vals.inj : ∀ {xs ys : List V} {us : List Value}, Vals xs us → Vals ys us → xs = ys
  | _, _, _, .nil, .nil => rfl
  | _, _, _, .cons r t, .cons r' t' => by rw [r.inj r', Vals.inj t t']
section
variable {X : Cx} {pins : List (Addr × Obj)} {σ : St} {H : Hp} {s : Shared} {a : Addr} {xs ys : List V}
theorem SqL.of {K : PySem.W.Frag} (h : H a = some (.lst xs)) : SqL K H a xs := .inl (.inl h)
theorem SqT.of {K : PySem.W.Frag} (h : H a = some (.tup xs)) : SqT K H a xs := .inl (.inl h)
theorem Inv.list (I : Inv X pins σ H s) (h : SqL X.K H a xs) : ∃ its : List Value, Vals xs its ∧ PlainL s.heap a its.toArray ∧ xs.length ≤ sizeLine := by
  rcases h with h | ⟨o, its, n, hk, hc, hd, hs, hz, r⟩
  · obtain ⟨z, its, n, r, e⟩ := h.ok I.hok
    exact ⟨its, r, ⟨_, n, e, rfl, rfl, rfl⟩, z⟩
  · refine ⟨its.toList, r, ⟨o, n, I.kIn a o hk, hc, hd, by simpa using hs⟩, ?_⟩
    have e := r.length
    simp only [Array.length_toList] at e
    omega
theorem Inv.tuple (I : Inv X pins σ H s) (h : SqT X.K H a xs) : ∃ its : List Value, Vals xs its ∧ IsTup s.heap a its.toArray ∧ xs.length ≤ sizeLine := by
  rcases h with h | ⟨o, its, n, hk, hc, hs, hz, r⟩
  · obtain ⟨z, its, r, p⟩ := h.ok I.hok
    exact ⟨its, r, p, z⟩
  · refine ⟨its.toList, r, ⟨o, I.kIn a o hk, hc, n, by simpa using hs⟩, ?_⟩
    have e := r.length
    simp only [Array.length_toList] at e
    omega
theorem Inv.list_inj (I : Inv X pins σ H s) (h : SqL X.K H a xs) (h' : SqL X.K H a ys) : xs = ys := by
  obtain ⟨its, r, ⟨o, n, e, _, _, d⟩, _⟩ := I.list h
  obtain ⟨its', r', ⟨o', n', e', _, _, d'⟩, _⟩ := I.list h'
  rw [e] at e'; cases e'
  rw [d] at d'
  injection d' with d1 _
  have : its = its' := by simpa using congrArg Array.toList d1
  subst this
  exact r.inj r'
end

/-! ### another wish about exceptions -/
abbrev Cx.wish (X : Cx) (E : Value → Shared → Prop) : Cx := { X with xe := E }
/-- no exception leaves -/
abbrev Cx.nox (X : Cx) : Cx := X.wish fun _ _ => False
theorem Cx.Ok.wish {X : Cx} (ok : X.Ok) (E : Value → Shared → Prop) : (X.wish E).Ok :=
  ⟨ok.mod, ok.kind, ok.glob, ok.blt, ok.above, ok.inj, ok.has, ok.cab, ok.hd, ok.frames, ok.stk, ok.exf, ok.bs, ok.bsz, ok.noex, ok.exfs, ok.funs, ok.frf⟩
theorem Cx.Ok.unwish {X : Cx} {E : Value → Shared → Prop} (ok : (X.wish E).Ok) : X.Ok :=
  ⟨ok.mod, ok.kind, ok.glob, ok.blt, ok.above, ok.inj, ok.has, ok.cab, ok.hd, ok.frames, ok.stk, ok.exf, ok.bs, ok.bsz, ok.noex, ok.exfs, ok.funs, ok.frf⟩
section
variable {X : Cx} {pins : List (Addr × Obj)} {σ : St} {H : Hp} {s : Shared} {E : Value → Shared → Prop}
theorem Inv.wish (I : Inv X pins σ H s) (E : Value → Shared → Prop) : Inv (X.wish E) pins σ H s := ⟨I.ok.wish E, I.os, I.bare, I.base, I.loc, I.cell, I.free, I.freeC, I.pin, I.hok, I.len⟩
theorem Inv.unwish (I : Inv (X.wish E) pins σ H s) : Inv X pins σ H s := ⟨I.ok.unwish, I.os, I.bare, I.base, I.loc, I.cell, I.free, I.freeC, I.pin, I.hok, I.len⟩
theorem SP.unwish {D : Ends} {f : Flow} {s' : Shared} (h : SP (X.wish E) pins D f s') : SP X pins D f s' := by
  cases f with
  | next => obtain ⟨σ', H', I, q⟩ := h; exact ⟨σ', H', I.unwish, q⟩
  | brk => obtain ⟨σ', H', I, q⟩ := h; exact ⟨σ', H', I.unwish, q⟩
  | cont => obtain ⟨σ', H', I, q⟩ := h; exact ⟨σ', H', I.unwish, q⟩
  | ret u => obtain ⟨v, σ', H', I, r, q⟩ := h; exact ⟨v, σ', H', I.unwish, r, q⟩
theorem PE.nox {e : Expr} {t : TE} (h : PE X.nox e t) : PE X e t := fun pins s σ H Q I hw =>
  wpAny_mono (h pins s σ H Q (I.wish _) hw) (fun _ _ ⟨v, H', I', r, q⟩ => ⟨v, H', I'.unwish, r, q⟩) fun _ _ z => False.elim z
theorem PT.nox {e : Expr} {t : TT} (h : PT X.nox e t) : PT X e t := fun pins s σ H Q I hw =>
  wpAny_mono (h pins s σ H Q (I.wish _) hw) (fun _ _ ⟨H', I', q⟩ => ⟨H', I'.unwish, q⟩) fun _ _ z => False.elim z
theorem PSs.nox {st : List Stmt} {t : TS} (h : PSs X.nox st t) : PSs X st t := fun pins s σ H D I hw =>
  wpAny_mono (h pins s σ H D (I.wish _) hw) (fun _ _ q => q.unwish) fun _ _ z => False.elim z
end

/-! ### blocks and small statements -/
section
variable {X : Cx} {st : Stmt} {rest : List Stmt} {t u : TS} {e : Expr} {te : TE} {pos : Pos}
def tNext : TS := fun D σ H => D.nx σ H
def tSeq (t u : TS) : TS := fun D σ H => t { D with nx := u D } σ H
theorem pss_nil : PSs X [] tNext := fun _ _ σ H _ I h => wpAny_execs_nil ⟨σ, H, I, h⟩
theorem pss_cons (h1 : PS X st t) (h2 : PSs X rest u) : PSs X (st :: rest) (tSeq t u) := by
  intro pins s σ H D I h
  refine wpAny_execs_cons (thn (h1 pins s σ H { D with nx := u D } I h) fun f s1 q => ?_)
  cases f with
  | next =>
    obtain ⟨σ', H', I', q⟩ := q
    exact h2 pins s1 σ' H' D I' q
  | ret v => exact q
  | brk => exact q
  | cont => exact q
theorem pss_one (h1 : PS X st t) : PSs X [st] t := by
  intro pins s σ H D I h
  refine wpAny_execs_cons (thn (h1 pins s σ H D I h) fun f s1 q => ?_)
  cases f with
  | next => exact wpAny_execs_nil q
  | ret v => exact q
  | brk => exact q
  | cont => exact q
def tBreak : TS := fun D σ H => D.bk σ H
def tCont : TS := fun D σ H => D.ct σ H
/-- in a def's body nothing is shown -/
theorem Inv.quiet {pins : List (Addr × Obj)} {σ : St} {H : Hp} {s : Shared} (I : Inv X pins σ H s) : interactive X.env = false := by simp [interactive, I.ok.kind]
/-- an expression whose value is dropped -/
def tDrop (te : TE) : TS := fun D σ H => te σ H fun _ H1 => D.nx σ H1
theorem ps_expr (he : PE X e te) (hs : swapsWith e none pos.line X.env = pure false := by rfl) : PS X (.Expr e pos) (tDrop te) := by
  intro pins s σ H D I h
  exact wpAny_Expr_any (thn (he pins s σ H _ I h) fun v s1 ⟨x, H1, I1, r1, q1⟩ => ⟨σ, H1, I1, q1⟩) I.quiet hs
def tRet (te : TE) : TS := fun D σ H => te σ H D.rt
theorem ps_ret (he : PE X e te) : PS X (.Return (some e) pos) (tRet te) := by
  intro pins s σ H D I h
  exact wpAny_Return_some (thn (he pins s σ H _ I h) fun v s1 ⟨x, H1, I1, r1, q1⟩ => ⟨x, σ, H1, I1, r1, q1⟩)
def tRetN : TS := fun D _ H => D.rt .non H
def tIfS (c : TT) (t u : TS) : TS := fun D σ H => c σ H fun b H1 => if b = true then t D σ H1 else u D σ H1
theorem ps_if {c : Expr} {a b : List Stmt} {tc : TT} (hc : PT X c tc) (ha : PSs X a t) (hb : PSs X b u) : PS X (.If c a b pos) (tIfS tc t u) := by
  intro pins s σ H D I h
  refine wpAny_If (thn (hc pins s σ H _ I h) fun d s1 ⟨H1, I1, q1⟩ => ?_)
  cases d with
  | true => exact ha pins s1 σ H1 D I1 q1
  | false => exact hb pins s1 σ H1 D I1 q1
/-- code that the proof never comes to -/
def tNever : TS := fun _ _ _ => False
theorem ps_never : PS X st tNever := fun _ _ _ _ _ _ h => h.elim
end

/-! ### targets -/
abbrev TG := V → St → Hp → (St → Hp → Prop) → Prop
abbrev TGs := List V → St → Hp → (St → Hp → Prop) → Prop
def PG (X : Cx) (target : Expr) (t : TG) : Prop :=
  ∀ (pins : List (Addr × Obj)) (s : Shared) (σ : St) (H : Hp) (v : V) (u : Value) (Q : St → Hp → Prop), Inv X pins σ H s → RelV v u → t v σ H Q →
    wpAny (model X.prog X.w) X.A (assign target X.env u) (fun _ s' => ∃ σ' H', Inv X pins σ' H' s' ∧ Q σ' H') X.xe s
/-- several targets, one after another -/
def PGs (X : Cx) (ts : List Expr) (t : TGs) : Prop :=
  ∀ (pins : List (Addr × Obj)) (s : Shared) (σ : St) (H : Hp) (vs : List V) (us : List Value) (Q : St → Hp → Prop), Inv X pins σ H s → Vals vs us → t vs σ H Q →
    wpAny (model X.prog X.w) X.A (assignInOrder ((assignEach ts X.env).map (·.2)) us) (fun _ s' => ∃ σ' H', Inv X pins σ' H' s' ∧ Q σ' H') X.xe s
/-- o[i] = v, by values -/
abbrev TSet := V → V → V → Hp → (Hp → Prop) → Prop
def PSet (X : Cx) (t : TSet) : Prop :=
  ∀ (pins : List (Addr × Obj)) (s : Shared) (σ : St) (H : Hp) (o i v : V) (ov iv u : Value) (Q : Hp → Prop), Inv X pins σ H s → RelV o ov → RelV i iv → RelV v u → t o i v H Q →
    wpAny (model X.prog X.w) X.A (setItem ov iv u) (fun _ s' => ∃ H', Inv X pins σ H' s' ∧ Q H') X.xe s
/-- a op= b, by values -/
abbrev TIp := V → V → Hp → VK → Prop
def PIp (X : Cx) (op : Operator) (t : TIp) : Prop :=
  ∀ (pins : List (Addr × Obj)) (s : Shared) (σ : St) (H : Hp) (x y : V) (v u : Value) (Q : VK), Inv X pins σ H s → RelV x v → RelV y u → t x y H Q →
    wpAny (model X.prog X.w) X.A (inplaceOp op v u) (EP X pins σ Q) X.xe s
section
variable {X : Cx} {pos : Pos}
def gName (i : Nat) : TG := fun v σ H Q => Q (σ.set i (some v)) H
theorem pg_name {i : Nat} {x : Str} (hN : X.N.Nodup) (hi : X.N[i]? = some x) (hx : Loc X.env.scope x) (hf : X.fn x = true ∨ X.env.scope.names.lookup x = some .local := by first | exact .inl rfl | exact .inr rfl | assumption) : PG X (.Name x pos) (gName i) := by
  intro pins s σ H v u Q I r h
  exact wpAny_assign_Name (store_ok I hN hi hx r (fun s' I' => ⟨_, H, I', h⟩) hf)
def gNil : TGs := fun vs σ H Q => vs = [] ∧ Q σ H
def gCons (t : TG) (u : TGs) : TGs := fun vs σ H Q => ∃ v r, vs = v :: r ∧ t v σ H fun σ' H' => u r σ' H' Q
theorem pgs_nil : PGs X [] gNil := by
  intro pins s σ H vs us Q I r h
  obtain ⟨e, h⟩ := h
  subst e
  cases r
  exact assignInOrder_nil ⟨σ, H, I, h⟩
theorem pgs_cons {e : Expr} {es : List Expr} {t : TG} {u : TGs} (h1 : PG X e t) (h2 : PGs X es u)
    (hs : (assignEach (e :: es) X.env).map (·.2) = assign e X.env :: (assignEach es X.env).map (·.2) := by rfl) : PGs X (e :: es) (gCons t u) := by
  intro pins s σ H vs us Q I r h
  obtain ⟨v, vr, e1, h⟩ := h
  subst e1
  cases r with
  | cons r rr =>
    rw [hs]
    refine assignInOrder_cons (thn (h1 pins s σ H _ _ _ I r h) fun _ s1 ⟨σ1, H1, I1, q1⟩ => ?_)
    exact h2 pins s1 σ1 H1 _ _ Q I1 rr q1
/-- (a, b, ..) = a tuple of that length -/
def gTup (K : PySem.W.Frag) (n : Nat) (t : TGs) : TG := fun v σ H Q => ∃ a xs, v = .ref a ∧ SqT K H a xs ∧ xs.length = n ∧ t xs σ H Q
theorem pg_tup {es : List Expr} {k : Nat} {t : TGs} {n : Nat} (hc : X.calm = true) (h : PGs X es t)
    (hn : (assignEach es X.env).length = n := by rfl) (hst : (assignEach es X.env).findIdx? (·.1) = none := by rfl) : PG X (.Tuple es k pos) (gTup X.K n t) := by
  intro pins s σ H v u Q I r hw
  obtain ⟨a, xs, e1, hq, hl, hw⟩ := hw
  subst e1
  cases r
  obtain ⟨its, rv, ht, hz⟩ := I.tuple hq
  refine assign_Tuple_tuple (I.ok.hd hc) ht (by simp [hn, ← hl, rv.length]) hst fun h' hx => ?_
  have I1 : Inv X pins σ H { s with heap := h' } := I.kept (t' := s.toks) fun b o e => hx b o (Nat.ne_of_lt (Heap.lt_size e)) e
  exact h pins _ σ H xs _ Q I1 (by simpa using rv) hw
/-- o[i] = .. -/
def gSub (to ti : TE) (t : TSet) : TG := fun v σ H Q => to σ H fun o H1 => ti σ H1 fun i H2 => t o i v H2 fun H3 => Q σ H3
/-- target = value -/
def tAsg (te : TE) (g : TG) : TS := fun D σ H => te σ H fun x H1 => g x σ H1 D.nx
/-- name = value -/
theorem ps_set {i : Nat} {x : Str} {e : Expr} {te : TE} {pos' : Pos} (hN : X.N.Nodup) (hi : X.N[i]? = some x) (hx : Loc X.env.scope x) (he : PE X e te) (hs : swapsWith e (some (.Name x pos')) pos.line X.env = pure false := by rfl) (hf : X.fn x = true ∨ X.env.scope.names.lookup x = some .local := by first | exact .inl rfl | exact .inr rfl | assumption) :
    PS X (.Assign [.Name x pos'] e pos) (tAsg te (gName i)) := by
  intro pins s σ H D I h
  refine wpAny_Assign_Name (thn (he pins s σ H _ I h) fun v s1 ⟨y, H1, I1, r1, q1⟩ => ?_) hs
  exact store_ok I1 hN hi hx r1 (fun s2 I2 => ⟨_, H1, I2, q1⟩) hf
/-- a, b = x, y with plain local names: stored from the right; the pair itself is not tracked (the opening rows as in PyProof/Rows/TupAssign.lean:23) -/
def tPar (i j : Nat) (ta : TA) : TS := fun D σ H => ta σ H fun vs H1 => ∃ v w, vs = [v, w] ∧ D.nx ((σ.set i (some v)).set j (some w)) H1
/-- name op= e -/
def tAug (i : Nat) (te : TE) (ti : TIp) : TS := fun D σ H => ∃ x, σ[i]? = some (some x) ∧ te σ H fun y H1 => ti x y H1 fun z H2 => D.nx (σ.set i (some z)) H2
theorem ps_aug {i : Nat} {x : Str} {e : Expr} {te : TE} {op : Operator} {ti : TIp} {pos' : Pos} (hN : X.N.Nodup) (hi : X.N[i]? = some x) (hx : Loc X.env.scope x) (he : PE X e te) (ho : PIp X op ti) (hf : X.fn x = true ∨ X.env.scope.names.lookup x = some .local := by first | exact .inl rfl | exact .inr rfl | assumption) :
    PS X (.AugAssign (.Name x pos') op e pos) (tAug i te ti) := by
  intro pins s σ H D I h
  obtain ⟨v, e1, h⟩ := h
  obtain ⟨m, hn, hl⟩ := I.loc
  have vis : Vis X.env.scope x := by rcases hx with k | k; exact .inl k; exact .inr (.inl k)
  obtain ⟨u, r, l⟩ := hl i x v hi e1 vis
  refine wpAny_AugAssign_Name ?_
  have go : wpAny (model X.prog X.w) X.A (eval e X.env) (fun w s₂ => wpAny (model X.prog X.w) X.A (inplaceOp op u w) (fun r s₃ => wpAny (model X.prog X.w) X.A (storeName X.env x r) (fun _ => SP X pins D .next) X.xe s₃) X.xe s₂) X.xe s := by
    refine thn (he pins s σ H _ I h) fun w s1 ⟨y, H1, I1, r1, q1⟩ => ?_
    refine thn (ho pins s1 σ H1 v y u w _ I1 r r1 q1) fun z s2 ⟨zv, H2, I2, r2, q2⟩ => ?_
    exact store_ok I2 hN hi hx r2 (fun s3 I3 => ⟨_, H2, I3, q2⟩) hf
  rcases l with ⟨hk, hm⟩ | ⟨hk, c, hc, hcell⟩
  · exact wpAny_loadName_local I.ok.kind hk hn hm go
  · rcases hk with hk | hk
    · exact wpAny_loadName_cell I.ok.kind hk hc hcell go
    · rcases hx with k | k
      · have : X.env.scope.names.lookup x = some .free := hk
        rw [k] at this; cases this
      · have : X.env.scope.names.lookup x = some .free := hk
        rw [k] at this; cases this
/-- o[i] op= e -/
def tAugS (to ti te : TE) (tget : V → V → Hp → VK → Prop) (tip : TIp) (tset : TSet) : TS := fun D σ H => to σ H fun o H1 => ti σ H1 fun i H2 => tget o i H2 fun x H3 => te σ H3 fun y H4 => tip x y H4 fun z H5 => tset o i z H5 fun H6 => D.nx σ H6
/-- o[i], by values -/
def PGet (X : Cx) (t : V → V → Hp → VK → Prop) : Prop :=
  ∀ (pins : List (Addr × Obj)) (s : Shared) (σ : St) (H : Hp) (o i : V) (ov iv : Value) (Q : VK), Inv X pins σ H s → RelV o ov → RelV i iv → t o i H Q →
    wpAny (model X.prog X.w) X.A (getItem ov iv) (EP X pins σ Q) X.xe s
/-- ints -/
def ipI (f : Int → Int → Int) : TIp := fun x y H Q => ∃ i j, x = .int i ∧ y = .int j ∧ Q (.int (f i j)) H
theorem ip_add : PIp X .Add (ipI fun i j => i + j) := by
  intro pins s σ H x y v u Q I r1 r2 h
  obtain ⟨i, j, e1, e2, q⟩ := h
  subst e1; subst e2
  obtain ⟨t, rfl⟩ := r1
  obtain ⟨t', rfl⟩ := r2
  exact iadd_int ⟨.int _, H, I.tok _, ⟨_, rfl⟩, q⟩
end

/-! ### while -/
section
variable {X : Cx} {pos : Pos}
/-- the invariant W with its measure -/
def tWhile (c : TT) (tb : TS) : TS := fun D σ H => ∃ W : Nat → St → Hp → Prop, (∃ m, W m σ H) ∧ ∀ m σ H, W m σ H →
  c σ H fun b H1 => if b = true then ∃ N : St → Hp → Prop, (∀ σ' H', N σ' H' → ∃ m', m' < m ∧ W m' σ' H') ∧ tb { D with nx := N, ct := N, bk := D.nx } σ H1 else D.nx σ H1
theorem ps_while {c : Expr} {body : List Stmt} {tc : TT} {tb : TS} (hp : PassesOwn (model X.prog X.w) X.A X.env X.xe) (hc : PT X c tc) (hb : PSs X body tb) : PS X (.While c body [] pos) (tWhile tc tb) := by
  intro pins s σ H D I h
  obtain ⟨W, ⟨m0, w0⟩, turn⟩ := h
  refine wpAny_While (codeAny_whileLoop (fun n s' => ∃ σ' H', Inv X pins σ' H' s' ∧ W n σ' H') ?_ m0 ⟨σ, H, I, w0⟩)
  rintro n s1 ⟨σ1, H1, I1, w1⟩
  refine wpAny_passesOwn hp (thn (hc pins s1 σ1 H1 _ I1 (turn n σ1 H1 w1)) fun b s2 ⟨H2, I2, q2⟩ => ?_)
  cases b with
  | true =>
    obtain ⟨N, hN, q2⟩ := q2
    rw [if_pos rfl]
    refine wpAny_passesOwn hp (thn (hb pins s2 σ1 H2 _ I2 q2) fun f s3 q3 => ?_)
    cases f with
    | next =>
      obtain ⟨σ3, H3, I3, n3⟩ := q3
      obtain ⟨m', hm, w3⟩ := hN σ3 H3 n3
      exact ⟨m', hm, σ3, H3, I3, w3⟩
    | cont =>
      obtain ⟨σ3, H3, I3, n3⟩ := q3
      obtain ⟨m', hm, w3⟩ := hN σ3 H3 n3
      exact ⟨m', hm, σ3, H3, I3, w3⟩
    | brk => exact q3
    | ret v => exact q3
  | false =>
    rw [if_neg Bool.false_ne_true]
    exact wpAny_execs_nil ⟨σ1, H2, I2, q2⟩
end

/-! ### what a loop or a comprehension walks -/
/-- at turn i: it yields x (the heap may grow), or it stops -/
structure It where
  go : Nat → Hp → Prop
  yld : Nat → Hp → V → Hp → Prop
  stop : Nat → Hp → Prop
/-- the iterator's own objects may turn: they are not the frame's, not pinned, younger than the entry (or a comprehension's own) -/
def FpOk (X : Cx) (pins : List (Addr × Obj)) (H : Hp) (b : Addr) : Prop :=
  H b = none ∧ b ≠ X.env.locals ∧ b ∉ X.fs ∧ (b ∈ X.ex ∨ X.s₀.heap.objs.size ≤ b) ∧ (∀ x c, X.env.cells.lookup x = some c → c ≠ b) ∧ ∀ p ∈ X.pn ++ pins, p.1 ≠ b
theorem Inv.fpOk {X : Cx} {pins : List (Addr × Obj)} {σ : St} {H H' : Hp} {s : Shared} {b : Addr} (I : Inv X pins σ H s) (hb : s.heap.objs.size ≤ b) (hn : H' b = none) : FpOk X pins H' b := by
  refine ⟨hn, Nat.ne_of_gt (Nat.lt_of_lt_of_le I.lt hb), I.nofs hb, .inr (Nat.le_trans I.sz hb), fun x c e z => ?_, fun p hp z => ?_⟩
  · obtain ⟨v, q⟩ := I.cell x c e
    exact absurd (Nat.lt_of_lt_of_le q.lt (by rw [z]; exact hb)) (Nat.lt_irrefl _)
  · exact absurd (Nat.lt_of_lt_of_le (Heap.lt_size (I.pin p hp).1) (by rw [z]; exact hb)) (Nat.lt_irrefl _)
structure Turn (P : Program) (w : World) (K : PySem.W.Frag) (tg : Expr) (J : It) (fp : List Addr) (it : Addr) (tn : Nat → Heap → Prop) : Prop where
  mem : it ∈ fp
  obj : ∀ i h, tn i h → ∀ b ∈ fp, ∃ o, h.get? b = some o ∧ ∀ v, o.data ≠ .cell v
  keep : ∀ i h h', tn i h → (∀ b ∈ fp, ∀ o, h.get? b = some o → h'.get? b = some o) → tn i h'
  item : ∀ (X : Cx), X.prog = P → X.w = w → X.K = K → X.calm = true → ∀ (i : Nat) (pins : List (Addr × Obj)) (s : Shared) (σ : St) (H : Hp) (E : Value → Shared → Prop), Inv X pins σ H s → (∀ b ∈ fp, FpOk X pins H b) → tn i s.heap → J.go i H →
    wpAny (model P w) X.A (pyNext (.ref it)) (fun r s1 => ∃ u, r = some u ∧
      wpAny (model P w) X.A (letOwnedTupleGo tg (.ref it) u) (fun _ s2 => ∃ x H', Inv X pins σ H' s2 ∧ RelV x u ∧ J.yld i H x H' ∧ tn (i + 1) s2.heap ∧ ∀ b ∈ fp, H' b = none) E s1) E s
  done : ∀ (X : Cx), X.prog = P → X.w = w → X.K = K → X.calm = true → ∀ (i : Nat) (pins : List (Addr × Obj)) (s : Shared) (σ : St) (H : Hp) (E : Value → Shared → Prop), Inv X pins σ H s → (∀ b ∈ fp, FpOk X pins H b) → tn i s.heap → J.stop i H →
    wpAny (model P w) X.A (pyNext (.ref it)) (fun r s1 => r = none ∧ Inv X pins σ H s1) E s
  self : ∀ (A : Around) (i : Nat) (s : Shared) (Q : Value → Shared → Prop) (E : Value → Shared → Prop), tn i s.heap → Q (.ref it) s → wpAny (model P w) A (pyIter (.ref it)) Q E s
abbrev TI := St → Hp → (It → Hp → Prop) → Prop
/-- an iterator has come -/
def PIE (X : Cx) (pins : List (Addr × Obj)) (σ : St) (tg : Expr) (R : It → Hp → Prop) (itv : Value) (s2 : Shared) : Prop :=
  ∃ (it : Addr) (fp : List Addr) (tn : Nat → Heap → Prop) (J : It) (H' : Hp), itv = .ref it ∧ Inv X pins σ H' s2 ∧ Turn X.prog X.w X.K tg J fp it tn ∧ tn 0 s2.heap ∧ (∀ b ∈ fp, FpOk X pins H' b) ∧ R J H'
def PI (X : Cx) (tg iter : Expr) (wi : TI) : Prop :=
  ∀ (pins : List (Addr × Obj)) (s : Shared) (σ : St) (H : Hp) (R : It → Hp → Prop), Inv X pins σ H s → wi σ H R →
    wpAny (model X.prog X.w) X.A (eval iter X.env) (fun v s1 => wpAny (model X.prog X.w) X.A (pyIter v) (PIE X pins σ tg R) X.xe s1) X.xe s

/-- the step ahead of the store is nothing for an iterator that keeps no tuple -/
theorem go_of {M : Model} {A : Around} {E : Value → Shared → Prop} {s : Shared} {tg : Expr} {it : Addr} {u : Value} {o : Obj} {n : String} {vs : Array Value} {Q : Unit → Shared → Prop} (ho : s.heap.get? it = some o) (hc : o.cls = .type n) (hd : o.data = .fields vs)
    (hn : ["enumerate", "zip", "dict_itemiterator", "dict_reverseitemiterator", "odict_iterator", "itertools.zip_longest", "itertools.pairwise"].contains n = false) (hQ : Q () s) : wpAny M A (letOwnedTupleGo tg (.ref it) u) Q E s := by
  unfold letOwnedTupleGo
  cases tg <;> first
    | exact wpAny_pure hQ
    | (cases u <;> first
        | exact wpAny_pure hQ
        | (refine wpAny_bind (wpAny_load ho ?_)
           rw [hc, hd]
           show wpAny M A (if (["enumerate", "zip", "dict_itemiterator", "dict_reverseitemiterator", "odict_iterator", "itertools.zip_longest", "itertools.pairwise"].contains n && vs[0]? == some (rawInt _)) = true then _ else _) Q E s
           rw [if_neg (by intro h; rw [hn, Bool.false_and] at h; cases h)]
           exact wpAny_pure hQ))

/-- the list at a, as it stands at each turn (a loop may append to it) -/
def Itl (K : PySem.W.Frag) (a : Addr) : It :=
  ⟨fun i H => ∃ xs x, SqL K H a xs ∧ xs[i]? = some x, fun i H x H' => H' = H ∧ ∀ xs, SqL K H a xs → xs[i]? = some x, fun i H => ∃ xs, SqL K H a xs ∧ xs.length ≤ i⟩
def Itt (K : PySem.W.Frag) (a : Addr) : It :=
  ⟨fun i H => ∃ xs x, SqT K H a xs ∧ xs[i]? = some x, fun i H x H' => H' = H ∧ ∀ xs, SqT K H a xs → xs[i]? = some x, fun i H => ∃ xs, SqT K H a xs ∧ xs.length ≤ i⟩
/-- lo, lo + 1, .. (n of them) -/
def Itr (lo : Int) (n : Nat) : It := ⟨fun i _ => i < n, fun i H x H' => H' = H ∧ x = .int (lo + i), fun i _ => n ≤ i⟩
theorem turn_list {P : Program} {w : World} {K : PySem.W.Frag} {tg : Expr} (a it : Addr) : Turn P w K tg (Itl K a) [it] it (fun i h => h.IsListIter it a i) where
  mem := by simp
  obj := fun i h st b hb => by
    have e : b = it := by simpa using hb
    subst e
    obtain ⟨o, e, c, d⟩ := st
    exact ⟨o, e, fun v z => by rw [d] at z; cases z⟩
  keep := fun i h h' st k => st.at fun o e => k it (by simp) o e
  item := by
    intro X hP hw hK hc i pins s σ H E I hf st hg
    subst hP hw hK
    obtain ⟨xs, x, hq, hx⟩ := hg
    obtain ⟨its, rv, p, hz⟩ := I.list hq
    obtain ⟨u, hu, ru⟩ := rv.get hx
    obtain ⟨f0, f1, f2, f3, f4, f5⟩ := hf it (by simp)
    refine wpAny_pyNext_list_item st p.isList (x := u) (by simpa using hu) fun h' st' sb => ?_
    have I1 : Inv X pins σ H { s with heap := h' } := I.turned (t' := s.toks) (fun b o hb e => (sb.2 b hb).trans e) f0 f1 f3 f4 f5
    obtain ⟨o, e, c, d⟩ := id st'
    exact ⟨u, rfl, go_of (s := { s with heap := h' }) e c d (by decide) ⟨x, H, I1, ru, ⟨rfl, fun ys hy => by rw [I.list_inj hy hq]; exact hx⟩, st', fun b hb => (hf b hb).1⟩⟩
  done := by
    intro X hP hw hK hc i pins s σ H E I hf st hg
    subst hP hw hK
    obtain ⟨xs, hq, hx⟩ := hg
    obtain ⟨its, rv, p, hz⟩ := I.list hq
    obtain ⟨f0, f1, f2, f3, f4, f5⟩ := hf it (by simp)
    have hl := rv.length
    exact wpAny_pyNext_list_end (I.ok.hd hc) st p.isList (by simp; omega) fun h' eb => ⟨rfl, I.turned (t' := s.toks) (fun b o hb e => eb b o hb e) f0 f1 f3 f4 f5⟩
  self := fun _ _ _ _ _ st h => wpAny_pyIter_listiter st h
theorem turn_range {P : Program} {w : World} {K : PySem.W.Frag} {tg : Expr} (it : Addr) (lo : Int) (n : Nat) : Turn P w K tg (Itr lo n) [it] it (fun i h => IsRangeIter h it (lo + (i : Nat) * 1) ((n : Int) - (i : Nat)) 1) where
  mem := by simp
  obj := fun i h st b hb => by
    have e : b = it := by simpa using hb
    subst e
    exact ⟨_, st, fun v z => by
      have z' : Data.fields _ = Data.cell v := z
      cases z'⟩
  keep := fun i h h' st k => k it (by simp) _ st
  item := by
    intro X hP hw hK hc i pins s σ H E I hf st hg
    subst hP hw hK
    obtain ⟨f0, f1, f2, f3, f4, f5⟩ := hf it (by simp)
    have W := Walks.range (prog := X.prog) (w := X.w) (I.ok.hd hc) it lo 1 n
    refine W.item i s _ _ hg st fun v h' tk hv st' kk => ?_
    obtain ⟨t, rfl⟩ := hv
    have I1 : Inv X pins σ H { s with heap := h', toks := tk } := I.turned (fun b o hb e => kk b o (by simpa using hb) e) f0 f1 f3 f4 f5
    refine ⟨_, rfl, go_of (s := { s with heap := h', toks := tk }) (n := "range_iterator") st' rfl rfl (by decide) ⟨.int (lo + i), H, I1, ⟨t, ?_⟩, ⟨rfl, rfl⟩, st', fun b hb => (hf b hb).1⟩⟩
    rw [Int.mul_one]
  done := by
    intro X hP hw hK hc i pins s σ H E I hf st hg
    subst hP hw hK
    obtain ⟨f0, f1, f2, f3, f4, f5⟩ := hf it (by simp)
    exact wpAny_pyNext_range_end (I.ok.hd hc) st (by have : n ≤ i := hg; omega) fun h' eb => ⟨rfl, I.turned (t' := s.toks) (fun b o hb e => eb b o hb e) f0 f1 f3 f4 f5⟩
  self := fun _ _ _ _ _ st h => wpAny_pyIter_rangeiter st h
end L2

namespace L2
open PySem PySem.Spec PyProof.Rows
section
variable {X : Cx} {tg : Expr}
def iList (K : PySem.W.Frag) (tl : TE) : TI := fun σ H R => tl σ H fun x H1 => ∃ a, x = .ref a ∧ (∃ xs, SqL K H1 a xs) ∧ R (Itl K a) H1
def iTup (K : PySem.W.Frag) (tl : TE) : TI := fun σ H R => tl σ H fun x H1 => ∃ a, x = .ref a ∧ (∃ xs, SqT K H1 a xs) ∧ R (Itt K a) H1
theorem pi_list {l : Expr} {tl : TE} (hl : PE X l tl) : PI X tg l (iList X.K tl) := by
  intro pins s σ H R I h
  refine thn (hl pins s σ H _ I h) fun v s1 ⟨x, H1, I1, r1, q1⟩ => ?_
  obtain ⟨a, e, ⟨xs, hq⟩, q⟩ := q1
  subst e
  cases r1
  obtain ⟨its, rv, p, hz⟩ := I1.list hq
  refine wpAny_pyIter_list p.isList ?_
  refine ⟨s1.heap.objs.size, [s1.heap.objs.size], _, _, H1, rfl, I1.kept (t' := s1.toks) fun b o e => Heap.get?_push_of_some _ e, turn_list a _, ⟨_, Heap.get?_push_size _ rfl, rfl, rfl⟩, fun b hb => ?_, q⟩
  have e : b = s1.heap.objs.size := by simpa using hb
  subst e
  exact I1.fpOk (Nat.le_refl _) (I1.hok.fresh (Nat.le_refl _))
/-- a range object just made, walked -/
theorem range_it {pins : List (Addr × Obj)} {σ : St} {H : Hp} {s : Shared} {R : It → Hp → Prop} {E : Value → Shared → Prop} {lo hi : Int} {t u v : Tok} {tk : Nat} (I : Inv X pins σ H s) (h1 : -(2 ^ 62) ≤ lo) (h2 : lo < 2 ^ 62) (h3 : -(2 ^ 62) ≤ hi) (h4 : hi < 2 ^ 62)
    (q : R (Itr lo (hi - lo).toNat) H) : wpAny (model X.prog X.w) X.A (pyIter (.ref s.heap.objs.size)) (PIE X pins σ tg R) E { s with heap := s.heap.push { cls := .type "range", data := .fields #[.int lo t, .int hi u, .int 1 v] }, toks := tk } := by
  refine wpAny_pyIter_range (IsRange.new ..) (small_one h1 h2 h3 h4) ?_
  have I1 : Inv X pins σ H { s with heap := s.heap.push { cls := .type "range", data := .fields #[.int lo t, .int hi u, .int 1 v] }, toks := tk } := I.kept fun b o e => Heap.get?_push_of_some _ e
  refine ⟨(s.heap.push { cls := .type "range", data := .fields #[.int lo t, .int hi u, .int 1 v] }).objs.size, [(s.heap.push { cls := .type "range", data := .fields #[.int lo t, .int hi u, .int 1 v] }).objs.size], _, _, H, rfl,
    I1.kept (t' := tk) fun b o e => Heap.get?_push_of_some _ e, turn_range _ lo (hi - lo).toNat, ?_, fun b hb => ?_, q⟩
  · have e1 : lo + ((0 : Nat) : Int) * 1 = lo := by simp
    have e2 : (((hi - lo).toNat : Nat) : Int) - ((0 : Nat) : Int) = Builtin.Range.rangeSize lo hi 1 := by rw [rangeSize_one]; split <;> omega
    show IsRangeIter _ _ (lo + ((0 : Nat) : Int) * 1) ((((hi - lo).toNat : Nat) : Int) - ((0 : Nat) : Int)) 1
    rw [e1, e2]
    exact Heap.get?_push_size _ rfl
  · have e : b = (s.heap.push { cls := .type "range", data := .fields #[.int lo t, .int hi u, .int 1 v] }).objs.size := by simpa using hb
    subst e
    exact I1.fpOk (Nat.le_refl _) (I1.hok.fresh (Nat.le_refl _))
def iRng1 (ta : TA) : TI := fun σ H R => ta σ H fun vs H1 => ∃ j : Int, vs = [.int j] ∧ -(2 ^ 62) ≤ j ∧ j < 2 ^ 62 ∧ R (Itr 0 j.toNat) H1
def iRng2 (ta : TA) : TI := fun σ H R => ta σ H fun vs H1 => ∃ i j : Int, vs = [.int i, .int j] ∧ (-(2 ^ 62) ≤ i ∧ i < 2 ^ 62 ∧ -(2 ^ 62) ≤ j ∧ j < 2 ^ 62) ∧ R (Itr i (j - i).toNat) H1
theorem pi_range1 {a : Expr} {ta : TA} {p pos : Pos} (hg : Gl X "range") (hm : X.mg "range" = none) (ha : PA X [a] ta) (hs : starEach [a] X.env = [(false, eval a X.env)] := by rfl) : PI X tg (.Call (.Name "range" p) [a] [] pos) (iRng1 ta) := by
  intro pins s σ H R I h
  refine Call_ (ld_blt I hg hm boot_range (PyProof.Rows.callWith_type1 (thn (ha pos pins s σ H _ I h) fun us s1 ⟨vs, H1, I1, r1, q1⟩ => ?_) hs rfl))
  obtain ⟨j, e, q1, q2, q⟩ := q1
  subst e
  cases r1 with
  | cons r rr =>
    cases rr
    obtain ⟨t, rfl⟩ := r
    exact call_range_1 (range_it I1 (by omega) (by omega) q1 q2 (by simpa using q))
/-! ### for -/
/-- W: the invariant by the turn and a measure; N: what the body is to reach -/
def tFor (wi : TI) (g : TG) (tb : TS) : TS := fun D σ H => wi σ H fun J H1 => ∃ W : Nat → Nat → St → Hp → Prop, (∃ m, W 0 m σ H1) ∧ ∀ i m σ H, W i m σ H →
  (J.stop i H ∧ D.nx σ H) ∨ (J.go i H ∧ ∃ N : St → Hp → Prop, (∀ σ' H', N σ' H' → ∃ m', m' < m ∧ W (i + 1) m' σ' H') ∧ ∀ x H', J.yld i H x H' → g x σ H' fun σ2 H2 => tb { D with nx := N, ct := N, bk := D.nx } σ2 H2)
/-- the records at fp as they stand -/
def pinsAt (fp : List Addr) (h : Heap) : List (Addr × Obj) := fp.filterMap fun b => (h.get? b).map fun o => (b, o)
theorem mem_pinsAt {fp : List Addr} {h : Heap} {b : Addr} {o : Obj} (hb : b ∈ fp) (e : h.get? b = some o) : (b, o) ∈ pinsAt fp h := List.mem_filterMap.mpr ⟨b, hb, by rw [e]; rfl⟩
theorem of_pinsAt {fp : List Addr} {h : Heap} {p : Addr × Obj} (hp : p ∈ pinsAt fp h) : p.1 ∈ fp ∧ h.get? p.1 = some p.2 := by
  obtain ⟨b, hb, e⟩ := List.mem_filterMap.mp hp
  cases q : h.get? b with
  | none => rw [q] at e; cases e
  | some o =>
    rw [q] at e
    have e' : (b, o) = p := Option.some.inj e
    subst e'
    exact ⟨hb, q⟩
theorem Inv.pinned {pins : List (Addr × Obj)} {σ : St} {H : Hp} {s : Shared} {fp : List Addr} (I : Inv X pins σ H s) (hf : ∀ b ∈ fp, FpOk X pins H b) (ho : ∀ b ∈ fp, ∃ o, s.heap.get? b = some o ∧ ∀ v, o.data ≠ .cell v) : Inv X (pins ++ pinsAt fp s.heap) σ H s :=
  I.pins_of fun p hp => (List.mem_append.mp hp).elim (fun z => I.pin p (List.mem_append_right _ z)) fun z => by
    obtain ⟨hb, e⟩ := of_pinsAt z
    obtain ⟨f0, f1, f2, _⟩ := hf p.1 hb
    obtain ⟨o, e', d⟩ := ho p.1 hb
    rw [e] at e'; cases e'
    exact ⟨e, f0, f1, f2, d⟩
theorem Inv.unpinned {pins pl : List (Addr × Obj)} {σ : St} {H : Hp} {s : Shared} (I : Inv X (pins ++ pl) σ H s) : Inv X pins σ H s := I.pins_of fun p hp => I.pin p (List.mem_append_right _ (List.mem_append_left _ hp))
theorem ps_for {iter : Expr} {body : List Stmt} {wi : TI} {g : TG} {tb : TS} {pos : Pos} (hp : PassesOwn (model X.prog X.w) X.A X.env X.xe) (hc : X.calm = true) (hi : PI X tg iter wi) (hg : PG X tg g) (hb : PSs X body tb)
    (hs : ∀ x, foldedSetIterable iter X.env x = pure x := by intro _; rfl) : PS X (.For tg iter body [] pos) (tFor wi g tb) := by
  intro pins s σ H D I h
  refine wpAny_For (thn (hi pins s σ H _ I h) fun v s1 h1 => thn h1 fun itv s2 h2 => ?_) hs
  obtain ⟨it, fp, tn, J, H2, e, I2, T, st2, f2, W, ⟨m0, w0⟩, turn⟩ := h2
  subst e
  -- what stays true of the iterator's objects through the loop
  have stat : ∀ {H' : Hp}, (∀ b ∈ fp, H' b = none) → ∀ b ∈ fp, FpOk X pins H' b := fun hn b hb => ⟨hn b hb, (f2 b hb).2⟩
  refine codeAny_forLoop_any (fun n s' => ∃ i σ' H', Inv X pins σ' H' s' ∧ tn i s'.heap ∧ (∀ b ∈ fp, H' b = none) ∧ W i n σ' H') ?_ m0 ⟨0, σ, H2, I2, st2, fun b hb => (f2 b hb).1, w0⟩
  rintro n s3 ⟨i, σ3, H3, I3, st3, fr3, w3⟩
  rcases turn i n σ3 H3 w3 with ⟨stop, qn⟩ | ⟨go, N, hN, step⟩
  · refine wpAny_passesOwn hp (thn (T.done X rfl rfl rfl hc i pins s3 σ3 H3 X.xe I3 (stat fr3) st3 stop) fun r s4 ⟨hr, I4⟩ => ?_)
    subst hr
    exact wpAny_execs_nil ⟨σ3, H3, I4, qn⟩
  · refine wpAny_passesOwn hp (thn (T.item X rfl rfl rfl hc i pins s3 σ3 H3 X.xe I3 (stat fr3) st3 go) fun r s4 ⟨u, hr, h4⟩ => ?_)
    subst hr
    refine wpAny_passesOwn hp (thn h4 fun _ s5 ⟨x, H5, I5, r5, y5, st5, fr5⟩ => ?_)
    have I5' := I5.pinned (stat fr5) (T.obj _ _ st5)
    refine wpAny_passesOwn hp (thn (hg _ s5 σ3 H5 x u _ I5' r5 (step x H5 y5)) fun _ s6 ⟨σ6, H6, I6, q6⟩ => ?_)
    refine wpAny_passesOwn hp (thn (hb _ s6 σ6 H6 _ I6 q6) fun f s7 q7 => ?_)
    have again : ∀ {σ7 : St} {H7 : Hp}, Inv X (pins ++ pinsAt fp s5.heap) σ7 H7 s7 → N σ7 H7 → ∃ m, m < n ∧ ∃ i σ' H', Inv X pins σ' H' s7 ∧ tn i s7.heap ∧ (∀ b ∈ fp, H' b = none) ∧ W i m σ' H' := fun {σ7 H7} I7 n7 => by
      obtain ⟨m', hm, w7⟩ := hN σ7 H7 n7
      refine ⟨m', hm, i + 1, σ7, H7, I7.unpinned, T.keep _ _ _ st5 fun b hb o e => (I7.pin (b, o) (List.mem_append_right _ (List.mem_append_right _ (mem_pinsAt hb e)))).1, fun b hb => ?_, w7⟩
      obtain ⟨o, e, d⟩ := T.obj _ _ st5 b hb
      exact (I7.pin (b, o) (List.mem_append_right _ (List.mem_append_right _ (mem_pinsAt hb e)))).2.1
    cases f with
    | next => obtain ⟨σ7, H7, I7, n7⟩ := q7; exact again I7 n7
    | cont => obtain ⟨σ7, H7, I7, n7⟩ := q7; exact again I7 n7
    | brk => obtain ⟨σ7, H7, I7, q7⟩ := q7; exact ⟨σ7, H7, I7.unpinned, q7⟩
    | ret v => obtain ⟨x7, σ7, H7, I7, r7, q7⟩ := q7; exact ⟨x7, σ7, H7, I7.unpinned, r7, q7⟩
end

/-! ### the forms one uses -/
/-- over a list that the body leaves as it is -/
theorem for_list {K : PySem.W.Frag} {a : Addr} {xs : List V} {g : TG} {tb : TS} {D : Ends} {σ : St} {H : Hp} (Pv : Nat → St → Hp → Prop) (h0 : Pv 0 σ H) (hl : ∀ i σ H, i ≤ xs.length → Pv i σ H → SqL K H a xs)
    (hs : ∀ i x σ H, xs[i]? = some x → Pv i σ H → g x σ H fun σ2 H2 => tb { D with nx := Pv (i + 1), ct := Pv (i + 1), bk := D.nx } σ2 H2) (hd : ∀ σ H, Pv xs.length σ H → D.nx σ H) :
    ∃ W : Nat → Nat → St → Hp → Prop, (∃ m, W 0 m σ H) ∧ ∀ i m σ H, W i m σ H →
      ((Itl K a).stop i H ∧ D.nx σ H) ∨ ((Itl K a).go i H ∧ ∃ N : St → Hp → Prop, (∀ σ' H', N σ' H' → ∃ m', m' < m ∧ W (i + 1) m' σ' H') ∧ ∀ x H', (Itl K a).yld i H x H' → g x σ H' fun σ2 H2 => tb { D with nx := N, ct := N, bk := D.nx } σ2 H2) := by
  refine ⟨fun i m σ H => m = xs.length - i ∧ i ≤ xs.length ∧ Pv i σ H, ⟨xs.length, by simp, Nat.zero_le _, h0⟩, ?_⟩
  rintro i m σ H ⟨rfl, hi, p⟩
  have q := hl i σ H hi p
  by_cases hlt : i < xs.length
  · refine .inr ⟨⟨xs, xs[i], q, by simp [hlt]⟩, Pv (i + 1), fun σ' H' p' => ⟨xs.length - (i + 1), by omega, rfl, hlt, p'⟩, fun x H' y => ?_⟩
    obtain ⟨e, y⟩ := y
    subst e
    exact hs i x σ _ (y xs q) p
  · have e : i = xs.length := by omega
    subst e
    exact .inl ⟨⟨xs, q, Nat.le_refl _⟩, hd σ H p⟩
theorem for_range {lo : Int} {n : Nat} {g : TG} {tb : TS} {D : Ends} {σ : St} {H : Hp} (Pv : Nat → St → Hp → Prop) (h0 : Pv 0 σ H)
    (hs : ∀ i σ H, i < n → Pv i σ H → g (.int (lo + i)) σ H fun σ2 H2 => tb { D with nx := Pv (i + 1), ct := Pv (i + 1), bk := D.nx } σ2 H2) (hd : ∀ σ H, Pv n σ H → D.nx σ H) :
    ∃ W : Nat → Nat → St → Hp → Prop, (∃ m, W 0 m σ H) ∧ ∀ i m σ H, W i m σ H →
      ((Itr lo n).stop i H ∧ D.nx σ H) ∨ ((Itr lo n).go i H ∧ ∃ N : St → Hp → Prop, (∀ σ' H', N σ' H' → ∃ m', m' < m ∧ W (i + 1) m' σ' H') ∧ ∀ x H', (Itr lo n).yld i H x H' → g x σ H' fun σ2 H2 => tb { D with nx := N, ct := N, bk := D.nx } σ2 H2) := by
  refine ⟨fun i m σ H => m = n - i ∧ i ≤ n ∧ Pv i σ H, ⟨n, by simp, Nat.zero_le _, h0⟩, ?_⟩
  rintro i m σ H ⟨rfl, hi, p⟩
  by_cases hlt : i < n
  · refine .inr ⟨hlt, Pv (i + 1), fun σ' H' p' => ⟨n - (i + 1), by omega, rfl, hlt, p'⟩, fun x H' y => ?_⟩
    obtain ⟨e, y⟩ := y
    subst e y
    exact hs i σ _ hlt p
  · have e : i = n := by omega
    subst e
    exact .inl ⟨Nat.le_refl _, hd σ H p⟩
end L2

namespace L2
open PySem PySem.Spec PyProof.Rows

abbrev R2 := V → V → Hp → VK → Prop
/-- a two-place operation on values: f is binaryOp op, inplaceOp op or compareOp op -/
def OpR (X : Cx) (f : Value → Value → Sem Value) (r : R2) : Prop :=
  ∀ (pins : List (Addr × Obj)) (s : Shared) (σ : St) (H : Hp) (x y : V) (v u : Value) (Q : VK), Inv X pins σ H s → RelV x v → RelV y u → r x y H Q →
    wpAny (model X.prog X.w) X.A (f v u) (EP X pins σ Q) X.xe s
/-- a one-place operation -/
def UnR (X : Cx) (f : Value → Sem Value) (r : V → Hp → VK → Prop) : Prop :=
  ∀ (pins : List (Addr × Obj)) (s : Shared) (σ : St) (H : Hp) (x : V) (v : Value) (Q : VK), Inv X pins σ H s → RelV x v → r x H Q →
    wpAny (model X.prog X.w) X.A (f v) (EP X pins σ Q) X.xe s
/-- a call of a value that is known (a builtin, a type) with values -/
def CallR (X : Cx) (f : Value) (r : List V → Hp → VK → Prop) : Prop :=
  ∀ (pins : List (Addr × Obj)) (s : Shared) (σ : St) (H : Hp) (xs : List V) (us : List Value) (Q : VK), Inv X pins σ H s → Vals xs us → r xs H Q →
    wpAny (model X.prog X.w) X.A (call f us) (EP X pins σ Q) X.xe s
/-- a value's truth -/
def TruR (X : Cx) (r : V → Hp → (Bool → Hp → Prop) → Prop) : Prop :=
  ∀ (pins : List (Addr × Obj)) (s : Shared) (σ : St) (H : Hp) (x : V) (v : Value) (Q : Bool → Hp → Prop), Inv X pins σ H s → RelV x v → r x H Q →
    wpAny (model X.prog X.w) X.A (truthy v) (TP X pins σ Q) X.xe s

def tOp (r : R2) (ta tb : TE) : TE := fun σ H Q => ta σ H fun x H1 => tb σ H1 fun y H2 => r x y H2 Q
def tUn (r : V → Hp → VK → Prop) (ta : TE) : TE := fun σ H Q => ta σ H fun x H1 => r x H1 Q
/-- ints in, under C, and a value out -/
def rI (C : Int → Int → Prop) (g : Int → Int → V) : R2 := fun x y H Q => ∃ i j, x = .int i ∧ y = .int j ∧ C i j ∧ Q (g i j) H
def rI0 (g : Int → Int → V) : R2 := fun x y H Q => ∃ i j, x = .int i ∧ y = .int j ∧ Q (g i j) H
def rU (g : Int → V) : V → Hp → VK → Prop := fun x H Q => ∃ i, x = .int i ∧ Q (g i) H

section
variable {X : Cx} {a b c : Expr} {ta tb tc : TE} {pos : Pos}

theorem binT (ha : PE X a ta) (hb : PE X b tb) {pins : List (Addr × Obj)} {s : Shared} {σ : St} {H : Hp} {R : V → V → Hp → Prop} (I : Inv X pins σ H s)
    (h : ta σ H fun x H1 => tb σ H1 fun y H2 => R x y H2) {Q : Value → Shared → Prop} {f : Value → Value → Sem Value}
    (hf : ∀ v u s2 x y H2, Inv X pins σ H2 s2 → RelV x v → RelV y u → R x y H2 → wpAny (model X.prog X.w) X.A (f v u) Q X.xe s2) :
    wpAny (model X.prog X.w) X.A (eval a X.env) (fun v s₁ => wpAny (model X.prog X.w) X.A (eval b X.env) (fun u s₂ => wpAny (model X.prog X.w) X.A (f v u) Q X.xe s₂) X.xe s₁) X.xe s := by
  refine thn (ha pins s σ H _ I h) fun v s1 ⟨x, H1, I1, r1, q1⟩ => ?_
  refine thn (hb pins s1 σ H1 _ I1 q1) fun u s2 ⟨y, H2, I2, r2, q2⟩ => ?_
  exact hf v u s2 x y H2 I2 r1 r2 q2

theorem pe_op {op : Operator} {r : R2} (ho : OpR X (binaryOp op) r) (ha : PE X a ta) (hb : PE X b tb) : PE X (.BinOp a op b pos) (tOp r ta tb) := by
  intro pins s σ H Q I h
  exact wpAny_BinOp (binT ha hb I h fun v u s2 x y H2 I2 rx ry q => ho pins s2 σ H2 x y v u Q I2 rx ry q)
theorem pe_un {op : UnaryOp} {r : V → Hp → VK → Prop} (ho : UnR X (unaryOp op) r) (ha : PE X a ta) : PE X (.UnaryOp op a pos) (tUn r ta) := by
  intro pins s σ H Q I h
  exact UnaryOp_ (thn (ha pins s σ H _ I h) fun v s1 ⟨x, H1, I1, r1, q1⟩ => ho pins s1 σ H1 x v Q I1 r1 q1)
/-! ### ints -/
theorem opI {f : Value → Value → Sem Value} {C : Int → Int → Prop} {g : Int → Int → Int}
    (rule : ∀ (i j : Int) (t u : Tok) (s : Shared) (Q : Value → Shared → Prop) (E : Value → Shared → Prop), C i j → Q (.int (g i j) s.toks) { s with toks := s.toks + 1 } → wpAny (model X.prog X.w) X.A (f (.int i t) (.int j u)) Q E s) :
    OpR X f (rI C fun i j => .int (g i j)) := by
  intro pins s σ H x y v u Q I rx ry h
  obtain ⟨i, j, rfl, rfl, hc, q⟩ := h
  obtain ⟨t, rfl⟩ := rx
  obtain ⟨t', rfl⟩ := ry
  exact rule i j t t' s _ _ hc ⟨.int (g i j), H, I.tok _, ⟨_, rfl⟩, q⟩
theorem opI0 {f : Value → Value → Sem Value} {g : Int → Int → Int}
    (rule : ∀ (i j : Int) (t u : Tok) (s : Shared) (Q : Value → Shared → Prop) (E : Value → Shared → Prop), Q (.int (g i j) s.toks) { s with toks := s.toks + 1 } → wpAny (model X.prog X.w) X.A (f (.int i t) (.int j u)) Q E s) :
    OpR X f (rI0 fun i j => .int (g i j)) := by
  intro pins s σ H x y v u Q I rx ry h
  obtain ⟨i, j, rfl, rfl, q⟩ := h
  obtain ⟨t, rfl⟩ := rx
  obtain ⟨t', rfl⟩ := ry
  exact rule i j t t' s _ _ ⟨.int (g i j), H, I.tok _, ⟨_, rfl⟩, q⟩
theorem opB0 {f : Value → Value → Sem Value} {g : Int → Int → Bool}
    (rule : ∀ (i j : Int) (t u : Tok) (s : Shared) (Q : Value → Shared → Prop) (E : Value → Shared → Prop), Q (.bool (g i j)) s → wpAny (model X.prog X.w) X.A (f (.int i t) (.int j u)) Q E s) :
    OpR X f (rI0 fun i j => .bl (g i j)) := by
  intro pins s σ H x y v u Q I rx ry h
  obtain ⟨i, j, rfl, rfl, q⟩ := h
  obtain ⟨t, rfl⟩ := rx
  obtain ⟨t', rfl⟩ := ry
  exact rule i j t t' s _ _ ⟨.bl (g i j), H, I, rfl, q⟩

def CDiv (i j : Int) : Prop := 0 < j ∧ j < 1073741824
def CDivN (i j : Int) : Prop := j ≠ 0 ∧ j.natAbs < 1073741824
def CPow (i j : Int) : Prop := 0 ≤ j ∧ j ≤ 1000000 ∧ i.natAbs < 2 ^ 64
def CMul (i j : Int) : Prop := (-(2 ^ 64) < i ∧ i < 2 ^ 64) ∨ (-(2 ^ 64) < j ∧ j < 2 ^ 64)
theorem CMul.ok {i j : Int} (h : CMul i j) : IntMulOk i j := by
  rcases h with ⟨h1, h2⟩ | ⟨h1, h2⟩
  · exact .of_left (intBits_le_64 h1 h2)
  · exact .of_right (intBits_le_64 h1 h2)
theorem op_add : OpR X (binaryOp .Add) (rI0 fun i j => .int (i + j)) := opI0 fun _ _ _ _ _ _ _ q => add_int q
theorem op_sub : OpR X (binaryOp .Sub) (rI0 fun i j => .int (i - j)) := opI0 fun _ _ _ _ _ _ _ q => sub_int q
theorem op_mul : OpR X (binaryOp .Mult) (rI CMul fun i j => .int (i * j)) := opI fun _ _ _ _ _ _ _ hc q => mul_int q hc.ok
/-- // by a positive divisor -/
theorem op_fdiv : OpR X (binaryOp .FloorDiv) (rI CDiv fun i j => .int (i / j)) := opI fun i j _ _ _ _ _ hc q => by
  have h1 : (0 : Int) < j := hc.1
  have h2 : j < 1073741824 := hc.2
  exact floordiv_int (by omega) (by rw [Int.fdiv_eq_ediv_of_nonneg i (by omega)]; exact q) (.inl (PyProof.noPylong_small (by omega)))
/-- % by a positive divisor of any size -/
theorem op_mod : OpR X (binaryOp .Mod) (rI (fun _ j => 0 < j) fun i j => .int (i % j)) := opI fun i j _ _ _ _ _ hc q => by
  have h1 : (0 : Int) < j := hc
  exact mod_int' (by omega) (by rw [Int.fmod_eq_emod_of_nonneg i (by omega)]; exact q)
theorem op_pow : OpR X (binaryOp .Pow) (rI CPow fun i j => .int (i ^ j.toNat)) := opI fun _ _ _ _ _ _ _ hc q => pow_int_small hc.1 hc.2.1 hc.2.2 q
theorem unI {f : Value → Sem Value} {g : Int → Int}
    (rule : ∀ (i : Int) (t : Tok) (s : Shared) (Q : Value → Shared → Prop) (E : Value → Shared → Prop), Q (.int (g i) s.toks) { s with toks := s.toks + 1 } → wpAny (model X.prog X.w) X.A (f (.int i t)) Q E s) :
    UnR X f (rU fun i => .int (g i)) := by
  intro pins s σ H x v Q I rx h
  obtain ⟨i, rfl, q⟩ := h
  obtain ⟨t, rfl⟩ := rx
  exact rule i t s _ _ ⟨.int (g i), H, I.tok _, ⟨_, rfl⟩, q⟩
theorem un_neg : UnR X (unaryOp .USub) (rU fun i => .int (-i)) := unI fun _ _ _ _ _ q => neg_int q
/-! ### bools among ints: n += (a < b) -/
end

/-! ### comparisons -/
/-- the scalars that == tells apart as data does -/
def scal : V → V → Bool
  | .non, .non => true | .non, .int _ => true | .int _, .non => true | .non, .bl _ => true | .bl _, .non => true | .non, .str _ => true | .str _, .non => true
  | .int _, .int _ => true | .bl _, .bl _ => true | .str _, .str _ => true | .byt _, .byt _ => true
  | .int _, .str _ => true | .str _, .int _ => true | .bl _, .str _ => true | .str _, .bl _ => true
  | _, _ => false
def rEq : R2 := fun x y H Q => scal x y = true ∧ Q (.bl (decide (x = y))) H
def rNe : R2 := fun x y H Q => scal x y = true ∧ Q (.bl (!decide (x = y))) H

theorem dec_int {i j : Int} : decide (V.int i = V.int j) = (i == j) := by
  rw [Bool.eq_iff_iff]
  simp
theorem dec_bl {i j : Bool} : decide (V.bl i = V.bl j) = (i == j) := by
  rw [Bool.eq_iff_iff]
  simp
theorem dec_str {i j : Str} : decide (V.str i = V.str j) = (i == j) := by
  rw [Bool.eq_iff_iff]
  simp
theorem dec_byt {i j : Array UInt8} : decide (V.byt i = V.byt j) = (i.toList == j.toList) := by
  rw [Bool.eq_iff_iff]
  cases i
  cases j
  simp

section
variable {X : Cx} {a b c : Expr} {ta tb tc : TE} {pos : Pos}
theorem fin_bl {pins : List (Addr × Obj)} {σ : St} {H : Hp} {s : Shared} {Q : VK} {k k' : Bool} (I : Inv X pins σ H s) (q : Q (.bl k) H) (e : k = k') : EP X pins σ Q (.bool k') s := by
  subst e
  exact ⟨.bl k, H, I, rfl, q⟩
theorem op_eq : OpR X (compareOp .Eq) rEq := by
  intro pins s σ H x y v u Q I rx ry h
  obtain ⟨hs, q⟩ := h
  cases x with
  | non =>
    cases rx
    cases y with
    | non => cases ry; exact PySem.EqNone.eq_none_none (fin_bl I q (by simp))
    | bl j => cases ry; exact PySem.EqNone.eq_none_bool (fin_bl I q (by simp))
    | int j => obtain ⟨t', rfl⟩ := ry; exact PySem.EqNone.eq_none_int (fin_bl I q (by simp))
    | str j => obtain ⟨t', rfl⟩ := ry; exact PySem.EqNone.eq_none_str (fin_bl I q (by simp))
    | _ => exact absurd (show false = true from hs) Bool.false_ne_true
  | bl i =>
    cases rx
    cases y with
    | non => cases ry; exact PySem.EqNone.eq_bool_none (fin_bl I q (by simp))
    | bl j => cases ry; exact eq_bool (fin_bl I q dec_bl)
    | str j => obtain ⟨t', rfl⟩ := ry; exact PySem.EqMixed.eq_bool_str (fin_bl I q (by simp))
    | _ => exact absurd (show false = true from hs) Bool.false_ne_true
  | int i =>
    obtain ⟨t, rfl⟩ := rx
    cases y with
    | non => cases ry; exact PySem.EqNone.eq_int_none (fin_bl I q (by simp))
    | int j => obtain ⟨t', rfl⟩ := ry; exact eq_int (fin_bl I q dec_int)
    | str j => obtain ⟨t', rfl⟩ := ry; exact PySem.EqMixed.eq_int_str (fin_bl I q (by simp))
    | _ => exact absurd (show false = true from hs) Bool.false_ne_true
  | str i =>
    obtain ⟨t, rfl⟩ := rx
    cases y with
    | non => cases ry; exact PySem.EqNone.eq_str_none (fin_bl I q (by simp))
    | bl j => cases ry; exact PySem.EqMixed.eq_str_bool (fin_bl I q (by simp))
    | int j => obtain ⟨t', rfl⟩ := ry; exact PySem.EqMixed.eq_str_int (fin_bl I q (by simp))
    | str j => obtain ⟨t', rfl⟩ := ry; exact eq_str (fin_bl I q dec_str)
    | _ => exact absurd (show false = true from hs) Bool.false_ne_true
  | byt i =>
    obtain ⟨t, rfl⟩ := rx
    cases y with
    | byt j => obtain ⟨t', rfl⟩ := ry; exact PySem.W.eq_bytes (fin_bl I q dec_byt)
    | _ => exact absurd (show false = true from hs) Bool.false_ne_true
  | _ => cases y <;> exact absurd (show false = true from hs) Bool.false_ne_true
theorem op_ne : OpR X (compareOp .NotEq) rNe := by
  intro pins s σ H x y v u Q I rx ry h
  obtain ⟨hs, q⟩ := h
  cases x with
  | non =>
    cases rx
    cases y with
    | non => cases ry; exact PySem.EqNone.ne_none_none (fin_bl I q (by simp))
    | bl j => cases ry; exact PySem.EqNone.ne_none_bool (fin_bl I q (by simp))
    | int j => obtain ⟨t', rfl⟩ := ry; exact PySem.EqNone.ne_none_int (fin_bl I q (by simp))
    | str j => obtain ⟨t', rfl⟩ := ry; exact PySem.EqNone.ne_none_str (fin_bl I q (by simp))
    | _ => exact absurd (show false = true from hs) Bool.false_ne_true
  | bl i =>
    cases rx
    cases y with
    | non => cases ry; exact PySem.EqNone.ne_bool_none (fin_bl I q (by simp))
    | bl j => cases ry; exact ne_bool (fin_bl I q (congrArg not dec_bl))
    | str j => obtain ⟨t', rfl⟩ := ry; exact PySem.EqMixed.ne_bool_str (fin_bl I q (by simp))
    | _ => exact absurd (show false = true from hs) Bool.false_ne_true
  | int i =>
    obtain ⟨t, rfl⟩ := rx
    cases y with
    | non => cases ry; exact PySem.EqNone.ne_int_none (fin_bl I q (by simp))
    | int j => obtain ⟨t', rfl⟩ := ry; exact ne_int (fin_bl I q (congrArg not dec_int))
    | str j => obtain ⟨t', rfl⟩ := ry; exact PySem.EqMixed.ne_int_str (fin_bl I q (by simp))
    | _ => exact absurd (show false = true from hs) Bool.false_ne_true
  | str i =>
    obtain ⟨t, rfl⟩ := rx
    cases y with
    | non => cases ry; exact PySem.EqNone.ne_str_none (fin_bl I q (by simp))
    | bl j => cases ry; exact PySem.EqMixed.ne_str_bool (fin_bl I q (by simp))
    | int j => obtain ⟨t', rfl⟩ := ry; exact PySem.EqMixed.ne_str_int (fin_bl I q (by simp))
    | str j => obtain ⟨t', rfl⟩ := ry; exact ne_str (fin_bl I q (congrArg not dec_str))
    | _ => exact absurd (show false = true from hs) Bool.false_ne_true
  | byt i =>
    obtain ⟨t, rfl⟩ := rx
    cases y with
    | byt j => obtain ⟨t', rfl⟩ := ry; exact PySem.W.ne_bytes (fin_bl I q (congrArg not dec_byt))
    | _ => exact absurd (show false = true from hs) Bool.false_ne_true
  | _ => cases y <;> exact absurd (show false = true from hs) Bool.false_ne_true

theorem op_lt : OpR X (compareOp .Lt) (rI0 fun i j => .bl (decide (i < j))) := opB0 fun _ _ _ _ _ _ _ q => lt_int q
theorem op_le : OpR X (compareOp .LtE) (rI0 fun i j => .bl (decide (i ≤ j))) := opB0 fun _ _ _ _ _ _ _ q => le_int q
theorem op_gt : OpR X (compareOp .Gt) (rI0 fun i j => .bl (decide (j < i))) := opB0 fun _ _ _ _ _ _ _ q => gt_int q
/-- is, is not of two objects that are tracked lists or instances -/
def isObj : HO → Bool
  | .lst _ => true
  | .ins _ _ _ => true
  | _ => false
/-- two rules for one operation: by cases -/
theorem OpR.or {f : Value → Value → Sem Value} {r r' : R2} (h : OpR X f r) (h' : OpR X f r') : OpR X f (fun x y H Q => r x y H Q ∨ r' x y H Q) := by
  intro pins s σ H x y v u Q I rx ry q
  rcases q with q | q
  · exact h pins s σ H x y v u Q I rx ry q
  · exact h' pins s σ H x y v u Q I rx ry q

theorem nomark (b : Expr) {op : CmpOp} (h : op ≠ .In := by decide) (h2 : op ≠ .NotIn := by decide) : behindInMarks op b = false := by
  have e1 : (op == CmpOp.In) = false := by cases op <;> first | rfl | exact absurd rfl h
  have e2 : (op == CmpOp.NotIn) = false := by cases op <;> first | rfl | exact absurd rfl h2
  cases b <;> simp [behindInMarks, e1, e2]
/-- a comparison as a value; hm: nomark b, or (for in, not in) by with_unfolding_all rfl -/
theorem pe_cmpR {op : CmpOp} {r : R2} (ho : OpR X (compareOp op) r) (ha : PE X a ta) (hb : PE X b tb) (hm : behindInMarks op b = false) : PE X (.Compare a [op] [b] pos) (tOp r ta tb) := by
  intro pins s σ H Q I h
  exact wpAny_Compare1 (binT ha hb I h fun v u s2 x y H2 I2 rx ry q => ho pins s2 σ H2 x y v u Q I2 rx ry q) hm
/-- a reading of a value as a test -/
def tTest (t : TE) : TT := fun σ H Q => t σ H fun x H' => ∃ k, x = .bl k ∧ Q k H'
theorem pt_cmpR {op : CmpOp} {r : R2} (ho : OpR X (compareOp op) r) (ha : PE X a ta) (hb : PE X b tb) (hm : behindInMarks op b = false) : PT X (.Compare a [op] [b] pos) (tTest (tOp r ta tb)) := by
  intro pins s σ H Q I h
  refine wpAny_isTrue_Compare1 (thn (ha pins s σ H _ I h) fun v s1 ⟨x, H1, I1, r1, q1⟩ => thn (hb pins s1 σ H1 _ I1 q1) fun u s2 ⟨y, H2, I2, r2, q2⟩ =>
    thn (ho pins s2 σ H2 x y v u _ I2 r1 r2 q2) fun c s3 ⟨z, H3, I3, r3, k, e, q3⟩ => ?_) hm
  subst e
  cases r3
  exact wpAny_truthy_bool ⟨H3, I3, q3⟩
/-- a op1 b op2 c -/
def tChain (r r' : R2) (ta tb tc : TE) : TE := fun σ H Q => ta σ H fun x H1 => tb σ H1 fun y H2 => r x y H2 fun z H3 => ∃ k, z = .bl k ∧
  (if k = true then tc σ H3 fun w' H4 => r' y w' H4 Q else Q (.bl false) H3)
theorem pe_chain {op op' : CmpOp} {r r' : R2} (ho : OpR X (compareOp op) r) (ho' : OpR X (compareOp op') r') (ha : PE X a ta) (hb : PE X b tb) (hc : PE X c tc)
    (hm : lastMarks [op, op'] [b, c] = false := by with_unfolding_all rfl) : PE X (.Compare a [op, op'] [b, c] pos) (tChain r r' ta tb tc) := by
  intro pins s σ H Q I h
  refine Compare_chain (thn (ha pins s σ H _ I h) fun v s1 ⟨x, H1, I1, r1, q1⟩ => chain_link (thn (hb pins s1 σ H1 _ I1 q1) fun u s2 ⟨y, H2, I2, r2, q2⟩ =>
    thn (ho pins s2 σ H2 x y v u _ I2 r1 r2 q2) fun d s3 ⟨z, H3, I3, r3, k, e, q3⟩ => ?_)) hm
  subst e
  cases r3
  refine wpAny_truthy_bool ?_
  cases k with
  | false => exact ite_ff ⟨.bl false, H3, I3, rfl, q3⟩
  | true => exact ite_tt (chain_last (thn (hc pins s3 σ H3 _ I3 q3) fun w' s4 ⟨z', H4, I4, r4, q4⟩ => ho' pins s4 σ H4 y z' u w' Q I4 r2 r4 q4))
/-! ### truth -/
/-- a value's truth by the abstract heap -/
def TruV (K : PySem.W.Frag) (x : V) (H : Hp) (k : Bool) : Prop :=
  match x with
  | .non => k = false
  | .bl b => k = b
  | .int i => k = (i != 0)
  | .str y => y.length ≤ sizeLine ∧ k = ((y.length : Int) != 0)
  | .byt y => y.size ≤ sizeLine ∧ k = ((y.size : Int) != 0)
  | .ref p => (∃ xs, SqL K H p xs ∧ k = !xs.isEmpty) ∨ (∃ xs, SqT K H p xs ∧ k = !xs.isEmpty) ∨ ∃ kvs, H p = some (.dK kvs) ∧ k = !kvs.isEmpty
  | _ => False
theorem isEmpty_kv {κ : Type} {kvs : List (κ × V)} {vs : List (κ × Value)} (r : KV kvs vs) : (!vs.isEmpty) = !kvs.isEmpty := by
  cases r <;> rfl
theorem isEmpty_of {xs : List V} {its : List Value} (r : Vals xs its) : (!its.toArray.isEmpty) = !xs.isEmpty := by
  cases r <;> simp
theorem line63 : (sizeLine : Nat) < 2 ^ 63 := by rw [sizeLine_eq]; decide
theorem tru_ok : TruR X (fun x H Q => ∃ k, TruV X.K x H k ∧ Q k H) := by
  intro pins s σ H x v Q I rx h
  obtain ⟨k, e, q⟩ := h
  have hl := line63
  have hs : sizeLine = 16777216 := sizeLine_eq
  cases x with
  | non =>
    cases rx
    have e' : k = false := e
    subst e'
    exact truthy_none ⟨H, I, q⟩
  | bl b =>
    cases rx
    have e' : k = b := e
    subst e'
    exact wpAny_truthy_bool ⟨H, I, q⟩
  | int i =>
    obtain ⟨t, rfl⟩ := rx
    have e' : k = (i != 0) := e
    subst e'
    exact PySem.P.truthy_int ⟨H, I, q⟩
  | str y =>
    obtain ⟨t, rfl⟩ := rx
    obtain ⟨hy, e'⟩ : y.length ≤ sizeLine ∧ k = ((y.length : Int) != 0) := e
    subst e'
    exact PySem.P.truthy_str (by omega) ⟨H, I.tok _, q⟩
  | byt y =>
    obtain ⟨t, rfl⟩ := rx
    obtain ⟨hy, e'⟩ : y.size ≤ sizeLine ∧ k = ((y.size : Int) != 0) := e
    subst e'
    exact PySem.W.truthy_bytes (by omega) ⟨H, I.tok _, q⟩
  | ref p =>
    cases rx
    have e' : (∃ xs, SqL X.K H p xs ∧ k = !xs.isEmpty) ∨ (∃ xs, SqT X.K H p xs ∧ k = !xs.isEmpty) ∨ ∃ kvs, H p = some (.dK kvs) ∧ k = !kvs.isEmpty := e
    rcases e' with ⟨xs, hx, e'⟩ | ⟨xs, hx, e'⟩ | ⟨kvs, hx, e'⟩
    · subst e'
      obtain ⟨its, r, pl, hz⟩ := I.list hx
      have hlen := r.length
      exact wpAny_truthy_list pl.isList (by simp only [List.size_toArray]; omega) ⟨H, I.tok _, by rw [isEmpty_of r]; exact q⟩
    · subst e'
      obtain ⟨its, r, pl, hz⟩ := I.tuple hx
      have hlen := r.length
      exact truthy_tuple pl (by simp only [List.size_toArray]; omega) ⟨H, I.tok _, by rw [isEmpty_of r]; exact q⟩
    · subst e'
      obtain ⟨hz, hS, vs, r, m⟩ : kvs.length ≤ sizeLine ∧ (p == sysModules) = false ∧ ∃ vs, KV kvs vs ∧ s.heap.DictOf (mixKind X.prog X.w) p vs := I.hok p _ hx
      have hlen : kvs.length = vs.length := Paired.length r
      exact wpAny_truthy_dict hS m (by omega) ⟨H, I.tok _, by rw [isEmpty_kv r]; exact q⟩
  | _ => exact (show False from e).elim
/-- any expression whose test is its value's truth (a name, a call, a subscript, a field ..: he by fun _ => rfl) -/
theorem pt_truth (ha : PE X a ta) (he : ∀ whole, isTrue a X.env whole = (do let v ← whole; standAt a.pos; holding [v] (truthy v))) :
    PT X a (fun σ H Q => ta σ H fun x H' => ∃ k, TruV X.K x H' k ∧ Q k H') := by
  intro pins s σ H Q I h
  exact isTrue_plain (thn (ha pins s σ H _ I h) fun v s1 ⟨x, H1, I1, r1, q1⟩ => tru_ok pins s1 σ H1 x v Q I1 r1 q1) (he _)

/-! ### strs and bytes -/
theorem op_add_str : OpR X (binaryOp .Add) (fun x y H Q => ∃ i j, x = .str i ∧ y = .str j ∧ i.length + j.length ≤ sizeLine ∧ Q (.str (i ++ j)) H) := by
  intro pins s σ H x y v u Q I rx ry h
  obtain ⟨i, j, rfl, rfl, hz, q⟩ := h
  obtain ⟨t, rfl⟩ := rx
  obtain ⟨t', rfl⟩ := ry
  exact add_str (fun t' tk => ⟨.str (i ++ j), H, I.tok _, ⟨_, rfl⟩, q⟩) hz
def PlainIxT (b : Expr) : Prop := ∀ o i, subscripted b false o i = operate [o, i] (getItem o i)
/-! ### scalar builtins, by CallR -/
theorem vals1 {x : V} {us : List Value} (r : Vals [x] us) : ∃ u, us = [u] ∧ RelV x u := by
  cases r with
  | cons r1 r2 => cases r2; exact ⟨_, rfl, r1⟩
theorem vals2 {x y : V} {us : List Value} (r : Vals [x, y] us) : ∃ u w', us = [u, w'] ∧ RelV x u ∧ RelV y w' := by
  cases r with
  | cons r1 r2 =>
    cases r2 with
    | cons r3 r4 => cases r4; exact ⟨_, _, rfl, r1, r3⟩
theorem call_abs : CallR X (.builtin "abs") (fun xs H Q => ∃ i, xs = [.int i] ∧ Q (.int (if i < 0 then -i else i)) H) := by
  intro pins s σ H xs us Q I r h
  obtain ⟨i, rfl, q⟩ := h
  obtain ⟨u, rfl, t, rfl⟩ := vals1 r
  exact call_abs_int fun u tk => ⟨.int (if i < 0 then -i else i), H, I.tok _, ⟨_, rfl⟩, q⟩
theorem call_int1 : CallR X (.type "int") (fun xs H Q => (∃ i, xs = [.int i] ∧ Q (.int i) H) ∨ ∃ k, xs = [.bl k] ∧ Q (.int (if k then 1 else 0)) H) := by
  intro pins s σ H xs us Q I r h
  rcases h with ⟨i, rfl, q⟩ | ⟨k, rfl, q⟩
  · obtain ⟨u, rfl, t, rfl⟩ := vals1 r
    exact call_int_int ⟨.int i, H, I, ⟨_, rfl⟩, q⟩
  · obtain ⟨u, rfl, r1⟩ := vals1 r
    cases r1
    exact call_int_bool ⟨.int (if k then 1 else 0), H, I.tok _, ⟨_, rfl⟩, q⟩
theorem call_str_int : CallR X (.type "str") (fun xs H Q => ∃ i, xs = [.int i] ∧ i.natAbs.log2 < 1920 ∧ Q (.str (toString i)) H) := by
  intro pins s σ H xs us Q I r h
  obtain ⟨i, rfl, hz, q⟩ := h
  obtain ⟨u, rfl, t, rfl⟩ := vals1 r
  exact PySem.P.str_of_int hz ⟨.str _, H, I.tok _, ⟨_, rfl⟩, q⟩
/-- len of a str, a bytes, a list, a tuple -/
def LenV (K : PySem.W.Frag) (x : V) (H : Hp) (n : Nat) : Prop :=
  match x with
  | .str y => y.length ≤ sizeLine ∧ n = y.length
  | .byt y => y.size ≤ sizeLine ∧ n = y.size
  | .ref p => (∃ xs, SqL K H p xs ∧ n = xs.length) ∨ ∃ xs, SqT K H p xs ∧ n = xs.length
  | _ => False
end
end L2

namespace L2
open PySem PySem.Spec PyProof.Rows

/-! ### an instance, its attributes a map -/
structure ObjM (h : Heap) (x dx C : Addr) (mA : Str → Option Value) : Prop where
  obj : h.get? x = some (PySem.W.instObj C dx)
  ns : h.Ns1 dx mA
  ne : dx ≠ x

theorem lookIn_ns {h : Heap} {dx : Addr} {mA : Str → Option Value} (n : h.Ns1 dx mA) : ∃ od, h.get? dx = some od ∧ ∀ name, PySem.W.lookIn name od = some (mA name) := by
  obtain ⟨o, es, ep, ho, hd, hk, _, hm⟩ := n
  refine ⟨o, ho, fun name => ?_⟩
  have e := hm name
  unfold nsFind findBy at e
  rw [← Array.find?_toList] at e
  unfold PySem.W.lookIn
  rw [hd]
  dsimp only
  split
  · rename_i y q
    rw [q] at e
    exact congrArg some e
  · rename_i q
    rw [q] at e
    have a : es.toList.any (·.refKey) = false := by
      rw [List.any_eq_false]
      intro y hy
      obtain ⟨z, t, hkey⟩ := hk y (Array.mem_toList_iff.mp hy)
      simp [DictEntry.refKey, hkey]
    have a' : ¬ es.toList.any (·.refKey) = true := by rw [a]; exact Bool.false_ne_true
    rw [if_neg a']
    exact congrArg some e

theorem ObjM.look {h : Heap} {x dx C : Addr} {mA : Str → Option Value} (I : ObjM h x dx C mA) : ∃ od, PySem.W.InstAt h x (PySem.W.instObj C dx) C (some od) ∧ ∀ name, PySem.W.lookIn name od = some (mA name) :=
  let ⟨od, ho, hl⟩ := lookIn_ns I.ns
  ⟨od, ⟨I.obj, rfl, rfl, ho⟩, hl⟩

section
variable {prog : Program} {w : World} {A : Around} {E : Value → Shared → Prop} {s : Shared} {K : PySem.W.Frag} {x dx C f : Addr} {mA : Str → Option Value} {name : Str} {v : Value}

theorem get_map {expr : Bool} {Q : Value → Shared → Prop} (X : K.In s.heap) (I : ObjM s.heap x dx C mA) (hg : PySem.W.plainGet K C name = true) (hh : PySem.W.hasDictIn K C = true)
    (ha : PySem.W.findIn K (.ref C) name = some none) (hv : mA name = some v) (hv' : PySem.W.handedIn v = true) (h : Q v { s with toks := s.toks + 1 }) :
    wpAny (model prog w) A (getAttr (.ref x) name expr) Q E s := by
  obtain ⟨od, J, hl⟩ := I.look
  exact PySem.W.get_value X J (PySem.W.plainGet_of hg).1 (PySem.W.findObj_own hh ha rfl (by rw [hl, hv])) hv' h

theorem get_meth {pl : Sem Bool} {Q : Value × List Value → Shared → Prop} (X : K.In s.heap) (I : ObjM s.heap x dx C mA) (hg : PySem.W.plainGet K C name = true)
    (hf : PySem.W.findIn K (.ref C) name = some (some (.ref f))) (ht : PySem.W.isFn K (.ref f) = true) (hv : mA name = none) (h : Q (.ref f, [.ref x]) s) :
    wpAny (model prog w) A (getMethod (.ref x) name pl) Q E s := by
  obtain ⟨od, J, hl⟩ := I.look
  exact PySem.W.method_fn X J (PySem.W.plainGet_of hg).1 (PySem.W.plainGet_of hg).2 hf (beq_iff_eq.mp ht) (by show (PySem.W.lookIn name od).map (·.isSome) = some false; rw [hl, hv]; rfl) h

theorem set_map {ns : List Str} {Q : Unit → Shared → Prop} (X : K.In s.heap) (I : ObjM s.heap x dx C mA)
    (hs : PySem.W.findIn K (.ref C) "__setattr__" = some (some (.builtin "object.__setattr__"))) (hp : PySem.W.plainOver K C = true) (ht : PySem.W.takerIn K C name = some none) (hh : PySem.W.hasDictIn K C = true)
    (hw : PySem.Within mA ns) (hsz : ns.length ≤ sizeLine)
    (h : ∀ h', ObjM h' x dx C (fun y => if y = name then some v else mA y) → Heap.SameBut dx s.heap h' → Q () { s with heap := h', toks := s.toks + 2 }) :
    wpAny (model prog w) A (setAttr (.ref x) name v) Q E s := by
  obtain ⟨od, J, hl⟩ := I.look
  refine PySem.W.set_plain X J hs (PySem.W.osa_open (s := { s with toks := s.toks + 1 }) (r := none) X J hp ht fun b => ?_)
  obtain ⟨cd, hc, hd'⟩ := PySem.W.any_some hh
  have hx : s.heap.get? x = some ⟨.ref C, some dx, .plain, #[]⟩ := I.obj
  refine wpAny_bind (wpAny_pure (wpAny_bind (wpAny_bind (wpAny_loadPart hx (wpAny_bind (PySem.W.Looks.here (s := { s with toks := s.toks + 1 }) (PySem.W.looks_clsIn X hc) ?_))))))
  rw [hd']
  refine wpAny_pure (a := some dx) (wpAny_bind (wpAny_pure (wpAny_bind ?_)))
  refine wpAny_nsSet1 (s := { s with toks := s.toks + 1 }) I.ns fun h' hn2 hs2 => ?_
  obtain ⟨oD, esD, epD, hoD, hdD, hcD⟩ := hn2.count (PySem.Within.cons name v hw)
  refine wpAny_bind (wpAny_lookBehind hoD (by rw [hdD]; exact pastItsLine_dict (Nat.le_trans hcD (by rw [List.length_cons]; omega))) ?_)
  exact wpAny_pure (h _ ⟨(hs2.2 _ (Ne.symm I.ne)).trans I.obj, hn2, I.ne⟩ hs2)

/-- C(..): the dict at the heap's end, the instance behind it; then its __init__ -/
theorem make_map {R : Result → Shared → Prop} {vs : List Value} {kw : List (Str × Value)} (X : K.In s.heap) (hm : PySem.W.makesIn K C = true)
    (hi : PySem.W.findIn K (.ref C) "__init__" = some (some (.ref f))) (hf : PySem.W.typeIn K (.ref f) = some (.type "function"))
    (h : codeAny (model prog w) (A.under (.builtin "type.__call__" ⟨.ref C :: vs, kw⟩)) (.call (.ref f) ⟨.ref (s.heap.objs.size + 1) :: vs, kw⟩) (PySem.W.InitBack (s.heap.objs.size + 1) R)
      { s with heap := (s.heap.push PySem.W.emptyDict).push (PySem.W.instObj C s.heap.objs.size) }) :
    codeAny (model prog w) A (.call (.ref C) ⟨vs, kw⟩) R s := by
  obtain ⟨hh, g, d, t, os⟩ := s
  exact PySem.W.make_core (PySem.W.makes_of X hm) (PySem.W.looks_findIn X hi) (fun self => PySem.W.bind_fn X self hf) (.inl rfl) h
end

/-! ### the attributes as a list of pairs -/
def putF (f : Str) (v : V) : List (Str × V) → List (Str × V)
  | [] => [(f, v)]
  | (g, x) :: r => if g = f then (g, v) :: r else (g, x) :: putF f v r
theorem lookup_putF (f g : Str) (v : V) : ∀ fs : List (Str × V), (putF f v fs).lookup g = if g = f then some v else fs.lookup g
  | [] => by
    show List.lookup g [(f, v)] = _
    by_cases h : g = f
    · have hb : (g == f) = true := beq_iff_eq.mpr h
      simp only [List.lookup, hb, if_pos h]
    · have hb : (g == f) = false := beq_eq_false_iff_ne.mpr h
      simp only [List.lookup, hb, if_neg h]
  | (k, x) :: r => by
    have ih := lookup_putF f g v r
    rw [show putF f v ((k, x) :: r) = (if k = f then (k, v) :: r else (k, x) :: putF f v r) from rfl]
    by_cases hk : k = f
    · rw [if_pos hk]
      by_cases h : g = k
      · have hb : (g == k) = true := beq_iff_eq.mpr h
        simp only [List.lookup, hb, if_pos (h.trans hk)]
      · have hb : (g == k) = false := beq_eq_false_iff_ne.mpr h
        simp only [List.lookup, hb, if_neg (fun e : g = f => h (e.trans hk.symm))]
    · rw [if_neg hk]
      by_cases h : g = k
      · have hb : (g == k) = true := beq_iff_eq.mpr h
        simp only [List.lookup, hb, if_neg (fun e : g = f => hk (h.symm.trans e))]
      · have hb : (g == k) = false := beq_eq_false_iff_ne.mpr h
        simp only [List.lookup, hb]
        exact ih
theorem keys_putF (f : Str) (v : V) : ∀ fs : List (Str × V), f ∈ (putF f v fs).map (·.1) ∧ ∀ g, g ∈ fs.map (·.1) → g ∈ (putF f v fs).map (·.1)
  | [] => ⟨by simp [putF], fun g h => by simp at h⟩
  | (k, x) :: r => by
    obtain ⟨i1, i2⟩ := keys_putF f v r
    rw [show putF f v ((k, x) :: r) = (if k = f then (k, v) :: r else (k, x) :: putF f v r) from rfl]
    by_cases hk : k = f
    · rw [if_pos hk]
      subst hk
      exact ⟨by simp, fun g h => by simpa using h⟩
    · rw [if_neg hk]
      refine ⟨?_, fun g h => ?_⟩
      · rw [List.map_cons]
        exact List.mem_cons_of_mem _ i1
      · rw [List.map_cons] at h ⊢
        rcases List.mem_cons.mp h with e | e
        · exact List.mem_cons.mpr (.inl e)
        · exact List.mem_cons_of_mem _ (i2 g e)
theorem length_putF (f : Str) (v : V) : ∀ fs : List (Str × V), (putF f v fs).length ≤ fs.length + 1
  | [] => by simp [putF]
  | (k, x) :: r => by
    have ih := length_putF f v r
    rw [show putF f v ((k, x) :: r) = (if k = f then (k, v) :: r else (k, x) :: putF f v r) from rfl]
    by_cases hk : k = f
    · rw [if_pos hk, List.length_cons, List.length_cons]; omega
    · rw [if_neg hk, List.length_cons, List.length_cons]; omega

theorem RelO.some_of {v : V} {o : Option Value} (r : RelO (some v) o) : ∃ u, o = some u ∧ RelV v u := by
  cases o with
  | none => exact (show False from r).elim
  | some u => exact ⟨u, rfl, r⟩
theorem RelO.none_of {o : Option Value} (r : RelO none o) : o = none := by
  cases o with
  | none => rfl
  | some u => exact (show False from r).elim
theorem handed_of {v : V} {u : Value} (r : RelV v u) : PySem.W.handedIn u = true := by
  cases v with
  | non => cases (show u = Value.none from r); rfl
  | bl b => cases (show u = Value.bool b from r); rfl
  | int i => obtain ⟨t, e⟩ := (show ∃ t, u = Value.int i t from r); cases e; rfl
  | str x => obtain ⟨t, e⟩ := (show ∃ t, u = Value.str x t from r); cases e; rfl
  | byt b => obtain ⟨t, e⟩ := (show ∃ t, u = Value.bytes b t from r); cases e; rfl
  | flt b => obtain ⟨t, e⟩ := (show ∃ t, u = Value.float b t from r); cases e; rfl
  | ref a => cases (show u = Value.ref a from r); rfl
  | ty n => cases (show u = Value.type n from r); rfl

section
variable {P : Program} {w : World} {H H' : Hp} {h h' : Heap} {a C dx : Addr} {fs fs' : List (Str × V)}
theorem ins_get (hok : HOk P w H h) (e : H a = some (.ins C dx fs)) : ∃ mA, ObjM h a dx C mA ∧ (∀ f, RelO (fs.lookup f) (mA f)) ∧ PySem.Within mA (fs.map (·.1)) ∧ fs.length ≤ 1000 ∧ H dx = some (.own a) := by
  obtain ⟨d, z, ne, ob, mA, n, r, q⟩ := (show ObjOk P w H h a (.ins C dx fs) from hok a _ e)
  exact ⟨mA, ⟨ob, n, ne⟩, r, q, z, d⟩
end

/-! ### what of the text a class must have -/
structure Cls (K : PySem.W.Frag) (C : Addr) : Prop where
  pg : PySem.W.plainGet K C Str.empty = true
  hd : PySem.W.hasDictIn K C = true
  po : PySem.W.plainOver K C = true
  sa : PySem.W.findIn K (.ref C) "__setattr__" = some (some (.builtin "object.__setattr__"))
theorem Cls.get {K : PySem.W.Frag} {C : Addr} (c : Cls K C) (f : Str) : PySem.W.plainGet K C f = true := c.pg
/-- no class of it has the name -/
def NoAttr (K : PySem.W.Frag) (C : Addr) (f : Str) : Prop := PySem.W.findIn K (.ref C) f = some none
theorem NoAttr.taker {K : PySem.W.Frag} {C : Addr} {f : Str} (n : NoAttr K C f) : PySem.W.takerIn K C f = some none := by
  unfold PySem.W.takerIn
  rw [show PySem.W.findIn K (.ref C) f = some none from n]
  rfl
/-- a constant of the class -/
structure Con (K : PySem.W.Frag) (C : Addr) (f : Str) (v : V) (u : Value) : Prop where
  at_ : PySem.W.findIn K (.ref C) f = some (some u)
  rel : RelV v u
  get : PySem.W.specialIn K u "__get__" = some none
  cp : PySem.W.copiedNames.contains f = false
/-- a method: a plain def of the class or of one above it -/
structure Meth (K : PySem.W.Frag) (C : Addr) (m : Str) (f : Addr) : Prop where
  at_ : PySem.W.findIn K (.ref C) m = some (some (.ref f))
  fn : PySem.W.isFn K (.ref f) = true
  kp : PySem.W.keepIn K (.ref f) = true

section
variable {X : Cx} {pins : List (Addr × Obj)} {σ : St} {H : Hp} {s : Shared} {a C dx : Addr} {fs : List (Str × V)} {f : Str} {v : V} {A : Around} {E : Value → Shared → Prop}

theorem getattr_ok {b : Bool} {Q : Value → Shared → Prop} (I : Inv X pins σ H s) (e : H a = some (.ins C dx fs)) (c : Cls X.K C) (n : NoAttr X.K C f) (l : fs.lookup f = some v)
    (h : ∀ u s', Inv X pins σ H s' → RelV v u → Q u s') : wpAny (model X.prog X.w) A (getAttr (.ref a) f b) Q E s := by
  obtain ⟨mA, O, r, _, _, _⟩ := ins_get I.hok e
  obtain ⟨u, hu, ru⟩ := RelO.some_of (v := v) (o := mA f) (by rw [← l]; exact r f)
  exact get_map I.kIn O (c.get f) c.hd n hu (handed_of ru) (h u _ (I.tok _) ru)

theorem getmeth_ok {m : Str} {g : Addr} {pl : Sem Bool} {Q : Value × List Value → Shared → Prop} (I : Inv X pins σ H s) (e : H a = some (.ins C dx fs)) (c : Cls X.K C) (k : Meth X.K C m g) (l : fs.lookup m = none)
    (h : Q (.ref g, [.ref a]) s) : wpAny (model X.prog X.w) A (getMethod (.ref a) m pl) Q E s := by
  obtain ⟨mA, O, r, _, _, _⟩ := ins_get I.hok e
  have hn : mA m = none := RelO.none_of (by rw [← l]; exact r m)
  exact get_meth I.kIn O (c.get m) k.at_ k.fn hn h

theorem setattr_ok {y : V} {u : Value} {Q : Unit → Shared → Prop} (I : Inv X pins σ H s) (e : H a = some (.ins C dx fs)) (c : Cls X.K C) (n : NoAttr X.K C f) (hl : fs.length < 1000) (ry : RelV y u)
    (h : ∀ s', Inv X pins σ (upd H a (.ins C dx (putF f y fs))) s' → Q () s') : wpAny (model X.prog X.w) A (setAttr (.ref a) f u) Q E s := by
  obtain ⟨mA, O, r, wi, _, ho⟩ := ins_get I.hok e
  have hz : (fs.map (·.1)).length ≤ sizeLine := by rw [List.length_map, sizeLine_eq]; omega
  refine set_map I.kIn O c.sa c.po n.taker c.hd wi hz fun h' O' sb => h _ ?_
  have hd : ∃ o, h'.get? dx = some o := let ⟨o, _, _, e', _⟩ := O'.ns; ⟨o, e'⟩
  refine I.write (x := a) (e := dx) (by rw [e]; exact True.intro) (.inr ho) (fun b q hb z => (sb.2 b hb).trans z) hd ?_
  refine ⟨by rw [upd_ne O.ne]; exact ho, ?_, O.ne, O'.obj, _, O'.ns, fun g => ?_, fun g hg => ?_⟩
  · have := length_putF f y fs; omega
  · show RelO ((putF f y fs).lookup g) (if g = f then some u else mA g)
    rw [lookup_putF]
    by_cases q : g = f
    · rw [if_pos q, if_pos q]; exact ry
    · rw [if_neg q, if_neg q]; exact r g
  · by_cases q : g = f
    · rw [q]; exact (keys_putF f y fs).1
    · refine (keys_putF f y fs).2 g (wi g fun z => hg ?_)
      show (if g = f then some u else mA g) = none
      rw [if_neg q]; exact z

/-- a new instance, tracked, without attributes -/
theorem Inv.made (I : Inv X pins σ H s) : Inv X pins σ (upd (upd H s.heap.objs.size (.own (s.heap.objs.size + 1))) (s.heap.objs.size + 1) (.ins C s.heap.objs.size []))
    { s with heap := (s.heap.push PySem.W.emptyDict).push (PySem.W.instObj C s.heap.objs.size) } := by
  have e1 : (s.heap.push PySem.W.emptyDict).get? s.heap.objs.size = some PySem.W.emptyDict := Heap.get?_push_size s.heap rfl
  have e2 : ((s.heap.push PySem.W.emptyDict).push (PySem.W.instObj C s.heap.objs.size)).get? (s.heap.objs.size + 1) = some (PySem.W.instObj C s.heap.objs.size) := by
    have := Heap.get?_push_size (s.heap.push PySem.W.emptyDict) (o := PySem.W.instObj C s.heap.objs.size) rfl
    rwa [Heap.size_push] at this
  have e3 : (s.heap.push PySem.W.emptyDict).Ns s.heap.objs.size (fun _ => none) := ⟨PySem.W.emptyDict, #[], _, e1, rfl, (fun e he => absurd he (by simp)), fun _ => rfl⟩
  have I1 := I.laid (a := s.heap.objs.size) (o := .own (s.heap.objs.size + 1)) (h' := s.heap.push PySem.W.emptyDict) (t' := s.toks) (fun b u q => Heap.get?_push_of_some _ q) (Nat.le_refl _) ⟨_, e1⟩
  refine I1.laid (a := s.heap.objs.size + 1) (o := .ins C s.heap.objs.size []) (t' := s.toks) (fun b u q => Heap.get?_push_of_some _ q) (Nat.le_of_eq (Heap.size_push _ _)) ?_
  have ne : s.heap.objs.size ≠ s.heap.objs.size + 1 := Nat.ne_of_lt (Nat.lt_succ_self _)
  refine ⟨by rw [upd_ne ne, upd_same], Nat.zero_le _, ne, e2, fun _ => none, (Heap.Ns1.of_empty e3).at fun o q => Heap.get?_push_of_some _ q, fun _ => True.intro, fun y hy => absurd rfl hy⟩

/-- e.f where nothing but the object is asked: through attributeBase (super) and the last hold -/
theorem attr_of {prog : Program} {w : World} {env : Env} {e : Expr} {f : Str} {pos : Pos} {s : Shared} {Q : Value → Shared → Prop} (hb : attributeBase e f env (eval e env) = eval e env)
    (h : wpAny (model prog w) A (eval e env) (fun o s₁ => wpAny (model prog w) A (getAttr o f true) Q E s₁) E s) : wpAny (model prog w) A (eval (.Attribute e f pos) env) Q E s :=
  Attribute_any_ h (by rw [arm_eval_Attribute, hb])
end

/-! ### readings and rules -/
/-- e.f, an attribute of the instance -/
def tFld (K : PySem.W.Frag) (ta : TE) (f : Str) : TE := fun σ H Q => ta σ H fun x H1 => ∃ a C dx fs v, x = .ref a ∧ H1 a = some (.ins C dx fs) ∧ Cls K C ∧ NoAttr K C f ∧ fs.lookup f = some v ∧ Q v H1
/-- e.f, a constant of the class -/
def tCon (K : PySem.W.Frag) (ta : TE) (f : Str) : TE := fun σ H Q => ta σ H fun x H1 => ∃ a C dx fs v u, x = .ref a ∧ H1 a = some (.ins C dx fs) ∧ Cls K C ∧ Con K C f v u ∧ fs.lookup f = none ∧ Q v H1
/-- e.f = value -/
def sFld (K : PySem.W.Frag) (ta tv : TE) (f : Str) : TS := fun D σ H => tv σ H fun y H1 => ta σ H1 fun x H2 => ∃ a C dx fs, x = .ref a ∧ H2 a = some (.ins C dx fs) ∧ Cls K C ∧ NoAttr K C f ∧ fs.length < 1000 ∧
  D.nx σ (upd H2 a (.ins C dx (putF f y fs)))
/-- an augmented operator on two values -/
def InOp (X : Cx) (op : Operator) (rd : V → V → Hp → VK → Prop) : Prop :=
  ∀ (pins : List (Addr × Obj)) (s : Shared) (σ : St) (H : Hp) (x y : V) (u v : Value) (Q : VK), Inv X pins σ H s → RelV x u → RelV y v → rd x y H Q → wpAny (model X.prog X.w) X.A (inplaceOp op u v) (EP X pins σ Q) X.xe s
/-- e.f op= value -/
def sFldAug (K : PySem.W.Frag) (ta tv : TE) (rd : V → V → Hp → VK → Prop) (f : Str) : TS := fun D σ H => ta σ H fun x H1 => ∃ a C dx fs v, x = .ref a ∧ H1 a = some (.ins C dx fs) ∧ Cls K C ∧ NoAttr K C f ∧ fs.lookup f = some v ∧
  tv σ H1 fun y H2 => rd v y H2 fun z H3 => ∃ dx' fs', H3 a = some (.ins C dx' fs') ∧ fs'.length < 1000 ∧ D.nx σ (upd H3 a (.ins C dx' (putF f z fs')))

section
variable {X : Cx} {o e value : Expr} {f : Str} {pos pos' tpos : Pos} {ta tv : TE}
theorem pe_fld (he : PE X e ta) (hb : attributeBase e f X.env (eval e X.env) = eval e X.env) : PE X (.Attribute e f pos) (tFld X.K ta f) := by
  intro pins s σ H Q I h
  refine attr_of hb (thn (he pins s σ H _ I h) fun u s1 ⟨x, H1, I1, rx, a, C, dx, fs, v, ex, ea, c, n, l, q⟩ => ?_)
  subst ex
  obtain rfl : u = Value.ref a := rx
  exact getattr_ok I1 ea c n l fun u' s2 I2 ru => ⟨v, H1, I2, ru, q⟩
theorem ps_fld (ha : PE X o ta) (hv : PE X value tv) (hs : swapsWith value (some (.Attribute o f pos')) pos.line X.env = pure false) : PS X (.Assign [.Attribute o f pos'] value pos) (sFld X.K ta tv f) := by
  intro pins s σ H D I h
  refine plainObj_wpAny_Assign_Attribute (thn (hv pins s σ H _ I h) fun u s1 ⟨y, H1, I1, ry, q⟩ => thn (ha pins s1 σ H1 _ I1 q) fun ov s2 ⟨x, H2, I2, rx, a, C, dx, fs, ex, ea, c, n, l, q2⟩ => ?_) hs
  subst ex
  obtain rfl : ov = Value.ref a := rx
  exact setattr_ok I2 ea c n l ry fun s3 I3 => ⟨σ, _, I3, q2⟩
theorem ps_fldaug {op : Operator} {rd : V → V → Hp → VK → Prop} (ha : PE X o ta) (hv : PE X value tv) (hop : InOp X op rd) : PS X (.AugAssign (.Attribute o f tpos) op value pos) (sFldAug X.K ta tv rd f) := by
  intro pins s σ H D I h
  refine wpAny_AugAssign_AttributeAny (thn (ha pins s σ H _ I h) fun ov s1 ⟨x, H1, I1, rx, a, C, dx, fs, v, ex, ea, c, n, l, q⟩ => ?_)
  subst ex
  obtain rfl : ov = Value.ref a := rx
  refine getattr_ok I1 ea c n l fun u s2 I2 ru => thn (hv pins s2 σ H1 _ I2 q) fun w3 s3 ⟨y, H2, I3, ry, q3⟩ => thn (hop pins s3 σ H2 v y u w3 _ I3 ru ry q3) fun w4 s4 ⟨z, H3, I4, rz, dx', fs', ea', l', q4⟩ => ?_
  exact setattr_ok I4 ea' c n l' rz fun s5 I5 => ⟨σ, _, I5, q4⟩
def rAdd : V → V → Hp → VK → Prop := fun x y H Q => ∃ i j, x = .int i ∧ y = .int j ∧ Q (.int (i + j)) H
def rSub : V → V → Hp → VK → Prop := fun x y H Q => ∃ i j, x = .int i ∧ y = .int j ∧ Q (.int (i - j)) H
theorem in_add : InOp X .Add rAdd := by
  rintro pins s σ H x y u v Q I rx ry ⟨i, j, rfl, rfl, q⟩
  obtain ⟨t, rfl⟩ := (show ∃ t, u = Value.int i t from rx)
  obtain ⟨t', rfl⟩ := (show ∃ t', v = Value.int j t' from ry)
  exact PyProof.Rows.iadd_int ⟨.int (i + j), H, I.tok _, ⟨_, rfl⟩, q⟩
end

/-! ### isinstance -/
section
variable {X : Cx} {pins : List (Addr × Obj)} {σ : St} {H : Hp} {s : Shared} {A : Around} {E : Value → Shared → Prop} {Q : Value → Shared → Prop} {c : Value} {b : Bool}
/-- the type of a value, as the fragment's deciders take it; for an instance its class -/
inductive TyOf (K : PySem.W.Frag) (H : Hp) : V → Value → Prop where
  | non : TyOf K H .non (.type "NoneType")
  | bl (x : Bool) : TyOf K H (.bl x) (.type "bool")
  | int (i : Int) : TyOf K H (.int i) (.type "int")
  | str (x : Str) : TyOf K H (.str x) (.type "str")
  | flt (x : UInt64) : TyOf K H (.flt x) (.type "float")
  | lst {a : Addr} {xs : List V} (e : H a = some (.lst xs)) : TyOf K H (.ref a) (.type "list")
  | frz {a : Addr} {o : Obj} {xs : List V} (e : H a = some (.frz o (.lst xs))) : TyOf K H (.ref a) (.type "list")
  | tup {a : Addr} {xs : List V} (e : H a = some (.tup xs)) : TyOf K H (.ref a) (.type "tuple")
  | dK {a : Addr} {kvs : List (Key × V)} (e : H a = some (.dK kvs)) : TyOf K H (.ref a) (.type "dict")
  | dT {a : Addr} {kvs : List (List Key × V)} (e : H a = some (.dT kvs)) : TyOf K H (.ref a) (.type "dict")
  | ins {a C dx : Addr} {fs : List (Str × V)} (e : H a = some (.ins C dx fs)) (cl : Cls K C) (ha : PySem.W.findIn K (.ref C) "__class__" = some (some (.builtin "object.__class__")))
      (hn : PySem.W.specialIn K (.builtin "object.__class__") "__get__" = some (some (.builtin "getset_descriptor.__get__"))) (htk : PySem.W.takesIn K (.builtin "object.__class__") = some true)
      (hm : PySem.W.mroIn K C (.type "object") = some true) : TyOf K H (.ref a) (.ref C)
/-- isinstance(x, c) for one class c, a built-in or an own one: kitOne's answer -/
theorem isinst_ok {x : V} {u t : Value} (I : Inv X pins σ H s) (rx : RelV x u) (ty : TyOf X.K H x t) (e : PySem.W.kitOne X.K t c = some b) (h : ∀ tk, Q (.bool b) { s with toks := tk }) :
    wpAny (model X.prog X.w) A (call (.builtin "isinstance") [u, c]) Q E s := by
  cases ty with
  | non => cases (show u = Value.none from rx); exact PySem.W.kia_one PySem.W.kitx_none I.kIn True.intro e (fun z => nomatch z) h
  | bl y => cases (show u = Value.bool y from rx); exact PySem.W.kia_one PySem.W.kitx_bool I.kIn True.intro e (fun z => nomatch z) h
  | int i => obtain ⟨t, q⟩ := (show ∃ t, u = Value.int i t from rx); cases q; exact PySem.W.kia_one PySem.W.kitx_int I.kIn True.intro e (fun z => nomatch z) h
  | str y => obtain ⟨t, q⟩ := (show ∃ t, u = Value.str y t from rx); cases q; exact PySem.W.kia_one PySem.W.kitx_str I.kIn True.intro e (fun z => nomatch z) h
  | flt y => obtain ⟨t, q⟩ := (show ∃ t, u = Value.float y t from rx); cases q; exact PySem.W.kia_one PySem.W.kitx_float I.kIn True.intro e (fun z => nomatch z) h
  | @lst a xs ea =>
    cases (show u = Value.ref a from rx)
    obtain ⟨_, _, n, _, h1⟩ := (show ObjOk X.prog X.w H s.heap a (.lst xs) from I.hok a _ ea)
    exact PySem.W.kia_one PySem.W.kitx_list I.kIn ⟨_, h1, rfl⟩ e (fun z => nomatch z) h
  | @frz a ob xs ea =>
    cases (show u = Value.ref a from rx)
    obtain ⟨_, _, _, n, _, h1⟩ := (show ObjOk X.prog X.w H s.heap a (.frz ob (.lst xs)) from I.hok a _ ea)
    exact PySem.W.kia_one PySem.W.kitx_list I.kIn ⟨_, h1, rfl⟩ e (fun z => nomatch z) h
  | @tup a xs ea =>
    cases (show u = Value.ref a from rx)
    obtain ⟨_, _, _, p⟩ := (show ObjOk X.prog X.w H s.heap a (.tup xs) from I.hok a _ ea)
    obtain ⟨o, h1, h2, _⟩ := p
    exact PySem.W.kia_one PySem.W.kitx_tuple I.kIn ⟨o, h1, h2⟩ e (fun z => nomatch z) h
  | @dK a kvs ea =>
    cases (show u = Value.ref a from rx)
    obtain ⟨_, _, vs, _, p⟩ := (show ObjOk X.prog X.w H s.heap a (.dK kvs) from I.hok a _ ea)
    obtain ⟨o, es, ep, h1, h2, _⟩ := p
    exact PySem.W.kia_one PySem.W.kitx_dict I.kIn ⟨o, h1, h2.1⟩ e (fun z => nomatch z) h
  | @dT a kvs ea =>
    cases (show u = Value.ref a from rx)
    obtain ⟨_, _, xs, _, o, es, ep, h1, h2, _⟩ := (show ObjOk X.prog X.w H s.heap a (.dT kvs) from I.hok a _ ea)
    exact PySem.W.kia_one PySem.W.kitx_dict I.kIn ⟨o, h1, h2.1⟩ e (fun z => nomatch z) h
  | @ins a C dx fs ea cl ha hn htk hm =>
    cases (show u = Value.ref a from rx)
    obtain ⟨mA, O, _⟩ := ins_get I.hok ea
    obtain ⟨od, J, _⟩ := O.look
    exact PySem.W.kia_one (PySem.W.kitx_own (cl.get _) cl.hd ha hn htk hm) I.kIn J e (fun z => nomatch z) h
end
end L2

namespace L2
open PySem PySem.Spec PyProof.Rows

/-! ### room -/
structure Room (k : Nat) (A : Around) : Prop where
  hd : A.handled = none
  dp : A.depth + 3 * k + 5 < recursionLimit
  un : A.units + 16 * k + 200 < cLine
theorem Room.mono {j k : Nat} {A : Around} (r : Room k A) (h : j ≤ k) : Room j A := ⟨r.hd, by have := r.dp; omega, by have := r.un; omega⟩
theorem Room.deeper {k : Nat} {A : Around} (r : Room (k + 1) A) (env : Env) : Room k (A.deeper env) :=
  ⟨r.hd, by have := r.dp; show A.depth + 1 + 3 * k + 5 < _; omega, by have := r.un; show A.units + 3 + 16 * k + 200 < _; omega⟩
theorem Room.in1 {k : Nat} {A : Around} (r : Room (k + 1) A) : Room k A.in1 :=
  ⟨r.hd, by have := r.dp; show A.depth + 3 * k + 5 < _; omega, by have := r.un; show A.units + 1 + 16 * k + 200 < _; omega⟩
theorem make_depth {A : Around} {C : Addr} {us : List Value} {kw : List (Str × Value)} : (A.under (.builtin "type.__call__" ⟨.ref C :: us, kw⟩)).depth = A.depth + 1 := by
  first | rfl | simp [Around.under, Code.weight, Code.isCreation, Code.isGuard, Code.isCaller, Code.frames, Code.isFrame, guardIds]
theorem make_units {A : Around} {C : Addr} {us : List Value} {kw : List (Str × Value)} : (A.under (.builtin "type.__call__" ⟨.ref C :: us, kw⟩)).units = A.units + 1 := by
  first | rfl | simp [Around.under, Code.cUnits, Code.frames, Code.isFrame]
theorem Room.make {k : Nat} {A : Around} (r : Room (k + 1) A) (C : Addr) (us : List Value) (kw : List (Str × Value)) : Room k (A.under (.builtin "type.__call__" ⟨.ref C :: us, kw⟩)) :=
  ⟨r.hd, by have := r.dp; rw [make_depth]; omega, by have := r.un; rw [make_units]; omega⟩
theorem Room.depth {k : Nat} {A : Around} (r : Room k A) : A.depth < recursionLimit := by have := r.dp; omega
theorem Room.units {k : Nat} {A : Around} (r : Room k A) : A.units + 64 < cLine := by have := r.un; omega
theorem Room.units0 {k : Nat} {A : Around} (r : Room k A) : A.units < cLine := by have := r.un; omega

/-! ### argument lists and displays -/
def tNil : TA := fun _ H Q => Q [] H
def tCons (ta : TE) (tr : TA) : TA := fun σ H Q => ta σ H fun x H1 => tr σ H1 fun xs H2 => Q (x :: xs) H2
section
variable {X : Cx} {e : Expr} {es : List Expr} {te : TE} {t : TA} {pos : Pos}
theorem pa_nil : PA X [] tNil := fun _ _ _ _ H Q I h => Calls.spliced_nil ⟨[], H, I, .nil, h⟩
theorem pa_cons (ha : PE X e te) (hr : PA X es t) (hs : starEach (e :: es) X.env = (false, eval e X.env) :: starEach es X.env := by rfl) : PA X (e :: es) (tCons te t) := by
  intro pos pins s σ H Q I h
  rw [hs]
  show wpAny _ _ (spliced ((false, eval e X.env) :: backTo pos (starEach es X.env))) _ _ s
  refine Calls.spliced_cons (thn (ha pins s σ H _ I h) fun u s1 ⟨x, H1, I1, r1, q1⟩ => ?_)
  exact thn (hr pos pins s1 σ H1 _ I1 q1) fun us s2 ⟨xs, H2, I2, r2, q2⟩ => ⟨x :: xs, H2, I2, .cons r1 r2, q2⟩

/-- a tuple, a list of written items -/
def tTup (t : TA) : TE := fun σ H Q => t σ H fun xs H1 => xs.length ≤ sizeLine ∧ ∀ p, H1 p = none → Q (.ref p) (upd H1 p (.tup xs))
def tLst (t : TA) : TE := fun σ H Q => t σ H fun xs H1 => xs.length ≤ sizeLine ∧ ∀ p, H1 p = none → Q (.ref p) (upd H1 p (.lst xs))
theorem pe_tup {x1} (h : PA X es t) : PE X (.Tuple es x1 pos) (tTup t) := by
  intro pins s σ H Q I hq
  refine wpAny_Tuple_spliced (thn (h pos pins s σ H _ I hq) fun us s1 ⟨xs, H1, I1, r, z, q⟩ => ⟨by rw [← r.length]; exact z, ?_⟩)
  have hf : H1 s1.heap.objs.size = none := I1.hok.fresh (Nat.le_refl _)
  refine ⟨.ref s1.heap.objs.size, upd H1 s1.heap.objs.size (.tup xs), I1.laid (t' := s1.toks) (fun b u e => Heap.get?_push_of_some _ e) (Nat.le_refl _) ?_, rfl, q _ hf⟩
  exact ⟨z, us, r, ⟨_, Heap.get?_push_size _ rfl, rfl, _, rfl⟩⟩
theorem pe_lst (h : PA X es t) : PE X (.List es pos) (tLst t) := by
  intro pins s σ H Q I hq
  refine wpAny_List_spliced (thn (h pos pins s σ H _ I hq) fun us s1 ⟨xs, H1, I1, r, z, q⟩ => ⟨by rw [← r.length]; exact z, ?_⟩)
  have hf : H1 s1.heap.objs.size = none := I1.hok.fresh (Nat.le_refl _)
  refine ⟨.ref s1.heap.objs.size, upd H1 s1.heap.objs.size (.lst xs), I1.laid (t' := s1.toks) (fun b u e => Heap.get?_push_of_some _ e) (Nat.le_refl _) ?_, rfl, q _ hf⟩
  exact ⟨z, us, 0, r, Heap.get?_push_size _ rfl⟩
end

/-! ### what a def promises -/
/-- a def's promise: the bound arguments in the parameters' order, the heap, the wanted end, the wanted exception -/
abbrev Sp := List V → Hp → VK → XK → Prop
/-- how an exception lies behind a call (file 08 gives it): the callers' frames, abstract heap and state ahead of the call, the wish, the exception, the state -/
abbrev CXT := List Env → Hp → Shared → XK → Value → Shared → Prop

/-- the state at a call -/
structure Env0 (P : Program) (w : World) (K : PySem.W.Frag) (mg : Str → Option Value) (base : Heap) (A : Around) (outer : List Env) (s : Shared) (H : Hp) : Prop where
  frames : A.frames = some outer
  mod : Mod K mg base
  bs : ∀ b o, base.get? b = some o → s.heap.get? b = some o ∧ H b = none
  bsz : base.objs.size ≤ s.heap.objs.size
  funs : s.heap.FunFrames base outer
  frf : ∀ b ∈ frs outer, H b = none
  hok : HOk P w H s.heap
  bare : AllBare s.gens
/-- a call's end -/
def CE (outer : List Env) (P : Program) (w : World) (H : Hp) (s : Shared) (Q : VK) (u : Value) (s' : Shared) : Prop :=
  ∃ v H', s'.os = s.os ∧ AllBare s'.gens ∧ Un (frs outer) [] H H' s.heap s'.heap ∧ HOk P w H' s'.heap ∧ RelV v u ∧ Q v H'
def CR (CX : CXT) (outer : List Env) (P : Program) (w : World) (H : Hp) (s : Shared) (Q : VK) (E : XK) (r : Result) (s' : Shared) : Prop :=
  match r with
  | .ok (.ret u) => CE outer P w H s Q u s'
  | .ok _ => False
  | .error e => CX outer H s E e s'
structure FnOk (P : Program) (w : World) (K : PySem.W.Frag) (mg : Str → Option Value) (base : Heap) (CX : CXT) (k : Nat) (f : Addr) (fd : FuncData) (ps : List Str) (sp : Sp) : Prop where
  len : ∀ vs H Q E, sp vs H Q E → vs.length = ps.length
  run : ∀ (A : Around) (outer : List Env) (s : Shared) (H : Hp) (args : Args) (us : List Value) (vs : List V) (Q : VK) (E : XK), Room k A → Env0 P w K mg base A outer s H → BindsTo s fd args (ps.zip us) → Vals vs us → sp vs H Q E →
    codeAny (model P w) A (.call (.ref f) args) (CR CX outer P w H s Q E) s
theorem FnOk.mono {P : Program} {w : World} {K : PySem.W.Frag} {mg : Str → Option Value} {base : Heap} {CX : CXT} {j k : Nat} {f : Addr} {fd : FuncData} {ps : List Str} {sp : Sp} (F : FnOk P w K mg base CX j f fd ps sp) (h : j ≤ k) :
    FnOk P w K mg base CX k f fd ps sp := ⟨F.len, fun A outer s H args us vs Q E hr => F.run A outer s H args us vs Q E (hr.mono h)⟩
theorem Env0.make {P : Program} {w : World} {K : PySem.W.Frag} {mg : Str → Option Value} {base : Heap} {A : Around} {outer : List Env} {s : Shared} {H : Hp} (e : Env0 P w K mg base A outer s H) (C : Addr) (us : List Value) (kw : List (Str × Value)) :
    Env0 P w K mg base (A.under (.builtin "type.__call__" ⟨.ref C :: us, kw⟩)) outer s H := ⟨by first | exact e.frames | (simpa [Around.under, Code.envs, Code.isFrame, pushEnvs] using e.frames), e.mod, e.bs, e.bsz, e.funs, e.frf, e.hok, e.bare⟩
theorem Env0.in1 {P : Program} {w : World} {K : PySem.W.Frag} {mg : Str → Option Value} {base : Heap} {A : Around} {outer : List Env} {s : Shared} {H : Hp} (e : Env0 P w K mg base A outer s H) :
    Env0 P w K mg base A.in1 outer s H := ⟨e.frames, e.mod, e.bs, e.bsz, e.funs, e.frf, e.hok, e.bare⟩

section
variable {X : Cx} {pins : List (Addr × Obj)} {σ : St} {H : Hp} {s s' : Shared}
/-- from a body: what a callee wants -/
theorem Inv.env0 (I : Inv X pins σ H s) : Env0 X.prog X.w X.K X.mg X.base X.A X.stack s H :=
  ⟨I.ok.frames, I.ok.mod, I.bs, Nat.le_trans I.ok.bsz I.sz, I.stack, I.stkFree, I.hok, I.bare⟩
/-- behind a call -/
theorem Inv.after {Q : VK} {u : Value} (I : Inv X pins σ H s) (h : CE X.stack X.prog X.w H s Q u s') : EP X pins σ Q u s' := by
  obtain ⟨v, H', os, bare, un, hok, r, q⟩ := h
  obtain ⟨hh, g, d, t, os'⟩ := s'
  obtain rfl : os' = s.os := os
  exact ⟨v, H', I.call (h' := hh) (g' := g) (d' := d) (t' := t) (ch := []) un hok bare (fun b z => absurd z (by simp)), r, q⟩
end

/-! ### calls -/
/-- f(..): the written arguments, then the defaults dvs; E: what is wanted of an exception -/
def tCall (sp : Sp) (dvs : List V) (E : XK) (t : TA) : TE := fun σ H Q => t σ H fun vs H1 => sp (vs ++ dvs) H1 Q E
/-- o.m(..) of an instance of the class at C -/
def tMeth (C : Addr) (m : Str) (sp : Sp) (dvs : List V) (E : XK) (ta : TE) (t : TA) : TE := fun σ H Q => ta σ H fun x H1 => ∃ a dx fs, x = .ref a ∧ H1 a = some (.ins C dx fs) ∧ fs.lookup m = none ∧
  t σ H1 fun vs H2 => sp (x :: (vs ++ dvs)) H2 Q E
/-- C(..): a new instance and its dict, then __init__ -/
def tMake (C : Addr) (sp : Sp) (dvs : List V) (E : XK) (t : TA) : TE := fun σ H Q => t σ H fun vs H1 => ∀ x dx, H1 x = none → H1 dx = none → dx ≠ x →
  sp (.ref x :: (vs ++ dvs)) (upd (upd H1 dx (.own x)) x (.ins C dx [])) (fun v H2 => v = .non ∧ Q (.ref x) H2) E

/-- how the parameters are bound: us the positional arguments, kw the keywords' values by name, ds the defaults that fill up -/
def Binds (K : PySem.W.Frag) (fd : FuncData) (ps : List Str) (ds : List Value) : Prop :=
  ∀ (s : Shared) (us : List Value), K.In s.heap → (us ++ ds).length = ps.length → BindsTo s fd ⟨us, []⟩ (ps.zip (us ++ ds))
/-- every parameter is given -/
theorem Binds.all {K : PySem.W.Frag} {fd : FuncData} {ps : List Str} (h : ∀ us : List Value, us.length = ps.length → bindArgs fd ⟨us, []⟩ = pure (ps.zip us)) : Binds K fd ps [] := fun s us _ hl => by
  rw [List.append_nil] at hl ⊢
  exact .of_eq (h us hl)

/-- an exception of a callee reaches what this body wants of exceptions -/
def Passes (CX : CXT) (X : Cx) (E : XK) : Prop := ∀ (pins : List (Addr × Obj)) (σ : St) (H : Hp) (s : Shared) (e : Value) (s' : Shared), Inv X pins σ H s → CX X.stack H s E e s' → X.xe e s'

section
variable {X : Cx} {CX : CXT} {k : Nat} {f C : Addr} {fd : FuncData} {ps : List Str} {sp : Sp} {dvs : List V} {ds : List Value} {E : XK} {x m : Str} {p pos apos : Pos} {e o : Expr} {es : List Expr} {ta : TE} {t : TA}

/-- the callee runs -/
theorem run_fn {pins : List (Addr × Obj)} {σ : St} {H : Hp} {s : Shared} {Q : VK} {us : List Value} {vs : List V} (F : FnOk X.prog X.w X.K X.mg X.base CX k f fd ps sp) (hr : Room k X.A) (hb : Binds X.K fd ps ds) (hd : Vals dvs ds) (hx : Passes CX X E)
    (I : Inv X pins σ H s) (r : Vals vs us) (h : sp (vs ++ dvs) H Q E) : wpAny (model X.prog X.w) X.A (call (.ref f) us) (EP X pins σ Q) X.xe s := by
  have r2 : Vals (vs ++ dvs) (us ++ ds) := r.append hd
  have hl : (us ++ ds).length = ps.length := by rw [← r2.length]; exact F.len _ _ _ _ h
  refine wpAny_call (codeAny_mono (F.run X.A X.stack s H ⟨us, []⟩ (us ++ ds) (vs ++ dvs) Q E hr I.env0 (hb s us I.kIn hl) r2 h) fun r s' hq => ?_)
  cases r with
  | error e => exact hx pins σ H s e s' I hq
  | ok fl =>
    cases fl with
    | ret u => exact I.after hq
    | next => exact False.elim hq
    | brk => exact False.elim hq
    | cont => exact False.elim hq

theorem pe_call (F : FnOk X.prog X.w X.K X.mg X.base CX k f fd ps sp) (hr : Room k X.A) (hg : Gl X x) (hm : X.mg x = some (.ref f)) (hk : PySem.W.keepIn X.K (.ref f) = true) (hb : Binds X.K fd ps ds) (hd : Vals dvs ds) (hx : Passes CX X E)
    (ha : PA X (e :: es) t) (hdb : (x == ("__debug__" : Str)) = false := by decide) (he : starEach (e :: es) X.env = (false, eval e X.env) :: starEach es X.env := by rfl) (hpl : (backTo pos (starEach es X.env)).any (·.1) = false := by rfl) :
    PE X (.Call (.Name x p) (e :: es) [] pos) (tCall sp dvs E t) := by
  intro pins s σ H Q I h
  refine wpAny_Call_Name_kw (ld_glob I hg hm ?_ hdb)
  refine PySem.W.callWith_K (h₀ := X.base) I.ok.mod.kin hk (thn (ha pos pins s σ H _ I h) fun us s1 ⟨vs, H1, I1, r, q⟩ => ⟨I1.kIn, ?_⟩) he hpl
  exact run_fn F hr hb hd hx I1 r q
/-- o.m(e, ..) -/
theorem pe_meth {pl : Sem Bool} (he : PE X o ta) (c : Cls X.K C) (hm : Meth X.K C m f) (F : FnOk X.prog X.w X.K X.mg X.base CX k f fd ps sp) (hr : Room k X.A) (hb : Binds X.K fd ps ds) (hd : Vals dvs ds) (hx : Passes CX X E) (ha : PA X (e :: es) t)
    (hst : starEach (e :: es) X.env = (false, eval e X.env) :: starEach es X.env := by rfl) (hpl : (backTo pos (starEach es X.env)).any (·.1) = false := by rfl)
    (ht : eval (.Call (.Attribute o m apos) (e :: es) [] pos) X.env = (do
      let ov ← eval o X.env
      standAt apos.atName
      let (f, first) ← holding [ov] (getMethod ov m pl)
      callWith pos f first (backTo pos (starEach (e :: es) X.env)) (backToKw pos (keywordEach [] X.env))) := by rfl) :
    PE X (.Call (.Attribute o m apos) (e :: es) [] pos) (tMeth C m sp dvs E ta t) := by
  intro pins s σ H Q I h
  refine PySem.W.methodCall_KW (pl := pl) (thn (he pins s σ H _ I h) fun u s1 ⟨x, H1, I1, rx, a, dx, fs, ex, ea, l, q⟩ => ?_) ht
  subst ex
  obtain rfl : u = Value.ref a := rx
  refine getmeth_ok I1 ea c hm l ?_
  refine PySem.W.callWith_K (first := [.ref a]) (h₀ := X.base) I.ok.mod.kin hm.kp (thn (ha pos pins s1 σ H1 _ I1 q) fun us s2 ⟨vs, H2, I2, r, q2⟩ => ⟨I2.kIn, ?_⟩) hst hpl
  exact run_fn (us := .ref a :: us) (vs := .ref a :: vs) F hr hb hd hx I2 (.cons rfl r) q2
/-- o.m() -/
theorem pe_meth0 {pl : Sem Bool} (he : PE X o ta) (c : Cls X.K C) (hm : Meth X.K C m f) (F : FnOk X.prog X.w X.K X.mg X.base CX k f fd ps sp) (hr : Room k X.A) (hb : Binds X.K fd ps ds) (hd : Vals dvs ds) (hx : Passes CX X E)
    (ht : eval (.Call (.Attribute o m apos) [] [] pos) X.env = (do
      let ov ← eval o X.env
      standAt apos.atName
      let (f, first) ← holding [ov] (getMethod ov m pl)
      callWith pos f first (backTo pos (starEach [] X.env)) (backToKw pos (keywordEach [] X.env))) := by rfl) :
    PE X (.Call (.Attribute o m apos) [] [] pos) (tMeth C m sp dvs E ta tNil) := by
  intro pins s σ H Q I h
  refine PySem.W.methodCall_KW (pl := pl) (thn (he pins s σ H _ I h) fun u s1 ⟨x, H1, I1, rx, a, dx, fs, ex, ea, l, q⟩ => ?_) ht
  subst ex
  obtain rfl : u = Value.ref a := rx
  refine getmeth_ok I1 ea c hm l ?_
  exact PySem.W.callWith_K0 (first := [.ref a]) I1.kIn hm.kp (run_fn (us := [.ref a]) (vs := [.ref a]) F hr hb hd hx I1 (.cons rfl .nil) q)

/-- what a class must have to be made -/
structure Mk (K : PySem.W.Frag) (C f : Addr) : Prop where
  makes : PySem.W.makesIn K C = true
  init : PySem.W.findIn K (.ref C) "__init__" = some (some (.ref f))
  fn : PySem.W.isFn K (.ref f) = true
  kp : PySem.W.keepIn K (.ref C) = true

theorem run_make {pins : List (Addr × Obj)} {σ : St} {H : Hp} {s : Shared} {Q : VK} {us : List Value} {vs : List V} (M : Mk X.K C f) (F : FnOk X.prog X.w X.K X.mg X.base CX k f fd ps sp) (hr : Room (k + 1) X.A) (hb : Binds X.K fd ps ds) (hd : Vals dvs ds)
    (hx : Passes CX X E) (I : Inv X pins σ H s) (r : Vals vs us)
    (h : ∀ x dx, H x = none → H dx = none → dx ≠ x → sp (.ref x :: (vs ++ dvs)) (upd (upd H dx (.own x)) x (.ins C dx [])) (fun v H2 => v = .non ∧ Q (.ref x) H2) E) :
    wpAny (model X.prog X.w) X.A (call (.ref C) us) (EP X pins σ Q) X.xe s := by
  have hq := h (s.heap.objs.size + 1) s.heap.objs.size (I.hok.fresh (Nat.le_succ _)) (I.hok.fresh (Nat.le_refl _)) (Nat.ne_of_lt (Nat.lt_succ_self _))
  have I2 := Inv.made (C := C) I
  have r2 : Vals (V.ref (s.heap.objs.size + 1) :: (vs ++ dvs)) (Value.ref (s.heap.objs.size + 1) :: (us ++ ds)) := .cons rfl (r.append hd)
  have hl : (Value.ref (s.heap.objs.size + 1) :: us ++ ds).length = ps.length := by
    have e := r2.length
    rw [F.len _ _ _ _ hq] at e
    exact e.symm
  refine wpAny_call (make_map (f := f) I.kIn M.makes M.init (beq_iff_eq.mp M.fn) (codeAny_mono (F.run _ X.stack _ _ ⟨Value.ref (s.heap.objs.size + 1) :: us, []⟩ (Value.ref (s.heap.objs.size + 1) :: (us ++ ds)) _ _ E (hr.make C us [])
    (I2.env0.make C us []) (hb _ (Value.ref (s.heap.objs.size + 1) :: us) I2.kIn hl) r2 hq) fun r s' hq' => ?_))
  cases r with
  | error e => exact hx pins σ _ _ e s' I2 hq'
  | ok fl =>
    cases fl with
    | ret u =>
      obtain ⟨v, H', I3, rv, ev, q3⟩ := I2.after hq'
      subst ev
      exact ⟨rv, ⟨V.ref (s.heap.objs.size + 1), H', I3, rfl, q3⟩⟩
    | next => exact False.elim hq'
    | brk => exact False.elim hq'
    | cont => exact False.elim hq'
theorem pe_make (M : Mk X.K C f) (F : FnOk X.prog X.w X.K X.mg X.base CX k f fd ps sp) (hr : Room (k + 1) X.A) (hg : Gl X x) (hm : X.mg x = some (.ref C)) (hb : Binds X.K fd ps ds) (hd : Vals dvs ds) (hx : Passes CX X E)
    (ha : PA X (e :: es) t) (hdb : (x == ("__debug__" : Str)) = false := by decide) (he : starEach (e :: es) X.env = (false, eval e X.env) :: starEach es X.env := by rfl) (hpl : (backTo pos (starEach es X.env)).any (·.1) = false := by rfl) :
    PE X (.Call (.Name x p) (e :: es) [] pos) (tMake C sp dvs E t) := by
  intro pins s σ H Q I h
  refine wpAny_Call_Name_kw (ld_glob I hg hm ?_ hdb)
  refine PySem.W.callWith_K (h₀ := X.base) I.ok.mod.kin M.kp (thn (ha pos pins s σ H _ I h) fun us s1 ⟨vs, H1, I1, r, q⟩ => ⟨I1.kIn, ?_⟩) he hpl
  exact run_make M F hr hb hd hx I1 r q
theorem pe_make0 (M : Mk X.K C f) (F : FnOk X.prog X.w X.K X.mg X.base CX k f fd ps sp) (hr : Room (k + 1) X.A) (hg : Gl X x) (hm : X.mg x = some (.ref C)) (hb : Binds X.K fd ps ds) (hd : Vals dvs ds) (hx : Passes CX X E)
    (hdb : (x == ("__debug__" : Str)) = false := by decide) : PE X (.Call (.Name x p) [] [] pos) (tMake C sp dvs E tNil) := by
  intro pins s σ H Q I h
  refine wpAny_Call_Name_kw (ld_glob I hg hm ?_ hdb)
  exact PySem.W.callWith_K0 I.kIn M.kp (run_make (us := []) M F hr hb hd hx I .nil h)
end

/-! ### keywords -/
/-- the values of the keywords, from the left -/
def PK (X : Cx) (kws : List Keyword) (t : TA) : Prop :=
  ∀ (pos : Pos) (pins : List (Addr × Obj)) (s : Shared) (σ : St) (H : Hp) (Q : List V → Hp → Prop), Inv X pins σ H s → t σ H Q → wpAny (model X.prog X.w) X.A (evalAll ((backToKw pos (keywordEach kws X.env)).map (·.2))) (AP X pins σ Q) X.xe s
section
variable {X : Cx} {CX : CXT} {k : Nat} {f C : Addr} {fd : FuncData} {ps ks : List Str} {sp : Sp} {E : XK} {x m : Str} {p pos apos kpos : Pos} {e o : Expr} {es : List Expr} {kws : List Keyword} {te ta : TE} {t tk : TA} {nm : Option Str}
/-- how a call with keywords binds: g puts the positional values us and the keywords' values ws (names ks) in the parameters' order, defaults among them -/
structure KBinds (K : PySem.W.Frag) (fd : FuncData) (ps ks : List Str) (g : List Value → List Value → List Value) (gV : List V → List V → List V) : Prop where
  to : ∀ (s : Shared) (us ws : List Value), K.In s.heap → (g us ws).length = ps.length → BindsTo s fd ⟨us, ks.zip ws⟩ (ps.zip (g us ws))
  rel : ∀ {vs : List V} {us : List Value} {zs : List V} {ws : List Value}, Vals vs us → Vals zs ws → Vals (gV vs zs) (g us ws)
def tCallK (sp : Sp) (gV : List V → List V → List V) (E : XK) (t tk : TA) : TE := fun σ H Q => t σ H fun vs H1 => tk σ H1 fun zs H2 => sp (gV vs zs) H2 Q E
variable {g : List Value → List Value → List Value} {gV : List V → List V → List V}
end

/-! ### a def's body keeps its promise -/
/-- names: the parameters first -/
structure FnScope (N P : List Str) (sc : Scope) : Prop where
  kind : sc.kind = .function
  co : sc.isCoroutine = false
  gen : sc.isGenerator = false
  nd : N.Nodup
  pre : N.take P.length = P
  par : ∀ x ∈ P, sc.names.lookup x = some .local ∨ sc.names.lookup x = some .cell
  nofree : ∀ y ∈ sc.names, y.2 ≠ .free

theorem bindL_out {kindOf : Str → Option NameKind} {x : Str} : ∀ {binds : List (Str × Value)} {m : Str → Option Value}, (∀ v, (x, v) ∉ binds) → bindL kindOf binds m x = m x
  | [], _, _ => rfl
  | (n, v) :: r, m, h => by
    unfold bindL
    rw [bindL_out fun w hw => h w (List.mem_cons_of_mem _ hw)]
    split
    · have : x ≠ n := by rintro rfl; exact h v List.mem_cons_self
      simp [this]
    · rfl
theorem bindC_out {kindOf : Str → Option NameKind} {x : Str} : ∀ {binds : List (Str × Value)} {m : Str → Option Value}, (∀ v, (x, v) ∉ binds) → bindC kindOf binds m x = m x
  | [], _, _ => rfl
  | (n, v) :: r, m, h => by
    unfold bindC
    rw [bindC_out fun w hw => h w (List.mem_cons_of_mem _ hw)]
    split
    · rfl
    · have : x ≠ n := by rintro rfl; exact h v List.mem_cons_self
      simp [this]
theorem bindL_get {kindOf : Str → Option NameKind} {x : Str} {v : Value} : ∀ {P : List Str} {vs : List Value} {i : Nat} {m : Str → Option Value}, P.Nodup → P[i]? = some x → vs[i]? = some v → kindOf x = some .local →
    bindL kindOf (P.zip vs) m x = some v
  | [], _, _, _, _, h, _, _ => by simp at h
  | _ :: _, [], _, _, _, _, h, _ => by simp at h
  | p :: P, w :: vs, 0, m, nd, h1, h2, hk => by
    simp at h1 h2; subst h1; subst h2
    show bindL kindOf ((p, w) :: P.zip vs) m p = _
    unfold bindL
    rw [bindL_out fun v hv => (List.nodup_cons.mp nd).1 (List.of_mem_zip hv).1, if_pos hk]
    simp
  | p :: P, w :: vs, i + 1, m, nd, h1, h2, hk => by
    show bindL kindOf ((p, w) :: P.zip vs) m x = _
    unfold bindL
    exact bindL_get (i := i) (List.nodup_cons.mp nd).2 (by simpa using h1) (by simpa using h2) hk
theorem bindC_get {kindOf : Str → Option NameKind} {x : Str} {v : Value} : ∀ {P : List Str} {vs : List Value} {i : Nat} {m : Str → Option Value}, P.Nodup → P[i]? = some x → vs[i]? = some v → kindOf x ≠ some .local →
    bindC kindOf (P.zip vs) m x = some v
  | [], _, _, _, _, h, _, _ => by simp at h
  | _ :: _, [], _, _, _, _, h, _ => by simp at h
  | p :: P, w :: vs, 0, m, nd, h1, h2, hk => by
    simp at h1 h2; subst h1; subst h2
    show bindC kindOf ((p, w) :: P.zip vs) m p = _
    unfold bindC
    rw [bindC_out fun v hv => (List.nodup_cons.mp nd).1 (List.of_mem_zip hv).1, if_neg hk]
    simp
  | p :: P, w :: vs, i + 1, m, nd, h1, h2, hk => by
    show bindC kindOf ((p, w) :: P.zip vs) m x = _
    unfold bindC
    exact bindC_get (i := i) (List.nodup_cons.mp nd).2 (by simpa using h1) (by simpa using h2) hk

/-- the names' values at the entry -/
def start (N : List Str) (vs : List V) : St := vs.map some ++ List.replicate (N.length - vs.length) none

/-- the context of a def's body, at its entry; an exception leaves the frame, then lies as CX says -/
def cxOf (CX : CXT) (P : Program) (w : World) (K : PySem.W.Frag) (mg : Str → Option Value) (base : Heap) (N : List Str) (qual : Str) (scope : Scope) (f : Addr) (cd : Value) (A : Around) (outer : List Env) (s : Shared) (H : Hp) (E : XK) : Cx where
  prog := P
  w := w
  K := K
  mg := mg
  base := base
  A := A.deeper (envOfC qual scope s.heap.objs.size f cd)
  N := N
  s₀ := s
  H₀ := H
  env := envOfC qual scope s.heap.objs.size f cd
  outer := outer
  stack := envOfC qual scope s.heap.objs.size f cd :: outer
  ex := []
  calm := true
  fn := fun _ => true
  pn := []
  xe := fun e s' => wpAny (model P w) (A.deeper (envOfC qual scope s.heap.objs.size f cd)) (leaving (envOfC qual scope s.heap.objs.size f cd) e) (fun _ s'' => CX outer H s E e s'') (fun e' s'' => CX outer H s E e' s'') s'

theorem cell_has {sc : Scope} {n : Nat} {x : Str} (h : sc.names.lookup x = some .cell) : ∃ c, (cellsFrom n sc.names []).lookup x = some c := by
  have q := PySem.W.cellsFrom_some sc.names n [] (.inl h)
  exact Option.isSome_iff_exists.mp q

theorem inv_start {CX : CXT} {P : Program} {w : World} {K : PySem.W.Frag} {mg : Str → Option Value} {base : Heap} {N ps : List Str} {qual : Str} {scope : Scope} {f : Addr} {cd : Value} {A : Around} {outer : List Env} {s s1 : Shared} {H : Hp} {E : XK} {us : List Value} {vs : List V}
    (S : FnScope N ps scope) (hd : A.handled = none) (e0 : Env0 P w K mg base A outer s H) (hl : vs.length = ps.length) (r : Vals vs us)
    (x : InCallC s s.heap.objs.size (bindL (envOfC qual scope s.heap.objs.size f cd).kindOf (ps.zip us) fun _ => none) (cellsFrom (s.heap.objs.size + 1) scope.names []) (bindC (envOfC qual scope s.heap.objs.size f cd).kindOf (ps.zip us) fun _ => none) s1) :
    Inv (cxOf CX P w K mg base N qual scope f cd A outer s H E) [] (start N vs) H s1 := by
  have hpl : ps.length ≤ N.length := by have := congrArg List.length S.pre; rw [List.length_take] at this; omega
  obtain ⟨h1, tk, rfl, hk⟩ := x.done
  have noA : ∀ b : Addr, b ∉ (cxOf CX P w K mg base N qual scope f cd A outer s H E).ex := fun b z => absurd (show b ∈ ([] : List Addr) from z) (by simp)
  refine ⟨⟨e0.mod, S.kind, rfl, rfl, Nat.le_refl _, fun y z c h1 h2 => ?_, fun y hy => ?_, fun y c _ h => ?_, fun _ => hd, Around.frames_deeper e0.frames, .inr ⟨rfl, rfl⟩, fun b z => absurd z (noA b), e0.bs, e0.bsz, fun b _ _ => noA b, fun b z => absurd z (noA b), e0.funs, e0.frf⟩,
    rfl, e0.bare, Un.kept hk, ⟨_, x.toInCall.ns, fun i y v h1 h2 h3 => ?_⟩, fun y c h => ⟨_, x.cell y c h⟩, e0.hok.fresh (Nat.le_refl _), fun y c h => ?_, fun p hp => absurd (show p ∈ ([] : List (Addr × Obj)) from hp) (by simp), e0.hok.kept hk, ?_⟩
  · exact name_of_addr x.apart (PySem.mem_of_lookup h1) (PySem.mem_of_lookup h2)
  · have hy : scope.names.lookup y = some .cell ∨ scope.names.lookup y = some .free := hy
    rcases hy with hy | hy
    · exact cell_has hy
    · exact absurd rfl (S.nofree _ (PySem.mem_of_lookup hy))
  · exact Nat.le_of_lt (x.above y c (PySem.mem_of_lookup h))
  · have hi : i < vs.length := by
      unfold start at h2
      by_cases hi : i < vs.length
      · exact hi
      · rw [List.getElem?_append_right (by simpa using hi)] at h2
        rw [List.getElem?_replicate] at h2
        split at h2 <;> cases h2
    have ha : vs[i]? = some v := by
      unfold start at h2
      rw [List.getElem?_append_left (by simpa using hi), List.getElem?_map] at h2
      cases e : vs[i]? with
      | none => rw [e] at h2; cases h2
      | some a => rw [e] at h2; cases h2; rfl
    obtain ⟨u, hu, rv⟩ := r.get ha
    have hp : ps[i]? = some y := by
      rw [← S.pre, List.getElem?_take_of_lt (by omega)]; exact h1
    have ndP : ps.Nodup := by rw [← S.pre]; exact S.nd.sublist (List.take_sublist _ _)
    refine ⟨u, rv, ?_⟩
    rcases S.par y (List.mem_of_getElem? hp) with k | k
    · exact .inl ⟨k, bindL_get ndP hp hu k⟩
    · obtain ⟨c, e⟩ := cell_has (n := s.heap.objs.size + 1) k
      refine .inr ⟨.inl k, c, e, ?_⟩
      have q := x.cell y c e
      rw [bindC_get ndP hp hu (by show scope.names.lookup y ≠ _; rw [k]; decide)] at q
      exact q
  · exact e0.hok.fresh (Nat.le_of_lt (x.above y c (PySem.mem_of_lookup h)))
  · unfold start
    show _ = N.length
    rw [List.length_append, List.length_map, List.length_replicate]
    omega

/-- THE RULE: a def (or a method) of the text, by its body. The body's reading t is chosen for each entry; it is run at the parameters' values -/
theorem fn_of {CX : CXT} {P : Program} {w : World} {K : PySem.W.Frag} {mg : Str → Option Value} {base : Heap} {k : Nat} {f : Addr} {name qual : Str} {params : Arguments} {body : List Stmt} {scope : Scope} {dV kV doc pm cdv ct oc : Value} {an od : Option Addr}
    {osl : Array (Option Value)} {N ps : List Str} {sp : Sp} (lk : K.lookup f = some ⟨oc, od, .func (PySem.W.fnOf name qual params body scope dV kV doc pm an cdv ct), osl⟩) (hcd : PySem.W.codeIn K cdv qual = true) (S : FnScope N ps scope)
    (len : ∀ vs H Q E, sp vs H Q E → vs.length = ps.length)
    (hbody : ∀ (A : Around) (outer : List Env) (s : Shared) (H : Hp) (vs : List V) (Q : VK) (E : XK), Room k (A.deeper (envOfC qual scope s.heap.objs.size f cdv)) → sp vs H Q E →
      ∃ t, PSs (cxOf CX P w K mg base N qual scope f cdv A outer s H E) body t ∧ t { nx := fun _ H' => Q .non H', rt := Q } (start N vs) H) :
    FnOk P w K mg base CX (k + 1) f (PySem.W.fnOf name qual params body scope dV kV doc pm an cdv ct) ps sp := by
  refine ⟨len, fun A outer s H args us vs Q E hr e0 hb r hsp => ?_⟩
  have hl := len _ _ _ _ hsp
  have KX : K.In s.heap := e0.mod.kin.keeps fun b o e => (e0.bs b o e).1
  have lim : s.heap.NoLimit := e0.mod.nolimit.keeps fun b o e => (e0.bs b o e).1
  have hkind : ∀ y ∈ ps.zip us, scope.names.lookup y.1 = some .local ∨ (scope.names.lookup y.1 = some .cell ∧ ((cellsFrom (s.heap.objs.size + 1) scope.names []).lookup y.1).isSome = true) := fun ⟨n, v⟩ hy => by
    rcases S.par n (List.of_mem_zip hy).1 with q | q
    · exact .inl q
    · exact .inr ⟨q, PySem.W.cellsFrom_some _ _ _ (.inl q)⟩
  refine codeAny_call_function hr.depth (KX _ _ lk) rfl S.co S.gen rfl (PySem.W.codeRec_of KX hcd) (hb _ _ _ _ ?_)
  refine wpAny_newFunctionEnv_cells S.kind hkind fun env he s1 x => ?_
  subst he
  refine ⟨lim.keeps x.toInCall.keep, codeAny_func ?_⟩
  obtain ⟨t, ht, hq⟩ := hbody A outer s H vs Q E (hr.deeper _) hsp
  have I : Inv (cxOf CX P w K mg base N qual scope f cdv A outer s H E) [] (start N vs) H s1 := inv_start S hr.hd e0 hl r x
  refine wpAny_mono (ht [] s1 (start N vs) H _ I hq) (fun fl s' hs => ?_) fun e s' hs => hs
  have fin : ∀ {σ' : St} {H' : Hp} {v : V} {u : Value}, Inv (cxOf CX P w K mg base N qual scope f cdv A outer s H E) [] σ' H' s' → RelV v u → Q v H' → CE outer P w H s Q u s' :=
    fun {σ' H' v u} J rv q => ⟨v, H', J.os, J.bare, J.base, J.hok, rv, q⟩
  cases fl with
  | ret u =>
    obtain ⟨v, σ', H', J, rv, q⟩ := hs
    exact fin J rv q
  | next =>
    obtain ⟨σ', H', J, q⟩ := hs
    exact fin (v := V.non) (u := Value.none) J rfl q
  | brk =>
    obtain ⟨_, _, _, q⟩ := hs
    exact False.elim q
  | cont =>
    obtain ⟨_, _, _, q⟩ := hs
    exact False.elim q
end L2

namespace L2
open PySem PySem.Spec PyProof.Rows
section
variable {X : Cx} {x : Str} {p pos : Pos} {e : Expr} {es : List Expr} {t : TA} {id T : String} {r : List V → Hp → VK → Prop}

def tCB (r : List V → Hp → VK → Prop) (t : TA) : TE := fun σ H Q => t σ H fun vs H1 => r vs H1 Q
/-- f(e, ..), f a built-in function -/
theorem pe_callB (hc : CallR X (.builtin id) r) (hg : Gl X x) (hm : X.mg x = none) (hv : bootBuiltins x = some (.builtin id)) (ha : PA X (e :: es) t) (hn : x ≠ "__name__" := by decide) (hdb : (x == ("__debug__" : Str)) = false := by decide)
    (he : starEach (e :: es) X.env = (false, eval e X.env) :: starEach es X.env := by rfl) (hpl : (backTo pos (starEach es X.env)).any (·.1) = false := by rfl) : PE X (.Call (.Name x p) (e :: es) [] pos) (tCB r t) := by
  intro pins s σ H Q I h
  refine wpAny_Call_Name_kw (ld_blt I hg hm hv ?_ hn hdb)
  exact PyProof.Rows.callWith_builtin1 (thn (ha pos pins s σ H _ I h) fun us s1 ⟨vs, H1, I1, r1, q1⟩ => hc pins s1 σ H1 vs us Q I1 r1 q1) he hpl
/-- T(e, ..), T a built-in type -/
theorem pe_callTy (hc : CallR X (.type T) r) (hg : Gl X x) (hm : X.mg x = none) (hv : bootBuiltins x = some (.type T)) (ha : PA X (e :: es) t) (hn : x ≠ "__name__" := by decide) (hdb : (x == ("__debug__" : Str)) = false := by decide)
    (he : starEach (e :: es) X.env = (false, eval e X.env) :: starEach es X.env := by rfl) (hpl : (backTo pos (starEach es X.env)).any (·.1) = false := by rfl) : PE X (.Call (.Name x p) (e :: es) [] pos) (tCB r t) := by
  intro pins s σ H Q I h
  refine wpAny_Call_Name_kw (ld_blt I hg hm hv ?_ hn hdb)
  exact PyProof.Rows.callWith_type1 (thn (ha pos pins s σ H _ I h) fun us s1 ⟨vs, H1, I1, r1, q1⟩ => hc pins s1 σ H1 vs us Q I1 r1 q1) he hpl
end
end L2

namespace L2
open PySem PySem.Spec PyProof.Rows

/-! ### lists of pairs as tables -/
section
variable {κ : Type} [DecidableEq κ]
def valV (kvs : List (κ × V)) (k : κ) : Option V := (kvs.find? fun kv => decide (kv.1 = k)).map (·.2)
/-- in its place, or at the end -/
def putK (kvs : List (κ × V)) (k : κ) (v : V) : List (κ × V) :=
  if (kvs.any fun kv => decide (kv.1 = k)) = true then kvs.map (fun kv => if kv.1 = k then (kv.1, v) else kv) else kvs ++ [(k, v)]
def dropK (kvs : List (κ × V)) (k : κ) : List (κ × V) := kvs.filter fun kv => decide (kv.1 ≠ k)

theorem valV_pos {p : κ × V} {r : List (κ × V)} {k : κ} (e : p.1 = k) : valV (p :: r) k = some p.2 := by simp [valV, List.find?_cons, e]
theorem valV_neg {p : κ × V} {r : List (κ × V)} {k : κ} (e : ¬ p.1 = k) : valV (p :: r) k = valV r k := by simp [valV, List.find?_cons, e]
theorem valV_any (k : κ) : ∀ kvs : List (κ × V), (kvs.any fun kv => decide (kv.1 = k)) = (valV kvs k).isSome
  | [] => rfl
  | p :: r => by
    rw [List.any_cons]
    by_cases e : p.1 = k
    · simp only [valV_pos e, decide_eq_true e, Bool.true_or, Option.isSome_some]
    · rw [valV_neg e, decide_eq_false e, Bool.false_or]; exact valV_any k r
theorem valV_map (k j : κ) (y : V) : ∀ kvs : List (κ × V), valV (kvs.map fun kv => if kv.1 = k then (kv.1, y) else kv) j = (valV kvs j).map fun x => if j = k then y else x
  | [] => rfl
  | p :: r => by
    have ih := valV_map k j y r
    rw [List.map_cons]
    by_cases h : p.1 = k
    · rw [if_pos h]
      by_cases e : p.1 = j
      · rw [valV_pos (p := (p.1, y)) e, valV_pos e, Option.map_some, if_pos (e.symm.trans h)]
      · rw [valV_neg (p := (p.1, y)) e, valV_neg e, ih]
    · rw [if_neg h]
      by_cases e : p.1 = j
      · rw [valV_pos (p := p) e, valV_pos e, Option.map_some, if_neg (fun z => h (e.trans z))]
      · rw [valV_neg (p := p) e, valV_neg e, ih]
theorem valV_snoc (k j : κ) (y : V) : ∀ kvs : List (κ × V), valV kvs k = none → valV (kvs ++ [(k, y)]) j = if j = k then some y else valV kvs j
  | [], _ => by
    by_cases e : k = j
    · rw [if_pos e.symm]; exact valV_pos (p := (k, y)) e
    · rw [if_neg (fun z => e z.symm)]; exact valV_neg (p := (k, y)) e
  | p :: r, hn => by
    rw [List.cons_append]
    have hk : ¬ p.1 = k := fun z => by rw [valV_pos z] at hn; cases hn
    rw [valV_neg hk] at hn
    have ih := valV_snoc k j y r hn
    by_cases e : p.1 = j
    · rw [valV_pos e, valV_pos e, if_neg (fun z => hk (e.trans z))]
    · rw [valV_neg e, valV_neg e, ih]
theorem valV_put (kvs : List (κ × V)) (k j : κ) (y : V) : valV (putK kvs k y) j = if j = k then some y else valV kvs j := by
  unfold putK
  by_cases a : (kvs.any fun kv => decide (kv.1 = k)) = true
  · rw [if_pos a, valV_map]
    rw [valV_any] at a
    by_cases e : j = k
    · obtain ⟨x, hx⟩ := Option.isSome_iff_exists.mp a
      rw [if_pos e, e, hx, Option.map_some, if_pos rfl]
    · rw [if_neg e]
      cases valV kvs j with
      | none => rfl
      | some x => rw [Option.map_some, if_neg e]
  · rw [if_neg a]
    refine valV_snoc k j y kvs ?_
    rw [valV_any] at a
    cases q : valV kvs k with
    | none => rfl
    | some x => rw [q] at a; exact (a rfl).elim
theorem length_putK (kvs : List (κ × V)) (k : κ) (v : V) : (putK kvs k v).length ≤ kvs.length + 1 := by
  unfold putK
  split
  · rw [List.length_map]; omega
  · rw [List.length_append, List.length_cons, List.length_nil]; omega
theorem putK_new {kvs : List (κ × V)} {k : κ} (v : V) (h : valV kvs k = none) : putK kvs k v = kvs ++ [(k, v)] := by
  unfold putK
  rw [valV_any, h]
  exact if_neg (by decide)

theorem RelO.isSome_eq {o : Option V} {u : Option Value} (r : RelO o u) : o.isSome = u.isSome := by
  cases o with
  | none => cases u with
    | none => rfl
    | some _ => exact (show False from r).elim
  | some _ => cases u with
    | none => exact (show False from r).elim
    | some _ => rfl
theorem RelO.getD {o : Option V} {u : Option Value} {d : V} {d' : Value} (r : RelO o u) (rd : RelV d d') : RelV (o.getD d) (u.getD d') := by
  cases o with
  | none => cases u with
    | none => exact rd
    | some _ => exact (show False from r).elim
  | some _ => cases u with
    | none => exact (show False from r).elim
    | some _ => exact r

/-- raw tables of the same keys -/
theorem KV.val {kvs : List (κ × V)} {vs : List (κ × Value)} (r : KV kvs vs) (k : κ) : RelO (valV kvs k) (valueAt vs k) := by
  unfold KV at r
  induction r with
  | nil => exact True.intro
  | @cons p q ps qs h t ih =>
    obtain ⟨h1, h2⟩ := h
    by_cases e : p.1 = k
    · have e' : q.1 = k := h1.symm.trans e
      have b : valueAt (q :: qs) k = some q.2 := by simp [valueAt, List.find?_cons, e']
      rw [valV_pos e, b]; exact h2
    · have e' : ¬ q.1 = k := fun z => e (h1.trans z)
      have b : valueAt (q :: qs) k = valueAt qs k := by simp [valueAt, List.find?_cons, e']
      rw [valV_neg e, b]; exact ih
theorem KV.any {kvs : List (κ × V)} {vs : List (κ × Value)} (r : KV kvs vs) (k : κ) : (kvs.any fun kv => decide (kv.1 = k)) = vs.any fun kv => decide (kv.1 = k) := by
  unfold KV at r
  induction r with
  | nil => rfl
  | cons h t ih => rw [List.any_cons, List.any_cons, ih, h.1]
theorem KV.repl {kvs : List (κ × V)} {vs : List (κ × Value)} (r : KV kvs vs) (k : κ) {y : V} {u : Value} (ry : RelV y u) :
    KV (kvs.map fun kv => if kv.1 = k then (kv.1, y) else kv) (vs.map fun kv => if kv.1 = k then (kv.1, u) else kv) := by
  unfold KV at r ⊢
  induction r with
  | nil => exact .nil
  | @cons p q ps qs h t ih =>
    rw [List.map_cons, List.map_cons]
    refine .cons ?_ ih
    obtain ⟨h1, h2⟩ := h
    by_cases e : p.1 = k
    · rw [if_pos e, if_pos (h1.symm.trans e)]; exact ⟨h1, ry⟩
    · rw [if_neg e, if_neg (fun z => e (h1.trans z))]; exact ⟨h1, h2⟩
theorem KV.put {kvs : List (κ × V)} {vs : List (κ × Value)} (r : KV kvs vs) (k : κ) {y : V} {u : Value} (ry : RelV y u) : KV (putK kvs k y) (stored vs k u) := by
  unfold putK stored
  rw [r.any k]
  by_cases e : (vs.any fun kv => decide (kv.1 = k)) = true
  · rw [if_pos e, if_pos e]; exact r.repl k ry
  · rw [if_neg e, if_neg e]; exact Paired.snoc r ⟨rfl, ry⟩
theorem KV.drop {kvs : List (κ × V)} {vs : List (κ × Value)} (r : KV kvs vs) (k : κ) : KV (dropK kvs k) (without vs k) := by
  unfold KV at r ⊢
  unfold dropK without
  induction r with
  | nil => exact .nil
  | @cons p q ps qs h t ih =>
    obtain ⟨h1, h2⟩ := h
    rw [List.filter_cons, List.filter_cons]
    by_cases e : p.1 = k
    · have a : ¬ decide (p.1 ≠ k) = true := by simp [e]
      have b : ¬ decide (q.1 ≠ k) = true := by simp [h1.symm.trans e]
      rw [if_neg a, if_neg b]; exact ih
    · have e' : ¬ q.1 = k := fun z => e (h1.trans z)
      have a : decide (p.1 ≠ k) = true := by simp [e]
      have b : decide (q.1 ≠ k) = true := by simp [e']
      rw [if_pos a, if_pos b]; exact .cons ⟨h1, h2⟩ ih
theorem KV.keys {kvs : List (κ × V)} {vs : List (κ × Value)} (r : KV kvs vs) : kvs.map (·.1) = vs.map (·.1) := by
  unfold KV at r
  induction r with
  | nil => rfl
  | cons h t ih => rw [List.map_cons, List.map_cons, ih, h.1]
theorem KV.length {kvs : List (κ × V)} {vs : List (κ × Value)} (r : KV kvs vs) : kvs.length = vs.length := Paired.length r
end


/-! ### a tracked dict, its keys ints and texts or tuples of these -/
theorem kV_is {P : Program} {w : World} {k : Key} {u : Value} (r : RelV (kV k) u) : (mixKind P w).is k u = true := by
  cases k with
  | inl i => obtain ⟨t, e⟩ := (show ∃ t, u = Value.int i t from r); subst e; exact mixKind_int P w i t
  | inr x => obtain ⟨t, e⟩ := (show ∃ t, u = Value.str x t from r); subst e; exact mixKind_str P w x t
theorem items_are {P : Program} {w : World} : ∀ {ks : List Key} {us : List Value}, Vals (ks.map kV) us → ItemsAre (mixKind P w) ks us
  | [], _, r => by rw [List.map_nil] at r; cases r; exact .nil
  | k :: ks, _, r => by
    rw [List.map_cons] at r
    cases r with
    | cons h t => exact .cons (kV_is h) (items_are t)

/-- raw entries of a dict with tuple keys -/
abbrev KT (H : Hp) : List (List Key × V) → List (List Key × Addr × Value) → Prop := Paired fun p q => p.1 = q.1 ∧ H q.2.1 = some (.tup (p.1.map kV)) ∧ RelV p.2 q.2.2
theorem KT.val {H : Hp} {kvs : List (List Key × V)} {xs : List (List Key × Addr × Value)} (r : KT H kvs xs) (k : List Key) : RelO (valV kvs k) ((atKey xs k).map (·.2)) := by
  induction r with
  | nil => exact True.intro
  | @cons p q ps qs h t ih =>
    obtain ⟨h1, _, h2⟩ := h
    by_cases e : p.1 = k
    · have e' : q.1 = k := h1.symm.trans e
      have b : atKey (q :: qs) k = some q.2 := by simp [atKey, List.find?_cons, e']
      rw [valV_pos e, b]; exact h2
    · have e' : ¬ q.1 = k := fun z => e (h1.trans z)
      have b : atKey (q :: qs) k = atKey qs k := by simp [atKey, List.find?_cons, e']
      rw [valV_neg e, b]; exact ih
theorem KT.repl {H : Hp} {kvs : List (List Key × V)} {xs : List (List Key × Addr × Value)} (r : KT H kvs xs) (k : List Key) {y : V} {u : Value} (ry : RelV y u) :
    KT H (kvs.map fun kv => if kv.1 = k then (kv.1, y) else kv) (xs.map (putAt k u)) := by
  induction r with
  | nil => exact .nil
  | @cons p q ps qs h t ih =>
    rw [List.map_cons, List.map_cons]
    refine .cons ?_ ih
    obtain ⟨h1, h2, h3⟩ := h
    unfold putAt
    by_cases e : p.1 = k
    · rw [if_pos e, if_pos (h1.symm.trans e)]; exact ⟨h1, h2, ry⟩
    · rw [if_neg e, if_neg (fun z => e (h1.trans z))]; exact ⟨h1, h2, h3⟩
theorem KT.put {H : Hp} {kvs : List (List Key × V)} {xs : List (List Key × Addr × Value)} (r : KT H kvs xs) (k : List Key) {b : Addr} {y : V} {u : Value} (hb : H b = some (.tup (k.map kV))) (ry : RelV y u) :
    KT H (putK kvs k y) (storedH xs k b u) := by
  have e : (kvs.any fun kv => decide (kv.1 = k)) = (atKey xs k).isSome := by
    rw [valV_any, (r.val k).isSome_eq, Option.isSome_map]
  unfold putK storedH
  rw [e]
  by_cases q : (atKey xs k).isSome = true
  · rw [if_pos q, if_pos q]; exact r.repl k ry
  · rw [if_neg q, if_neg q]; exact Paired.snoc r ⟨rfl, hb, ry⟩
theorem KT.keeps {H H' : Hp} {kvs : List (List Key × V)} {xs : List (List Key × Addr × Value)} (r : KT H kvs xs) (ht : ∀ b ys, H b = some (.tup ys) → H' b = some (.tup ys)) : KT H' kvs xs :=
  Paired.mapP r fun _ _ z => ⟨z.1, ht _ _ z.2.1, z.2.2⟩

section
variable {P : Program} {w : World} {H : Hp} {h : Heap} {a : Addr}
theorem rd_of {u : HO} (ok : HOk P w H h) (e : Rd H a u) : ObjOk P w H h a u := e.ok ok
theorem dk_rd {kvs : List (Key × V)} (ok : HOk P w H h) (e : Rd H a (.dK kvs)) : kvs.length ≤ sizeLine ∧ (a == sysModules) = false ∧ ∃ vs, KV kvs vs ∧ h.DictOf (mixKind P w) a vs :=
  show ObjOk P w H h a (.dK kvs) from rd_of ok e
theorem dk_of {kvs : List (Key × V)} (ok : HOk P w H h) (e : H a = some (.dK kvs)) : kvs.length ≤ sizeLine ∧ (a == sysModules) = false ∧ ∃ vs, KV kvs vs ∧ h.DictOf (mixKind P w) a vs := dk_rd ok (.inl e)
/-- a tracked tuple of ints and texts is a key -/
theorem key_of {ks : List Key} (ok : HOk P w H h) (e : H a = some (.tup (ks.map kV))) : (tupleKind (mixKind P w)).is h ks a := by
  obtain ⟨_, its, r, o, h1, h2, n, h3⟩ := (show ObjOk P w H h a (.tup (ks.map kV)) from ok a _ e)
  exact ⟨o, its.toArray, n, h1, h2, h3, by simpa using items_are r⟩
theorem dt_rd {kvs : List (List Key × V)} (ok : HOk P w H h) (e : Rd H a (.dT kvs)) : kvs.length ≤ sizeLine ∧ (a == sysModules) = false ∧
    ∃ xs, KT H kvs xs ∧ h.DictOfH (tupleKind (mixKind P w)) a xs := by
  obtain ⟨z, y, xs, r, o, es, ep, h1, h2, h3, h4, h5⟩ := (show ObjOk P w H h a (.dT kvs) from rd_of ok e)
  refine ⟨z, y, xs, r, o, es, ep, h1, h2, h3, h4, fun x hx => ?_, h5⟩
  have all : ∀ {l : List (List Key × V)} {m : List (List Key × Addr × Value)}, KT H l m → ∀ x ∈ m, (tupleKind (mixKind P w)).is h x.1 x.2.1 := by
    intro l m q
    induction q with
    | nil => intro x hx; exact nomatch hx
    | @cons p q ps qs hq t ih =>
      intro x hx
      rcases List.mem_cons.mp hx with e | hx
      · subst e
        exact key_of ok (by rw [← hq.1]; exact hq.2.1)
      · exact ih x hx
  exact all r x hx
theorem dt_of {kvs : List (List Key × V)} (ok : HOk P w H h) (e : H a = some (.dT kvs)) : kvs.length ≤ sizeLine ∧ (a == sysModules) = false ∧
    ∃ xs, KT H kvs xs ∧ h.DictOfH (tupleKind (mixKind P w)) a xs := dt_rd ok (.inl e)
end

/-- what the dict at a holds at the key y -/
def DGet (H : Hp) (a : Addr) (y : V) (r : Option V) : Prop :=
  (∃ kvs k, Rd H a (.dK kvs) ∧ y = kV k ∧ r = valV kvs k) ∨ ∃ kvs k b, Rd H a (.dT kvs) ∧ y = .ref b ∧ H b = some (.tup (k.map kV)) ∧ r = valV kvs k
/-- the heap behind a[y] = v -/
def DPut (H : Hp) (a : Addr) (y v : V) (H' : Hp) : Prop :=
  (∃ kvs k, H a = some (.dK kvs) ∧ y = kV k ∧ kvs.length < sizeLine ∧ H' = upd H a (.dK (putK kvs k v))) ∨
  ∃ kvs k b, H a = some (.dT kvs) ∧ y = .ref b ∧ H b = some (.tup (k.map kV)) ∧ kvs.length < sizeLine ∧ H' = upd H a (.dT (putK kvs k v))
theorem DGet.k {H : Hp} {a : Addr} {kvs : List (Key × V)} {k : Key} (e : H a = some (.dK kvs)) : DGet H a (kV k) (valV kvs k) := .inl ⟨kvs, k, .inl e, rfl, rfl⟩
theorem DGet.t {H : Hp} {a b : Addr} {kvs : List (List Key × V)} {k : List Key} (e : H a = some (.dT kvs)) (eb : H b = some (.tup (k.map kV))) : DGet H a (.ref b) (valV kvs k) := .inr ⟨kvs, k, b, .inl e, rfl, eb, rfl⟩
theorem DPut.k {H : Hp} {a : Addr} {kvs : List (Key × V)} {k : Key} {v : V} (e : H a = some (.dK kvs)) (hl : kvs.length < sizeLine) : DPut H a (kV k) v (upd H a (.dK (putK kvs k v))) := .inl ⟨kvs, k, e, rfl, hl, rfl⟩
theorem DPut.t {H : Hp} {a b : Addr} {kvs : List (List Key × V)} {k : List Key} {v : V} (e : H a = some (.dT kvs)) (eb : H b = some (.tup (k.map kV))) (hl : kvs.length < sizeLine) :
    DPut H a (.ref b) v (upd H a (.dT (putK kvs k v))) := .inr ⟨kvs, k, b, e, rfl, eb, hl, rfl⟩


section
variable {X : Cx} {pins : List (Addr × Obj)} {σ : St} {H : Hp} {s : Shared} {a : Addr} {y v : V} {u r : Value} {o : Option V} {A : Around} {E : Value → Shared → Prop}

theorem Inv.big (I : Inv X pins σ H s) : sysModules < s.heap.objs.size := by
  have h : mainGlobals < s.heap.objs.size := (I.mod.glob.keeps I.bk).lt
  exact Nat.lt_trans (by decide) h

/-- d[y], there -/
theorem d_getItem {Q : Value → Shared → Prop} (hu : A.units + 1 < cLine) (I : Inv X pins σ H s) (g : DGet H a y (some v)) (ry : RelV y u) (h : ∀ w' s', Inv X pins σ H s' → RelV v w' → Q w' s') :
    wpAny (model X.prog X.w) A (getItem (.ref a) u) Q E s := by
  rcases g with ⟨kvs, k, e, ey, l⟩ | ⟨kvs, k, b, e, ey, eb, l⟩
  · subst ey
    obtain ⟨z, hd, vs, rel, dd⟩ := dk_rd I.hok e
    obtain ⟨w', hw, rw'⟩ := RelO.some_of (v := v) (o := valueAt vs k) (by rw [l]; exact rel.val k)
    exact wpAny_getItem_of (kV_is ry) dd.mapOf hw (h w' _ (I.tok _) rw')
  · subst ey
    cases (show u = Value.ref b from ry)
    obtain ⟨z, hd, xs, rel, dd⟩ := dt_rd I.hok e
    obtain ⟨w', hw, rw'⟩ := RelO.some_of (v := v) (o := (atKey xs k).map (·.2)) (by rw [l]; exact rel.val k)
    obtain ⟨p, hp, hp2⟩ := Option.map_eq_some_iff.mp hw
    refine wpAny_getItem_heap (tupleKind_room_in1 hu) (key_of I.hok eb) dd hp ?_
    rw [hp2]
    exact h w' _ (I.tok _) rw'
/-- a dict's object is replaced -/
theorem d_write {h' : Heap} {t' : Nat} {ob : HO} (I : Inv X pins σ H s) (mu : Mut (H a)) (hs : Heap.SameBut a s.heap h') (he : ∃ q, h'.get? a = some q) (new : ObjOk X.prog X.w (upd H a ob) h' a ob) :
    Inv X pins σ (upd H a ob) { s with heap := h', toks := t' } :=
  I.write (x := a) (e := a) mu (.inl rfl) (fun b q hb z => (hs.2 b hb).trans z) he new
theorem dk_new {P : Program} {w : World} {H' : Hp} {h' : Heap} {kvs : List (Key × V)} {vs : List (Key × Value)} (z : kvs.length ≤ sizeLine) (hd : (a == sysModules) = false) (rel : KV kvs vs) (dd : h'.DictOf (mixKind P w) a vs) :
    ObjOk P w H' h' a (.dK kvs) := ⟨z, hd, vs, rel, dd⟩
/-- d[y] = v -/
theorem d_setItem {H' : Hp} {Q : Unit → Shared → Prop} (hu : A.units + 1 < cLine) (I : Inv X pins σ H s) (g : DPut H a y v H') (ry : RelV y u) (rv : RelV v r) (h : ∀ s', Inv X pins σ H' s' → Q () s') :
    wpAny (model X.prog X.w) A (setItem (.ref a) u r) Q E s := by
  rcases g with ⟨kvs, k, e, ey, l, eH⟩ | ⟨kvs, k, b, e, ey, eb, l, eH⟩
  · subst ey eH
    obtain ⟨z, hd, vs, rel, dd⟩ := dk_of I.hok e
    have hz : vs.length ≤ sizeLine := by rw [← rel.length]; exact z
    have hl : (putK kvs k v).length ≤ sizeLine := by have := length_putK kvs k v; omega
    refine wpAny_setItem_pairs (hsz := hz) (kV_is ry) dd fun h' dd' hs => h _ ?_
    have he : ∃ q, h'.get? a = some q := let ⟨q, _, _, hq, _⟩ := dd'; ⟨q, hq⟩
    exact d_write I (by rw [e]; exact True.intro) hs he (dk_new hl hd (rel.put k rv) dd')
  · subst ey eH
    cases (show u = Value.ref b from ry)
    obtain ⟨z, hd, xs, rel, dd⟩ := dt_of I.hok e
    have hz : xs.length ≤ sizeLine := by rw [← Paired.length rel]; exact z
    have hl : (putK kvs k v).length ≤ sizeLine := by have := length_putK kvs k v; omega
    refine wpAny_setItem_heap (hsz := hz) (tupleKind_room_in1 hu) (key_of I.hok eb) dd fun h' dd' hs => h _ ?_
    obtain ⟨q, es, ep, hq, h2, h3, h4, _, h5⟩ := dd'
    refine d_write I (by rw [e]; exact True.intro) hs ⟨q, hq⟩ ⟨hl, hd, _, (rel.put k eb rv).keeps fun c ys ec => ?_, q, es, ep, hq, h2, h3, h4, h5⟩
    rw [upd_ne (ne_of ec e (fun z => nomatch z))]
    exact ec
end

section
variable {X : Cx} {pins : List (Addr × Obj)} {σ : St} {H : Hp} {s : Shared} {a : Addr} {kvs : List (Key × V)} {k : Key} {u : Value} {A : Around} {E : Value → Shared → Prop}
/-- len(d) -/
theorem d_len {Q : Value → Shared → Prop} (I : Inv X pins σ H s) (e : Rd H a (.dK kvs)) (h : ∀ t s', Inv X pins σ H s' → Q (.int kvs.length t) s') : wpAny (model X.prog X.w) A (call (.builtin "len") [.ref a]) Q E s := by
  obtain ⟨z, hd, vs, rel, dd⟩ := dk_rd I.hok e
  refine call_len_dict hd dd (by rw [← rel.length]; rw [sizeLine_eq] at z; omega) ?_
  rw [← rel.length]
  exact h _ _ (I.tok _)
end


/-! ### readings and rules -/
/-- the element of a subscription, not a slice -/
def NoSl (i : Expr) : Prop := ∀ ov iv, subscripted i false ov iv = operate [ov, iv] (getItem ov iv)
theorem subD_of {prog : Program} {w : World} {A : Around} {E : Value → Shared → Prop} {s : Shared} {env : Env} {value slice : Expr} {pos : Pos} {T id : String} {Q : Value → Shared → Prop}
    (hl : typeLookup (.type T) "__getitem__" = pure (some (.builtin id))) (hs : NoSl slice)
    (h : wpAny (model prog w) A (eval value env) (fun o s₁ => wpAny (model prog w) A (eval slice env) (fun i s₂ => s₂.TypeIs o T ∧ wpAny (model prog w) A (getItem o i) Q E s₂) E s₁) E s) :
    wpAny (model prog w) A (eval (.Subscript value slice pos) env) Q E s := by
  refine Subscript_ (wpAny_mono h (fun o s₁ h₁ => wpAny_mono h₁ (fun i s₂ h₂ => ?_) fun _ _ x => x) fun _ _ x => x)
  obtain ⟨hT, h₂⟩ := h₂
  unfold subscriptTail
  refine wpAny_bind ?_
  rw [getitemInPython_of_ne hT.not_modules]
  refine wpAny_bind (wpAny_specialOf hT hl ?_)
  have fin : wpAny (model prog w) A (subscripted slice false o i) (fun r s₃ => wpAny (model prog w) A (letTemporaryGo value o r >>= fun _ => pure r) Q E s₃) E s₂ := by
    rw [hs o i]
    exact wpAny_operating (wpAny_mono h₂ (fun r s₃ h₃ => wpAny_bind (wpAny_letTemporaryGo (wpAny_pure h₃))) fun _ _ x => x)
  first
    | exact wpAny_pure (wpAny_bind fin)
    | exact wpAny_bind (wpAny_pure (wpAny_bind fin))
    | exact wpAny_bind fin

theorem dict_typeIs {X : Cx} {pins : List (Addr × Obj)} {σ : St} {H : Hp} {s : Shared} {a : Addr} {y : V} {o : Option V} (I : Inv X pins σ H s) (g : DGet H a y o) : s.TypeIs (.ref a) "dict" := by
  rcases g with ⟨kvs, k, e, _, _⟩ | ⟨kvs, k, b, e, _, _, _⟩
  · obtain ⟨_, _, vs, _, dd⟩ := dk_rd I.hok e
    exact dd.typeIs
  · obtain ⟨_, _, xs, _, dd⟩ := dt_rd I.hok e
    exact dd.typeIs
/-- d[y] -/
def tDGet (td ty : TE) : TE := fun σ H Q => td σ H fun x H1 => ty σ H1 fun y H2 => ∃ a v, x = .ref a ∧ DGet H2 a y (some v) ∧ Q v H2
/-- y in d, y not in d -/
def tDIn (ty td : TE) : TE := fun σ H Q => ty σ H fun y H1 => td σ H1 fun x H2 => ∃ a o, x = .ref a ∧ DGet H2 a y o ∧ Q (.bl o.isSome) H2
def tDNotIn (ty td : TE) : TE := fun σ H Q => ty σ H fun y H1 => td σ H1 fun x H2 => ∃ a o, x = .ref a ∧ DGet H2 a y o ∧ Q (.bl (!o.isSome)) H2
/-- d[y] = v -/
def sDPut (td ty tv : TE) : TS := fun D σ H => tv σ H fun v H1 => td σ H1 fun x H2 => ty σ H2 fun y H3 => ∃ a H4, x = .ref a ∧ DPut H3 a y v H4 ∧ D.nx σ H4
/-- d[y] op= v -/
def sDAug (td ty tv : TE) (rd : V → V → Hp → VK → Prop) : TS := fun D σ H => td σ H fun x H1 => ty σ H1 fun y H2 => ∃ a v, x = .ref a ∧ DGet H2 a y (some v) ∧
  tv σ H2 fun y2 H3 => rd v y2 H3 fun z H4 => ∃ H5, DPut H4 a y z H5 ∧ D.nx σ H5
/-- del d[y] -/
def sDDel (td ty : TE) : TS := fun D σ H => td σ H fun x H1 => ty σ H1 fun y H2 => ∃ a kvs k, x = .ref a ∧ H2 a = some (.dK kvs) ∧ y = kV k ∧ (valV kvs k).isSome = true ∧ D.nx σ (upd H2 a (.dK (dropK kvs k)))

section
variable {X : Cx} {o i e value : Expr} {pos pos' tpos : Pos} {td ty tv : TE}
theorem pe_dget (hu : X.A.units + 1 < cLine) (ho : PE X o td) (hi : PE X i ty) (hs : NoSl i) : PE X (.Subscript o i pos) (tDGet td ty) := by
  intro pins s σ H Q I h
  refine subD_of PySem.F.slot_dict_getitem.lookup hs (thn (ho pins s σ H _ I h) fun u s1 ⟨x, H1, I1, rx, q1⟩ => thn (hi pins s1 σ H1 _ I1 q1) fun iv s2 ⟨y, H2, I2, ry, a, v, ex, g, q2⟩ => ?_)
  subst ex
  obtain rfl : u = Value.ref a := rx
  exact ⟨dict_typeIs I2 g, d_getItem hu I2 g ry fun w' s3 I3 rw' => ⟨v, H2, I3, rw', q2⟩⟩
theorem ps_dput (hu : X.A.units + 1 < cLine) (ho : PE X o td) (hi : PE X i ty) (hv : PE X value tv) (hs : swapsWith value (some (.Subscript o i pos')) pos.line X.env = pure false) :
    PS X (.Assign [.Subscript o i pos'] value pos) (sDPut td ty tv) := by
  intro pins s σ H D I h
  refine wpAny_Assign_Subscript (thn (hv pins s σ H _ I h) fun r s1 ⟨v, H1, I1, rv, q1⟩ => thn (ho pins s1 σ H1 _ I1 q1) fun u s2 ⟨x, H2, I2, rx, q2⟩ => thn (hi pins s2 σ H2 _ I2 q2) fun iv s3 ⟨y, H3, I3, ry, a, H4, ex, g, q3⟩ => ?_) hs
  subst ex
  obtain rfl : u = Value.ref a := rx
  exact d_setItem hu I3 g ry rv fun s4 I4 => ⟨σ, H4, I4, q3⟩
end


/-! ### displays -/
theorem dk_empty {P : Program} {w : World} {H : Hp} (h : Heap) (hb : sysModules < h.objs.size) : ObjOk P w H (h.push { cls := .type "dict", data := .dict #[] }) h.objs.size (.dK []) :=
  ⟨Nat.zero_le _, beq_eq_false_iff_ne.mpr (Ne.symm (Nat.ne_of_lt hb)), [], .nil, Heap.DictOf.new h⟩
/-- {}, to be a dict of the kind that is wanted -/
def tDNewK : TE := fun _ H Q => ∀ p, H p = none → Q (.ref p) (upd H p (.dK []))
def tDNewT : TE := fun _ H Q => ∀ p, H p = none → Q (.ref p) (upd H p (.dT []))
section
variable {X : Cx} {pos : Pos}
theorem pe_dnewK : PE X (.Dict [] [] pos) tDNewK := fun pins s σ H Q I h =>
  wpAny_Dict_empty ⟨.ref s.heap.objs.size, _, I.laid (a := s.heap.objs.size) (o := .dK []) (t' := s.toks) (fun _ _ q => Heap.get?_push_of_some _ q) (Nat.le_refl _) (dk_empty s.heap I.big), rfl, h _ (I.hok.fresh (Nat.le_refl _))⟩
end

/-- the pairs of a display, from the left -/
def tPairs : List (TE × TE) → St → Hp → (List (V × V) → Hp → Prop) → Prop
  | [], _, H, Q => Q [] H
  | (tk, tv) :: r, σ, H, Q => tk σ H fun x H1 => tv σ H1 fun y H2 => tPairs r σ H2 fun ps H3 => Q ((x, y) :: ps) H3
abbrev VV : List (V × V) → List (Value × Value) → Prop := Paired fun p q => RelV p.1 q.1 ∧ RelV p.2 q.2
def PPs (X : Cx) (pos : Pos) (keys : List (Option Expr)) (values : List Expr) (trs : List (TE × TE)) : Prop :=
  ∀ (pins : List (Addr × Obj)) (s : Shared) (σ : St) (H : Hp) (Q : List (V × V) → Hp → Prop), Inv X pins σ H s → tPairs trs σ H Q →
    wpAny (model X.prog X.w) X.A (evalPairs (pairTrees keys values X.env pos)) (fun vs s' => ∃ ps H', Inv X pins σ H' s' ∧ VV ps vs ∧ Q ps H') X.xe s
theorem pps_nil {X : Cx} {pos : Pos} : PPs X pos [] [] [] := fun pins s σ H Q I h => pairTrees_nil_walk ⟨[], H, I, .nil, h⟩
theorem pps_cons {X : Cx} {pos : Pos} {k v : Expr} {ks : List (Option Expr)} {vs : List Expr} {tk tv : TE} {trs : List (TE × TE)} (hk : PE X k tk) (hv : PE X v tv) (hr : PPs X pos ks vs trs) :
    PPs X pos (some k :: ks) (v :: vs) ((tk, tv) :: trs) := fun pins s σ H Q I h =>
  pairTrees_cons_walk (thn (hk pins s σ H _ I h) fun u s1 ⟨x, H1, I1, rx, q1⟩ => thn (hv pins s1 σ H1 _ I1 q1) fun w2 s2 ⟨y, H2, I2, ry, q2⟩ =>
    thn (hr pins s2 σ H2 _ I2 q2) fun ws s3 ⟨ps, H3, I3, rel, q3⟩ => ⟨(x, y) :: ps, H3, I3, .cons ⟨rx, ry⟩ rel, q3⟩)

def mergeK (kvs more : List (Key × V)) : List (Key × V) := more.foldl (fun acc kv => putK acc kv.1 kv.2) kvs
theorem KV.merge : ∀ {more : List (Key × V)} {rs : List (Key × Value)} {kvs : List (Key × V)} {vs : List (Key × Value)}, KV more rs → KV kvs vs → KV (mergeK kvs more) (merged vs rs) := by
  intro more rs kvs vs r
  unfold KV at r
  induction r generalizing kvs vs with
  | nil => intro q; exact q
  | @cons p q ps qs h t ih =>
    intro r0
    have e : KV (putK kvs p.1 p.2) (stored vs q.1 q.2) := by
      have := r0.put p.1 h.2
      rw [← h.1]; exact this
    exact ih e
theorem length_mergeK : ∀ (more kvs : List (Key × V)), (mergeK kvs more).length ≤ kvs.length + more.length
  | [], kvs => by show kvs.length ≤ kvs.length + 0; omega
  | p :: r, kvs => by
    have h1 := length_mergeK r (putK kvs p.1 p.2)
    have h2 := length_putK kvs p.1 p.2
    show (mergeK (putK kvs p.1 p.2) r).length ≤ _
    rw [List.length_cons]; omega
theorem carries_of {P : Program} {w : World} : ∀ {kvs : List (Key × V)} {ws : List (Value × Value)}, VV (kvs.map fun kv => (kV kv.1, kv.2)) ws → ∃ rs, Carries (mixKind P w) ws rs ∧ KV kvs rs
  | [], _, r => by rw [List.map_nil] at r; cases r; exact ⟨[], True.intro, .nil⟩
  | p :: kvs, _, r => by
    rw [List.map_cons] at r
    cases r with
    | @cons a b as bs h t =>
      obtain ⟨rs, c, q⟩ := carries_of (P := P) (w := w) t
      obtain ⟨b1, b2⟩ := b
      exact ⟨(p.1, b2) :: rs, ⟨kV_is h.1, rfl, c⟩, .cons ⟨rfl, h.2⟩ q⟩
/-- {k: v, ..} with keys ints and texts; the new dict stands empty while the pairs are made -/
def tDisp (trs : List (TE × TE)) : TE := fun σ H Q => ∀ p, H p = none → tPairs trs σ (upd H p (.dK [])) fun ps H2 => H2 p = some (.dK []) ∧ ∃ kvs : List (Key × V), ps = kvs.map (fun kv => (kV kv.1, kv.2)) ∧ kvs.length ≤ 15 ∧ Q (.ref p) (upd H2 p (.dK (mergeK [] kvs)))
theorem pe_disp {X : Cx} {pos : Pos} {keys : List (Option Expr)} {values : List Expr} {trs : List (TE × TE)} (h : PPs X pos keys values trs) (hall : keys.all (·.isSome) = true) (hl : keys.length = values.length) (h0 : keys ≠ [])
    (h15 : keys.length ≤ 15) : PE X (.Dict keys values pos) (tDisp trs) := by
  intro pins s σ H Q I q
  have hn := I.hok.fresh (Nat.le_refl s.heap.objs.size)
  have I1 := I.laid (a := s.heap.objs.size) (o := .dK []) (h' := s.heap.push { cls := .type "dict", data := .dict #[] }) (t' := s.toks) (fun _ _ q => Heap.get?_push_of_some _ q) (Nat.le_refl _) (dk_empty s.heap I.big)
  refine wpAny_Dict_walk (knd := mixKind X.prog X.w) hall hl h0 h15 (thn (h pins _ σ _ _ I1 (q _ hn)) fun ws s2 ⟨ps, H2, I2, rel, e, kvs, ep, lk, q2⟩ => ?_)
  subst ep
  obtain ⟨rs, c, rk⟩ := carries_of (P := X.prog) (w := X.w) rel
  obtain ⟨z, hd, vs0, r0, dd⟩ := dk_of I2.hok e
  cases r0
  refine ⟨rs, c, dd, fun h' dd' hs => ⟨.ref s.heap.objs.size, _, ?_, rfl, q2⟩⟩
  have hz : (mergeK [] kvs).length ≤ sizeLine := by
    have h1 := length_mergeK kvs []
    rw [List.length_nil] at h1
    rw [sizeLine_eq]; omega
  have he : ∃ q, h'.get? s.heap.objs.size = some q := let ⟨q, _, _, hq, _⟩ := dd'; ⟨q, hq⟩
  exact d_write I2 (by rw [e]; exact True.intro) hs he (dk_new hz hd (rk.merge .nil) dd')


/-! ### methods -/
/-- a method call o.m(e) of a built-in, with one argument: what must be seen of the text -/
structure M1 (X : Cx) (o : Expr) (m : Str) (apos : Pos) (e : Expr) (cpos : Pos) : Prop where
  base : attributeBase o m X.env (eval o X.env) = eval o X.env
  few : ((backTo cpos (starEach [e] X.env)).all (fun x => !x.1) && (backToKw cpos (keywordEach [] X.env)).all (fun x => x.1.isSome)
    && decide (([e] : List Expr).length + ([] : List Keyword).length + (if ([] : List Keyword).isEmpty then 0 else 1) < 30)) = true
  line : (apos.endLine == cpos.line) = true
  trees : backTo cpos (starEach [e] X.env) = [(false, eval e X.env)]
structure M2 (X : Cx) (o : Expr) (m : Str) (apos : Pos) (e f : Expr) (cpos : Pos) : Prop where
  base : attributeBase o m X.env (eval o X.env) = eval o X.env
  few : ((backTo cpos (starEach [e, f] X.env)).all (fun x => !x.1) && (backToKw cpos (keywordEach [] X.env)).all (fun x => x.1.isSome)
    && decide (([e, f] : List Expr).length + ([] : List Keyword).length + (if ([] : List Keyword).isEmpty then 0 else 1) < 30)) = true
  line : (apos.endLine == cpos.line) = true
  trees : backTo cpos (starEach [e, f] X.env) = [(false, eval e X.env), (false, eval f X.env)]

/-- a is a dict, whatever its keys -/
def IsD (H : Hp) (a : Addr) : Prop := (∃ kvs, Rd H a (.dK kvs)) ∨ ∃ kvs, Rd H a (.dT kvs)
theorem isD_at {X : Cx} {pins : List (Addr × Obj)} {σ : St} {H : Hp} {s : Shared} {a : Addr} (I : Inv X pins σ H s) (d : IsD H a) :
    s.TypeIs (.ref a) "dict" ∧ (∀ b, Value.ref a = .ref b → ∃ ob, s.heap.get? b = some ob ∧ ob.dict = none) ∧ (a == sysModules) = false := by
  rcases d with ⟨kvs, e⟩ | ⟨kvs, e⟩
  · obtain ⟨_, hd, vs, _, dd⟩ := dk_rd I.hok e
    refine ⟨dd.typeIs, fun b q => ?_, hd⟩
    cases q
    obtain ⟨ob, _, _, h1, h2, _⟩ := dd
    exact ⟨ob, h1, h2.2.1⟩
  · obtain ⟨_, hd, xs, _, dd⟩ := dt_rd I.hok e
    refine ⟨dd.typeIs, fun b q => ?_, hd⟩
    cases q
    obtain ⟨ob, _, _, h1, h2, _⟩ := dd
    exact ⟨ob, h1, h2.2.1⟩

section
variable {X : Cx} {pins : List (Addr × Obj)} {σ : St} {H : Hp} {s : Shared} {a : Addr} {y d : V} {u r : Value} {o : Option V} {A : Around} {E : Value → Shared → Prop}
/-- d.get(y, x) -/
theorem d_get2 {Q : Value → Shared → Prop} (hu : A.units + 1 < cLine) (I : Inv X pins σ H s) (g : DGet H a y o) (ry : RelV y u) (rd : RelV d r) (h : ∀ w' s', Inv X pins σ H s' → RelV (o.getD d) w' → Q w' s') :
    wpAny (model X.prog X.w) A (call (.builtin "dict.get") [.ref a, u, r]) Q E s := by
  rcases g with ⟨kvs, k, e, ey, l⟩ | ⟨kvs, k, b, e, ey, eb, l⟩
  · subst ey
    obtain ⟨z, hd, vs, rel, dd⟩ := dk_rd I.hok e
    refine call_meetsIn PySem.F.slot_dict_get dd.typeIs PySem.F.entry_dict_get (PySem.F.args_dict_get_3 _ _ _) (meets_dict_get_default (mixKind X.prog X.w) a (kV_is ry) hd r) ⟨_, dd.mapOf, h _ _ (I.tok _) ?_⟩
    rw [l]
    exact (rel.val k).getD rd
  · subst ey
    cases (show u = Value.ref b from ry)
    obtain ⟨z, hd, xs, rel, dd⟩ := dt_rd I.hok e
    refine call_meetsIn PySem.F.slot_dict_get dd.typeIs PySem.F.entry_dict_get (PySem.F.args_dict_get_3 _ _ _) (meetsH_dict_get_default (tupleKind (mixKind X.prog X.w)) a b hd r) ⟨tupleKind_room_in1 hu, k, xs, key_of I.hok eb, dd, h _ _ (I.tok _) ?_⟩
    rw [l]
    exact (rel.val k).getD rd
end

def tDGet1 (td ty : TE) : TE := fun σ H Q => td σ H fun x H1 => ∃ a, x = .ref a ∧ IsD H1 a ∧ ty σ H1 fun y H2 => ∃ o, DGet H2 a y o ∧ Q (o.getD .non) H2
def tDGet2 (td ty tx : TE) : TE := fun σ H Q => td σ H fun x H1 => ∃ a, x = .ref a ∧ IsD H1 a ∧ ty σ H1 fun y H2 => tx σ H2 fun z H3 => ∃ o, DGet H3 a y o ∧ Q (o.getD z) H3
/-- d.pop(k): there; d.pop(k, x): there or not -/
def tDPop1 (td ty : TE) : TE := fun σ H Q => td σ H fun x H1 => ∃ a, x = .ref a ∧ IsD H1 a ∧ ty σ H1 fun y H2 => ∃ kvs k v, H2 a = some (.dK kvs) ∧ y = kV k ∧ valV kvs k = some v ∧ Q v (upd H2 a (.dK (dropK kvs k)))
def tDPop2 (td ty tx : TE) : TE := fun σ H Q => td σ H fun x H1 => ∃ a, x = .ref a ∧ IsD H1 a ∧ ty σ H1 fun y H2 => tx σ H2 fun z H3 => ∃ kvs k, H3 a = some (.dK kvs) ∧ y = kV k ∧
  (∀ v, valV kvs k = some v → Q v (upd H3 a (.dK (dropK kvs k)))) ∧ (valV kvs k = none → Q z H3)
section
variable {X : Cx} {o e f : Expr} {apos cpos : Pos} {td ty tx : TE}
theorem pe_dget2 (hu : X.A.units + 1 < cLine) (ho : PE X o td) (he : PE X e ty) (hf : PE X f tx) (m : M2 X o "get" apos e f cpos) : PE X (.Call (.Attribute o "get" apos) [e, f] [] cpos) (tDGet2 td ty tx) := by
  intro pins s σ H Q I h
  refine wpAny_Call_method m.base m.few m.line PySem.F.plainAttrs_dict PySem.F.slot_dict_get PySem.F.type_dict_get (thn (ho pins s σ H _ I h) fun u s1 ⟨x, H1, I1, rx, a, ex, d, q1⟩ => ?_)
  subst ex
  obtain rfl : u = Value.ref a := rx
  obtain ⟨t1, t2, _⟩ := isD_at I1 d
  refine ⟨t1, t2, ?_⟩
  rw [m.trees]
  refine Calls.callWith_builtin rfl (Calls.evalArgs_plain (Calls.spliced_cons (thn (he pins s1 σ H1 _ I1 q1) fun iv s2 ⟨y, H2, I2, ry, q2⟩ =>
    Calls.spliced_cons (thn (hf pins s2 σ H2 _ I2 q2) fun fv s3 ⟨z, H3, I3, rz, ov, g, q3⟩ => Calls.spliced_nil ?_))))
  exact d_get2 hu I3 g ry rz fun w' s4 I4 rw' => ⟨_, H3, I4, rw', q3⟩
end

/-! ### dict(d): a copy -/
section
variable {X : Cx} {pins : List (Addr × Obj)} {σ : St} {H : Hp} {s : Shared} {a : Addr} {kvs : List (Key × V)} {A : Around} {E : Value → Shared → Prop}
theorem d_copyOf {Q : Value → Shared → Prop} (I : Inv X pins σ H s) (e : Rd H a (.dK kvs)) (h : ∀ p s', H p = none → Inv X pins σ (upd H p (.dK kvs)) s' → Q (.ref p) s') : wpAny (model X.prog X.w) A (call (.type "dict") [.ref a]) Q E s := by
  obtain ⟨z, hd, vs, rel, dd⟩ := dk_rd I.hok e
  refine kt_call_dict hd dd (by rw [← rel.length]; exact z) fun h' dd' hs => ?_
  refine h _ _ (I.hok.fresh (Nat.le_refl _)) (I.laid (a := s.heap.objs.size) (o := .dK kvs) (t' := s.toks) (fun b q hq => ?_) (Nat.le_refl _) (dk_new z (beq_eq_false_iff_ne.mpr (Ne.symm (Nat.ne_of_lt I.big))) rel dd'))
  exact (hs.2 b (Nat.ne_of_lt (Heap.lt_size hq))).trans (Heap.get?_push_of_some _ hq)
end


section
variable {X : Cx} {pins : List (Addr × Obj)} {σ : St} {H : Hp} {s : Shared} {a : Addr} {y : V} {u : Value} {A : Around} {E : Value → Shared → Prop}
end
end L2

namespace HT
open PySem PyProof.Rows

/-- t < u of tuples of ints -/
def lexLt : List Int → List Int → Bool
  | [], [] => false
  | [], _ :: _ => true
  | _ :: _, [] => false
  | x :: xs, y :: ys => if x = y then lexLt xs ys else decide (x < y)
section
open PySem.SeqAt
open PySem.AutoSeq1 (wpAny_loadPart')
open PySem.MeetsSeq PySem.MeetsSeq2 PySem.MeetsSeq3

end

section
variable {prog : Program} {w : World} {A : Around} {E : Value → Shared → Prop} {s : Shared}

/-! ### t[a:b], not the whole -/
/-- a slice's bound as a place among n (d where it is left out) -/
def sIx (n d : Nat) : Option Int → Nat
  | none => d
  | some v => if v < 0 then (v + (n : Int)).toNat else min v.toNat n
end
end HT

namespace L2
open PySem PySem.Spec PyProof.Rows

/-! ### the parts of a slice -/
abbrev TO := St → Hp → (Option Int → Hp → Prop) → Prop
/-- a slice's part (left out, or an int) -/
def PO (X : Cx) (e : Option Expr) (t : TO) : Prop :=
  ∀ (pins : List (Addr × Obj)) (s : Shared) (σ : St) (H : Hp) (Q : Option Int → Hp → Prop), Inv X pins σ H s → t σ H Q →
    wpAny (model X.prog X.w) X.A (evalPart e X.env) (fun u s' => ∃ o H', Inv X pins σ H' s' ∧ IsPart u o ∧ Q o H') X.xe s
def tNoPart : TO := fun _ H Q => Q none H
def tPart (t : TE) : TO := fun σ H Q => t σ H fun x H1 => ∃ i, x = .int i ∧ Q (some i) H1

theorem intsAre_of {ns : List Int} : ∀ {us : List Value}, Vals (ns.map V.int) us → IntsAre us ns := by
  induction ns with
  | nil => intro us r; rw [List.map_nil] at r; cases r; exact .nil
  | cons n ns ih =>
    intro us r
    rw [List.map_cons] at r
    cases r with
    | cons r1 r2 =>
      obtain ⟨t, e⟩ := r1
      subst e
      exact .cons n t (ih r2)

section
variable {X : Cx} {e : Expr} {te : TE} {lo hi : Option Expr} {tl th : TO} {pos p2 : Pos}

theorem po_some (h : PE X e te) : PO X (some e) (tPart te) := by
  intro pins s σ H Q I hw
  rw [evalPart_some]
  refine thn (h pins s σ H _ I hw) fun u s1 ⟨x, H1, I1, r1, q1⟩ => ?_
  obtain ⟨i, rfl, q⟩ := q1
  obtain ⟨t, rfl⟩ := r1
  exact ⟨some i, H1, I1, .int i t, q⟩

/-- what a slice of a value is, by values: the slice object stands at sl -/
def SlR (X : Cx) (r : V → Option Int → Option Int → Hp → VK → Prop) : Prop :=
  ∀ (pins : List (Addr × Obj)) (s : Shared) (σ : St) (H : Hp) (x : V) (v vl vu : Value) (lo hi : Option Int) (sl : Addr) (Q : VK), Inv X pins σ H s → RelV x v → s.heap.IsSliceOf sl vl vu .none → IsPart vl lo → IsPart vu hi → r x lo hi H Q →
    ∃ T id, typeLookup (.type T) "__getitem__" = pure (some (.builtin id)) ∧ s.TypeIs v T ∧ wpAny (model X.prog X.w) X.A (getItem v (.ref sl)) (EP X pins σ Q) X.xe s
theorem SlR.or {r r' : V → Option Int → Option Int → Hp → VK → Prop} (h : SlR X r) (h' : SlR X r') : SlR X (fun x lo hi H Q => r x lo hi H Q ∨ r' x lo hi H Q) := by
  intro pins s σ H x v vl vu lo hi sl Q I rx hs pl pu q
  rcases q with q | q
  · exact h pins s σ H x v vl vu lo hi sl Q I rx hs pl pu q
  · exact h' pins s σ H x v vl vu lo hi sl Q I rx hs pl pu q
def tSl (r : V → Option Int → Option Int → Hp → VK → Prop) (te : TE) (tl th : TO) : TE := fun σ H Q => te σ H fun x H1 => tl σ H1 fun l H2 => th σ H2 fun u H3 => r x l u H3 Q
/-- a[lo:hi], any a -/
theorem pe_slice {r : V → Option Int → Option Int → Hp → VK → Prop} (hr : SlR X r) (he : PE X e te) (hl : PO X lo tl) (hu : PO X hi th) : PE X (.Subscript e (.Slice lo hi none p2) pos) (tSl r te tl th) := by
  intro pins s σ H Q I h
  refine Subscript_ (thn (he pins s σ H _ I h) fun v s1 ⟨x, H1, I1, r1, q1⟩ => ?_)
  refine wpAny_Slice (thn (hl pins s1 σ H1 _ I1 q1) fun vl s2 ⟨l, H2, I2, pl, q2⟩ => thn (hu pins s2 σ H2 _ I2 q2) fun vu s3 ⟨u, H3, I3, pu, q3⟩ => ?_)
  rw [evalPart_none]
  refine wpAny_pure ?_
  have I4 : Inv X pins σ H3 { s3 with heap := s3.heap.push { cls := .type "slice", data := .fields #[vl, vu, .none] } } := I3.kept (t' := s3.toks) fun b ob q => Heap.get?_push_of_some _ q
  obtain ⟨T, id, hT, ht, hg⟩ := hr pins { s3 with heap := s3.heap.push { cls := .type "slice", data := .fields #[vl, vu, .none] } } σ H3 x v vl vu l u s3.heap.objs.size Q I4 r1 (Heap.IsSliceOf.new ..) pl pu q3
  show wpAny (model X.prog X.w) X.A (subscriptTail e (.Slice lo hi none p2) v (.ref s3.heap.objs.size)) (EP X pins σ Q) X.xe { s3 with heap := s3.heap.push { cls := .type "slice", data := .fields #[vl, vu, .none] } }
  exact tail_any (ops := [.ref s3.heap.objs.size, v]) ht hT hg (by with_unfolding_all rfl)

/-- the items of xs[lo:hi] -/
def cutV (xs : List V) (lo hi : Option Int) : List V := (xs.drop (HT.sIx xs.length 0 lo)).take (HT.sIx xs.length xs.length hi - HT.sIx xs.length 0 lo)
theorem cutV_length (xs : List V) (lo hi : Option Int) : (cutV xs lo hi).length ≤ xs.length := by
  unfold cutV
  rw [List.length_take, List.length_drop]
  omega
/-- t[lo:hi], not the whole of it (the whole would be t itself) -/
def rSlT (K : PySem.W.Frag) : V → Option Int → Option Int → Hp → VK → Prop := fun x lo hi H Q => ∃ a xs, x = .ref a ∧ SqT K H a xs ∧
  ¬ (HT.sIx xs.length 0 lo = 0 ∧ HT.sIx xs.length xs.length hi = xs.length) ∧ ∀ p, H p = none → Q (.ref p) (upd H p (.tup (cutV xs lo hi)))
/-! ### t < u, t + u -/
def rLtT (K : PySem.W.Frag) : R2 := fun x y H Q => ∃ a b ns ms, x = .ref a ∧ y = .ref b ∧ SqT K H a (ns.map V.int) ∧ SqT K H b (ms.map V.int) ∧ Q (.bl (HT.lexLt ns ms)) H
/-- t + u, t not empty: u empty gives t itself -/
def rCatT (K : PySem.W.Frag) : R2 := fun x y H Q => ∃ a b xs ys, x = .ref a ∧ y = .ref b ∧ SqT K H a xs ∧ SqT K H b ys ∧ xs ≠ [] ∧ xs.length + ys.length ≤ sizeLine ∧
  (ys = [] → Q (.ref a) H) ∧ (ys ≠ [] → ∀ p, H p = none → Q (.ref p) (upd H p (.tup (xs ++ ys))))
end
end L2

namespace L2
open PySem PySem.Spec PyProof.Rows

/-! ### places -/
/-- the place that an index of any sign means -/
def ixN (n : Nat) (i : Int) : Option Nat := if 0 ≤ i then (if i < n then some i.toNat else none) else if -(n : Int) ≤ i then some (i + n).toNat else none
def atI {α : Type} (xs : List α) (i : Int) : Option α := (ixN xs.length i).bind fun j => xs[j]?
theorem ixN_seq {n : Nat} {i : Int} {j : Nat} (h : ixN n i = some j) : seqIndex? i n = some j ∧ j < n ∧ -(n : Int) ≤ i ∧ i < n := by
  unfold ixN at h
  by_cases h0 : 0 ≤ i
  · rw [if_pos h0] at h
    by_cases h1 : i < n
    · rw [if_pos h1] at h
      have e : i.toNat = j := Option.some.inj h
      exact ⟨by rw [seqIndex_of h0 h1, e], by omega, by omega, h1⟩
    · rw [if_neg h1] at h; cases h
  · rw [if_neg h0] at h
    by_cases h1 : -(n : Int) ≤ i
    · rw [if_pos h1] at h
      have e : (i + n).toNat = j := Option.some.inj h
      exact ⟨by rw [seqIndex_neg (by omega) h1, e], by omega, h1, by omega⟩
    · rw [if_neg h1] at h; cases h
theorem atI_get {α : Type} {xs : List α} {i : Int} {v : α} (h : atI xs i = some v) : ∃ j, seqIndex? i xs.length = some j ∧ xs[j]? = some v ∧ j < xs.length ∧ -(xs.length : Int) ≤ i ∧ i < xs.length := by
  unfold atI at h
  cases e : ixN xs.length i with
  | none => rw [e] at h; cases h
  | some j =>
    rw [e] at h
    obtain ⟨h1, h2, h3, h4⟩ := ixN_seq e
    exact ⟨j, h1, h, h2, h3, h4⟩
theorem atI_nat {α : Type} {xs : List α} {j : Nat} {v : α} (h : xs[j]? = some v) : atI xs (j : Int) = some v := by
  have hj : j < xs.length := (List.getElem?_eq_some_iff.mp h).1
  have e : ixN xs.length (j : Int) = some j := by
    unfold ixN
    rw [if_pos (by omega), if_pos (by omega)]; simp
  unfold atI; rw [e]; exact h
/-! ### what may be subscripted -/
/-- what stands as an index of a plain subscript -/
def PlainIx (b : Expr) : Prop := ∀ o i, subscripted b false o i = operate [o, i] (getItem o i)
/-- a subscript by values -/
def IxR (X : Cx) (r : R2) : Prop :=
  ∀ (value slice : Expr) (pins : List (Addr × Obj)) (s : Shared) (σ : St) (H : Hp) (x y : V) (v u : Value) (Q : VK), Inv X pins σ H s → RelV x v → RelV y u → r x y H Q →
    subscripted slice false v u = operate [v, u] (getItem v u) → wpAny (model X.prog X.w) X.A (subscriptTail value slice v u) (EP X pins σ Q) X.xe s
/-- a call of a builtin's method by values: the receiver, the arguments -/
def MtR (X : Cx) (id : String) (r : V → List V → Hp → VK → Prop) : Prop :=
  ∀ (pins : List (Addr × Obj)) (s : Shared) (σ : St) (H : Hp) (x : V) (xs : List V) (v : Value) (us : List Value) (Q : VK), Inv X pins σ H s → RelV x v → Vals xs us → r x xs H Q →
    wpAny (model X.prog X.w) X.A (call (.builtin id) (v :: us)) (EP X pins σ Q) X.xe s
section
variable {X : Cx} {a b : Expr} {ta tb : TE} {pos : Pos}
theorem IxR.or {r r' : R2} (h : IxR X r) (h' : IxR X r') : IxR X (fun x y H Q => r x y H Q ∨ r' x y H Q) := by
  intro value slice pins s σ H x y v u Q I rx ry q hs
  rcases q with q | q
  · exact h value slice pins s σ H x y v u Q I rx ry q hs
  · exact h' value slice pins s σ H x y v u Q I rx ry q hs
theorem MtR.or {id : String} {r r' : V → List V → Hp → VK → Prop} (h : MtR X id r) (h' : MtR X id r') : MtR X id (fun x xs H Q => r x xs H Q ∨ r' x xs H Q) := by
  intro pins s σ H x xs v us Q I rx rs q
  rcases q with q | q
  · exact h pins s σ H x xs v us Q I rx rs q
  · exact h' pins s σ H x xs v us Q I rx rs q
/-- a[b] -/
theorem pe_ix {r : R2} (hr : IxR X r) (ha : PE X a ta) (hb : PE X b tb) (hs : PlainIx b) : PE X (.Subscript a b pos) (tOp r ta tb) := by
  intro pins s σ H Q I h
  exact Subscript_ (binT ha hb I h fun v u s2 x y H2 I2 rx ry q => hr a b pins s2 σ H2 x y v u Q I2 rx ry q (hs _ _))

def rIxL (K : PySem.W.Frag) : R2 := fun x y H Q => ∃ p xs i v, x = .ref p ∧ y = .int i ∧ SqL K H p xs ∧ atI xs i = some v ∧ Q v H
def rIxT (K : PySem.W.Frag) : R2 := fun x y H Q => ∃ p xs i v, x = .ref p ∧ y = .int i ∧ SqT K H p xs ∧ atI xs i = some v ∧ Q v H
def rIxS : R2 := fun x y H Q => ∃ z i c, x = .str z ∧ y = .int i ∧ z.length ≤ sizeLine ∧ atI z.cps.toList i = some c ∧ Q (.str ⟨#[c]⟩) H
theorem ix_list : IxR X (rIxL X.K) := by
  intro value slice pins s σ H x y v u Q I rx ry h hs
  obtain ⟨p, xs, i, z, rfl, rfl, hq, he, q⟩ := h
  cases rx
  obtain ⟨t, rfl⟩ := ry
  obtain ⟨its, r, pl, hz⟩ := I.list hq
  obtain ⟨j, h1, h2, h3, h4, h5⟩ := atI_get he
  obtain ⟨w, ew, rw'⟩ := r.get h2
  have hl := r.length
  have hn := line63
  have fin : EP X pins σ Q w s := ⟨z, H, I, rw', q⟩
  by_cases h0 : 0 ≤ i
  · have hj : i.toNat = j := by
      rw [seqIndex_of h0 h5] at h1
      exact Option.some.inj h1
    exact item_listR pl.isList h0 (by omega) (by rw [hj]; simpa using ew) fin hs
  · have hj : (i + (its.toArray.size : Int)).toNat = j := by
      rw [seqIndex_neg (by omega) h4] at h1
      rw [List.size_toArray, ← hl]
      exact Option.some.inj h1
    exact subscriptTail_builtinR (x := w) pl.isList.typeIs slot_list_getitem.lookup
      (wpAny_getItem_list_neg (Q := fun r s' => r = w ∧ EP X pins σ Q r s') pl.isList (by omega) (by rw [List.size_toArray] <;> omega) (by omega) (by rw [hj]; simpa using ew) ⟨rfl, fin⟩) hs
theorem ix_str : IxR X rIxS := by
  intro value slice pins s σ H x y v u Q I rx ry h hs
  obtain ⟨z, i, c, rfl, rfl, hz, he, q⟩ := h
  obtain ⟨t, rfl⟩ := rx
  obtain ⟨t', rfl⟩ := ry
  obtain ⟨j, h1, h2, h3, h4, h5⟩ := atI_get he
  have hl : z.cps.toList.length = z.length := by simp [Str.length]
  rw [hl] at h1 h4 h5
  have hn := line63
  exact tail_any (typeIs_str s z t) slot_str_getitem.lookup (getItem_str (c := c) (by
    have e1 : decide (i < -(2 ^ 63 : Int)) = false := decide_eq_false (by omega)
    have e2 : decide (i ≥ 2 ^ 63) = false := decide_eq_false (by omega)
    rw [e1, e2, Bool.or_false]) (by rw [h1]; simpa using h2) ⟨.str ⟨#[c]⟩, H, I.tok _, ⟨_, rfl⟩, q⟩) hs
/-- list, tuple or str -/
def rIx (K : PySem.W.Frag) : R2 := fun x y H Q => rIxL K x y H Q ∨ rIxT K x y H Q ∨ rIxS x y H Q
/-! ### xs[i] = v, any sign -/
theorem Inv.lst {pins : List (Addr × Obj)} {σ : St} {H : Hp} {s : Shared} {p : Addr} {xs : List V} (I : Inv X pins σ H s) (h : H p = some (.lst xs)) :
    ∃ (its : List Value) (n : Nat), Vals xs its ∧ s.heap.get? p = some { cls := .type "list", data := .seq its.toArray n } ∧ xs.length ≤ sizeLine := by
  obtain ⟨z, its, n, r, e⟩ := I.hok p _ h
  exact ⟨its, n, r, e, z⟩
def rSetL : V → V → V → Hp → (Hp → Prop) → Prop := fun o i v H Q => ∃ p xs k j, o = .ref p ∧ i = .int k ∧ H p = some (.lst xs) ∧ ixN xs.length k = some j ∧ Q (upd H p (.lst (xs.set j v)))
/-! ### slices -/
theorem slice_bounds (lo hi : Option Int) (n : Nat) : (sliceBounds lo hi none n).1 = ((HT.sIx n 0 lo : Nat) : Int) ∧ (sliceBounds lo hi none n).2.1 = ((HT.sIx n n hi : Nat) : Int) ∧ (sliceBounds lo hi none n).2.2 = 1 := by
  refine ⟨?_, ?_, rfl⟩
  · cases lo with
    | none => simp [sliceBounds, HT.sIx]
    | some i =>
      simp only [sliceBounds, HT.sIx, Option.getD_none, show (1 : Int) > 0 by decide, if_true]
      by_cases h : i < 0
      · simp only [h, if_true] <;> omega
      · simp only [h, if_false] <;> omega
  · cases hi with
    | none => simp [sliceBounds, HT.sIx]
    | some i =>
      simp only [sliceBounds, HT.sIx, Option.getD_none, show (1 : Int) > 0 by decide, if_true]
      by_cases h : i < 0
      · simp only [h, if_true] <;> omega
      · simp only [h, if_false] <;> omega
theorem slicePick_cut (its : List Value) (lo hi : Option Int) : slicePick its.toArray lo hi none = ((its.drop (HT.sIx its.length 0 lo)).take (HT.sIx its.length its.length hi - HT.sIx its.length 0 lo)).toArray := by
  obtain ⟨h1, h2, h3⟩ := slice_bounds lo hi its.toArray.size
  unfold slicePick
  rw [h1, h2, h3]
  simp only [sliceRange_one, pick_run, List.size_toArray] <;> rfl
/-- xs[lo:hi] of a list: a new list -/
def rSlL (K : PySem.W.Frag) : V → Option Int → Option Int → Hp → VK → Prop := fun x lo hi H Q => ∃ a xs, x = .ref a ∧ SqL K H a xs ∧ ∀ p, H p = none → Q (.ref p) (upd H p (.lst (cutV xs lo hi)))
theorem sl_list : SlR X (rSlL X.K) := by
  intro pins s σ H x v vl vu lo hi sl Q I rx hs pl pu h
  obtain ⟨a, xs, rfl, hx, q⟩ := h
  cases rx
  obtain ⟨its, r, ht, hz⟩ := I.list hx
  have hlen := r.length
  refine ⟨"list", _, slot_list_getitem.lookup, ht.isList.typeIs, ?_⟩
  refine wpAny_getItem_list_slice ht.isList hs pl pu .none (by simp) ?_ (by rw [List.size_toArray] <;> omega)
  rw [slicePick_cut, ← hlen]
  refine ⟨.ref s.heap.objs.size, _, I.laid (t' := s.toks) (o := .lst (cutV xs lo hi)) (fun b ob q => Heap.get?_push_of_some _ q) (Nat.le_refl _) ?_, rfl, q _ (I.hok.fresh (Nat.le_refl _))⟩
  exact ⟨Nat.le_trans (cutV_length xs lo hi) hz, _, 0, (r.drop (HT.sIx xs.length 0 lo)).take (HT.sIx xs.length xs.length hi - HT.sIx xs.length 0 lo), Heap.get?_push_size _ rfl⟩

/-! ### in, not in: flat items -/
def flatV : V → Bool
  | .non => true
  | .bl _ => true
  | .int _ => true
  | .str _ => true
  | _ => false
/-- == of flat values -/
def eqV : V → V → Bool
  | .non, .non => true
  | .bl a, .bl b => a == b
  | .bl a, .int b => (if a then 1 else 0) == b
  | .int a, .bl b => a == (if b then 1 else 0)
  | .int a, .int b => a == b
  | .str a, .str b => a == b
  | _, _ => false
theorem eqAt_V {A : Around} {s : Shared} {y x : V} {u v : Value} (ry : RelV y u) (rx : RelV x v) (fy : flatV y = true) (fx : flatV x = true) : SeqAt.EqAt A s u v (eqV y x) := by
  cases y with
  | non =>
    cases ry
    cases x with
    | non => cases rx; exact SeqAt.EqAt.same _
    | bl b => cases rx; exact SeqAt.EqAt.none_bool b
    | int b => obtain ⟨t, rfl⟩ := rx; exact SeqAt.EqAt.none_int b t
    | str b => obtain ⟨t, rfl⟩ := rx; exact SeqAt.EqAt.none_str b t
    | _ => exact absurd (show false = true from fx) Bool.false_ne_true
  | bl a =>
    cases ry
    cases x with
    | non => cases rx; exact SeqAt.EqAt.bool_none a
    | bl b => cases rx; exact SeqAt.EqAt.bool_bool a b
    | int b => obtain ⟨t, rfl⟩ := rx; exact SeqAt.EqAt.bool_int a b t
    | str b => obtain ⟨t, rfl⟩ := rx; exact SeqAt.EqAt.bool_str a b t
    | _ => exact absurd (show false = true from fx) Bool.false_ne_true
  | int a =>
    obtain ⟨t', rfl⟩ := ry
    cases x with
    | non => cases rx; exact SeqAt.EqAt.int_none a t'
    | bl b => cases rx; exact SeqAt.EqAt.int_bool a t' b
    | int b => obtain ⟨t, rfl⟩ := rx; exact SeqAt.EqAt.int_int a t' b t
    | str b => obtain ⟨t, rfl⟩ := rx; exact SeqAt.EqAt.int_str a t' b t
    | _ => exact absurd (show false = true from fx) Bool.false_ne_true
  | str a =>
    obtain ⟨t', rfl⟩ := ry
    cases x with
    | non => cases rx; exact SeqAt.EqAt.str_none a t'
    | bl b => cases rx; exact SeqAt.EqAt.str_bool a t' b
    | int b => obtain ⟨t, rfl⟩ := rx; exact SeqAt.EqAt.str_int a t' b t
    | str b => obtain ⟨t, rfl⟩ := rx; exact SeqAt.EqAt.str_str a t' b t
    | _ => exact absurd (show false = true from fx) Bool.false_ne_true
  | _ => exact absurd (show false = true from fy) Bool.false_ne_true
/-- the items' answers, read off the values (a value's own answer does not lean on its token) -/
def eqU (x : V) (u : Value) : Bool := match u with
  | .none => eqV .non x
  | .bool b => eqV (.bl b) x
  | .int i _ => eqV (.int i) x
  | .str z _ => eqV (.str z) x
  | _ => false
def inV (x : V) (xs : List V) : Bool := xs.any fun y => eqV y x
/-- x in a list or tuple of flat items -/
def rIn (K : PySem.W.Frag) (neg : Bool) : R2 := fun x y H Q => ∃ p xs, y = .ref p ∧ (SqL K H p xs ∨ SqT K H p xs) ∧ flatV x = true ∧ xs.all flatV = true ∧ Q (.bl (if neg then !inV x xs else inV x xs)) H
/-! ### len, list(x), tuple(x) of any list or tuple that is read -/
theorem call_len_seq : CallR X (.builtin "len") (fun xs H Q => ∃ p ys, xs = [.ref p] ∧ (SqL X.K H p ys ∨ SqT X.K H p ys) ∧ Q (.int ys.length) H) := by
  intro pins s σ H xs us Q I r h
  obtain ⟨p, ys, rfl, hq, q⟩ := h
  obtain ⟨u, rfl, rx⟩ := vals1 r
  cases rx
  have hn := line63
  rcases hq with hq | hq
  · obtain ⟨its, r', pl, hz⟩ := I.list hq
    have hlen := r'.length
    exact Calls.call_len_list pl.isList (by simp only [List.size_toArray] <;> omega) ⟨.int ys.length, H, I.tok _, ⟨s.toks + 1, by rw [List.size_toArray, hlen]⟩, q⟩
  · obtain ⟨its, r', pl, hz⟩ := I.tuple hq
    have hlen := r'.length
    exact len_tuple pl (by simp only [List.size_toArray] <;> omega) ⟨.int ys.length, H, I.tok _, ⟨s.toks + 1, by rw [List.size_toArray, hlen]⟩, q⟩
theorem call_len_str : CallR X (.builtin "len") (fun xs H Q => ∃ z, xs = [.str z] ∧ z.length ≤ sizeLine ∧ Q (.int z.length) H) := by
  intro pins s σ H xs us Q I r h
  obtain ⟨z, rfl, hz, q⟩ := h
  obtain ⟨u, rfl, t, rfl⟩ := vals1 r
  have hn := line63
  exact len_str (by omega) ⟨.int z.length, H, I.tok _, ⟨_, rfl⟩, q⟩
theorem CallR.or {f : Value} {r r' : List V → Hp → VK → Prop} (h : CallR X f r) (h' : CallR X f r') : CallR X f (fun xs H Q => r xs H Q ∨ r' xs H Q) := by
  intro pins s σ H xs us Q I rs q
  rcases q with q | q
  · exact h pins s σ H xs us Q I rs q
  · exact h' pins s σ H xs us Q I rs q
theorem call_list_of : CallR X (.type "list") (fun xs H Q => ∃ p ys, xs = [.ref p] ∧ (SqL X.K H p ys ∨ SqT X.K H p ys) ∧ ∀ l, H l = none → Q (.ref l) (upd H l (.lst ys))) := by
  intro pins s σ H xs us Q I r h
  obtain ⟨p, ys, rfl, hq, q⟩ := h
  obtain ⟨u, rfl, rx⟩ := vals1 r
  cases rx
  have fin : ∀ (its : List Value), Vals ys its → ys.length ≤ sizeLine → ∀ (h' : Heap) (c' : Nat), (∀ b o', s.heap.get? b = some o' → h'.get? b = some o') →
      h'.get? s.heap.objs.size = some { cls := .type "list", dict := none, data := .seq its.toArray c', slots := #[] } → EP X pins σ Q (.ref s.heap.objs.size) { s with heap := h' } := fun its r' hz h' c' kp e =>
    ⟨.ref s.heap.objs.size, _, I.laid (t' := s.toks) kp (Nat.le_refl _) (show ObjOk X.prog X.w _ h' _ (.lst ys) from ⟨hz, its, c', r', e⟩), rfl, q _ (I.hok.fresh (Nat.le_refl _))⟩
  rcases hq with hq | hq
  · obtain ⟨its, r', pl, hz⟩ := I.list hq
    have hlen := r'.length
    obtain ⟨o, ho, hc, n, hd⟩ := pl.isList
    exact call_list_seq p (.inl rfl) ho hc hd (fun h' c' kp e => fin its r' hz h' c' kp e) (by simp only [List.size_toArray] <;> omega)
  · obtain ⟨its, r', pl, hz⟩ := I.tuple hq
    have hlen := r'.length
    obtain ⟨o, ho, hc, n, hd⟩ := pl
    exact call_list_seq p (.inr rfl) ho hc hd (fun h' c' kp e => fin its r' hz h' c' kp e) (by simp only [List.size_toArray] <;> omega)
/-! ### the call of a builtin's method: o.m(..) -/
/-- the value is of that builtin type -/
def tyV (K : PySem.W.Frag) (T : String) (x : V) (H : Hp) : Prop := match x with
  | .str _ => T = "str"
  | .int _ => T = "int"
  | .ref p => (T = "list" ∧ ∃ xs, SqL K H p xs) ∨ (T = "tuple" ∧ ∃ o, K.lookup p = some o ∧ o.cls = .type "tuple" ∧ o.dict = none) ∨
      (T = "dict" ∧ ((∃ kvs, H p = some (.dK kvs)) ∨ ∃ kvs, H p = some (.dT kvs))) ∨ (T = "set" ∧ ∃ S n, H p = some (.set S n))
  | _ => False
theorem tyV_is {pins : List (Addr × Obj)} {σ : St} {H : Hp} {s : Shared} {T : String} {x : V} {v : Value} (I : Inv X pins σ H s) (r : RelV x v) (ty : tyV X.K T x H) :
    s.TypeIs v T ∧ ∀ a, v = .ref a → ∃ ob, s.heap.get? a = some ob ∧ ob.dict = none := by
  cases x with
  | str z =>
    obtain ⟨t, rfl⟩ := r
    cases (show T = "str" from ty)
    exact ⟨typeIs_str s z t, fun _ e => nomatch e⟩
  | int i =>
    obtain ⟨t, rfl⟩ := r
    cases (show T = "int" from ty)
    exact ⟨typeIs_int s i t, fun _ e => nomatch e⟩
  | ref p =>
    cases r
    rcases ty with ⟨rfl, xs, hq⟩ | ⟨rfl, o, hk, hc, hd⟩ | ⟨rfl, hk⟩ | ⟨rfl, S, n, hk⟩
    · obtain ⟨its, _, pl, _⟩ := I.list hq
      refine ⟨pl.isList.typeIs, fun a e => ?_⟩
      cases e
      obtain ⟨o, n, e, c, hd, _⟩ := pl
      exact ⟨o, e, hd⟩
    · refine ⟨⟨o, I.kIn p o hk, hc⟩, fun a e => ?_⟩
      cases e
      exact ⟨o, I.kIn _ o hk, hd⟩
    · have z : ∃ o, s.heap.get? p = some o ∧ o.ExactDict := by
        rcases hk with ⟨kvs, hk⟩ | ⟨kvs, hk⟩
        · obtain ⟨_, _, _, _, o, _, _, e, ex, _⟩ := I.hok p _ hk
          exact ⟨o, e, ex⟩
        · obtain ⟨_, _, _, _, o, _, _, e, ex, _⟩ := I.hok p _ hk
          exact ⟨o, e, ex⟩
      obtain ⟨o, e, ex⟩ := z
      refine ⟨⟨o, e, ex.1⟩, fun a e2 => ?_⟩
      cases e2
      exact ⟨o, e, ex.2.1⟩
    · obtain ⟨o, _, _, _, e, ex, _⟩ := I.hok p _ hk
      refine ⟨⟨o, e, ex.1⟩, fun a e2 => ?_⟩
      cases e2
      exact ⟨o, e, ex.2.1⟩
  | _ => exact False.elim ty
def tBM0 (K : PySem.W.Frag) (T : String) (r : V → List V → Hp → VK → Prop) (to : TE) : TE := fun σ H Q => to σ H fun x H1 => tyV K T x H1 ∧ r x [] H1 Q
def tBM (K : PySem.W.Frag) (T : String) (r : V → List V → Hp → VK → Prop) (to : TE) (t : TA) : TE := fun σ H Q => to σ H fun x H1 => tyV K T x H1 ∧ t σ H1 fun xs H2 => r x xs H2 Q
variable {o e : Expr} {es : List Expr} {to : TE} {t : TA} {name : Str} {apos cpos : Pos} {T id : String} {r : V → List V → Hp → VK → Prop}
theorem pe_bm (pa : PlainAttrs T) (slot : Slot T name id) (hty : typeOf (.builtin id) = pure (.type "method_descriptor")) (hm : MtR X id r) (ho : PE X o to) (ha : PA X (e :: es) t)
    (hbase : attributeBase o name X.env (eval o X.env) = eval o X.env := by rfl)
    (hfew : ((backTo cpos (starEach (e :: es) X.env)).all (fun x => !x.1) && (backToKw cpos (keywordEach [] X.env)).all (fun x => x.1.isSome)
      && decide ((e :: es).length + ([] : List Keyword).length + (if ([] : List Keyword).isEmpty then 0 else 1) < 30)) = true := by rfl)
    (hline : (apos.endLine == cpos.line) = true := by rfl) (hs : starEach (e :: es) X.env = (false, eval e X.env) :: starEach es X.env := by rfl) (hplain : (backTo cpos (starEach es X.env)).any (·.1) = false := by rfl) :
    PE X (.Call (.Attribute o name apos) (e :: es) [] cpos) (tBM X.K T r to t) := by
  intro pins s σ H Q I h
  refine wpAny_Call_method_late hbase hfew hline rfl (thn (ho pins s σ H _ I h) fun v s1 ⟨x, H1, I1, r1, ty, q1⟩ => ?_)
  obtain ⟨h1, h2⟩ := tyV_is I1 r1 ty
  refine ⟨T, id, pa, slot, hty, h1, h2, ?_⟩
  have hA := ha cpos pins s1 σ H1 _ I1 q1
  rw [hs] at hA ⊢
  refine Calls.callWith_builtin (by show (false || (backTo cpos (starEach es X.env)).any (·.1)) = false; rw [hplain] <;> rfl) (Calls.evalArgs_plain ?_)
  exact thn hA fun us s2 ⟨vs, H2, I2, r2, q2⟩ => hm pins s2 σ H2 x vs v us Q I2 r1 r2 q2
/- xs.append(e), list.index on a module's tuple .. are MtR facts of 06m -/
end
end L2

namespace L2
open PySem PySem.Spec PyProof.Rows

def MtM (X : Cx) (id : String) (r : V → List V → Hp → VK → Prop) : Prop :=
  ∀ (pins : List (Addr × Obj)) (s : Shared) (σ : St) (H : Hp) (x : V) (xs : List V) (v : Value) (us : List Value) (Q : VK), Inv X pins σ H s → RelV x v → Vals xs us → r x xs H Q →
    wpAny (model X.prog X.w) X.A (call (.builtin id) (v :: us)) (EP X pins σ Q) X.xe s

/-! ### lists of values -/
theorem Vals.one : ∀ {x : V} {us : List Value}, Vals [x] us → ∃ u, us = [u] ∧ RelV x u
  | _, _, .cons r .nil => ⟨_, rfl, r⟩
theorem Vals.two : ∀ {x y : V} {us : List Value}, Vals [x, y] us → ∃ u v, us = [u, v] ∧ RelV x u ∧ RelV y v
  | _, _, _, .cons r (.cons q .nil) => ⟨_, _, rfl, r, q⟩
theorem Vals.zero : ∀ {us : List Value}, Vals [] us → us = []
  | _, .nil => rfl
theorem Vals.dropLast {xs : List V} {us : List Value} (h : Vals xs us) : Vals xs.dropLast us.dropLast := by
  induction h with
  | nil => exact .nil
  | cons r t ih =>
    cases t with
    | nil => exact .nil
    | cons q t' => exact .cons r ih
theorem Vals.eraseIdx : ∀ {xs : List V} {us : List Value} (i : Nat), Vals xs us → Vals (xs.eraseIdx i) (us.eraseIdx i)
  | _, _, _, .nil => .nil
  | _, _, 0, .cons _ t => t
  | _, _, i + 1, .cons r t => .cons r (Vals.eraseIdx i t)
theorem Vals.reverse {xs : List V} {us : List Value} (h : Vals xs us) : Vals xs.reverse us.reverse := by
  induction h with
  | nil => exact .nil
  | cons r t ih => rw [List.reverse_cons, List.reverse_cons]; exact Vals.append ih (.cons r .nil)
section
variable {X : Cx} {pins : List (Addr × Obj)} {σ : St} {H : Hp} {s : Shared} {l b : Addr} {xs ys zs : List V}

/-! ### the two steps: a tracked list is rewritten, a new list is laid -/
theorem Inv.lset {its its' : List Value} {n : Nat} {f : Array Value → Array Value} {t' : Nat} (I : Inv X pins σ H s) (hH : H l = some (.lst xs))
    (e : s.heap.get? l = some { cls := .type "list", data := .seq its.toArray n }) (hf : f its.toArray = its'.toArray) (hv : Vals ys its') (hz : ys.length ≤ sizeLine) :
    Inv X pins σ (upd H l (.lst ys)) { s with heap := s.heap.update l (Obj.mapSeq f), toks := t' } := by
  have q := PySem.IsL.update e f
  rw [hf] at q
  refine I.write (x := l) (e := l) (by rw [hH]; exact trivial) (.inl rfl) (fun b' u hb hu => (Heap.get?_update_other s.heap (Obj.mapSeq f) (Ne.symm hb)).trans hu) ⟨_, q⟩ ?_
  exact ⟨hz, its', _, hv, q⟩
theorem Inv.lnew {its : List Value} {t' : Nat} (I : Inv X pins σ H s) (hv : Vals ys its) (hz : ys.length ≤ sizeLine) :
    Inv X pins σ (upd H s.heap.objs.size (.lst ys)) { s with heap := s.heap.push { cls := .type "list", data := .seq its.toArray }, toks := t' } :=
  I.laid (fun _ _ q => Heap.get?_push_of_some _ q) (Nat.le_refl _) ⟨hz, its, 0, hv, Heap.get?_push_size _ rfl⟩
theorem Inv.fresh (I : Inv X pins σ H s) : H s.heap.objs.size = none := I.hok.fresh (Nat.le_refl _)
theorem Inv.lstM (I : Inv X pins σ H s) (hH : H l = some (.lst xs)) : xs.length ≤ sizeLine ∧ ∃ (its : List Value) (n : Nat), Vals xs its ∧ xs.length = its.length ∧ s.heap.get? l = some { cls := .type "list", data := .seq its.toArray n } := by
  obtain ⟨z, its, n, r, e⟩ := I.hok l _ hH
  exact ⟨z, its, n, r, r.length, e⟩

end

section
variable {X : Cx}

/-! ### methods -/
def rAppend : V → List V → Hp → VK → Prop := fun x vs H Q => ∃ l xs y, x = .ref l ∧ vs = [y] ∧ H l = some (.lst xs) ∧ xs.length < sizeLine ∧ Q .non (upd H l (.lst (xs ++ [y])))
theorem mt_append : MtM X "list.append" rAppend := by
  intro pins s σ H x vs v us Q I rx rv h
  obtain ⟨l, xs, y, rfl, rfl, hH, hz, q⟩ := h
  cases rx
  obtain ⟨u, rfl, ru⟩ := rv.one
  obtain ⟨z, its, n, r, hl, e⟩ := I.lstM hH
  refine call_meets F.slot_list_append ⟨_, e, rfl⟩ F.entry_list_append (F.args_list_append_2 _ _) (PySem.list_append l its.toArray n u (by rw [List.size_toArray]; omega)) ⟨e, ?_⟩
  refine ⟨.non, _, I.lset (its' := its ++ [u]) hH e (by simp) (r.append (.cons ru .nil)) ?_, rfl, q⟩
  rw [List.length_append, List.length_singleton]
  omega

def rExtend : V → List V → Hp → VK → Prop := fun x vs H Q => ∃ l b xs zs, x = .ref l ∧ vs = [.ref b] ∧ H l = some (.lst xs) ∧ H b = some (.lst zs) ∧ xs.length + zs.length ≤ sizeLine ∧ Q .non (upd H l (.lst (xs ++ zs)))
def rPop : V → List V → Hp → VK → Prop := fun x vs H Q => ∃ l xs y, x = .ref l ∧ vs = [] ∧ H l = some (.lst xs) ∧ xs[xs.length - 1]? = some y ∧ Q y (upd H l (.lst xs.dropLast))
def rPopAt : V → List V → Hp → VK → Prop := fun x vs H Q => ∃ l xs i k y, x = .ref l ∧ vs = [.int i] ∧ H l = some (.lst xs) ∧ -(2 ^ 63) ≤ i ∧ i < 2 ^ 63 ∧ seqIndex? i xs.length = some k ∧ xs[k]? = some y ∧ Q y (upd H l (.lst (xs.eraseIdx k)))
def rReverse : V → List V → Hp → VK → Prop := fun x vs H Q => ∃ l xs, x = .ref l ∧ vs = [] ∧ H l = some (.lst xs) ∧ Q .non (upd H l (.lst xs.reverse))
def rClear : V → List V → Hp → VK → Prop := fun x vs H Q => ∃ l xs, x = .ref l ∧ vs = [] ∧ H l = some (.lst xs) ∧ Q .non (upd H l (.lst []))
/-! ### list + list, list += list, list * int -/
def rCat : R2 := fun x y H Q => ∃ l b xs zs, x = .ref l ∧ y = .ref b ∧ H l = some (.lst xs) ∧ H b = some (.lst zs) ∧ xs.length + zs.length ≤ sizeLine ∧ ∀ p, H p = none → Q (.ref p) (upd H p (.lst (xs ++ zs)))
theorem op_cat : OpR X (binaryOp .Add) rCat := by
  intro pins s σ H x y v u Q I rx ry h
  obtain ⟨l, b, xs, zs, rfl, rfl, hH, hB, hz, q⟩ := h
  cases rx
  cases ry
  obtain ⟨z, its, n, r, hl, e⟩ := I.lstM hH
  obtain ⟨z2, its2, n2, r2, hl2, e2⟩ := I.lstM hB
  refine PySem.P.add_list e e2 ?_ (by rw [List.size_toArray, List.size_toArray]; omega)
  have ea : its.toArray ++ its2.toArray = (its ++ its2).toArray := by simp
  rw [ea]
  exact ⟨.ref _, _, I.lnew (t' := s.toks) (r.append r2) (by rw [List.length_append]; omega), rfl, q _ I.fresh⟩
/-- a list times an int (a negative one is nothing) -/
def rRep : R2 := fun x y H Q => ∃ l k xs, x = .ref l ∧ y = .int k ∧ H l = some (.lst xs) ∧ -(2 ^ 63) ≤ k ∧ k < 2 ^ 63 ∧ xs.length * k.toNat ≤ sizeLine ∧
  ∀ p, H p = none → Q (.ref p) (upd H p (.lst (List.replicate k.toNat xs).flatten))
/-! ### del xs[i] -/
end

/-! ### xs[a:b] = ys -/
section
variable {prog : Program} {w : World} {A : Around} {E : Value → Shared → Prop} {s : Shared}
end

section
variable {X : Cx}
end
end L2

namespace Att
open PySem PySem.W PySem.Calls PyProof.Rows

/-! ### the script -/
theorem ints_of_wellAll {P : Params} {h : Heap} : ∀ (ns : List Int) (vs : List Value), WellAll P h vs (ns.map WData.int) → IntsAre vs ns := by
  intro ns
  induction ns with
  | nil =>
    intro vs w
    rw [List.map_nil] at w
    cases w
    exact .nil
  | cons n ns ih =>
    intro vs w
    rw [List.map_cons] at w
    cases w with
    | cons a b =>
      cases a
      exact .cons _ _ (ih _ b)

theorem script_of {l : OpenLaw} {n : Nat} (hn : l.most = some n) {P : Params} {h : Heap} {args : List WData} {vals : List Value}
    (hpre : l.row.toRowW.claim.pre args = true) (hwl : WellAll P h vals args) :
    ∃ a vs ns, vals = [Value.ref a] ∧ args = [WData.list (ns.map WData.int)] ∧ h.get? a = some { cls := .type "list", data := .seq vs.toArray } ∧ IntsAre vs ns ∧ ns.length ≤ n := by
  have hsh : WShape.hasAll [] args [.list .int] = true := (pre_splitW hpre).1
  have hc : l.pre.holds [] { args := args } = true := (pre_splitW hpre).2
  obtain ⟨d, r, rfl, h1, h2⟩ := hasAllW_cons hsh
  obtain rfl := hasAllW_nil h2
  obtain ⟨xs, rfl, h3⟩ := hasW_list h1
  obtain ⟨ns, rfl⟩ := items_int h3
  have hlen : ns.length ≤ n := by
    unfold OpenLaw.pre at hc
    have h4 : (WTm.not (.lt (.lit (.int (n : Int))) (.len (.arg 0)))).holds [] { args := [.list (ns.map .int)] } = true := by
      have h4 := (holds_andW hc).1
      rw [hn] at h4
      exact h4
    have h5 := condW_of h4 (w_not (w_lt w_lit (w_len_list (w_arg rfl))))
    rw [List.length_map] at h5
    refine Nat.le_of_not_lt fun q => ?_
    have q' : (n : Int) < ((ns.length : Nat) : Int) := by omega
    first
      | (rw [decide_eq_true q'] at h5; exact absurd h5 (by decide))
      | (simp at h5; omega)
  cases hwl with
  | cons w1 w2 =>
    cases w2
    cases w1 with
    | list ho hall => exact ⟨_, _, ns, rfl, rfl, ho, ints_of_wellAll ns _ hall, hlen⟩

theorem post_true (l : OpenLaw) (args : List WData) : l.row.toRowW.claim.post args (.bool true) args = true :=
  postW_of (r := l.row.toRowW) (X := (true == true))
    (show WShape.has [] (.bool true) .bool = true by first | rfl | decide | simp [WShape.has, WShape.arms, WShape.armsAll])
    (show (WTm.eq .res (.lit (.bool true))).value [] { args := args, res := some (.bool true), after := args } = some (.bool (true == true)) from w_eq_bool (w_res rfl) w_lit) rfl

/-! ### the attachment: holds_open's last premise (the goal 'hc' behind k_head) from a wpAny of the law's body -/
/-- the same from a codeAny of the CALL (for a layer whose function contracts speak of calls) -/
theorem attach_call {l : OpenLaw} {n : Nat} {q : Program} {loose : List Str} {XP : (Str → Option Value) → Heap → Prop} {YP : World → Heap → Prop} {d : DefRec}
    (hn : l.most = some n) (hdf : d.params.defaults = [])
    (call : ∀ (w : World) (s₀ s₁ : Shared) (mg mb : Str → Option Value) (fa : Addr) (o : Obj) (pm cd doc : Value) (a : Addr) (vs : List Value) (ns : List Int),
      Ground q loose [] XP w s₀ mg mb s₁.heap → YP w s₁.heap →
      s₁.heap.get? fa = some o → o.data = .func (docDef d.name d.params d.body d.scope pm cd doc) → s₁.heap.CodeRec cd d.name → mg d.name = some (.ref fa) →
      s₁.heap.get? a = some { cls := .type "list", data := .seq vs.toArray } → IntsAre vs ns → ns.length ≤ n → s₁.gens = #[] →
      codeAny (model l.prog w) callerA (.call (.ref fa) ⟨[.ref a], []⟩) (fun r s' => r = .ok (.ret (.bool true)) ∧ OldK s₁.heap s'.heap ∧ s'.os = s₁.os ∧ AllBare s'.gens) s₁) :
    WalkO q loose XP YP l.row.toRowW d [] (fun f vs => PySem.call f vs) := by
  intro w s₀ s₁ mg mb G Y fa o pm cd doc dV kV ho hd hcd hD hmg hg args vals as hpre hlay hrd hwl hlo
  obtain rfl : dV = .none := Dflts.none hD hdf
  obtain rfl : kV = .none := Dflts.noKw hD
  obtain ⟨a, vs, ns, rfl, rfl, hobj, hints, hlen⟩ := script_of hn hpre hwl
  refine enter_call (codeAny_mono (call w s₀ s₁ mg mb fa o pm cd doc a vs ns G Y ho (fd_plain hd) hcd hmg hobj hints hlen hg) fun r s' hq => ?_)
  obtain ⟨rfl, h2, h3, h4⟩ := hq
  exact ⟨.inl ⟨.bool true, .bool true, [], rfl, fun _ => rfl, .bool true, post_true l _, fun _ => ⟨List.Pairwise.nil, fun _ hm => (nomatch hm)⟩⟩, h2, h3, h4⟩

/-! ### rules over ANY heap (no ledger) from facts about the written part K: the library's own take a ledger (News) for what they write -/
section
variable {prog : Program} {w : World} {A : Around} {E : Value → Shared → Prop} {s : Shared} {K : Frag}

/-! the whole heap as the ledger: makes every rule that writes through a ledger a rule over any heap -/
def noObjs (h : Heap) : Heap := { h with objs := #[] }
def ledger (h : Heap) (L d : Addr) : List (Addr × Obj) := (List.range h.objs.size).filterMap fun a => if a = L ∨ a = d then none else (h.get? a).map fun o => (a, o)
end
end Att

namespace L2
open PySem PySem.Spec PyProof.Rows

theorem vals_ints : ∀ {vs : List Value} {ns : List Int}, IntsAre vs ns → Vals (ns.map V.int) vs
  | _, _, .nil => .nil
  | _, _, .cons n t h => .cons ⟨t, rfl⟩ (vals_ints h)

/-- nothing is tracked but the script, known to the object (or it is an object of the module) -/
def Only (H : Hp) : Prop := ∀ b, H b = none ∨ ∃ o xs, H b = some (.frz o (.lst xs))

/-- THE HEAD: the law's promise, at the heap behind the top. F, the promise of the law's def, may use that base is part of the heap (so K.In base, base.Ns mainGlobals mg stand in Mod) -/
theorem law_call {P : Program} {w : World} {K : PySem.W.Frag} {mg mb : Str → Option Value} {CX : CXT} {k : Nat} {fa a : Addr} {fd : FuncData} {x : Str} {sp : Sp} {s₁ : Shared} {vs : List Value} {ns : List Int}
    (KX : K.In s₁.heap) (hns : s₁.heap.Ns mainGlobals mg) (hb : s₁.heap.Ns builtinsNs mb) (hbb : ∀ x : Str, x ≠ "__name__" → mb x = bootBuiltins x) (hlim : s₁.heap.NoLimit) (hg : s₁.gens = #[])
    (ha : s₁.heap.get? a = some { cls := .type "list", data := .seq vs.toArray }) (hi : IntsAre vs ns) (hl : ns.length ≤ sizeLine) (hr : Room k callerA)
    (F : ∀ base : Heap, K.In base → base.Ns mainGlobals mg → FnOk P w K mg base CX k fa fd [x] sp) (hbind : ∀ (s : Shared) (u : Value), BindsTo s fd ⟨[u], []⟩ [(x, u)])
    (hsp : ∀ H : Hp, Only H → SqL K H a (ns.map V.int) → sp [.ref a] H (fun v _ => v = .bl true) fun _ _ _ => False)
    (hCX : ∀ H e s', CX [] H s₁ (fun _ _ _ => False) e s' → False) :
    codeAny (model P w) callerA (.call (.ref fa) ⟨[.ref a], []⟩) (fun r s' => r = .ok (.ret (.bool true)) ∧ OldK s₁.heap s'.heap ∧ s'.os = s₁.os ∧ AllBare s'.gens) s₁ := by
  have rv := vals_ints hi
  have lenV := hi.length
  -- from an abstract heap in which nothing but the script may be tracked
  have core : ∀ H : Hp, Only H → SqL K H a (ns.map V.int) → HOk P w H s₁.heap → (∀ b, H b ≠ none → b = a) → (H a ≠ none → K.lookup a = none) →
      codeAny (model P w) callerA (.call (.ref fa) ⟨[.ref a], []⟩) (fun r s' => r = .ok (.ret (.bool true)) ∧ OldK s₁.heap s'.heap ∧ s'.os = s₁.os ∧ AllBare s'.gens) s₁ := by
    intro H hO hS hok hA hK
    have base_of : ∀ {b : Addr} {o : Obj}, s₁.heap.get? b = some o → H b = none → (hidT s₁.heap H).get? b = some o := fun e n => hidT_get e n
    have noA : ∀ {b : Addr} {o : Obj} {es : Array DictEntry} {ep : Nat}, s₁.heap.get? b = some o → o.data = .dict es ep → H b = none := fun {b o es ep} e d => by
      cases q : H b with
      | none => rfl
      | some u =>
        have e' : b = a := hA b (by rw [q]; simp)
        subst e'
        rw [ha] at e; cases e
        have d' : Data.seq vs.toArray _ = Data.dict es ep := d
        cases d'
    have nsK : ∀ {b : Addr} {m : Str → Option Value}, s₁.heap.Ns b m → (hidT s₁.heap H).Ns b m := fun {b m} ⟨o, es, ep, e, d, r⟩ => ⟨o, es, ep, base_of e (noA e d), d, r⟩
    have hKb : K.In (hidT s₁.heap H) := fun b o e => base_of (KX b o e) (by
      cases q : H b with
      | none => rfl
      | some u =>
        have e' : b = a := hA b (by rw [q]; simp)
        subst e'
        rw [hK (by rw [q]; simp)] at e; cases e)
    have hM : Mod K mg (hidT s₁.heap H) := ⟨hKb, nsK hns, ⟨mb, nsK hb, hbb⟩, let ⟨mc, h1, h2⟩ := hlim; ⟨mc, nsK h1, h2⟩⟩
    have e0 : Env0 P w K mg (hidT s₁.heap H) callerA [] s₁ H := ⟨rfl, hM, fun b o e => of_hidT e, Nat.le_of_eq (hidT_size _ _), trivial, fun b hb => absurd (show b ∈ ([] : List Addr) from hb) (by simp), hok, .of_eq hg⟩
    refine codeAny_mono ((F _ hKb (nsK hns)).run callerA [] s₁ H ⟨[.ref a], []⟩ [.ref a] [.ref a] _ _ hr e0 (hbind s₁ (.ref a)) (.cons rfl .nil) (hsp H hO hS)) fun r s' h => ?_
    cases r with
    | error e => exact (hCX H e s' h).elim
    | ok fl =>
      cases fl with
      | next => exact False.elim h
      | brk => exact False.elim h
      | cont => exact False.elim h
      | ret u =>
        obtain ⟨v, H', os, bare, un, hok', r', q⟩ := h
        have q' : v = .bl true := q
        subst q'
        obtain rfl : u = Value.bool true := r'
        refine ⟨rfl, OldK.of_keep fun b o e => ?_, os, bare⟩
        cases q : H b with
        | none => exact un.keep b o e q (by intro z; exact absurd (show b ∈ ([] : List Addr) from z) (by simp)) (by simp)
        | some u =>
          rcases hO b with z | ⟨ob, xs, z⟩
          · rw [q] at z; cases z
          · have z2 := un.frzs b ob _ z
            obtain ⟨e1, _⟩ := hok b _ z
            obtain ⟨e2, _⟩ := hok' b _ z2
            rw [e] at e1; cases e1
            exact e2
  cases hk : K.lookup a with
  | some o =>
    -- the script is one of the module's own objects
    have e := KX a o hk
    rw [ha] at e
    cases e
    refine core (fun _ => none) (fun _ => .inl rfl) (.inr ⟨_, vs.toArray, _, hk, rfl, rfl, rfl, by rw [List.size_toArray, lenV]; exact hl, by simpa using rv⟩) (fun b u z => by have z' : (none : Option HO) = some u := z; cases z') (fun b z => absurd rfl z) fun z => absurd rfl z
  | none =>
    refine core (fun b => if b = a then some (.frz { cls := .type "list", data := .seq vs.toArray } (.lst (ns.map V.int))) else none) (fun b => ?_) (.inl (.inr ⟨{ cls := .type "list", data := .seq vs.toArray }, if_pos rfl⟩)) (fun b u z => ?_) (fun b z => ?_) fun _ => hk
    · by_cases hb : b = a
      · exact .inr ⟨_, _, if_pos hb⟩
      · exact .inl (if_neg hb)
    · by_cases hb : b = a
      · have z' := (if_pos hb).symm.trans z
        cases z'
        subst hb
        exact ⟨ha, by rw [List.length_map]; exact hl, vs, _, rv, ha⟩
      · have z' := (if_neg hb).symm.trans z
        cases z'
    · by_cases hb : b = a
      · exact hb
      · exact absurd (if_neg hb) z
end L2

namespace L2
open PySem PySem.Spec PyProof.Rows

abbrev KOf {K : PySem.W.Frag} {h : Heap} (_ : K.In h) : PySem.W.Frag := K

/-- the goal that k_head leaves (case hc), from the law's promise. F gives the function object fd (K's own) once, then the promise over every base -/
theorem walk_of {l : PySem.W.OpenLaw} {n k : Nat} {q : Program} {loose : List Str} {XP : (Str → Option Value) → Heap → Prop} {YP : World → Heap → Prop} {d : DefRec} {K : Params → PySem.W.Frag} {CX : World → CXT} {sp : World → Sp} {x : Str}
    (hn : l.most = some n) (hn2 : n ≤ sizeLine) (hdf : d.params.defaults = []) (hr : Room k callerA)
    (hY : ∀ (w : World) (h : Heap), YP w h → (K w.params).In h)
    (F : ∀ (w : World) (mg : Str → Option Value) (fa : Addr) (h : Heap), (K w.params).In h → h.Ns mainGlobals mg → mg d.name = some (.ref fa) →
      ∃ fd : FuncData, (∀ (s : Shared) (u : Value), BindsTo s fd ⟨[u], []⟩ [(x, u)]) ∧
        ∀ base : Heap, (K w.params).In base → base.Ns mainGlobals mg → FnOk l.prog w (K w.params) mg base (CX w) k fa fd [x] (sp w))
    (hsp : ∀ (w : World) (H : Hp) (a : Addr) (ns : List Int), ns.length ≤ n → Only H → SqL (K w.params) H a (ns.map V.int) → sp w [.ref a] H (fun v _ => v = .bl true) fun _ _ _ => False)
    (hCX : ∀ (w : World) (H : Hp) (s : Shared) (e : Value) (s' : Shared), CX w [] H s (fun _ _ _ => False) e s' → False) :
    PySem.W.WalkO q loose XP YP l.row.toRowW d [] (fun f vs => PySem.call f vs) := by
  refine Att.attach_call hn hdf fun w s₀ s₁ mg mb fa o pm cd doc a vs ns G Y ho hd hcd hmg hobj hints hlen hg => ?_
  have KX := hY w _ Y
  obtain ⟨fd, hb, hF⟩ := F w mg fa _ KX G.T.g hmg
  exact law_call KX G.T.g G.T.b G.T.builtins G.T.nolimit hg hobj hints (Nat.le_trans hlen hn2) hr hF hb (fun H hO hS => hsp w H a ns hlen hO hS) fun H e s' => hCX w H s₁ e s'
end L2

/-! SHORT WORDS over the layer: a def of the text, its body, what a loop and a test want. -/
namespace L2
open PySem PySem.Spec PyProof.Rows

/-! ### the text by places -/
/-- the j-th statement of a class's body -/
def inClass (s : Stmt) (j : Nat) : Stmt := match s with
  | .ClassDef _ _ _ body _ _ _ _ _ _ _ => body.getD j (.Pass ⟨0, 0, 0, 0⟩)
  | _ => .Pass ⟨0, 0, 0, 0⟩
def defArgs (s : Stmt) : Arguments := match s with
  | .FunctionDef _ a _ _ _ _ _ _ _ _ => a
  | _ => { posonlyargs := [], args := [], vararg := none, kwonlyargs := [], kw_defaults := [], kwarg := none, defaults := [] }
def defBody (s : Stmt) : List Stmt := match s with
  | .FunctionDef _ _ b _ _ _ _ _ _ _ => b
  | _ => []
def defScope (s : Stmt) : Scope := match s with
  | .FunctionDef _ _ _ _ _ _ sc _ _ _ => sc
  | _ => { kind := .function, names := [], isGenerator := false, isCoroutine := false }

/-! ### no exception leaves a def -/
abbrev CX0 : CXT := fun _ _ _ _ _ _ => False
abbrev E0 : XK := fun _ _ _ => False
theorem pass0 {X : Cx} : Passes CX0 X E0 := fun _ _ _ _ _ _ _ h => h.elim

/-! ### a def (or method) of the text as it stands behind the top -/
structure Fun (K : PySem.W.Frag) (x qual : Str) (st : Stmt) (f : Addr) (fd : FuncData) : Prop where
  ex : ∃ (oc : Value) (od : Option Addr) (kV doc pm : Value) (an : Option Addr) (cdv ct : Value) (osl : Array (Option Value)),
    fd = PySem.W.fnOf x qual (defArgs st) (defBody st) (defScope st) .none kV doc pm an cdv ct ∧ K.lookup f = some ⟨oc, od, .func fd, osl⟩ ∧ PySem.W.codeIn K cdv qual = true
  kp : PySem.W.keepIn K (.ref f) = true
section
variable {P : Program} {w : World} {K : PySem.W.Frag} {mg : Str → Option Value} {base : Heap}
/-- THE RULE for a def: its body as a term of rules, and the reading of that term -/
theorem Fun.ok {x qual : Str} {st : Stmt} {f : Addr} {fd : FuncData} {N ps : List Str} {k : Nat} {sp : Sp} (F : Fun K x qual st f fd) (S : FnScope N ps (defScope st)) (len : ∀ vs H Q E, sp vs H Q E → vs.length = ps.length)
    (hbody : ∀ (cdv : Value) (A : Around) (outer : List Env) (s : Shared) (H : Hp) (vs : List V) (Q : VK) (E : XK), Room k (A.deeper (envOfC qual (defScope st) s.heap.objs.size f cdv)) → sp vs H Q E →
      ∃ t, PSs (cxOf CX0 P w K mg base N qual (defScope st) f cdv A outer s H E).nox (defBody st) t ∧ t { nx := fun _ H' => Q .non H', rt := Q } (start N vs) H) : FnOk P w K mg base CX0 (k + 1) f fd ps sp := by
  obtain ⟨oc, od, kV, doc, pm, an, cdv, ct, osl, rfl, lk, hcd⟩ := F.ex
  refine fn_of lk hcd S len fun A outer s H vs Q E hr hsp => ?_
  obtain ⟨t, h, q⟩ := hbody cdv A outer s H vs Q E hr hsp
  exact ⟨t, h.nox, q⟩
/-- how its arguments bind (no defaults): h is «fun _ _ _ _ _ _ us hl => match us, hl with | [_, _], _ => rfl», one _ a parameter -/
theorem Fun.binds {x qual : Str} {st : Stmt} {f : Addr} {fd : FuncData} {ps : List Str} (F : Fun K x qual st f fd)
    (h : ∀ (kV doc pm : Value) (an : Option Addr) (cdv ct : Value) (us : List Value), us.length = ps.length → bindArgs (PySem.W.fnOf x qual (defArgs st) (defBody st) (defScope st) .none kV doc pm an cdv ct) ⟨us, []⟩ = pure (ps.zip us)) : Binds K fd ps [] := by
  obtain ⟨oc, od, kV, doc, pm, an, cdv, ct, osl, rfl, lk, hcd⟩ := F.ex
  exact .all (h kV doc pm an cdv ct)
theorem fun_mk {x qual : Str} {st : Stmt} {f : Addr} {oc : Value} {od an : Option Addr} {osl : Array (Option Value)} {kV doc pm cdv ct : Value} (l : K.lookup f = some ⟨oc, od, .func (PySem.W.fnOf x qual (defArgs st) (defBody st) (defScope st) .none kV doc pm an cdv ct), osl⟩)
    (c : PySem.W.codeIn K cdv qual = true) (k : PySem.W.keepIn K (.ref f) = true) : Fun K x qual st f (PySem.W.fnOf x qual (defArgs st) (defBody st) (defScope st) .none kV doc pm an cdv ct) := ⟨⟨oc, od, kV, doc, pm, an, cdv, ct, osl, rfl, l, c⟩, k⟩
end
theorem hu_of {A : Around} {k : Nat} (hr : Room k A) : A.units + 1 < cLine := Nat.lt_of_le_of_lt (Nat.add_le_add_left (by decide : 1 ≤ 64) _) hr.units
theorem small1000 {n : Nat} (h : n ≤ 1000) : n < sizeLine := Nat.lt_of_le_of_lt h (by decide)

/-! ### expressions in short: the name that stands in the i-th slot -/
section
variable {X : Cx}
theorem pv (i : Nat) {x : Str} {pos : Pos} (hN : X.N[i]? = some x := by rfl) (hv : Vis X.env.scope x := by first | exact Or.inl rfl | exact Or.inr (Or.inl rfl) | exact Or.inr (Or.inr rfl)) (hd : (x == ("__debug__" : Str)) = false := by decide)
    (hcd : (x == ("__classdict__" : Str)) = false := by decide) : PE X (.Name x pos) (tVar i) := pe_var hN hv hd hcd
end

/-! ### tests -/
theorem iteF {A B : Prop} (h : B) : if false = true then A else B := by
  rw [if_neg Bool.false_ne_true]
  exact h
theorem iteT {A B : Prop} (h : A) : if true = true then A else B := by
  rw [if_pos rfl]
  exact h
theorem ite2 {c A B : Prop} [Decidable c] (h1 : c → A) (h2 : ¬ c → B) : if c then A else B := by
  by_cases h : c
  · rw [if_pos h]
    exact h1 h
  · rw [if_neg h]
    exact h2 h
theorem iteNS {c A B : Prop} [Decidable c] (hc : c) (h : B) : if (!decide c) = true then A else B := by
  rw [decide_eq_true hc]
  exact iteF h

/-! ### heaps -/
/-- all that was tracked is as it was -/
def Same (H H' : Hp) : Prop := ∀ b o, H b = some o → H' b = some o
theorem Same.refl (H : Hp) : Same H H := fun _ _ h => h
theorem Same.trans {H H1 H2 : Hp} (a : Same H H1) (b : Same H1 H2) : Same H H2 := fun c o h => b c o (a c o h)
theorem Same.free {H H' : Hp} (e : Same H H') {l : Addr} (h : H' l = Option.none) : H l = Option.none := by
  cases q : H l with
  | none => rfl
  | some o =>
    rw [e l o q] at h
    cases h
theorem Same.seq {K : PySem.W.Frag} {H H' : Hp} {a : Addr} {xs : List V} (e : Same H H') (h : SqL K H a xs) : SqL K H' a xs := by
  rcases h with (h | ⟨o, h⟩) | h
  · exact .inl (.inl (e _ _ h))
  · exact .inl (.inr ⟨o, e _ _ h⟩)
  · exact .inr h

/-! ### a dict's pairs: keys that differ -/
section
variable {κ : Type} [DecidableEq κ]
theorem valV_not {kvs : List (κ × V)} {k : κ} (h : valV kvs k = none) : ¬ k ∈ kvs.map (·.1) := by
  intro m
  obtain ⟨p, hp, e⟩ := List.mem_map.mp m
  have q : (kvs.any fun kv => decide (kv.1 = k)) = true := List.any_eq_true.mpr ⟨p, hp, decide_eq_true e⟩
  rw [valV_any, h] at q
  exact absurd q (by simp)
theorem valV_in {kvs : List (κ × V)} {k : κ} {v : V} (h : valV kvs k = some v) : k ∈ kvs.map (·.1) := by
  have q : (kvs.any fun kv => decide (kv.1 = k)) = true := by
    rw [valV_any, h]
    all_goals rfl
  obtain ⟨p, hp, e⟩ := List.any_eq_true.mp q
  exact List.mem_map.mpr ⟨p, hp, of_decide_eq_true e⟩
theorem nd_snoc : ∀ {l : List κ} {k : κ}, l.Nodup → ¬ k ∈ l → (l ++ [k]).Nodup
  | [], k, _, _ => by simp
  | a :: r, k, h, hk => by
    obtain ⟨h1, h2⟩ := List.nodup_cons.mp h
    show (a :: (r ++ [k])).Nodup
    refine List.nodup_cons.mpr ⟨fun m => ?_, nd_snoc h2 fun m => hk (List.mem_cons.mpr (Or.inr m))⟩
    rcases List.mem_append.mp m with q | q
    · exact h1 q
    · exact hk (List.mem_cons.mpr (Or.inl (List.mem_singleton.mp q).symm))
theorem nd_putK {kvs : List (κ × V)} {k : κ} (v : V) (hn : (kvs.map (·.1)).Nodup) (h : valV kvs k = none) : ((putK kvs k v).map (·.1)).Nodup := by
  rw [putK_new v h, List.map_append]
  exact nd_snoc hn (valV_not h)
end
end L2

/-! MY OWN RULES, part 1: freezing, dict walks, isinstance, dict(..), == of dicts -/
namespace L2
open PySem PySem.Spec PyProof.Rows

section
variable {X : Cx} {pins : List (Addr × Obj)} {σ : St} {H : Hp} {s : Shared} {a : Addr} {u u' : HO}

/-- the same object, told otherwise -/
theorem Inv.retag (I : Inv X pins σ H s) (e : H a = some u) (nw : ObjOk X.prog X.w (upd H a u') s.heap a u')
    (h1 : ∀ xs, X.H₀ a ≠ some (.tup xs)) (h2 : ∀ o z, X.H₀ a ≠ some (.frz o z)) (h3 : ∀ ps, X.H₀ a ≠ some (.tbl ps))
    (n1 : ∀ x, u ≠ .own x) (n2 : ∀ xs, u ≠ .tup xs) : Inv X pins σ (upd H a u') s := by
  have na : ∀ b, H b = none → (upd H a u') b = none := fun b q => by
    rw [upd_ne (fun z => by rw [z, e] at q; cases q)]; exact q
  have B := I.base
  refine ⟨I.ok, I.os, I.bare, ⟨B.keep, B.slot, fun b o q n x => na b (B.free b o q n x), B.there, fun b xs q => ?_, fun b o z q => ?_, fun b ps q => ?_⟩,
    I.loc, I.cell, na _ I.free, fun x c q => na _ (I.freeC x c q), fun p hp => ?_, fun b o q => ?_, I.len⟩
  · rw [upd_ne (show b ≠ a from fun z => h1 xs (by rw [← z]; exact q))]; exact B.tups b xs q
  · rw [upd_ne (show b ≠ a from fun z' => h2 o z (by rw [← z']; exact q))]; exact B.frzs b o z q
  · rw [upd_ne (show b ≠ a from fun z' => h3 ps (by rw [← z']; exact q))]; exact B.tbls b ps q
  · obtain ⟨p1, p2, p3⟩ := I.pin p hp
    exact ⟨p1, na _ p2, p3⟩
  · by_cases hb : b = a
    · subst hb
      rw [upd_same] at q
      cases q
      exact nw
    · rw [upd_ne hb] at q
      refine (I.hok b o q).stay (fun _ _ _ z => z) (fun c z => ?_) fun c xs z => ?_
      · rw [upd_ne (fun z' => by rw [z', e] at z; exact n1 b (Option.some.inj z))]; exact z
      · rw [upd_ne (fun z' => by rw [z', e] at z; exact n2 xs (Option.some.inj z))]; exact z

/-- not frozen ahead of the entry -/
def NF (X : Cx) (a : Addr) : Prop := ∀ o z, X.H₀ a ≠ some (.frz o z)
theorem Inv.nf {kvs : List (Key × V)} (I : Inv X pins σ H s) (e : H a = some (.dK kvs)) : NF X a := fun o z q => by
  have := I.base.frzs a o z q
  rw [e] at this; cases this
theorem Inv.freeze {kvs : List (Key × V)} (I : Inv X pins σ H s) (e : H a = some (.dK kvs)) : ∃ o, s.heap.get? a = some o ∧ Inv X pins σ (upd H a (.frz o (.dK kvs))) s := by
  have ok := I.hok a _ e
  obtain ⟨z, hd, vs, rel, dd⟩ := dk_of I.hok e
  obtain ⟨o, es, ep, ho, r⟩ := id dd
  refine ⟨o, ho, I.retag e ⟨ho, z, hd, vs, rel, dd⟩ (fun xs q => ?_) (I.nf e) (fun ps q => ?_) (fun x q => by cases q) fun xs q => by cases q⟩
  · have := I.base.tups a xs q
    rw [e] at this; cases this
  · obtain ⟨m, q'⟩ := I.base.tbls a ps q
    rw [e] at q'; cases q'
theorem Inv.thaw {kvs : List (Key × V)} {o : Obj} (I : Inv X pins σ H s) (e : H a = some (.frz o (.dK kvs))) (nf : NF X a) : Inv X pins σ (upd H a (.dK kvs)) s := by
  obtain ⟨ho, z, hd, vs, rel, dd⟩ := (show ObjOk X.prog X.w H s.heap a (.frz o (.dK kvs)) from I.hok a _ e)
  refine I.retag e (show ObjOk X.prog X.w _ s.heap a (.dK kvs) from ⟨z, hd, vs, rel, dd⟩) (fun xs q => ?_) nf (fun ps q => ?_) (fun x q => by cases q) fun xs q => by cases q
  · have := I.base.tups a xs q
    rw [e] at this; cases this
  · obtain ⟨m, q'⟩ := I.base.tbls a ps q
    rw [e] at q'; cases q'
theorem upd_back {o : HO} (e : H a = some o) : upd H a o = H := by
  funext b
  by_cases hb : b = a
  · subst hb; rw [upd_same, e]
  · rw [upd_ne hb]
end

/-! ### a dict's keys, one after another -/
def Itd (a : Addr) (o : Obj) (kvs : List (Key × V)) : It :=
  ⟨fun i H => H a = some (.frz o (.dK kvs)) ∧ i < kvs.length, fun i H x H' => H' = H ∧ ∃ k v, kvs[i]? = some (k, v) ∧ x = kV k, fun i H => H a = some (.frz o (.dK kvs)) ∧ kvs.length ≤ i⟩
theorem KV.get {κ : Type} : ∀ {kvs : List (κ × V)} {vs : List (κ × Value)} {i : Nat} {k : κ} {v : V}, KV kvs vs → kvs[i]? = some (k, v) → ∃ u, vs[i]? = some (k, u) ∧ RelV v u
  | _, _, _, _, _, .nil, h => by simp at h
  | _, _, 0, k, v, .cons (a := p) (b := q) r _, h => by
    have hp : p = (k, v) := by simpa using h
    subst hp
    have e : k = q.1 := r.1
    exact ⟨q.2, by rw [List.getElem?_cons_zero, e], r.2⟩
  | _, _, i + 1, _, _, .cons _ t, h => by
    simp only [List.getElem?_cons_succ] at h ⊢
    exact KV.get (kvs := _) t h
theorem rel_key {P : Program} {w : World} {k : Key} {u : Value} (h : (mixKind P w).is k u = true) : RelV (kV k) u := by
  rw [mixKind_is] at h
  rcases keyIs_shape h with ⟨i, t, rfl, rfl⟩ | ⟨x, t, rfl, rfl⟩
  · exact ⟨t, rfl⟩
  · exact ⟨t, rfl⟩
/-- the frozen dict as the iterator's rules want it -/
theorem frz_at {P : Program} {w : World} {H : Hp} {h : Heap} {a : Addr} {o : Obj} {kvs : List (Key × V)} {es : Array DictEntry} {ep : Nat} (ok : HOk P w H h) (e : H a = some (.frz o (.dK kvs))) (hd : o.data = .dict es ep) :
    ∃ vs, KV kvs vs ∧ h.DictAt (mixKind P w) a vs ep ∧ (a == sysModules) = false := by
  obtain ⟨ho, z, hs, vs, rel, dd⟩ := (show ObjOk P w H h a (.frz o (.dK kvs)) from ok a _ e)
  obtain ⟨o', es', ep', ho', ex, hd', r⟩ := dd
  rw [ho] at ho'; cases ho'
  rw [hd] at hd'; cases hd'
  exact ⟨vs, rel, ⟨o, es, ho, ex, hd, r⟩, hs⟩
theorem turn_dict {P : Program} {w : World} {K : PySem.W.Frag} {tg : Expr} (a it : Addr) (o : Obj) (kvs : List (Key × V)) {es : Array DictEntry} {ep : Nat} (hd : o.data = .dict es ep) :
    Turn P w K tg (Itd a o kvs) [it] it (fun i h => h.IsKeyIter it a i kvs.length ep) where
  mem := by simp
  obj := fun i h st b hb => by
    have e : b = it := by simpa using hb
    subst e
    obtain ⟨o, e, c, d⟩ := st
    exact ⟨o, e, fun v z => by rw [d] at z; cases z⟩
  keep := fun i h h' st k => let ⟨o, ho, r⟩ := st; ⟨o, k it (by simp) o ho, r⟩
  item := by
    intro X hP hw hK hc i pins s σ H E I hf st hg
    subst hP hw hK
    obtain ⟨hz, hi⟩ := hg
    obtain ⟨vs, rel, dd, hs⟩ := frz_at I.hok hz hd
    obtain ⟨k, v, hkv⟩ : ∃ k v, kvs[i]? = some (k, v) := ⟨kvs[i].1, kvs[i].2, by simp [hi]⟩
    obtain ⟨u, hu, ru⟩ := rel.get hkv
    obtain ⟨f0, f1, f2, f3, f4, f5⟩ := hf it (by simp)
    rw [rel.length] at st
    refine wpAny_pyNext_dict_item st dd hu fun key h' hk st' sb => ?_
    rw [← rel.length] at st'
    have I1 : Inv X pins σ H { s with heap := h' } := I.turned (t' := s.toks) (fun b o hb e => (sb.2 b hb).trans e) f0 f1 f3 f4 f5
    obtain ⟨oi, e, c, d⟩ := id st'
    exact ⟨key, rfl, go_of (s := { s with heap := h' }) e c d (by decide) ⟨kV k, H, I1, rel_key hk, ⟨rfl, k, v, hkv, rfl⟩, st', fun b hb => (hf b hb).1⟩⟩
  done := by
    intro X hP hw hK hc i pins s σ H E I hf st hg
    subst hP hw hK
    obtain ⟨hz, hi⟩ := hg
    obtain ⟨vs, rel, dd, hs⟩ := frz_at I.hok hz hd
    obtain ⟨f0, f1, f2, f3, f4, f5⟩ := hf it (by simp)
    rw [rel.length] at st hi
    exact wpAny_pyNext_dict_end (I.ok.hd hc) st dd (List.getElem?_eq_none hi) fun h' eb => ⟨rfl, I.turned (t' := s.toks) (fun b o hb e => eb b o hb e) f0 f1 f3 f4 f5⟩
  self := fun _ _ _ _ _ st h => wpAny_pyIter_keyiter st h

section
variable {X : Cx} {tg : Expr}
/-- for k in d: the dict stands frozen while it is walked -/
def iDict (X : Cx) (td : TE) : TI := fun σ H R => td σ H fun x H1 => ∃ a kvs, x = .ref a ∧ H1 a = some (.dK kvs) ∧ ∀ o, NF X a → R (Itd a o kvs) (upd H1 a (.frz o (.dK kvs)))
theorem pi_dict {l : Expr} {tl : TE} (hl : PE X l tl) : PI X tg l (iDict X tl) := by
  intro pins s σ H R I h
  refine thn (hl pins s σ H _ I h) fun v s1 ⟨x, H1, I1, r1, q1⟩ => ?_
  obtain ⟨a, kvs, e, hk, q⟩ := q1
  subst e
  cases r1
  obtain ⟨o, ho, I2⟩ := I1.freeze hk
  obtain ⟨z, hs, vs, rel, dd⟩ := dk_of I1.hok hk
  obtain ⟨ep, da⟩ := dd.dictAt
  obtain ⟨o', es, ho', ex, hd, _⟩ := id da
  rw [ho] at ho'; cases ho'
  refine wpAny_pyIter_dict hs da ?_
  refine ⟨s1.heap.objs.size, [s1.heap.objs.size], _, _, _, rfl, I2.kept (t' := s1.toks) fun b o e => Heap.get?_push_of_some _ e, turn_dict a _ o kvs hd, ?_, fun b hb => ?_, q o (I1.nf hk)⟩
  · rw [rel.length]
    exact ⟨_, Heap.get?_push_size _ rfl, rfl, rfl⟩
  · have e : b = s1.heap.objs.size := by simpa using hb
    subst e
    exact I2.fpOk (Nat.le_refl _) (I2.hok.fresh (Nat.le_refl _))

/-- where a frozen dict was left: it is thawed -/
def Th (X : Cx) (Q : Hp → Prop) (H : Hp) : Prop := ∃ a o kvs, H a = some (.frz o (.dK kvs)) ∧ NF X a ∧ Q (upd H a (.dK kvs))
def tThaw (X : Cx) (t : TS) : TS := fun D σ H => t { nx := fun σ' => Th X (D.nx σ'), rt := fun v => Th X (D.rt v), bk := fun σ' => Th X (D.bk σ'), ct := fun σ' => Th X (D.ct σ') } σ H
theorem ps_thaw {st : Stmt} {t : TS} (h : PS X st t) : PS X st (tThaw X t) := by
  intro pins s σ H D I q
  refine thn (h pins s σ H _ I q) fun f s' z => ?_
  cases f with
  | next => obtain ⟨σ', H', J, a, o, kvs, e, nf, q⟩ := z; exact ⟨σ', _, J.thaw e nf, q⟩
  | brk => obtain ⟨σ', H', J, a, o, kvs, e, nf, q⟩ := z; exact ⟨σ', _, J.thaw e nf, q⟩
  | cont => obtain ⟨σ', H', J, a, o, kvs, e, nf, q⟩ := z; exact ⟨σ', _, J.thaw e nf, q⟩
  | ret u => obtain ⟨v, σ', H', J, r, a, o, kvs, e, nf, q⟩ := z; exact ⟨v, σ', _, J.thaw e nf, r, q⟩
theorem pe_thaw {e : Expr} {t : TE} (h : PE X e t) : PE X e (fun σ H Q => t σ H fun v => Th X (Q v)) := by
  intro pins s σ H Q I q
  refine thn (h pins s σ H _ I q) fun u s' z => ?_
  obtain ⟨v, H', J, r, a, o, kvs, e, nf, q⟩ := z
  exact ⟨v, _, J.thaw e nf, r, q⟩
end
/-- the loop over a dict that the body leaves as it is: Pv speaks of the heap with the dict thawed -/
theorem for_dict {X : Cx} {a : Addr} {o : Obj} {kvs : List (Key × V)} {g : TG} {tb : TS} {D : Ends} {σ : St} {H : Hp} (nf : NF X a) (Pv : Nat → St → Hp → Prop) (h0 : Pv 0 σ H) (hl : ∀ i σ H, Pv i σ H → H a = some (.dK kvs))
    (hs : ∀ i k v σ H, kvs[i]? = some (k, v) → Pv i σ H → g (kV k) σ (upd H a (.frz o (.dK kvs))) fun σ2 H2 => tb { nx := fun σ' H' => H' a = some (.frz o (.dK kvs)) ∧ Pv (i + 1) σ' (upd H' a (.dK kvs)), ct := fun σ' H' => H' a = some (.frz o (.dK kvs)) ∧ Pv (i + 1) σ' (upd H' a (.dK kvs)), bk := fun σ' => Th X (D.nx σ'), rt := fun v => Th X (D.rt v) } σ2 H2)
    (hd : ∀ σ H, Pv kvs.length σ H → D.nx σ H) :
    ∃ W : Nat → Nat → St → Hp → Prop, (∃ m, W 0 m σ (upd H a (.frz o (.dK kvs)))) ∧ ∀ i m σ H, W i m σ H → ((Itd a o kvs).stop i H ∧ Th X (D.nx σ) H) ∨
      ((Itd a o kvs).go i H ∧ ∃ N : St → Hp → Prop, (∀ σ' H', N σ' H' → ∃ m', m' < m ∧ W (i + 1) m' σ' H') ∧ ∀ x H', (Itd a o kvs).yld i H x H' → g x σ H' fun σ2 H2 => tb { nx := N, ct := N, bk := fun σ' => Th X (D.nx σ'), rt := fun v => Th X (D.rt v) } σ2 H2) := by
  refine ⟨fun i m σ H => m + i = kvs.length ∧ H a = some (.frz o (.dK kvs)) ∧ Pv i σ (upd H a (.dK kvs)), ⟨kvs.length, by omega, upd_same, ?_⟩, ?_⟩
  · rw [upd_upd, upd_back (hl _ _ _ h0)]; exact h0
  · rintro i m σ H ⟨hm, hz, hp⟩
    by_cases hi : i < kvs.length
    · refine .inr ⟨⟨hz, hi⟩, fun σ' H' => H' a = some (.frz o (.dK kvs)) ∧ Pv (i + 1) σ' (upd H' a (.dK kvs)), fun σ' H' q => ⟨m - 1, by omega, by omega, q⟩, ?_⟩
      rintro x H' ⟨rfl, k, v, hkv, rfl⟩
      have := hs i k v σ _ hkv hp
      rw [upd_upd, upd_back hz] at this
      exact this
    · have e : i = kvs.length := by omega
      subst e
      exact .inl ⟨⟨hz, Nat.le_refl _⟩, a, o, kvs, hz, nf, hd _ _ hp⟩

/-! ### isinstance -/
def clsV : V → Option Value
  | .ty n => some (.type n)
  | .ref a => some (.ref a)
  | _ => none
theorem call_isinst {X : Cx} : CallR X (.builtin "isinstance") (fun xs H Q => ∃ x c cv t b, xs = [x, c] ∧ clsV c = some cv ∧ TyOf X.K H x t ∧ PySem.W.kitOne X.K t cv = some b ∧ Q (.bl b) H) := by
  intro pins s σ H xs us Q I r h
  obtain ⟨x, c, cv, t, b, rfl, hc, ty, e, q⟩ := h
  obtain ⟨u, v, rfl, ru, rv⟩ := vals2 r
  have hv : v = cv := by
    cases c <;> simp only [clsV, Option.some.injEq, reduceCtorEq] at hc
    · cases (show v = Value.ref _ from rv); exact hc
    · cases (show v = Value.type _ from rv); exact hc
  subst hv
  exact isinst_ok I ru ty e fun tk => ⟨.bl b, H, I.tok tk, rfl, q⟩

/-! ### dict(d) -/
theorem call_dictD {X : Cx} : CallR X (.type "dict") (fun xs H Q => ∃ a kvs, xs = [.ref a] ∧ Rd H a (.dK kvs) ∧ ∀ p, H p = none → Q (.ref p) (upd H p (.dK kvs))) := by
  intro pins s σ H xs us Q I r h
  obtain ⟨a, kvs, rfl, hk, q⟩ := h
  obtain ⟨u, rfl, ru⟩ := vals1 r
  cases ru
  exact d_copyOf I hk fun p s' hp I' => ⟨.ref p, _, I', rfl, q p hp⟩
theorem call_lenDR {X : Cx} : CallR X (.builtin "len") (fun xs H Q => ∃ a kvs, xs = [.ref a] ∧ Rd H a (.dK kvs) ∧ Q (.int kvs.length) H) := by
  intro pins s σ H xs us Q I r h
  obtain ⟨a, kvs, rfl, hk, q⟩ := h
  obtain ⟨u, rfl, ru⟩ := vals1 r
  cases ru
  exact d_len I hk fun t s' I' => ⟨.int kvs.length, H, I', ⟨t, rfl⟩, q⟩

/-- a tracked dict has each key once -/
theorem Inv.keysNd {X : Cx} {pins : List (Addr × Obj)} {σ : St} {H : Hp} {s : Shared} {a : Addr} {kvs : List (Key × V)} (I : Inv X pins σ H s) (e : Rd H a (.dK kvs)) : (kvs.map (·.1)).Nodup := by
  obtain ⟨z, hd, vs, rel, dd⟩ := dk_rd I.hok e
  obtain ⟨_, da⟩ := dd.dictAt
  rw [rel.keys]
  exact da.nodup
/-! ### == of two dicts whose values are flat -/
def hitD (kb : List (Key × V)) (p : Key × V) : Bool := match valV kb p.1 with
  | none => false
  | some y => eqV p.2 y
def eqD (ka kb : List (Key × V)) : Bool := ka.length == kb.length && ka.all (hitD kb)
def flatD (ka : List (Key × V)) : Prop := ∀ p ∈ ka, flatV p.2 = true
theorem valV_flat {kb : List (Key × V)} (hb : flatD kb) {k : Key} {y : V} (h : valV kb k = some y) : flatV y = true := by
  unfold valV at h
  cases e : kb.find? fun kv => decide (kv.1 = k) with
  | none => rw [e] at h; cases h
  | some p =>
    rw [e] at h
    cases h
    exact hb p (List.mem_of_find?_eq_some e)
theorem hits_of {A : Around} {s : Shared} {kb : List (Key × V)} {vb : List (Key × Value)} (rb : KV kb vb) (fb : flatD kb) : ∀ {ka : List (Key × V)} {va : List (Key × Value)}, KV ka va → flatD ka → PySem.W.KeqHits A s vb va (ka.all (hitD kb))
  | _, _, .nil, _ => .nil
  | (k, x) :: r, (k', u) :: r', .cons hp t, fa => by
    obtain ⟨e1, ru⟩ := hp
    have e1 : k = k' := e1
    subst e1
    have ih := hits_of (A := A) (s := s) rb fb t fun p hp => fa p (List.mem_cons_of_mem _ hp)
    have hv := rb.val k
    rw [List.all_cons]
    cases e : valV kb k with
    | none =>
      rw [e] at hv
      have : hitD kb (k, x) = false := by simp only [hitD, e]
      rw [this, Bool.false_and]
      exact .miss (RelO.none_of hv)
    | some y =>
      rw [e] at hv
      obtain ⟨uy, ey, ry⟩ := RelO.some_of hv
      have : hitD kb (k, x) = eqV x y := by simp only [hitD, e]
      rw [this]
      exact .hit ey (eqAt_V ru ry (fa (k, x) (List.mem_cons_self ..)) (valV_flat fb e)) ih
section
variable {X : Cx}
def rEqD (neg : Bool) : R2 := fun x y H Q => ∃ a b ka kb, x = .ref a ∧ y = .ref b ∧ Rd H a (.dK ka) ∧ Rd H b (.dK kb) ∧ flatD ka ∧ flatD kb ∧ ((ka.map (·.1)).Nodup → (kb.map (·.1)).Nodup → Q (.bl (neg ^^ eqD ka kb)) H)
theorem op_neD (hu : X.A.units < cLine) : OpR X (compareOp .NotEq) (rEqD true) := by
  intro pins s σ H x y v u Q I rx ry h
  obtain ⟨a, b, ka, kb, rfl, rfl, ha, hb, fa, fb, q⟩ := h
  cases rx
  cases ry
  obtain ⟨za, da, va, ra, dda⟩ := dk_rd I.hok ha
  obtain ⟨zb, db, vb, rb, ddb⟩ := dk_rd I.hok hb
  refine PySem.W.keq_ne da db dda ddb hu (fun _ => hits_of rb fb ra fa) ⟨.bl (!eqD ka kb), H, I, ?_, ?_⟩
  · show Value.bool _ = Value.bool _
    rw [← ra.length, ← rb.length]
    rfl
  · have q := q (I.keysNd ha) (I.keysNd hb)
    simpa using q
end
theorem eqV_self {x : V} (h : flatV x = true) : eqV x x = true := by
  cases x <;> simp_all [eqV, flatV]
theorem valV_mem : ∀ {kvs : List (Key × V)} {p : Key × V}, (kvs.map (·.1)).Nodup → p ∈ kvs → valV kvs p.1 = some p.2
  | q :: r, p, nd, hp => by
    rw [List.map_cons, List.nodup_cons] at nd
    rcases List.mem_cons.mp hp with rfl | hr
    · exact valV_pos rfl
    · rw [valV_neg (fun e => nd.1 (e ▸ List.mem_map_of_mem (f := (·.1)) hr))]
      exact valV_mem nd.2 hr
theorem eqD_self {ka : List (Key × V)} (nd : (ka.map (·.1)).Nodup) (fa : flatD ka) : eqD ka ka = true := by
  unfold eqD
  rw [beq_self_eq_true, Bool.true_and, List.all_eq_true]
  intro p hp
  unfold hitD
  rw [valV_mem nd hp]
  exact eqV_self (fa p hp)
end L2

/-! MY OWN RULES, part 2: a list comprehension of one clause -/
namespace L2
open PySem PySem.Spec PyProof.Rows

/-- the context of a comprehension's block, at its entry (its list is made, its names not yet) -/
def cxB (X : Cx) (pins : List (Addr × Obj)) (N : List Str) (scope : Scope) (cl : List (Str × Addr)) (fp : List Addr) (s : Shared) (H : Hp) : Cx where
  prog := X.prog
  w := X.w
  K := X.K
  mg := X.mg
  base := X.base
  A := X.A
  N := N
  s₀ := s
  H₀ := H
  env := compEnvC scope cl s.heap.objs.size X.env
  outer := X.stack
  stack := X.stack
  ex := fp
  fn := fun _ => false
  calm := X.calm
  pn := X.pn ++ pins
  xe := fun _ _ => False

/-- what must be seen of the text: the block's names N, of which fr tells where the outer ones stand; its cells -/
structure Blk (X : Cx) (N : List Str) (fr : List (Option Nat)) (scope : Scope) (cl : List (Str × Addr)) : Prop where
  clos : closureFor scope X.env = pure cl
  kind : scope.kind = .function
  nocell : ∀ y ∈ scope.names, y.2 ≠ .cell
  names : ∀ y ∈ scope.names, y.2 = .local → scope.names.lookup y.1 = some .local
  cells : ∀ x c, cl.lookup x = some c → X.env.cells.lookup x = some c
  has : ∀ x, ((relabel scope X.env).names.lookup x = some .cell ∨ (relabel scope X.env).names.lookup x = some .free) → ∃ c, cl.lookup x = some c
  len : fr.length = N.length
  out : ∀ (i j : Nat) (x : Str), N[i]? = some x → fr[i]? = some (some j) → X.N[j]? = some x ∧ X.env.kindOf x = some .cell ∧ ((relabel scope X.env).names.lookup x = some .cell ∨ (relabel scope X.env).names.lookup x = some .free)

end L2
namespace L2
open PySem PySem.Spec PyProof.Rows
/-- the cells that a block takes over -/
def clGo (env : Env) : List (Str × NameKind) → List (Str × Addr) → List (Str × Addr)
  | [], cs => cs
  | (n, k) :: r, cs => clGo env r (if (k == .free) = true then (n, (env.cells.lookup n).getD 0) :: cs else cs)
def clOf (scope : Scope) (env : Env) : List (Str × Addr) := clGo env scope.names []
theorem clos_go {env : Env} : ∀ {names : List (Str × NameKind)} (cs : List (Str × Addr)), (∀ y ∈ names, y.2 = .free → ∃ c, env.cells.lookup y.1 = some c) →
    (forIn names cs fun (x : Str × NameKind) cs => match x with
      | (name, kind) => if (kind == NameKind.free) = true then do let c ← cellOf env name; pure (ForInStep.yield ((name, c) :: cs)) else pure (ForInStep.yield cs) : Sem (List (Str × Addr))) = pure (clGo env names cs)
  | [], cs, _ => rfl
  | (n, k) :: r, cs, h => by
    rw [List.forIn_cons]
    dsimp only
    have ih := fun cs => clos_go (env := env) (names := r) cs fun y hy => h y (List.mem_cons_of_mem _ hy)
    by_cases hk : (k == NameKind.free) = true
    · obtain ⟨c, hc⟩ := h (n, k) (List.mem_cons_self ..) (by simpa using hk)
      rw [if_pos hk, show clGo env ((n, k) :: r) cs = clGo env r ((n, c) :: cs) by rw [clGo, if_pos hk, hc]; rfl]
      have e : cellOf env n = pure c := by unfold cellOf; rw [hc]
      rw [e]
      exact ih _
    · rw [if_neg hk, show clGo env ((n, k) :: r) cs = clGo env r cs by rw [clGo, if_neg hk]]
      exact ih _
theorem clos_of {scope : Scope} {env : Env} (h : ∀ y ∈ scope.names, y.2 = .free → ∃ c, env.cells.lookup y.1 = some c) : closureFor scope env = pure (clOf scope env) := by
  have t := clos_go (env := env) [] h
  have e : closureFor scope env = ((forIn scope.names ([] : List (Str × Addr)) fun (x : Str × NameKind) cs => match x with
      | (name, kind) => if (kind == NameKind.free) = true then do let c ← cellOf env name; pure (ForInStep.yield ((name, c) :: cs)) else pure (ForInStep.yield cs)) >>= fun cs => pure cs : Sem (List (Str × Addr))) := rfl
  rw [e, t]
  rfl
theorem clGo_cells {env : Env} : ∀ {names : List (Str × NameKind)} {cs : List (Str × Addr)}, (∀ y ∈ names, y.2 = .free → ∃ c, env.cells.lookup y.1 = some c) → (∀ x c, cs.lookup x = some c → env.cells.lookup x = some c) → ∀ x c, (clGo env names cs).lookup x = some c → env.cells.lookup x = some c
  | [], _, _, hc, x, c, h => hc x c h
  | (n, k) :: r, cs, hn, hc, x, c, h => by
    rw [clGo] at h
    refine clGo_cells (names := r) (fun y hy => hn y (List.mem_cons_of_mem _ hy)) (fun x c h => ?_) x c h
    by_cases hk : (k == NameKind.free) = true
    · rw [if_pos hk] at h
      obtain ⟨c', hc'⟩ := hn (n, k) (List.mem_cons_self ..) (by simpa using hk)
      rw [List.lookup_cons] at h
      cases e : x == n with
      | true =>
        rw [e] at h
        have ex : x = n := by simpa using e
        subst ex
        rw [hc'] at h ⊢
        exact h
      | false =>
        rw [e] at h
        exact hc x c h
    · rw [if_neg hk] at h
      exact hc x c h
theorem clGo_has {env : Env} : ∀ {names : List (Str × NameKind)} {cs : List (Str × Addr)} {x : Str}, ((x, NameKind.free) ∈ names ∨ ∃ c, cs.lookup x = some c) → ∃ c, (clGo env names cs).lookup x = some c
  | [], _, _, h => h.elim (fun z => by cases z) fun z => z
  | (n, k) :: r, cs, x, h => by
    rw [clGo]
    refine clGo_has (names := r) ?_
    by_cases hk : (k == NameKind.free) = true
    · rw [if_pos hk, List.lookup_cons]
      cases e : x == n with
      | true => exact .inr ⟨_, rfl⟩
      | false =>
        rcases h with h | h
        · rcases List.mem_cons.mp h with z | z
          · cases z
            simp at e
          · exact .inl z
        · exact .inr h
    · rw [if_neg hk]
      rcases h with h | h
      · rcases List.mem_cons.mp h with z | z
        · cases z
          exact absurd rfl hk
        · exact .inl z
      · exact .inr h
theorem relabel_lookup {env : Env} (x : Str) : ∀ names : List (Str × NameKind),
    (names.map fun (y : Str × NameKind) => match y with
      | (n, k) => if (k == NameKind.free && env.scope.kind == .function && env.kindOf n == some .cell) = true then (n, NameKind.cell) else (n, k)).lookup x
      = (names.lookup x).map fun k => if (k == NameKind.free && env.scope.kind == .function && env.kindOf x == some .cell) = true then NameKind.cell else k
  | [] => rfl
  | (n, k) :: r => by
    have ih := relabel_lookup (env := env) x r
    rw [List.map_cons, List.lookup_cons]
    by_cases e : (x == n) = true
    · have ex : x = n := by simpa using e
      subst ex
      dsimp only
      by_cases hc : (k == NameKind.free && env.scope.kind == .function && env.kindOf x == some .cell) = true
      · rw [if_pos hc, List.lookup_cons, beq_self_eq_true]
        dsimp only [Option.map]
        rw [if_pos hc]
      · rw [if_neg hc, List.lookup_cons, beq_self_eq_true]
        dsimp only [Option.map]
        rw [if_neg hc]
    · have e' : (x == n) = false := by simpa using e
      dsimp only
      by_cases hc : (k == NameKind.free && env.scope.kind == .function && env.kindOf n == some .cell) = true
      · rw [if_pos hc, List.lookup_cons, e']
        exact ih
      · rw [if_neg hc, List.lookup_cons, e']
        exact ih

/-- what must be seen of the text: closed, to be decided. NX the outer names, N the block's, fr where the outer ones of these stand -/
structure BlkS (sc scope : Scope) (NX N : List Str) (fr : List (Option Nat)) : Prop where
  okind : sc.kind = .function
  kind : scope.kind = .function
  nocell : ∀ y ∈ scope.names, y.2 ≠ .cell
  names : ∀ y ∈ scope.names, y.2 = .local → scope.names.lookup y.1 = some .local
  free : ∀ y ∈ scope.names, y.2 = .free → sc.names.lookup y.1 = some .cell
  len : fr.length = N.length
  out : ((List.range N.length).all fun i => match fr[i]? with
    | some (some j) => (match N[i]? with
      | some x => (NX[j]? == some x) && (scope.names.lookup x == some .free)
      | none => false)
    | _ => true) = true
theorem mem_of_lk {names : List (Str × NameKind)} {x : Str} {k : NameKind} (h : names.lookup x = some k) : (x, k) ∈ names := PySem.mem_of_lookup h
theorem BlkS.blk {X : Cx} {sc scope : Scope} {NX N : List Str} {fr : List (Option Nat)} (B : BlkS sc scope NX N fr) (e1 : X.env.scope = sc) (e2 : X.N = NX) (ok : X.Ok) : Blk X N fr scope (clOf scope X.env) := by
  subst e1 e2
  have fc : ∀ y ∈ scope.names, y.2 = .free → ∃ c, X.env.cells.lookup y.1 = some c := fun y hy hf => ok.has y.1 (.inl (B.free y hy hf))
  have lk : ∀ x, (relabel scope X.env).names.lookup x = (scope.names.lookup x).map fun k => if (k == NameKind.free && X.env.scope.kind == .function && X.env.kindOf x == some .cell) = true then NameKind.cell else k := fun x => relabel_lookup x scope.names
  have isfree : ∀ x, scope.names.lookup x = some .free → (relabel scope X.env).names.lookup x = some .cell := fun x hx => by
    have hk : X.env.kindOf x = some .cell := B.free (x, .free) (mem_of_lk hx) rfl
    rw [lk, hx, Option.map_some, hk, B.okind]
    rfl
  refine ⟨clos_of fc, B.kind, B.nocell, B.names, fun x c h => clGo_cells fc (fun x c h => by cases h) x c h, fun x h => clGo_has (.inl ?_), B.len, fun i j x h1 h2 => ?_⟩
  · rw [lk] at h
    cases e : scope.names.lookup x with
    | none => rw [e] at h; rcases h with h | h <;> cases h
    | some k =>
      rw [e, Option.map_some] at h
      have hm := mem_of_lk e
      cases k with
      | free => exact hm
      | cell => exact absurd rfl (B.nocell _ hm)
      | _ => rcases h with h | h <;> simp at h
  · have hi : i < N.length := (List.getElem?_eq_some_iff.mp h1).1
    have := List.all_eq_true.mp B.out i (List.mem_range.mpr hi)
    rw [h2] at this
    dsimp only at this
    rw [h1] at this
    dsimp only at this
    rw [Bool.and_eq_true] at this
    have a1 : X.N[j]? = some x := by simpa using this.1
    have a2 : scope.names.lookup x = some .free := by simpa using this.2
    exact ⟨a1, B.free (x, .free) (mem_of_lk a2) rfl, .inl (isfree x a2)⟩
end L2
namespace L2
open PySem PySem.Spec PyProof.Rows
/-- the block's names' values at its start -/
def startB (fr : List (Option Nat)) (σ : St) : St := fr.map fun o => o.bind fun j => (σ[j]?).join
theorem startB_get {fr : List (Option Nat)} {σ : St} {i : Nat} {v : V} (h : (startB fr σ)[i]? = some (some v)) : ∃ j, fr[i]? = some (some j) ∧ σ[j]? = some (some v) := by
  unfold startB at h
  rw [List.getElem?_map] at h
  cases e : fr[i]? with
  | none => rw [e] at h; cases h
  | some o =>
    rw [e] at h
    cases o with
    | none => cases h
    | some j =>
      have h' : (σ[j]?).join = some v := Option.some.inj h
      cases q : σ[j]? with
      | none => rw [q] at h'; cases h'
      | some z => rw [q] at h'; exact ⟨j, rfl, by rw [q]; exact congrArg some h'⟩

section
variable {X : Cx} {pins : List (Addr × Obj)} {σ : St} {H : Hp} {s : Shared} {N : List Str} {fr : List (Option Nat)} {scope : Scope} {cl : List (Str × Addr)} {fp : List Addr}

theorem blk_ok (B : Blk X N fr scope cl) (I : Inv X pins σ H s) (f : ∀ b ∈ fp, FpOk X pins H b ∧ b < s.heap.objs.size) : (cxB X pins N scope cl fp s H).Ok where
  mod := I.mod
  kind := B.kind
  glob := I.ok.glob
  blt := I.ok.blt
  above := Nat.le_refl _
  inj := fun x y c h1 h2 => I.ok.inj x y c (B.cells x c h1) (B.cells y c h2)
  has := fun x h => B.has x h
  cab := fun x c h => by cases h
  hd := I.ok.hd
  frames := I.ok.frames
  stk := .inl rfl
  exf := fun b hb => ⟨Nat.ne_of_lt (f b hb).2, fun x c h => (f b hb).1.2.2.2.2.1 x c (B.cells x c h)⟩
  bs := I.bs
  bsz := Nat.le_trans I.ok.bsz I.sz
  noex := fun b o e hb => by
    rcases (f b hb).1.2.2.2.1 with h | h
    · exact I.ok.noex b o e h
    · exact absurd (Nat.lt_of_lt_of_le (Heap.lt_size e) (Nat.le_trans I.ok.bsz h)) (Nat.lt_irrefl _)
  exfs := fun b hb h => by
    rcases List.mem_cons.mp (I.stkSub b h) with z | z
    · exact (f b hb).1.2.1 z
    · exact (f b hb).1.2.2.1 z
  funs := I.stack
  frf := I.stkFree

theorem blk_start {h1 : Heap} {t1 : Nat} (B : Blk X N fr scope cl) (I : Inv X pins σ H s) (f : ∀ b ∈ fp, FpOk X pins H b ∧ b < s.heap.objs.size) (hns : h1.Ns s.heap.objs.size fun _ => none)
    (hsb : ∀ b o, s.heap.get? b = some o → h1.get? b = some o) : Inv (cxB X pins N scope cl fp s H) [] (startB fr σ) H { s with heap := h1, toks := t1 } := by
  obtain ⟨m, hm, hl⟩ := I.loc
  refine ⟨blk_ok B I f, rfl, I.bare, Un.kept hsb, ⟨_, hns, fun i x v e1 e2 _ => ?_⟩, fun x c h => ?_, I.hok.fresh (Nat.le_refl _), fun x c h => I.freeC x c (B.cells x c h), fun p hp => ?_, I.hok.kept hsb, ?_⟩
  · obtain ⟨j, ej, es⟩ := startB_get e2
    obtain ⟨o1, o2, o3⟩ := B.out i j x e1 ej
    obtain ⟨u, ru, L⟩ := hl j x v o1 es (.inr (.inl o2))
    refine ⟨u, ru, .inr ⟨o3, ?_⟩⟩
    obtain ⟨c, hc⟩ := B.has x o3
    rcases L with ⟨k1, _⟩ | ⟨_, c', hc', cc⟩
    · rw [o2] at k1; cases k1
    · rw [B.cells x c hc] at hc'
      cases hc'
      exact ⟨c, hc, cc.keeps hsb⟩
  · obtain ⟨v, hv⟩ := I.cell x c (B.cells x c h)
    exact ⟨v, hv.keeps hsb⟩
  · have hp' : p ∈ X.pn ++ pins := by rw [List.append_nil] at hp; exact hp
    obtain ⟨p1, p2, p3, p4, p5⟩ := I.pin p hp'
    exact ⟨hsb _ _ p1, p2, Nat.ne_of_lt (Heap.lt_size p1), fun z => (List.mem_cons.mp (I.stkSub _ z)).elim p3 p4, p5⟩
  · show (startB fr σ).length = N.length
    unfold startB
    rw [List.length_map, B.len]
end

/-- the tests of a clause -/
def PTs (X : Cx) (cs : List Expr) (t : TT) : Prop :=
  ∀ (pins : List (Addr × Obj)) (s : Shared) (σ : St) (H : Hp) (Q : Bool → Hp → Prop), Inv X pins σ H s → t σ H Q →
    wpAny (model X.prog X.w) X.A (forIn cs true fun c r => if r = true then do let ok ← isTrue c X.env (eval c X.env); pure (ForInStep.yield ok) else pure (ForInStep.yield r)) (TP X pins σ Q) X.xe s
def tYes : TT := fun _ H Q => Q true H
theorem pts_nil {X : Cx} : PTs X [] tYes := fun pins s σ H Q I h => by
  rw [List.forIn_nil]
  exact wpAny_pure ⟨H, I, h⟩
theorem pts_one {X : Cx} {c : Expr} {t : TT} (h : PT X c t) : PTs X [c] t := fun pins s σ H Q I q => by
  rw [List.forIn_cons, if_pos rfl]
  refine wpAny_bind (wpAny_bind (thn (h pins s σ H Q I q) fun b s' z => ?_))
  refine wpAny_pure ?_
  dsimp only
  rw [List.forIn_nil]
  exact wpAny_pure z

section
variable {prog : Program} {w : World} {A : Around} {R : Result → Shared → Prop} {s : Shared}
/-- the loop of a clause, by any invariant; nothing is raised -/
theorem comp_loop {elt tg iter : Expr} {ifs : List Expr} {scope : Scope} {pos : Pos} {it acc : Value} {env : Env} (J : Nat → Shared → Prop)
    (turn : ∀ n s, J n s → wpAny (model prog w) A (pyNext it) (fun r s₁ => match r with
      | none => R (.ok .next) s₁
      | some v => wpAny (model prog w) A (letOwnedTupleGo tg it v) (fun _ sg => wpAny (model prog w) A (assign tg env v) (fun _ s₂ =>
          wpAny (model prog w) A (forIn ifs true fun c r => if r = true then do let ok ← isTrue c env (eval c env); pure (ForInStep.yield ok) else pure (ForInStep.yield r)) (fun ok s₃ =>
            if ok = true then wpAny (model prog w) A (eval elt env) (fun x s₄ => wpAny (model prog w) A (call (.builtin "list.append") [acc, x]) (fun _ s₅ => ∃ m, m < n ∧ J m s₅) (fun _ _ => False) s₄) (fun _ _ => False) s₃
            else ∃ m, m < n ∧ J m s₃) (fun _ _ => False) s₂) (fun _ _ => False) sg) (fun _ _ => False) s₁) (fun _ _ => False) s)
    (n : Nat) (h : J n s) : codeAny (model prog w) A (.compLoop (.ListComp elt [⟨tg, iter, ifs, 0⟩] scope pos) 0 it acc env) R s := by
  refine codeAny_loop rfl J (fun n s hJ => ?_) n h
  show wpAny _ A ((compTurn (.ListComp elt [⟨tg, iter, ifs, 0⟩] scope pos) 0 it acc env).onRaise (fun x => do noteFrame x env; theTreesLotGoes x)) _ _ s
  refine wpAny_noted ?_
  rw [compTurn_list]
  have no : ∀ {P : Value → Shared → Prop} (a : Value) (s : Shared), (fun (_ : Value) (_ : Shared) => False) a s → P a s := fun _ _ z => False.elim z
  refine wpAny_bind (wpAny_standAt (wpAny_bind (wpAny_mono (turn n s hJ) (fun r s₁ h₁ => ?_) no)))
  cases r with
  | none => exact wpAny_pure h₁
  | some v =>
    refine wpAny_bind (wpAny_mono h₁ (fun _ sg hg => ?_) no)
    refine wpAny_bind (wpAny_mono hg (fun _ s₂ h₂ => wpAny_bind (wpAny_mono h₂ (fun ok s₃ h₃ => ?_) no)) no)
    cases ok with
    | false => exact wpAny_pure ⟨rfl, h₃⟩
    | true => exact wpAny_bind (wpAny_bind (wpAny_mono h₃ (fun x s₄ h₄ => wpAny_bind (wpAny_mono h₄ (fun _ s₅ h₅ => wpAny_pure (wpAny_pure ⟨rfl, h₅⟩)) no)) no))
end

/-- what a comprehension reads: W, the invariant by the turn, a measure, what has been laid, the block's names; D the new list -/
def tComp (wi : TI) (fr : List (Option Nat)) (g : TG) (tt : TT) (te : TE) : TE := fun σ H Q => wi σ H fun J H1 => ∀ D, H1 D = none → ∃ W : Nat → Nat → St → Hp → Prop, (∃ m, W 0 m (startB fr σ) (upd H1 D (.lst []))) ∧ ∀ i m σ H, W i m σ H →
  (J.stop i H ∧ Q (.ref D) H) ∨ (J.go i H ∧ ∀ x H2, J.yld i H x H2 → g x σ H2 fun σ3 H3 => tt σ3 H3 fun b H4 => if b = true
    then te σ3 H4 fun y H5 => ∃ ys, H5 D = some (.lst ys) ∧ ys.length < sizeLine ∧ ∃ m', m' < m ∧ W (i + 1) m' σ3 (upd H5 D (.lst (ys ++ [y])))
    else ∃ m', m' < m ∧ W (i + 1) m' σ3 H4)

section
variable {X : Cx} {elt tg iter : Expr} {ifs : List Expr} {scope : Scope} {pos : Pos} {N : List Str} {fr : List (Option Nat)} {cl : List (Str × Addr)} {wi : TI} {g : TG} {tt : TT} {te : TE}

/-- the block's loop -/
theorem comp_in (B : Blk X N fr scope cl) (hc : X.calm = true)
    (hg : ∀ pins fp s H, PG (cxB X pins N scope cl fp s H) tg g) (ht : ∀ pins fp s H, PTs (cxB X pins N scope cl fp s H) ifs tt) (he : ∀ pins fp s H, PE (cxB X pins N scope cl fp s H) elt te)
    {pins : List (Addr × Obj)} {s3 : Shared} {σ : St} {H3 : Hp} {Q : VK} {it D : Addr} {fp : List Addr} {tn : Nat → Heap → Prop} {J : It} (I3 : Inv X pins σ H3 s3) (T : Turn X.prog X.w X.K tg J fp it tn) (st3 : tn 0 s3.heap) (f3 : ∀ b ∈ fp, FpOk X pins H3 b ∧ b < s3.heap.objs.size)
    {W : Nat → Nat → St → Hp → Prop} {m0 : Nat} (w0 : W 0 m0 (startB fr σ) H3)
    (turn : ∀ i m σ H, W i m σ H → (J.stop i H ∧ Q (.ref D) H) ∨ (J.go i H ∧ ∀ x H2, J.yld i H x H2 → g x σ H2 fun σ3 H3 => tt σ3 H3 fun b H4 => if b = true
        then te σ3 H4 fun y H5 => ∃ ys, H5 D = some (.lst ys) ∧ ys.length < sizeLine ∧ ∃ m', m' < m ∧ W (i + 1) m' σ3 (upd H5 D (.lst (ys ++ [y])))
        else ∃ m', m' < m ∧ W (i + 1) m' σ3 H4))
    {R : Result → Shared → Prop} (hR : ∀ s' H', Inv X pins σ H' s' → FpOk X pins H' s3.heap.objs.size → (∃ m, s'.heap.Ns s3.heap.objs.size m) → Q (.ref D) H' → R (.ok .next) s')
    {h₁ : Heap} {t1 : Nat} (hns : h₁.Ns s3.heap.objs.size fun _ => none) (up3 : ∀ b o, s3.heap.get? b = some o → h₁.get? b = some o) :
    codeAny (model X.prog X.w) X.A (.compLoop (.ListComp elt [⟨tg, iter, ifs, 0⟩] scope pos) 0 (.ref it) (.ref D) (compEnvC scope cl s3.heap.objs.size X.env)) R { s3 with heap := h₁, toks := t1 } := by
  have Ib := blk_start (t1 := t1) B I3 f3 hns up3
  have stat : ∀ {H' : Hp}, (∀ b ∈ fp, H' b = none) → ∀ b ∈ fp, FpOk (cxB X pins N scope cl fp s3 H3) [] H' b := fun hn b hb =>
    ⟨hn b hb, Nat.ne_of_lt (f3 b hb).2, (blk_ok B I3 f3).exfs b hb, .inl hb, fun x c h => (f3 b hb).1.2.2.2.2.1 x c (B.cells x c h), fun p hp => (f3 b hb).1.2.2.2.2.2 p (by rw [List.append_nil] at hp; exact hp)⟩
  refine comp_loop (fun n s' => ∃ i σ' H', Inv (cxB X pins N scope cl fp s3 H3) [] σ' H' s' ∧ tn i s'.heap ∧ (∀ b ∈ fp, H' b = none) ∧ W i n σ' H') ?_ m0
    ⟨0, _, _, Ib, T.keep _ _ _ st3 fun b _ o e => up3 b o e, fun b hb => (f3 b hb).1.1, w0⟩
  rintro n s4 ⟨i, σ4, H4, I4, st4, fr4, w4⟩
  rcases turn i n σ4 H4 w4 with ⟨stop, qn⟩ | ⟨go, step⟩
  · refine thn (T.done (cxB X pins N scope cl fp s3 H3) rfl rfl rfl hc i [] s4 σ4 H4 _ I4 (stat fr4) st4 stop) fun r s5 ⟨hr, I5⟩ => ?_
    subst hr
    have J5 : Inv X pins σ H4 s5 := I3.call' (ch := fp) I5.os I5.base I5.hok I5.bare fun b hb => ⟨(f3 b hb).1.2.2.2.1, (f3 b hb).1.2.1, (f3 b hb).1.2.2.2.2.1, (f3 b hb).1.2.2.2.2.2⟩
    obtain ⟨mm, hmm, _⟩ := I5.loc
    exact hR s5 H4 J5 (I3.fpOk (Nat.le_refl _) I5.free) ⟨mm, hmm⟩ qn
  · refine thn (T.item (cxB X pins N scope cl fp s3 H3) rfl rfl rfl hc i [] s4 σ4 H4 _ I4 (stat fr4) st4 go) fun r s5 ⟨u, hr, h5⟩ => ?_
    subst hr
    refine thn h5 fun _ s6 ⟨x, H6, I6, r6, y6, st6, fr6⟩ => ?_
    have I6' := I6.pinned (stat fr6) (T.obj _ _ st6)
    have back : ∀ {s7 : Shared} {σ7 : St} {H7 : Hp} {m' : Nat}, Inv (cxB X pins N scope cl fp s3 H3) ([] ++ pinsAt fp s6.heap) σ7 H7 s7 → m' < n → W (i + 1) m' σ7 H7 →
        ∃ m, m < n ∧ ∃ i σ' H', Inv (cxB X pins N scope cl fp s3 H3) [] σ' H' s7 ∧ tn i s7.heap ∧ (∀ b ∈ fp, H' b = none) ∧ W i m σ' H' := fun {s7 σ7 H7 m'} I7 hm w7 => by
      refine ⟨m', hm, i + 1, σ7, H7, I7.unpinned, T.keep _ _ _ st6 fun b hb o e => (I7.pin (b, o) (List.mem_append_right _ (List.mem_append_right _ (mem_pinsAt hb e)))).1, fun b hb => ?_, w7⟩
      obtain ⟨o, e, d⟩ := T.obj _ _ st6 b hb
      exact (I7.pin (b, o) (List.mem_append_right _ (List.mem_append_right _ (mem_pinsAt hb e)))).2.1
    refine thn (hg _ _ _ _ _ s6 σ4 H6 x u _ I6' r6 (step x H6 y6)) fun _ s7 ⟨σ7, H7, I7, q7⟩ => ?_
    refine thn (ht _ _ _ _ _ s7 σ7 H7 _ I7 q7) fun ok s8 ⟨H8, I8, q8⟩ => ?_
    cases ok with
    | false =>
      rw [if_neg (by decide)] at q8 ⊢
      obtain ⟨m', hm, w8⟩ := q8
      exact back I8 hm w8
    | true =>
      rw [if_pos rfl] at q8 ⊢
      refine thn (he _ _ _ _ _ s8 σ7 H8 _ I8 q8) fun y s9 ⟨v9, H9, I9, r9, ys, hD9, hl9, m', hm, w9⟩ => ?_
      refine thn (mt_append _ s9 σ7 H9 (.ref D) [v9] _ [y] (fun _ H' => W (i + 1) m' σ7 H') I9 rfl (.cons r9 .nil) ⟨_, ys, v9, rfl, rfl, hD9, hl9, w9⟩) fun _ s10 ⟨_, H10, I10, _, q10⟩ => ?_
      exact back I10 hm q10

/-- the block: from its iterator on -/
theorem comp_blk (B : Blk X N fr scope cl) (hc : X.calm = true)
    (hg : ∀ pins fp s H, PG (cxB X pins N scope cl fp s H) tg g) (ht : ∀ pins fp s H, PTs (cxB X pins N scope cl fp s H) ifs tt) (he : ∀ pins fp s H, PE (cxB X pins N scope cl fp s H) elt te)
    {pins : List (Addr × Obj)} {s2 : Shared} {σ : St} {H2 : Hp} {Q : VK} {E : Value → Shared → Prop} {it : Addr} {fp : List Addr} {tn : Nat → Heap → Prop} {J : It} (I2 : Inv X pins σ H2 s2) (T : Turn X.prog X.w X.K tg J fp it tn) (st2 : tn 0 s2.heap) (f2 : ∀ b ∈ fp, FpOk X pins H2 b)
    (q : ∀ D, H2 D = none → ∃ W : Nat → Nat → St → Hp → Prop, (∃ m, W 0 m (startB fr σ) (upd H2 D (.lst []))) ∧ ∀ i m σ H, W i m σ H →
      (J.stop i H ∧ Q (.ref D) H) ∨ (J.go i H ∧ ∀ x H2, J.yld i H x H2 → g x σ H2 fun σ3 H3 => tt σ3 H3 fun b H4 => if b = true
        then te σ3 H4 fun y H5 => ∃ ys, H5 D = some (.lst ys) ∧ ys.length < sizeLine ∧ ∃ m', m' < m ∧ W (i + 1) m' σ3 (upd H5 D (.lst (ys ++ [y])))
        else ∃ m', m' < m ∧ W (i + 1) m' σ3 H4))
    {RR : Value → Addr → Result → Shared → Prop}
    (hRR : ∀ D C s' H', Inv X pins σ H' s' → FpOk X pins H' C → (∃ m, s'.heap.Ns C m) → Q (.ref D) H' → RR (.ref D) C (.ok .next) s') :
    wpAny (model X.prog X.w) X.A (newList []) (fun acc s₃ => wpAny (model X.prog X.w) X.A (newFunctionEnv scope X.env.globals cl [] X.env.qual none .none (some X.env)) (fun cenv s₄ =>
      codeAny (model X.prog X.w) X.A (.compStart (.ListComp elt [⟨tg, iter, ifs, 0⟩] scope pos) 0 (.ref it) acc { cenv with scope := relabel scope X.env }) (RR acc cenv.locals) s₄) E s₃) E s2 := by
  have hD : H2 s2.heap.objs.size = none := I2.hok.fresh (Nat.le_refl _)
  obtain ⟨W, ⟨m0, w0⟩, turn⟩ := q s2.heap.objs.size hD
  have I3 := I2.lnew (ys := []) (its := []) (t' := s2.toks) .nil (by decide)
  have lt2 : ∀ b ∈ fp, b < s2.heap.objs.size := fun b hb => by
    obtain ⟨o, e, _⟩ := T.obj _ _ st2 b hb
    exact Heap.lt_size e
  refine wpAny_newObj_type (wpAny_newFunctionEnv B.nocell (by intro y hy; simp at hy) (fun h₁ hns hsb => ?_) B.kind)
  have up2 : ∀ b o, s2.heap.get? b = some o → (s2.heap.push { cls := .type "list", data := .seq ([] : List Value).toArray }).get? b = some o := fun b o e => Heap.get?_push_of_some _ e
  have up3 : ∀ b o, (s2.heap.push { cls := .type "list", data := .seq ([] : List Value).toArray }).get? b = some o → h₁.get? b = some o := fun b o e => hsb.extBut b o (Nat.ne_of_lt (Heap.lt_size e)) (Heap.get?_push_of_some _ e)
  have f3 : ∀ b ∈ fp, FpOk X pins (upd H2 s2.heap.objs.size (.lst [])) b ∧ b < (s2.heap.push { cls := .type "list", data := .seq ([] : List Value).toArray }).objs.size := fun b hb => by
    refine ⟨⟨?_, (f2 b hb).2⟩, ?_⟩
    · rw [upd_ne (Nat.ne_of_lt (lt2 b hb))]
      exact (f2 b hb).1
    · rw [Heap.size_push]
      exact Nat.lt_succ_of_lt (lt2 b hb)
  have fin := comp_in (iter := iter) (pos := pos) (D := s2.heap.objs.size) (t1 := s2.toks) (R := RR (.ref s2.heap.objs.size) (s2.heap.push { cls := .type "list", data := .seq ([] : List Value).toArray }).objs.size) B hc hg ht he I3 T (T.keep _ _ _ st2 fun b _ o e => up2 b o e) f3 w0 turn
    (fun s' H' J' f m q => hRR _ _ s' H' J' f m q) hns up3
  exact codeAny_compStart_list fin (T.self _ 0 _ _ _ (T.keep _ _ _ st2 fun b _ o e => up3 b o (up2 b o e)) fin)

/-- [elt for tg in iter if ..] as a value -/
theorem pe_comp {sc : Scope} {NX : List Str} (S : BlkS sc scope NX N fr) (e1 : X.env.scope = sc) (e2 : X.N = NX) (hc : X.calm = true) (hi : PI X tg iter wi)
    (hg : ∀ pins fp s H, PG (cxB X pins N scope (clOf scope X.env) fp s H) tg g) (ht : ∀ pins fp s H, PTs (cxB X pins N scope (clOf scope X.env) fp s H) ifs tt) (he : ∀ pins fp s H, PE (cxB X pins N scope (clOf scope X.env) fp s H) elt te)
    (hs : ∀ x, foldedSetIterable iter X.env x = pure x := by intro _; rfl) : PE X (.ListComp elt [⟨tg, iter, ifs, 0⟩] scope pos) (tComp wi fr g tt te) := by
  intro pins s σ H Q I h
  have B := S.blk e1 e2 I.ok
  rw [eval_ListComp]
  refine wpAny_comprehension_free (use := none) rfl hs B.clos B.kind B.names (thn (hi pins s σ H _ I h) fun v s1 h1 => thn h1 fun itv s2 h2 => ?_)
  obtain ⟨it, fp, tn, J, H2, e, I2, T, st2, f2, q⟩ := h2
  subst e
  refine comp_blk (RR := fun acc C => compPost (model X.prog X.w) X.A X.xe none (EP X pins σ Q) acc C) B hc hg ht he I2 T st2 f2 q ?_
  intro D C s' H' J' fC ⟨m, hm⟩ qn
  refine ⟨m, hm, fun h' hs' => ⟨.ref D, H', ?_, rfl, qn⟩⟩
  obtain ⟨f0, f1, _, f3, f4, f5⟩ := fC
  exact J'.turned (t' := s'.toks) (fun b o hb e => (hs'.2 b hb).trans e) f0 f1 f3 f4 f5
end
end L2

/-! MY OWN RULES, part 3: dict(a list of pairs), list.index, the defs of a text in bundles -/
namespace PySem
namespace F
theorem my_entry_dul : entryFor table "dict.update.loop" = some Builtin.«dict.update.loop» := entryFor_of_tree (by kernel_rfl)
theorem my_plain_dul : plainId "dict.update.loop" = true := by decide +kernel
theorem my_list_keys : typeLookup (.type "list") "keys" = pure none := by rw [typeLookup_type, builtinLookup_eq_fast]; kernel_rfl
end F
section
variable {prog : Program} {w : World} {K : Type} [DecidableEq K] {knd : KeyKind prog w K} {A : Around} {E : Value → Shared → Prop} {s : Shared}
/-- a list has no keys -/
theorem my_no_keys {a : Addr} {xs : Array Value} {k : Nat} {sl : Array (Option Value)} {Q : Option Value → Shared → Prop}
    (hx : s.heap.get? a = some { cls := .type "list", dict := none, data := .seq xs k, slots := sl }) (hA : A.handled = none)
    (h : ∀ h' tk, (∀ b o, s.heap.get? b = some o → h'.get? b = some o) → Q none { s with heap := h', toks := tk }) : wpAny (model prog w) A (getAttr? (.ref a) "keys") Q E s := by
  obtain ⟨hp, g, d, tk, os⟩ := s
  have hT : ∀ tk', (⟨hp, g, d, tk', os⟩ : Shared).TypeIs (.ref a) "list" := fun _ => ⟨_, hx, rfl⟩
  have f1 := sub_AttributeError
  have f3 := F.slot_list_getattribute.lookup
  have f4 := F.slot_list_getattribute.bind (.ref a)
  have f5 := am_list_getattr_none
  unfold getAttr? getAttrBy? getAttrBy
  repeat (any_goals (first | assumption | exact hT _ | ((with_reducible show wpAny _ _ (call (Value.builtin "list.__getattribute__") _ _) _ _ _); refine call_meets F.slot_list_getattribute (hT _) am_entry_list_getattribute (F.args_list_getattribute_2 _ _) (meets_getattribute_miss_list a xs k sl "keys" _ F.my_list_keys (by decide +kernel) (by decide +kernel)) ⟨hx, hA, fun h' tk' e hx' => ?_⟩) | wp_step))
  obtain ⟨t', u', he⟩ := hx'.there
  show wpAny _ _ (getattributeRaised _ _ _ _ _ _ _) _ _ _
  unfold getattributeRaised
  repeat (any_goals (first | assumption | wp_step))
  all_goals exact h h' tk' hx'.keeps

/-- the pairs, one after another; a pair: the tuple's place, its key, the tuple's two items -/
theorem my_dul {d it l : Addr} {res : Value} {R : Result → Shared → Prop} {ps : List (Addr × K × Value × Value)} (hh : A.handled = none) (hdl : d ≠ l) (hdi : d ≠ it) (hil : it ≠ l)
    (hps : ∀ p ∈ ps, p.1 ≠ d ∧ p.1 ≠ it ∧ knd.is p.2.1 p.2.2.1 = true) :
    ∀ (n i : Nat) (s : Shared) (kvs : List (K × Value)), ps.length - i = n → i ≤ ps.length → s.heap.IsListIter it l i → s.heap.IsList l (ps.map fun p => Value.ref p.1).toArray →
      (∀ p ∈ ps, s.heap.IsTuple p.1 #[p.2.2.1, p.2.2.2]) → s.heap.DictOf knd d kvs → kvs.length + (ps.length - i) ≤ sizeLine →
      (∀ h' tk, h'.DictOf knd d ((ps.drop i).foldl (fun acc p => stored acc p.2.1 p.2.2.2) kvs) → (∀ b o, b ≠ d → b ≠ it → s.heap.get? b = some o → h'.get? b = some o) → R (.ok (.ret res)) { s with heap := h', toks := tk }) →
      codeAny (model prog w) A (.builtin "dict.update.loop" ⟨[.ref d, .ref it, rawInt i, res], []⟩) R s := by
  intro n
  induction n with
  | zero =>
    intro i s kvs hn hi hit hl ht hd hsz hR
    refine codeAny_builtin F.my_entry_dul ?_
    rw [Around.under_plainId F.my_plain_dul _]
    show wpAny _ A.in1 (pyNext (.ref it) >>= _) _ _ s
    refine wpAny_bind (wpAny_pyNext_list_end hh hit hl (by simp; omega) fun h' eb => ?_)
    show wpAny _ A.in1 (Builtin.Dict.addKeywords d [] >>= fun _ => ret res) _ _ _
    have e : ps.drop i = [] := List.drop_eq_nil_of_le (by omega)
    rw [e] at hR
    exact wpAny_bind (wpAny_pure (wpAny_pure (hR h' s.toks (hd.extBut eb hdi) fun b o _ hb q => eb b o hb q)))
  | succ n ih =>
    intro i s kvs hn hi hit hl ht hd hsz hR
    have hlt : i < ps.length := by omega
    have hp := ps.get_mem ⟨i, hlt⟩
    have hdr : ps.drop i = ps[i] :: ps.drop (i + 1) := List.drop_eq_getElem_cons hlt
    obtain ⟨n1, n2, hk⟩ := hps _ (List.getElem_mem hlt)
    refine codeAny_builtin F.my_entry_dul ?_
    rw [Around.under_plainId F.my_plain_dul _]
    show wpAny _ A.in1 (pyNext (.ref it) >>= _) _ _ s
    refine wpAny_bind (wpAny_pyNext_list_item hit hl (x := .ref ps[i].1) (by simp [hlt]) fun h1 hit1 sb1 => ?_)
    have ht1 : ∀ p ∈ ps, h1.IsTuple p.1 #[p.2.2.1, p.2.2.2] := fun p hp => by
      obtain ⟨o, q, r⟩ := ht p hp
      exact ⟨o, (sb1.2 _ (hps p hp).2.1).trans q, r⟩
    obtain ⟨o, ho, hc, m, hdat⟩ := ht1 _ (List.getElem_mem hlt)
    have hd1 : h1.DictOf knd d kvs := hd.sameBut sb1 hdi
    have hl1 : h1.IsList l (ps.map fun p => Value.ref p.1).toArray := hl.extBut sb1.extBut (Ne.symm hil)
    show wpAny _ A.in1 (holding [Value.ref ps[i].1] _ >>= _) _ _ _
    refine wpAny_bind (wpAny_holding (wpAny_bind ?_))
    refine wpAny_tryCatch ?_
    unfold Builtin.Dict.pairItems
    refine wpAny_bind (wpAny_typeOf (T := "tuple") ⟨o, ho, hc⟩ ?_)
    rw [if_pos (by decide)]
    refine wpAny_bind (wpAny_seqItems ho hdat (wpAny_pure ?_))
    show wpAny _ A.in1 (holding [ps[i].2.2.1, ps[i].2.2.2] (dictSet d ps[i].2.2.1 ps[i].2.2.2)) _ _ _
    refine wpAny_holding (wpAny_dictSet_pairs hk hd1 (fun h2 hd2 sb2 => ?_) (by omega))
    have hc1 : ((i : Int) + 1) = ((i + 1 : Nat) : Int) := by push_cast; rfl
    have up : ∀ b o, b ≠ d → b ≠ it → s.heap.get? b = some o → h2.get? b = some o := fun b o q1 q2 q => (sb2.2 b q1).trans ((sb1.2 b q2).trans q)
    refine wpAny_pure ⟨plainId_quiet F.my_plain_dul _, ?_⟩
    show codeAny _ _ (.builtin "dict.update.loop" ⟨[.ref d, .ref it, rawInt ((i : Int) + 1), res], []⟩) _ _
    rw [hc1]
    refine ih (i + 1) _ _ (by omega) hlt ?_ ?_ ?_ hd2 ?_ ?_
    · obtain ⟨oi, q, r⟩ := hit1
      exact ⟨oi, (sb2.2 _ (Ne.symm hdi)).trans q, r⟩
    · exact hl1.extBut sb2.extBut (Ne.symm hdl)
    · intro p hp
      obtain ⟨o', q, r⟩ := ht1 p hp
      exact ⟨o', (sb2.2 _ (hps p hp).1).trans q, r⟩
    · have := stored_length_le kvs ps[i].2.1 ps[i].2.2.2
      omega
    · intro h' tk hd' keep
      refine hR h' tk ?_ fun b o q1 q2 q => keep b o q1 q2 (up b o q1 q2 q)
      rw [hdr]
      exact hd'
end
end PySem

namespace PySem
section
variable {prog : Program} {w : World} {K : Type} [DecidableEq K] {knd : KeyKind prog w K} {A : Around} {E : Value → Shared → Prop} {s : Shared}
theorem my_call_dict_pairs {l : Addr} {n : Nat} {sl : Array (Option Value)} {ps : List (Addr × K × Value × Value)} {Q : Value → Shared → Prop} (hh : A.handled = none)
    (hl : s.heap.get? l = some { cls := .type "list", dict := none, data := .seq (ps.map fun p => Value.ref p.1).toArray n, slots := sl })
    (ht : ∀ p ∈ ps, s.heap.IsTuple p.1 #[p.2.2.1, p.2.2.2] ∧ knd.is p.2.1 p.2.2.1 = true) (hsz : ps.length ≤ sizeLine)
    (h : ∀ h' tk, h'.DictOf knd s.heap.objs.size (ps.foldl (fun acc p => stored acc p.2.1 p.2.2.2) []) → (∀ b o, s.heap.get? b = some o → h'.get? b = some o) → Q (.ref s.heap.objs.size) { s with heap := h', toks := tk }) :
    wpAny (model prog w) A (call (.type "dict") [.ref l]) Q E s := by
  refine callType_codes (Q₁ := fun obj s₁ => obj = .ref s.heap.objs.size ∧ s₁ = { s with heap := s.heap.push { cls := .type "dict", data := .dict #[] } }) F.kt_called_dict (F.kt_typeCall_dict_1 _) F.entry_dict_init (kt_code_dict_new _ ⟨rfl, rfl⟩) ?_
  rintro obj s₁ ⟨rfl, rfl⟩
  have hnew : (s.heap.push { cls := .type "dict", data := .dict #[] }).DictOf knd s.heap.objs.size [] := Heap.DictOf.new s.heap
  have up : ∀ b o, s.heap.get? b = some o → (s.heap.push { cls := .type "dict", data := .dict #[] }).get? b = some o := fun b o q => Heap.get?_push_of_some _ q
  have hl1 := up _ _ hl
  refine ⟨hnew.typeIs, F.args_dict_init_2 _ _, ?_⟩
  unfold Builtin.«dict.__init__»
  refine wpAny_bind ?_
  unfold Builtin.Dict.selfAndRest
  refine wpAny_bind (wpAny_notOrdered_dict hnew.typeIs ?_)
  show wpAny _ _ (pure (s.heap.objs.size, [Value.ref l])) _ _ _
  refine wpAny_pure ?_
  show wpAny _ _ (Builtin.Dict.updateFrom "dict.__init__" s.heap.objs.size (.ref l) [] .none) _ _ _
  unfold Builtin.Dict.updateFrom
  refine wpAny_bind (wpAny_typeOf (T := "list") ⟨_, hl1, rfl⟩ ?_)
  rw [if_pos (by decide)]
  refine wpAny_bind (my_no_keys hl1 hh fun h2 tk2 k2 => ?_)
  rw [if_pos (show (none : Option Value).isNone = true from rfl)]
  refine wpAny_bind (wpAny_rule ?_)
  have hl2 := k2 _ _ hl1
  have isl : h2.IsList l (ps.map fun p => Value.ref p.1).toArray := ⟨_, hl2, rfl, n, rfl⟩
  have hlo : l < s.heap.objs.size := Heap.lt_size hl
  have sz : s.heap.objs.size + 1 ≤ h2.objs.size := by
    obtain ⟨o, es, ep, q, r⟩ := id hnew
    exact Heap.lt_size (k2 _ _ q)
  refine wpAny_bind (wpAny_pyIter_list isl ?_)
  refine wpAny_pure ⟨plainId_quiet F.my_plain_dul _, ?_⟩
  have up3 : ∀ b o, s.heap.get? b = some o → (h2.push { cls := .type "list_iterator", data := .fields #[.ref l, .int 0 0] }).get? b = some o := fun b o q => Heap.get?_push_of_some _ (k2 _ _ (up b o q))
  refine my_dul (A := A.in1) (knd := knd) (l := l) (ps := ps) hh (Nat.ne_of_gt hlo) (Nat.ne_of_lt sz) (Nat.ne_of_gt (Nat.lt_of_lt_of_le hlo (Nat.le_of_lt sz))) (fun p hp => ?_) ps.length 0 _ [] (by omega) (Nat.zero_le _) ?_ ?_ ?_ ?_ ?_ ?_
  · obtain ⟨⟨o, q, _⟩, hk⟩ := ht p hp
    have := Heap.lt_size q
    exact ⟨Nat.ne_of_lt this, Nat.ne_of_lt (Nat.lt_trans this sz), hk⟩
  · exact ⟨_, Heap.get?_push_size _ rfl, rfl, rfl⟩
  · exact ⟨_, Heap.get?_push_of_some _ hl2, rfl, n, rfl⟩
  · intro p hp
    obtain ⟨⟨o, q, r⟩, hk⟩ := ht p hp
    exact ⟨o, up3 _ _ q, r⟩
  · obtain ⟨o, es, ep, q, r⟩ := hnew
    exact ⟨o, es, ep, Heap.get?_push_of_some _ (k2 _ _ q), r⟩
  · simpa using hsz
  · intro h' tk hd' keep
    refine ⟨rfl, h h' tk hd' fun b o q => ?_⟩
    have := Heap.lt_size q
    exact keep b o (Nat.ne_of_lt this) (Nat.ne_of_lt (Nat.lt_trans this sz)) (up3 b o q)
end
end PySem

namespace L2
open PySem PySem.Spec PyProof.Rows
theorem vals_refs : ∀ {as : List Addr} {us : List Value}, Vals (as.map V.ref) us → us = as.map Value.ref
  | [], _, .nil => rfl
  | a :: r, _, .cons h t => by
    rw [vals_refs t]
    exact congrArg (· :: r.map Value.ref) (show _ = Value.ref a from h)
/-- the pairs that a list of tuples holds, with the values that stand there -/
theorem pairs_of {P : Program} {w : World} {H : Hp} {h : Heap} (ok : HOk P w H h) : ∀ {ps : List (Addr × Key × V)}, (∀ p ∈ ps, H p.1 = some (.tup [kV p.2.1, p.2.2])) →
    ∃ qs : List (Addr × Key × Value × Value), Paired (fun (p : Addr × Key × V) (q : Addr × Key × Value × Value) => p.1 = q.1 ∧ p.2.1 = q.2.1 ∧ RelV p.2.2 q.2.2.2) ps qs ∧ ∀ q ∈ qs, h.IsTuple q.1 #[q.2.2.1, q.2.2.2] ∧ (mixKind P w).is q.2.1 q.2.2.1 = true
  | [], _ => ⟨[], .nil, fun q hq => by cases hq⟩
  | (a, k, v) :: r, hp => by
    obtain ⟨qs, pr, hq⟩ := pairs_of ok (ps := r) fun p hp' => hp p (List.mem_cons_of_mem _ hp')
    obtain ⟨_, its, vs, tu⟩ := (show ObjOk P w H h a (.tup [kV k, v]) from ok a _ (hp (a, k, v) (List.mem_cons_self ..)))
    obtain ⟨u1, u2, rfl, r1, r2⟩ := vals2 vs
    refine ⟨(a, k, u1, u2) :: qs, .cons ⟨rfl, rfl, r2⟩ pr, fun q hq' => ?_⟩
    rcases List.mem_cons.mp hq' with rfl | z
    · exact ⟨tu, kV_is r1⟩
    · exact hq q z
theorem pairs_refs : ∀ {ps : List (Addr × Key × V)} {qs : List (Addr × Key × Value × Value)}, Paired (fun (p : Addr × Key × V) (q : Addr × Key × Value × Value) => p.1 = q.1 ∧ p.2.1 = q.2.1 ∧ RelV p.2.2 q.2.2.2) ps qs → (ps.map fun p => Value.ref p.1) = qs.map fun q => Value.ref q.1
  | _, _, .nil => rfl
  | _, _, .cons h t => by
    rw [List.map_cons, List.map_cons, pairs_refs t, h.1]
theorem pairs_fold : ∀ {ps : List (Addr × Key × V)} {qs : List (Addr × Key × Value × Value)} {kvs : List (Key × V)} {vs : List (Key × Value)}, Paired (fun (p : Addr × Key × V) (q : Addr × Key × Value × Value) => p.1 = q.1 ∧ p.2.1 = q.2.1 ∧ RelV p.2.2 q.2.2.2) ps qs → KV kvs vs →
    KV (mergeK kvs (ps.map (·.2))) (qs.foldl (fun acc q => stored acc q.2.1 q.2.2.2) vs)
  | _, _, _, _, .nil, h => h
  | _, _, kvs, vs, .cons (b := q) (a := p) h t, r => by
    obtain ⟨h1, h2, h3⟩ := h
    have u : KV (putK kvs p.2.1 p.2.2) (stored vs q.2.1 q.2.2.2) := by
      rw [← h2]
      exact r.put p.2.1 h3
    have z := pairs_fold t u
    exact z
theorem call_dictP {X : Cx} (hc : X.calm = true) : CallR X (.type "dict") (fun xs H Q => ∃ l, ∃ ps : List (Addr × Key × V), xs = [.ref l] ∧ H l = some (.lst (ps.map fun p => .ref p.1)) ∧ (∀ p ∈ ps, H p.1 = some (.tup [kV p.2.1, p.2.2])) ∧
    ∀ q, H q = none → Q (.ref q) (upd H q (.dK (mergeK [] (ps.map (·.2)))))) := by
  intro pins s σ H xs us Q I r h
  obtain ⟨l, ps, rfl, hl, hp, q⟩ := h
  obtain ⟨u, rfl, ru⟩ := vals1 r
  cases ru
  obtain ⟨z, its, n, vs, _, e⟩ := I.lstM hl
  obtain ⟨qs, pr, hq⟩ := pairs_of I.hok hp
  have e1 : its = qs.map fun q => Value.ref q.1 := by
    rw [← pairs_refs pr]
    have := vals_refs (as := ps.map (·.1)) (us := its) (by rw [List.map_map]; exact vs)
    rw [this, List.map_map]; rfl
  subst e1
  have zl : qs.length ≤ sizeLine := by
    rw [← pr.length]
    rwa [List.length_map] at z
  refine my_call_dict_pairs (ps := qs) (I.ok.hd hc) e hq zl fun h' tk dd keep => ?_
  have kv := pairs_fold (kvs := []) (vs := []) pr .nil
  have zz : (mergeK [] (ps.map (·.2))).length ≤ sizeLine := by
    have := length_mergeK (ps.map (·.2)) []
    rw [List.length_map] at this
    have := pr.length
    simp only [List.length_nil] at *
    omega
  exact ⟨.ref s.heap.objs.size, _, I.laid (a := s.heap.objs.size) (o := .dK (mergeK [] (ps.map (·.2)))) (t' := tk) keep (Nat.le_refl _) (dk_new zz (beq_eq_false_iff_ne.mpr (Ne.symm (Nat.ne_of_lt I.big))) kv dd), rfl, q _ (I.hok.fresh (Nat.le_refl _))⟩

/-! ### xs.index(y): flat items -/
def rIndex (K : PySem.W.Frag) : V → List V → Hp → VK → Prop := fun x vs H Q => ∃ l xs y, ∃ j : Nat, x = .ref l ∧ vs = [y] ∧ SqL K H l xs ∧ xs.all flatV = true ∧ flatV y = true ∧ xs.findIdx? (fun z => eqV z y) = some j ∧ Q (.int j) H
end L2

/-! MY OWN RULES, part 4: the defs of a text in bundles; small helps -/
namespace L2
open PySem PySem.Spec PyProof.Rows

/-- a def, with any defaults -/
structure FunD (K : PySem.W.Frag) (x qual : Str) (st : Stmt) (f : Addr) (fd : FuncData) (dV : Value) : Prop where
  ex : ∃ (oc : Value) (od : Option Addr) (kV doc pm : Value) (an : Option Addr) (cdv ct : Value) (osl : Array (Option Value)),
    fd = PySem.W.fnOf x qual (defArgs st) (defBody st) (defScope st) dV kV doc pm an cdv ct ∧ K.lookup f = some ⟨oc, od, .func fd, osl⟩ ∧ PySem.W.codeIn K cdv qual = true
  kp : PySem.W.keepIn K (.ref f) = true
section
variable {P : Program} {w : World} {K : PySem.W.Frag} {mg : Str → Option Value} {base : Heap}
theorem FunD.ok {x qual : Str} {st : Stmt} {f : Addr} {fd : FuncData} {dV : Value} {N ps : List Str} {k : Nat} {sp : Sp} (F : FunD K x qual st f fd dV) (S : FnScope N ps (defScope st)) (len : ∀ vs H Q E, sp vs H Q E → vs.length = ps.length)
    (hbody : ∀ (cdv : Value) (A : Around) (outer : List Env) (s : Shared) (H : Hp) (vs : List V) (Q : VK) (E : XK), Room k (A.deeper (envOfC qual (defScope st) s.heap.objs.size f cdv)) → sp vs H Q E →
      ∃ t, PSs (cxOf CX0 P w K mg base N qual (defScope st) f cdv A outer s H E).nox (defBody st) t ∧ t { nx := fun _ H' => Q .non H', rt := Q } (start N vs) H) : FnOk P w K mg base CX0 (k + 1) f fd ps sp := by
  obtain ⟨oc, od, kV, doc, pm, an, cdv, ct, osl, rfl, lk, hcd⟩ := F.ex
  refine fn_of lk hcd S len fun A outer s H vs Q E hr hsp => ?_
  obtain ⟨t, h, q⟩ := hbody cdv A outer s H vs Q E hr hsp
  exact ⟨t, h.nox, q⟩
theorem funD_mk {x qual : Str} {st : Stmt} {f : Addr} {oc dV : Value} {od an : Option Addr} {osl : Array (Option Value)} {kV doc pm cdv ct : Value} (l : K.lookup f = some ⟨oc, od, .func (PySem.W.fnOf x qual (defArgs st) (defBody st) (defScope st) dV kV doc pm an cdv ct), osl⟩)
    (c : PySem.W.codeIn K cdv qual = true) (k : PySem.W.keepIn K (.ref f) = true) : FunD K x qual st f (PySem.W.fnOf x qual (defArgs st) (defBody st) (defScope st) dV kV doc pm an cdv ct) dV := ⟨⟨oc, od, kV, doc, pm, an, cdv, ct, osl, rfl, l, c⟩, k⟩

/-- a def of the module, as it stands behind the top; as it may be called -/
def Def (K : PySem.W.Frag) (mg : Str → Option Value) (x q : Str) (st : Stmt) (ps : List Str) : Prop := ∃ f fd, Fun K x q st f fd ∧ Binds K fd ps [] ∧ mg x = some (.ref f)
structure Cal (P : Program) (w : World) (K : PySem.W.Frag) (mg : Str → Option Value) (base : Heap) (k : Nat) (x : Str) (ps : List Str) (sp : Sp) (f : Addr) (fd : FuncData) : Prop where
  ok : FnOk P w K mg base CX0 k f fd ps sp
  kp : PySem.W.keepIn K (.ref f) = true
  b : Binds K fd ps []
  g : mg x = some (.ref f)
def CalE (P : Program) (w : World) (K : PySem.W.Frag) (mg : Str → Option Value) (base : Heap) (k : Nat) (x : Str) (ps : List Str) (sp : Sp) : Prop := ∃ f fd, Cal P w K mg base k x ps sp f fd
theorem Def.cal {x q : Str} {st : Stmt} {N ps : List Str} {k : Nat} {sp : Sp} (D : Def K mg x q st ps) (S : FnScope N ps (defScope st)) (len : ∀ vs H Q E, sp vs H Q E → vs.length = ps.length)
    (hbody : ∀ (f : Addr) (cdv : Value) (A : Around) (outer : List Env) (s : Shared) (H : Hp) (vs : List V) (Q : VK) (E : XK), Room k (A.deeper (envOfC q (defScope st) s.heap.objs.size f cdv)) → sp vs H Q E →
      ∃ t, PSs (cxOf CX0 P w K mg base N q (defScope st) f cdv A outer s H E).nox (defBody st) t ∧ t { nx := fun _ H' => Q .non H', rt := Q } (start N vs) H) : CalE P w K mg base (k + 1) x ps sp := by
  obtain ⟨f, fd, F, b, g⟩ := D
  exact ⟨f, fd, F.ok S len (hbody f), F.kp, b, g⟩
/-- a method -/
def DefM (K : PySem.W.Frag) (C : Addr) (m q : Str) (st : Stmt) (ps : List Str) : Prop := ∃ f fd, Fun K m q st f fd ∧ Binds K fd ps [] ∧ Meth K C m f
structure CalM (P : Program) (w : World) (K : PySem.W.Frag) (mg : Str → Option Value) (base : Heap) (k : Nat) (C : Addr) (m : Str) (ps : List Str) (sp : Sp) (f : Addr) (fd : FuncData) : Prop where
  ok : FnOk P w K mg base CX0 k f fd ps sp
  m : Meth K C m f
  b : Binds K fd ps []
def CalME (P : Program) (w : World) (K : PySem.W.Frag) (mg : Str → Option Value) (base : Heap) (k : Nat) (C : Addr) (m : Str) (ps : List Str) (sp : Sp) : Prop := ∃ f fd, CalM P w K mg base k C m ps sp f fd
theorem DefM.cal {C : Addr} {m q : Str} {st : Stmt} {N ps : List Str} {k : Nat} {sp : Sp} (D : DefM K C m q st ps) (S : FnScope N ps (defScope st)) (len : ∀ vs H Q E, sp vs H Q E → vs.length = ps.length)
    (hbody : ∀ (f : Addr) (cdv : Value) (A : Around) (outer : List Env) (s : Shared) (H : Hp) (vs : List V) (Q : VK) (E : XK), Room k (A.deeper (envOfC q (defScope st) s.heap.objs.size f cdv)) → sp vs H Q E →
      ∃ t, PSs (cxOf CX0 P w K mg base N q (defScope st) f cdv A outer s H E).nox (defBody st) t ∧ t { nx := fun _ H' => Q .non H', rt := Q } (start N vs) H) : CalME P w K mg base (k + 1) C m ps sp := by
  obtain ⟨f, fd, F, b, g⟩ := D
  exact ⟨f, fd, F.ok S len (hbody f), g, b⟩
/-- a class's __init__, with int defaults ds for its last parameters: any tail of them may be left to it -/
def DefI (K : PySem.W.Frag) (C : Addr) (q : Str) (st : Stmt) (ps : List Str) (ds : List Int) : Prop := ∃ f fd dV, FunD K "__init__" q st f fd dV ∧ Mk K C f ∧ ∀ j, j ≤ ds.length → ∃ us, Vals ((ds.drop j).map V.int) us ∧ Binds K fd ps us
structure CalI (P : Program) (w : World) (K : PySem.W.Frag) (mg : Str → Option Value) (base : Heap) (k : Nat) (C : Addr) (ps : List Str) (ds : List Int) (sp : Sp) (f : Addr) (fd : FuncData) : Prop where
  ok : FnOk P w K mg base CX0 k f fd ps sp
  m : Mk K C f
  b : ∀ j, j ≤ ds.length → ∃ us, Vals ((ds.drop j).map V.int) us ∧ Binds K fd ps us
def CalIE (P : Program) (w : World) (K : PySem.W.Frag) (mg : Str → Option Value) (base : Heap) (k : Nat) (C : Addr) (ps : List Str) (ds : List Int) (sp : Sp) : Prop := ∃ f fd, CalI P w K mg base k C ps ds sp f fd
theorem DefI.cal {C : Addr} {q : Str} {st : Stmt} {N ps : List Str} {ds : List Int} {k : Nat} {sp : Sp} (D : DefI K C q st ps ds) (S : FnScope N ps (defScope st)) (len : ∀ vs H Q E, sp vs H Q E → vs.length = ps.length)
    (hbody : ∀ (f : Addr) (cdv : Value) (A : Around) (outer : List Env) (s : Shared) (H : Hp) (vs : List V) (Q : VK) (E : XK), Room k (A.deeper (envOfC q (defScope st) s.heap.objs.size f cdv)) → sp vs H Q E →
      ∃ t, PSs (cxOf CX0 P w K mg base N q (defScope st) f cdv A outer s H E).nox (defBody st) t ∧ t { nx := fun _ H' => Q .non H', rt := Q } (start N vs) H) : CalIE P w K mg base (k + 1) C ps ds sp := by
  obtain ⟨f, fd, dV, F, g, b⟩ := D
  exact ⟨f, fd, F.ok S len (hbody f), g, b⟩
end
theorem Same.new {H : Hp} {p : Addr} {o : HO} (h : H p = none) : Same H (upd H p o) := fun b q e => by
  rw [upd_ne (ne_of_none e h)]; exact e
theorem Same.not {H H' : Hp} (e : Same H H') {b p : Addr} {o : HO} (h : H b = some o) (n : H' p = none) : b ≠ p := ne_of_none (e b o h) n
end L2
namespace L2
open PySem
theorem bt_len : bootBuiltins "len" = some (.builtin "len") := PySem.boot_len
theorem bt_isinstance : bootBuiltins "isinstance" = some (.builtin "isinstance") := by decide +kernel
theorem bt_int : bootBuiltins "int" = some (.type "int") := by decide +kernel
theorem bt_str : bootBuiltins "str" = some (.type "str") := by decide +kernel
theorem bt_bool : bootBuiltins "bool" = some (.type "bool") := by decide +kernel
theorem bt_list : bootBuiltins "list" = some (.type "list") := by decide +kernel
theorem bt_dict : bootBuiltins "dict" = some (.type "dict") := by decide +kernel
theorem bt_sum : bootBuiltins "sum" = some (.builtin "sum") := by decide +kernel
theorem iteP {c A B : Prop} [Decidable c] (hc : c) (h : A) : if decide c = true then A else B := by
  rw [if_pos (decide_eq_true hc)]; exact h
theorem iteN {c A B : Prop} [Decidable c] (hc : ¬ c) (h : B) : if decide c = true then A else B := by
  rw [if_neg (by rw [decide_eq_false hc]; decide)]; exact h
/-- an item of a written list at a place in its bounds -/
theorem atI_in {α : Type} {xs : List α} {i : Int} (h0 : 0 ≤ i) (h1 : i < xs.length) : ∃ v, v ∈ xs ∧ atI xs i = some v := by
  have hl : i.toNat < xs.length := by omega
  refine ⟨xs[i.toNat], List.getElem_mem hl, ?_⟩
  have := atI_nat (List.getElem?_eq_getElem hl)
  rwa [Int.toNat_of_nonneg h0] at this
theorem str_app_len (x y : Str) : (x ++ y).length = x.length + y.length := by
  show (x.cps ++ y.cps).size = _
  rw [Array.size_append]; rfl
theorem small_log {n : Int} (h1 : 0 ≤ n) (h2 : n < 2 ^ 64) : n.natAbs.log2 < 1920 := by
  by_cases h : n.natAbs = 0
  · rw [h]; decide
  · have := (Nat.log2_lt h (k := 64)).mpr (by omega)
    omega
end L2
namespace L2
open PySem PySem.Spec PyProof.Rows
/-- written constants, one after another -/
inductive CstEs : List Expr → List V → Prop where
  | nil : CstEs [] []
  | int {i : Int} {j} {pos : Pos} {es : List Expr} {vs : List V} (t : CstEs es vs) : CstEs (.Constant (.int i) j pos :: es) (.int i :: vs)
  | str {x : Str} {j} {pos : Pos} {es : List Expr} {vs : List V} (t : CstEs es vs) : CstEs (.Constant (.str x) j pos :: es) (.str x :: vs)
def tCsts (vs : List V) : TA := fun _ H Q => Q vs H
theorem pa_csts {X : Cx} {es : List Expr} {vs : List V} (h : CstEs es vs) : PA X es (tCsts vs) := by
  induction h with
  | nil => exact pa_nil
  | int t ih => exact fun pos pins s σ H Q I q => pa_cons pe_int ih rfl pos pins s σ H Q I q
  | str t ih => exact fun pos pins s σ H Q I q => pa_cons pe_str ih rfl pos pins s σ H Q I q
/-! ### isinstance's answers -/
section
variable {K : PySem.W.Frag}
theorem kit_same {T : String} : PySem.W.kitOne K (.type T) (.type T) = some true := by
  unfold PySem.W.kitOne
  rw [if_pos (by simp)]
theorem kit_bt {T U : String} {b : Bool} (h1 : (Value.type T == Value.type U) = false) (h2 : PySem.W.kitMeta U = true) (h3 : (fastBuiltinMro T).map (·.contains (Value.type U)) = some b) : PySem.W.kitOne K (.type T) (.type U) = some b := by
  unfold PySem.W.kitOne
  rw [if_neg (by rw [h1]; decide)]
  unfold PySem.W.kitCls
  dsimp only
  rw [if_pos h2]
  exact h3
theorem kit_int_bool : PySem.W.kitOne K (.type "int") (.type "bool") = some false := kit_bt (by decide +kernel) (by decide +kernel) (by decide +kernel)
end
end L2

/-! MY OWN RULES, part 5: y = [..], sum, join, == of lists -/
namespace L2
open PySem PySem.Spec PyProof.Rows
section
variable {X : Cx} {elt tg iter : Expr} {ifs : List Expr} {scope : Scope} {pos spos py : Pos} {N : List Str} {fr : List (Option Nat)} {wi : TI} {g : TG} {tt : TT} {te : TE}
end
/-- in a block the reading may not hang on the block: K and the number of targets told -/
theorem pg_tupK {X : Cx} {es : List Expr} {k : Nat} {pos : Pos} {t : TGs} (K : PySem.W.Frag) (n : Nat) (hK : X.K = K) (hc : X.calm = true) (h : PGs X es t) (hn : (assignEach es X.env).length = n := by rfl) (hst : (assignEach es X.env).findIdx? (·.1) = none := by rfl) : PG X (.Tuple es k pos) (gTup K n t) := by
  subst hK
  exact pg_tup hc h hn hst
/-- a comprehension over a dict that its block leaves as it is (frozen) -/
theorem comp_dict {a D : Addr} {o : Obj} {kvs : List (Key × V)} {g : TG} {tt : TT} {te : TE} {Q : Hp → Prop} {σ : St} {H : Hp} (Pv : Nat → St → Hp → Prop) (h0 : Pv 0 σ H) (hl : ∀ i σ H, Pv i σ H → H a = some (.frz o (.dK kvs)))
    (hs : ∀ i k v σ H, kvs[i]? = some (k, v) → Pv i σ H → ∀ N : St → Hp → Prop, (∀ σ' H', Pv (i + 1) σ' H' → N σ' H') → g (kV k) σ H fun σ3 H3 => tt σ3 H3 fun b H4 => if b = true then te σ3 H4 fun y H5 => ∃ ys, H5 D = some (.lst ys) ∧ ys.length < sizeLine ∧ N σ3 (upd H5 D (.lst (ys ++ [y]))) else N σ3 H4)
    (hd : ∀ σ H, Pv kvs.length σ H → Q H) :
    ∃ W : Nat → Nat → St → Hp → Prop, (∃ m, W 0 m σ H) ∧ ∀ i m σ H, W i m σ H → ((Itd a o kvs).stop i H ∧ Q H) ∨ ((Itd a o kvs).go i H ∧ ∀ x H2, (Itd a o kvs).yld i H x H2 → g x σ H2 fun σ3 H3 => tt σ3 H3 fun b H4 => if b = true
      then te σ3 H4 fun y H5 => ∃ ys, H5 D = some (.lst ys) ∧ ys.length < sizeLine ∧ ∃ m', m' < m ∧ W (i + 1) m' σ3 (upd H5 D (.lst (ys ++ [y])))
      else ∃ m', m' < m ∧ W (i + 1) m' σ3 H4) := by
  refine ⟨fun i m σ H => m + i = kvs.length ∧ Pv i σ H, ⟨kvs.length, rfl, h0⟩, ?_⟩
  rintro i m σ H ⟨hm, hp⟩
  have hz := hl i σ H hp
  by_cases hi : i < kvs.length
  · refine .inr ⟨⟨hz, hi⟩, ?_⟩
    rintro x H2 ⟨rfl, k, v, hkv, rfl⟩
    exact hs i k v σ H2 hkv hp _ fun σ' H' q => ⟨m - 1, by omega, by omega, q⟩
  · have e : i = kvs.length := by omega
    subst e
    exact .inl ⟨⟨hz, Nat.le_refl _⟩, hd σ H hp⟩
end L2

/-! MY OWN RULES, part 6: sum, join, insert, deep ==, two ways to read one expression -/
namespace L2
open PySem PySem.Spec PyProof.Rows
section
variable {X : Cx}
def tOr2 (t u : TE) : TE := fun σ H Q => t σ H Q ∨ u σ H Q
theorem pe_or2 {e : Expr} {t u : TE} (h : PE X e t) (h' : PE X e u) : PE X e (tOr2 t u) := fun pins s σ H Q I q =>
  q.elim (fun z => h pins s σ H Q I z) fun z => h' pins s σ H Q I z
theorem call_sum (hc : X.calm = true) : CallR X (.builtin "sum") (fun xs H Q => ∃ p, ∃ ns : List Int, xs = [.ref p] ∧ SqL X.K H p (ns.map V.int) ∧ Q (.int ns.sum) H) := by
  intro pins s σ H xs us Q I r h
  obtain ⟨p, ns, rfl, hS, q⟩ := h
  obtain ⟨u, rfl, ru⟩ := vals1 r
  cases ru
  obtain ⟨its, rv, pl, hz⟩ := I.list hS
  have hi : IntsAre its ns := intsAre_of rv
  obtain ⟨ys, hy⟩ := hi.allInts.items
  have hl : s.heap.IsList p (intItems ys) := hy ▸ pl.isList
  refine sum_intListG (I.ok.hd hc) hl fun h' tk t' hk => ?_
  have e1 : ns = ys.toList.map (·.1) := by
    rw [← nums_intItems, ← hy]
    exact (show numsOf its.toArray.toList = ns from hi.numsOf).symm
  have e2 : preSum (numAt ys) ys.size = ns.sum := by rw [preSum_eq, List.take_of_length_le (by simp), e1]
  exact ⟨.int ns.sum, H, I.kept hk, ⟨_, by rw [e2]⟩, q⟩
/-- sep.join(a list of texts) -/
def rJoin (K : PySem.W.Frag) : V → List V → Hp → VK → Prop := fun x vs H Q => ∃ z l, ∃ ys : List Str, x = .str z ∧ vs = [.ref l] ∧ SqL K H l (ys.map V.str) ∧ (ys.map (·.length)).sum + ys.length * z.length ≤ 16777216 ∧ Q (.str (Txt.join z ys)) H
/-! ### == at any depth: ints, texts, bools, lists and tuples of these -/
mutual
inductive RdD (K : PySem.W.Frag) (H : Hp) : V → PyData → Prop where
  | non : RdD K H .non .none
  | bl (b : Bool) : RdD K H (.bl b) (.bool b)
  | int (i : Int) : RdD K H (.int i) (.int i)
  | str (x : Str) : RdD K H (.str x) (.str x)
  | lst {a : Addr} {xs : List V} {ds : List PyData} (h : SqL K H a xs) (t : RdDs K H xs ds) : RdD K H (.ref a) (.list ds)
  | tup {a : Addr} {xs : List V} {ds : List PyData} (h : SqT K H a xs) (t : RdDs K H xs ds) : RdD K H (.ref a) (.tuple ds)
inductive RdDs (K : PySem.W.Frag) (H : Hp) : List V → List PyData → Prop where
  | nil : RdDs K H [] []
  | cons {x : V} {d : PyData} {xs : List V} {ds : List PyData} (h : RdD K H x d) (t : RdDs K H xs ds) : RdDs K H (x :: xs) (d :: ds)
end
mutual
theorem reads_of {pins : List (Addr × Obj)} {σ : St} {H : Hp} {s : Shared} (I : Inv X pins σ H s) {x : V} {d : PyData} (h : RdD X.K H x d) {u : Value} (r : RelV x u) : ∃ as, Reads s.heap u d as := by
  cases h with
  | non => cases (show u = Value.none from r); exact ⟨_, .none⟩
  | bl b => cases (show u = Value.bool b from r); exact ⟨_, .bool b⟩
  | int i => obtain ⟨t, rfl⟩ := (show ∃ t, u = Value.int i t from r); exact ⟨_, .int i t⟩
  | str y => obtain ⟨t, rfl⟩ := (show ∃ t, u = Value.str y t from r); exact ⟨_, .str y t⟩
  | @lst a xs ds hS t =>
    cases (show u = Value.ref a from r)
    obtain ⟨its, rv, p, _⟩ := I.list hS
    obtain ⟨o, ho, hc, n, hd⟩ := p.isList
    obtain ⟨as, ra⟩ := readsAll_of I t rv
    exact ⟨_, .list ho hc hd (by simpa using ra)⟩
  | @tup a xs ds hS t =>
    cases (show u = Value.ref a from r)
    obtain ⟨its, rv, p, _⟩ := I.tuple hS
    obtain ⟨o, ho, hc, n, hd⟩ := p
    obtain ⟨as, ra⟩ := readsAll_of I t rv
    exact ⟨_, .tuple ho hc hd (by simpa using ra)⟩
theorem readsAll_of {pins : List (Addr × Obj)} {σ : St} {H : Hp} {s : Shared} (I : Inv X pins σ H s) {xs : List V} {ds : List PyData} (h : RdDs X.K H xs ds) {us : List Value} (r : Vals xs us) : ∃ as, ReadsAll s.heap us ds as := by
  cases h with
  | nil => cases r; exact ⟨_, .nil⟩
  | cons h t =>
    cases r with
    | cons r1 r2 =>
      obtain ⟨as, ra⟩ := reads_of I h r1
      obtain ⟨bs, rb⟩ := readsAll_of I t r2
      exact ⟨_, .cons ra rb⟩
end
def rEqR (neg : Bool) (K : PySem.W.Frag) : R2 := fun x y H Q => ∃ d e, RdD K H x d ∧ RdD K H y e ∧ SeqAt.shaped d = true ∧ SeqAt.shaped e = true ∧ Q (.bl (neg ^^ PyData.eqv d e)) H
theorem op_eqR (hu : X.A.units + 64 < cLine) : OpR X (compareOp .Eq) (rEqR false X.K) := by
  intro pins s σ H x y v u Q I rx ry h
  obtain ⟨d, e, hd, he, sd, se, q⟩ := h
  obtain ⟨as, ra⟩ := reads_of I hd rx
  obtain ⟨bs, rb⟩ := reads_of I he ry
  exact SeqAt.compareEq_shaped ra rb sd se hu ⟨.bl (PyData.eqv d e), H, I, rfl, by simpa using q⟩
theorem RdDs.ints {K : PySem.W.Frag} {H : Hp} : ∀ ns : List Int, RdDs K H (ns.map V.int) (ns.map PyData.int)
  | [] => .nil
  | i :: r => .cons (.int i) (RdDs.ints r)
/-- xs.insert(0, y) -/
def rInsert0 : V → List V → Hp → VK → Prop := fun x vs H Q => ∃ l xs y, x = .ref l ∧ vs = [.int 0, y] ∧ H l = some (.lst xs) ∧ xs.length < sizeLine ∧ Q .non (upd H l (.lst (y :: xs)))
end
end L2

/-! MY OWN RULES, part 7: ints of many bits; zip and enumerate walked; what both ways of an if leave -/
namespace L2
open PySem PySem.Spec PyProof.Rows
/-- within 2 ^ n either way -/
def Fit (n : Nat) (i : Int) : Prop := i.natAbs < 2 ^ n
theorem Fit.bits {n : Nat} {i : Int} (h : Fit n i) : Builtin.Int.intBits i ≤ n := by
  unfold Builtin.Int.intBits
  by_cases e : i = 0
  · rw [if_pos (by simp [e])]; exact Nat.zero_le _
  · rw [if_neg (by simp [e])]
    have h0 : i.natAbs ≠ 0 := by omega
    have := (Nat.log2_lt h0).mpr h
    omega
theorem Fit.mono {m n : Nat} {i : Int} (h : Fit m i) (hn : m ≤ n) : Fit n i := Nat.lt_of_lt_of_le h (Nat.pow_le_pow_right (by decide) hn)
def CMulF (i j : Int) : Prop := CMul i j ∨ ∃ m n, Fit m i ∧ Fit n j ∧ m + n ≤ 134217728
theorem CMulF.ok {i j : Int} (h : CMulF i j) : IntMulOk i j := by
  rcases h with h | ⟨m, n, h1, h2, h3⟩
  · exact h.ok
  · have a := h1.bits
    have b := h2.bits
    have hc : Builtin.Int.intTooBig (Builtin.Int.intBits i + Builtin.Int.intBits j) = false := by
      unfold Builtin.Int.intTooBig bitsLine
      exact decide_eq_false (by omega)
    unfold IntMulOk
    rw [hc]
    simp
def CDivF (_ j : Int) : Prop := j ≠ 0 ∧ Fit 9000 j
section
variable {X : Cx}
theorem op_mulF : OpR X (binaryOp .Mult) (rI CMulF fun i j => .int (i * j)) := opI fun _ _ _ _ _ _ _ hc q => mul_int q hc.ok
end
/-- behind an if: what both ways leave -/
theorem join_if {tt : TT} {A B r : TS} {D : Ends} {σ : St} {H : Hp} (Pm : St → Hp → Prop) (h : ∀ N : St → Hp → Prop, (∀ σ' H', Pm σ' H' → N σ' H') → tIfS tt A B { D with nx := N } σ H) (hr : ∀ σ' H', Pm σ' H' → r D σ' H') : tSeq (tIfS tt A B) r D σ H := h _ hr

/-! ### records of ours that turn, and a new object that is tracked -/
section
variable {X : Cx} {pins : List (Addr × Obj)} {σ : St} {H : Hp} {s : Shared} {h' : Heap}
theorem Inv.turnedN {t' : Nat} {ch : List Addr} {T : Addr} {o : HO} (I : Inv X pins σ H s) (k : ∀ b u, b ∉ ch → s.heap.get? b = some u → h'.get? b = some u) (hf : ∀ b ∈ ch, FpOk X pins H b)
    (hT : s.heap.objs.size ≤ T) (new : ObjOk X.prog X.w (upd H T o) h' T o) : Inv X pins σ (upd H T o) { s with heap := h', toks := t' } := by
  have hn := I.hok.fresh hT
  have nch : ∀ b u, H b = some u → b ∉ ch := fun b u e z => by rw [(hf b z).1] at e; cases e
  refine I.step (g' := s.gens) (d' := s.drawn) (ch := ch) (fun b hb => ⟨(hf b hb).2.2.2.1, (hf b hb).2.1, (hf b hb).2.2.2.2.1, (hf b hb).2.2.2.2.2⟩)
    (fun b u _ _ hc e _ => k b u hc e) (fun b u _ _ hc e _ => ⟨u.slots, k b u hc e⟩) (fun b u _ e n => ?_) (fun b u hc e => ⟨u, k b u hc e⟩)
    (fun b xs e => by rw [upd_ne (ne_of_none e hn)]; exact e) (fun b u v e => by rw [upd_ne (ne_of_none e hn)]; exact e) (fun b ps e => ⟨#[], by rw [upd_ne (ne_of_none e hn), e]; simp⟩) (fun m hm => ?_) (fun b u e => ?_) I.bare
  · rw [upd_ne (Nat.ne_of_lt (Nat.lt_of_lt_of_le (Heap.lt_size e) hT))]; exact n
  · obtain ⟨u, es, ep, ho, r⟩ := hm
    exact ⟨u, es, ep, k _ u (fun z => (hf _ z).2.1 rfl) ho, r⟩
  · by_cases hb : b = T
    · subst hb; rw [upd_same] at e; cases e; exact new
    · rw [upd_ne hb] at e
      refine (I.hok b u e).stay (fun c v hc q => k c v ?_ q) (fun c q => by rw [upd_ne (ne_of_none q hn)]; exact q) fun c xs q => by rw [upd_ne (ne_of_none q hn)]; exact q
      rcases hc with z | z
      · rw [z]; exact nch b u e
      · exact nch c _ z
theorem Inv.turnedE {t' : Nat} {ch : List Addr} (I : Inv X pins σ H s) (k : ∀ b u, b ∉ ch → s.heap.get? b = some u → h'.get? b = some u) (hf : ∀ b ∈ ch, FpOk X pins H b) : Inv X pins σ H { s with heap := h', toks := t' } := by
  have nch : ∀ b u, H b = some u → b ∉ ch := fun b u e z => by rw [(hf b z).1] at e; cases e
  refine I.step (g' := s.gens) (d' := s.drawn) (ch := ch) (fun b hb => ⟨(hf b hb).2.2.2.1, (hf b hb).2.1, (hf b hb).2.2.2.2.1, (hf b hb).2.2.2.2.2⟩)
    (fun b u _ _ hc e _ => k b u hc e) (fun b u _ _ hc e _ => ⟨u.slots, k b u hc e⟩) (fun b u _ e n => n) (fun b u hc e => ⟨u, k b u hc e⟩)
    (fun b xs e => e) (fun b u v e => e) (fun b ps e => ⟨#[], by rw [e]; simp⟩) (fun m hm => ?_) (fun b u e => ?_) I.bare
  · obtain ⟨u, es, ep, ho, r⟩ := hm
    exact ⟨u, es, ep, k _ u (fun z => (hf _ z).2.1 rfl) ho, r⟩
  · refine (I.hok b u e).stay (fun c v hc q => k c v ?_ q) (fun _ q => q) fun _ _ q => q
    rcases hc with z | z
    · rw [z]; exact nch b u e
    · exact nch c _ z
end

/-! ### zip of two lists -/
/-- the pairs of two lists, as they stand at each turn -/
def Itz (K : PySem.W.Frag) (a b : Addr) : It :=
  ⟨fun i H => ∃ xs ys x y, SqL K H a xs ∧ SqL K H b ys ∧ xs[i]? = some x ∧ ys[i]? = some y,
   fun i H v H' => ∃ p x y, H p = none ∧ H' = upd H p (.tup [x, y]) ∧ v = .ref p ∧ (∀ xs, SqL K H a xs → xs[i]? = some x) ∧ ∀ ys, SqL K H b ys → ys[i]? = some y,
   fun i H => ∃ xs ys, SqL K H a xs ∧ SqL K H b ys ∧ (xs.length ≤ i ∨ ys.length ≤ i)⟩
structure Five (z TI TO i1 i2 : Addr) : Prop where
  TIz : TI ≠ z
  TOz : TO ≠ z
  i1z : i1 ≠ z
  i2z : i2 ≠ z
  TITO : TI ≠ TO
  TIi1 : TI ≠ i1
  TIi2 : TI ≠ i2
  TOi1 : TO ≠ i1
  TOi2 : TO ≠ i2
  i12 : i1 ≠ i2
theorem bt_abs : bootBuiltins "abs" = some (.builtin "abs") := by decide +kernel
def iZip (K : PySem.W.Frag) (ta : TA) : TI := fun σ H R => ta σ H fun vs H1 => ∃ a b, vs = [.ref a, .ref b] ∧ (∃ xs, SqL K H1 a xs) ∧ (∃ ys, SqL K H1 b ys) ∧ R (Itz K a b) H1
/-! ### enumerate of a list -/
def Ite (K : PySem.W.Frag) (a : Addr) : It :=
  ⟨fun i H => ∃ xs x, SqL K H a xs ∧ xs[i]? = some x,
   fun i H v H' => ∃ p x, H p = none ∧ H' = upd H p (.tup [.int i, x]) ∧ v = .ref p ∧ ∀ xs, SqL K H a xs → xs[i]? = some x,
   fun i H => ∃ xs, SqL K H a xs ∧ xs.length ≤ i⟩
def iEnum (K : PySem.W.Frag) (ta : TA) : TI := fun σ H R => ta σ H fun vs H1 => ∃ a, vs = [.ref a] ∧ (∃ xs, SqL K H1 a xs) ∧ R (Ite K a) H1
/-! ### cuts of lists -/
end L2

/-! MY OWN RULES, part 8: comprehensions without a test, and loops over zip, enumerate, by words of their own -/
namespace L2
open PySem PySem.Spec PyProof.Rows
section
variable {K : PySem.W.Frag} {g : TG} {tt : TT} {te : TE} {tb : TS} {D : Ends}
/-- any iterator of n turns; what was there when the block began (H0) stays, the block's list is L -/
theorem comp_it {J : It} {L : Addr} {Q : Hp → Prop} {σ : St} {H : Hp} (n : Nat) (H0 : Hp) (S : St → Prop) (Pv : Nat → List V → Prop) (hgo : ∀ i H', i < n → Same H0 H' → J.go i H') (hstop : ∀ H', Same H0 H' → J.stop n H')
    (hn0 : H0 L = none) (hσ : S σ) (h0 : Same H0 H) (hL : H L = some (.lst [])) (p0 : Pv 0 []) (hz : n ≤ sizeLine) (hl : ∀ i ys, Pv i ys → ys.length ≤ i)
    (turn : ∀ i σ H' ys, i < n → S σ → Same H0 H' → H' L = some (.lst ys) → Pv i ys → ∀ (N : St → V → Hp → Prop) (M : St → Hp → Prop), (∀ σ3 y H5, S σ3 → Same H0 H5 → H5 L = some (.lst ys) → Pv (i + 1) (ys ++ [y]) → N σ3 y H5) →
      ∀ x H2, J.yld i H' x H2 → g x σ H2 fun σ3 H3 => tt σ3 H3 fun b H4 => if b = true then te σ3 H4 fun y H5 => N σ3 y H5 else M σ3 H4)
    (fin : ∀ H' ys, Same H0 H' → H' L = some (.lst ys) → Pv n ys → Q H') :
    ∃ W : Nat → Nat → St → Hp → Prop, (∃ m, W 0 m σ H) ∧ ∀ i m σ H, W i m σ H → (J.stop i H ∧ Q H) ∨ (J.go i H ∧ ∀ x H2, J.yld i H x H2 → g x σ H2 fun σ3 H3 => tt σ3 H3 fun b H4 => if b = true
      then te σ3 H4 fun y H5 => ∃ ys, H5 L = some (.lst ys) ∧ ys.length < sizeLine ∧ ∃ m', m' < m ∧ W (i + 1) m' σ3 (upd H5 L (.lst (ys ++ [y])))
      else ∃ m', m' < m ∧ W (i + 1) m' σ3 H4) := by
  refine ⟨fun i m σ H => m + i = n ∧ S σ ∧ Same H0 H ∧ ∃ ys, H L = some (.lst ys) ∧ Pv i ys, ⟨n, rfl, hσ, h0, [], hL, p0⟩, ?_⟩
  rintro i m σ H ⟨hm, hs, hsame, ys, hys, hp⟩
  by_cases hi : i < n
  · refine .inr ⟨hgo i H hi hsame, fun x H2 hy => turn i σ H ys hi hs hsame hys hp _ _ (fun σ3 y H5 k1 k2 k3 k4 => ?_) x H2 hy⟩
    refine ⟨ys, k3, by have := hl i ys hp; omega, m - 1, by omega, by omega, k1, fun b o e => ?_, ys ++ [y], upd_same, k4⟩
    rw [upd_ne (ne_of_none e hn0)]; exact k2 b o e
  · have e : i = n := by omega
    subst e
    exact .inl ⟨hstop H hsame, fin H ys hsame hys hp⟩
theorem comp_lst {a L : Addr} {xs : List V} {Q : Hp → Prop} {σ : St} {H : Hp} (H0 : Hp) (S : St → Prop) (Pv : Nat → List V → Prop) (ha : SqL K H0 a xs)
    (hn0 : H0 L = none) (hσ : S σ) (h0 : Same H0 H) (hL : H L = some (.lst [])) (p0 : Pv 0 []) (hz : xs.length ≤ sizeLine) (hl : ∀ i ys, Pv i ys → ys.length ≤ i)
    (turn : ∀ i x σ H' ys, xs[i]? = some x → S σ → Same H0 H' → H' L = some (.lst ys) → Pv i ys → ∀ (N : St → V → Hp → Prop) (M : St → Hp → Prop), (∀ σ3 y H5, S σ3 → Same H0 H5 → H5 L = some (.lst ys) → Pv (i + 1) (ys ++ [y]) → N σ3 y H5) →
      g x σ H' fun σ3 H3 => tt σ3 H3 fun b H4 => if b = true then te σ3 H4 fun y H5 => N σ3 y H5 else M σ3 H4)
    (fin : ∀ H' ys, Same H0 H' → H' L = some (.lst ys) → Pv xs.length ys → Q H') :
    ∃ W : Nat → Nat → St → Hp → Prop, (∃ m, W 0 m σ H) ∧ ∀ i m σ H, W i m σ H → ((Itl K a).stop i H ∧ Q H) ∨ ((Itl K a).go i H ∧ ∀ x H2, (Itl K a).yld i H x H2 → g x σ H2 fun σ3 H3 => tt σ3 H3 fun b H4 => if b = true
      then te σ3 H4 fun y H5 => ∃ ys, H5 L = some (.lst ys) ∧ ys.length < sizeLine ∧ ∃ m', m' < m ∧ W (i + 1) m' σ3 (upd H5 L (.lst (ys ++ [y])))
      else ∃ m', m' < m ∧ W (i + 1) m' σ3 H4) :=
  comp_it xs.length H0 S Pv (fun i H' hi e => ⟨xs, xs[i], e.seq ha, List.getElem?_eq_getElem hi⟩) (fun H' e => ⟨xs, e.seq ha, Nat.le_refl _⟩) hn0 hσ h0 hL p0 hz hl
    (fun i σ H' ys _ hs e k p N M hN x H2 hy => by
      obtain ⟨rfl, hx⟩ := hy
      exact turn i x σ H2 ys (hx xs (e.seq ha)) hs e k p N M hN) fin
theorem comp_rng {lo : Int} {n : Nat} {L : Addr} {Q : Hp → Prop} {σ : St} {H : Hp} (H0 : Hp) (S : St → Prop) (Pv : Nat → List V → Prop)
    (hn0 : H0 L = none) (hσ : S σ) (h0 : Same H0 H) (hL : H L = some (.lst [])) (p0 : Pv 0 []) (hz : n ≤ sizeLine) (hl : ∀ i ys, Pv i ys → ys.length ≤ i)
    (turn : ∀ i σ H' ys, i < n → S σ → Same H0 H' → H' L = some (.lst ys) → Pv i ys → ∀ (N : St → V → Hp → Prop) (M : St → Hp → Prop), (∀ σ3 y H5, S σ3 → Same H0 H5 → H5 L = some (.lst ys) → Pv (i + 1) (ys ++ [y]) → N σ3 y H5) →
      g (.int (lo + i)) σ H' fun σ3 H3 => tt σ3 H3 fun b H4 => if b = true then te σ3 H4 fun y H5 => N σ3 y H5 else M σ3 H4)
    (fin : ∀ H' ys, Same H0 H' → H' L = some (.lst ys) → Pv n ys → Q H') :
    ∃ W : Nat → Nat → St → Hp → Prop, (∃ m, W 0 m σ H) ∧ ∀ i m σ H, W i m σ H → ((Itr lo n).stop i H ∧ Q H) ∨ ((Itr lo n).go i H ∧ ∀ x H2, (Itr lo n).yld i H x H2 → g x σ H2 fun σ3 H3 => tt σ3 H3 fun b H4 => if b = true
      then te σ3 H4 fun y H5 => ∃ ys, H5 L = some (.lst ys) ∧ ys.length < sizeLine ∧ ∃ m', m' < m ∧ W (i + 1) m' σ3 (upd H5 L (.lst (ys ++ [y])))
      else ∃ m', m' < m ∧ W (i + 1) m' σ3 H4) :=
  comp_it n H0 S Pv (fun i H' hi e => hi) (fun H' e => Nat.le_refl _) hn0 hσ h0 hL p0 hz hl
    (fun i σ H' ys hi hs e k p N M hN x H2 hy => by
      obtain ⟨rfl, rfl⟩ := hy
      exact turn i σ H2 ys hi hs e k p N M hN) fin
end
end L2

/-! MY OWN RULES, part 9: comprehensions whose block has cells of its own (a comprehension within it sees its names) -/
namespace L2
open PySem PySem.Spec PyProof.Rows
/-- the block's cells: its own, and those that it takes over -/
def ownAt (scope : Scope) (s : Shared) : List (Str × Addr) := cellsFrom (s.heap.objs.size + 1) scope.names []
def clAt (scope : Scope) (env : Env) (s : Shared) : List (Str × Addr) := ownAt scope s ++ clOf scope env
def cxC (X : Cx) (pins : List (Addr × Obj)) (N : List Str) (scope : Scope) (fp : List Addr) (s : Shared) (H : Hp) : Cx where
  prog := X.prog
  w := X.w
  K := X.K
  mg := X.mg
  base := X.base
  A := X.A
  N := N
  s₀ := s
  H₀ := H
  env := compEnvC scope (clAt scope X.env s) s.heap.objs.size X.env
  outer := X.stack
  stack := X.stack
  ex := fp
  fn := fun x => scope.names.lookup x == some .cell
  calm := X.calm
  pn := X.pn ++ pins
  xe := fun _ _ => False
structure BlkC (X : Cx) (N : List Str) (fr : List (Option Nat)) (scope : Scope) : Prop where
  clos : closureFor scope X.env = pure (clOf scope X.env)
  kind : scope.kind = .function
  owned : ∀ y ∈ scope.names, y.2 = .cell → scope.names.lookup y.1 = some .cell
  names : ∀ y ∈ scope.names, y.2 = .local → scope.names.lookup y.1 = some .local
  cells : ∀ x c, (clOf scope X.env).lookup x = some c → X.env.cells.lookup x = some c
  has : ∀ x, ((relabel scope X.env).names.lookup x = some .cell ∨ (relabel scope X.env).names.lookup x = some .free) → scope.names.lookup x = some .cell ∨ ∃ c, (clOf scope X.env).lookup x = some c
  len : fr.length = N.length
  out : ∀ (i j : Nat) (x : Str), N[i]? = some x → fr[i]? = some (some j) → X.N[j]? = some x ∧ X.env.kindOf x = some .cell ∧ scope.names.lookup x = some .free ∧ ((relabel scope X.env).names.lookup x = some .cell ∨ (relabel scope X.env).names.lookup x = some .free) ∧ ∃ c, (clOf scope X.env).lookup x = some c
structure BlkSC (sc scope : Scope) (NX N : List Str) (fr : List (Option Nat)) : Prop where
  okind : sc.kind = .function
  kind : scope.kind = .function
  owned : ∀ y ∈ scope.names, y.2 = .cell → scope.names.lookup y.1 = some .cell
  names : ∀ y ∈ scope.names, y.2 = .local → scope.names.lookup y.1 = some .local
  free : ∀ y ∈ scope.names, y.2 = .free → sc.names.lookup y.1 = some .cell
  len : fr.length = N.length
  out : ((List.range N.length).all fun i => match fr[i]? with
    | some (some j) => (match N[i]? with
      | some x => (NX[j]? == some x) && (scope.names.lookup x == some .free)
      | none => false)
    | _ => true) = true
theorem BlkSC.blk {X : Cx} {sc scope : Scope} {NX N : List Str} {fr : List (Option Nat)} (B : BlkSC sc scope NX N fr) (e1 : X.env.scope = sc) (e2 : X.N = NX) (ok : X.Ok) : BlkC X N fr scope := by
  subst e1 e2
  have fc : ∀ y ∈ scope.names, y.2 = .free → ∃ c, X.env.cells.lookup y.1 = some c := fun y hy hf => ok.has y.1 (.inl (B.free y hy hf))
  have lk : ∀ x, (relabel scope X.env).names.lookup x = (scope.names.lookup x).map fun k => if (k == NameKind.free && X.env.scope.kind == .function && X.env.kindOf x == some .cell) = true then NameKind.cell else k := fun x => relabel_lookup x scope.names
  have isfree : ∀ x, scope.names.lookup x = some .free → (relabel scope X.env).names.lookup x = some .cell := fun x hx => by
    have hk : X.env.kindOf x = some .cell := B.free (x, .free) (mem_of_lk hx) rfl
    rw [lk, hx, Option.map_some, hk, B.okind]
    rfl
  refine ⟨clos_of fc, B.kind, B.owned, B.names, fun x c h => clGo_cells fc (fun x c h => by cases h) x c h, fun x h => ?_, B.len, fun i j x h1 h2 => ?_⟩
  · rw [lk] at h
    cases e : scope.names.lookup x with
    | none => rw [e] at h; rcases h with h | h <;> cases h
    | some k =>
      rw [e, Option.map_some] at h
      have hm := mem_of_lk e
      cases k with
      | free => exact .inr (clGo_has (.inl hm))
      | cell => exact .inl rfl
      | _ => rcases h with h | h <;> simp at h
  · have hi : i < N.length := (List.getElem?_eq_some_iff.mp h1).1
    have := List.all_eq_true.mp B.out i (List.mem_range.mpr hi)
    rw [h2] at this
    dsimp only at this
    rw [h1] at this
    dsimp only at this
    rw [Bool.and_eq_true] at this
    have a1 : X.N[j]? = some x := by simpa using this.1
    have a2 : scope.names.lookup x = some .free := by simpa using this.2
    exact ⟨a1, B.free (x, .free) (mem_of_lk a2) rfl, a2, .inl (isfree x a2), clGo_has (.inl (mem_of_lk a2))⟩
section
variable {X : Cx} {pins : List (Addr × Obj)} {σ : St} {H : Hp} {s : Shared} {N : List Str} {fr : List (Option Nat)} {scope : Scope} {fp : List Addr}
end
section
variable {X : Cx} {elt tg iter : Expr} {ifs : List Expr} {scope : Scope} {pos spos py : Pos} {N : List Str} {fr : List (Option Nat)} {wi : TI} {g : TG} {tt : TT} {te : TE}
end
/-! ### in a block: readings with K told -/
section
variable {X : Cx} {tg : Expr} (K : PySem.W.Frag)
end
/-- a block's scope within a scope -/
def relabelS (scope sc : Scope) : Scope := { scope with names := scope.names.map fun (y : Str × NameKind) => match y with
  | (n, k) => if (k == NameKind.free && sc.kind == .function && sc.names.lookup n == some .cell) = true then (n, NameKind.cell) else (n, k) }
end L2

/-! MY OWN RULES, part 10: comprehensions whose items are new objects: what is said of them hangs on the heap -/
namespace L2
open PySem PySem.Spec PyProof.Rows
/-- all but one place kept -/
def But (L : Addr) (H H' : Hp) : Prop := ∀ b o, H b = some o → b ≠ L → H' b = some o
theorem But.of {L : Addr} {H H' : Hp} (e : Same H H') : But L H H' := fun b o h _ => e b o h
theorem But.trans {L : Addr} {H H1 H2 : Hp} (a : But L H H1) (b : But L H1 H2) : But L H H2 := fun c o h n => b c o (a c o h n) n
theorem But.upd {L : Addr} {H : Hp} {o : HO} : But L H (upd H L o) := fun b u h n => by rw [upd_ne n]; exact h
theorem But.seq {K : PySem.W.Frag} {L : Addr} {H H' : Hp} {a : Addr} {xs : List V} (e : But L H H') (h : SqL K H a xs) (n : H a ≠ none → a ≠ L) : SqL K H' a xs := by
  rcases h with (h | ⟨o, h⟩) | h
  · exact .inl (.inl (e _ _ h (n (by rw [h]; simp))))
  · exact .inl (.inr ⟨o, e _ _ h (n (by rw [h]; simp))⟩)
  · exact .inr h
section
variable {K : PySem.W.Frag} {g : TG} {tt : TT} {te : TE}
theorem comp_itH {J : It} {L : Addr} {Q : Hp → Prop} {σ : St} {H : Hp} (n : Nat) (H0 : Hp) (S : St → Prop) (Pv : Nat → List V → Hp → Prop) (hgo : ∀ i H', i < n → Same H0 H' → J.go i H') (hstop : ∀ H', Same H0 H' → J.stop n H')
    (stab : ∀ i ys H H', But L H H' → Pv i ys H → Pv i ys H')
    (hn0 : H0 L = none) (hσ : S σ) (h0 : Same H0 H) (hL : H L = some (.lst [])) (p0 : Pv 0 [] H) (hz : n ≤ sizeLine) (hl : ∀ i ys H, Pv i ys H → ys.length ≤ i)
    (turn : ∀ i σ H' ys, i < n → S σ → Same H0 H' → H' L = some (.lst ys) → Pv i ys H' → ∀ (N : St → V → Hp → Prop) (M : St → Hp → Prop), (∀ σ3 y H5, S σ3 → Same H0 H5 → H5 L = some (.lst ys) → Pv (i + 1) (ys ++ [y]) H5 → N σ3 y H5) →
      ∀ x H2, J.yld i H' x H2 → g x σ H2 fun σ3 H3 => tt σ3 H3 fun b H4 => if b = true then te σ3 H4 fun y H5 => N σ3 y H5 else M σ3 H4)
    (fin : ∀ H' ys, Same H0 H' → H' L = some (.lst ys) → Pv n ys H' → Q H') :
    ∃ W : Nat → Nat → St → Hp → Prop, (∃ m, W 0 m σ H) ∧ ∀ i m σ H, W i m σ H → (J.stop i H ∧ Q H) ∨ (J.go i H ∧ ∀ x H2, J.yld i H x H2 → g x σ H2 fun σ3 H3 => tt σ3 H3 fun b H4 => if b = true
      then te σ3 H4 fun y H5 => ∃ ys, H5 L = some (.lst ys) ∧ ys.length < sizeLine ∧ ∃ m', m' < m ∧ W (i + 1) m' σ3 (upd H5 L (.lst (ys ++ [y])))
      else ∃ m', m' < m ∧ W (i + 1) m' σ3 H4) := by
  refine ⟨fun i m σ H => m + i = n ∧ S σ ∧ Same H0 H ∧ ∃ ys, H L = some (.lst ys) ∧ Pv i ys H, ⟨n, rfl, hσ, h0, [], hL, p0⟩, ?_⟩
  rintro i m σ H ⟨hm, hs, hsame, ys, hys, hp⟩
  by_cases hi : i < n
  · refine .inr ⟨hgo i H hi hsame, fun x H2 hy => turn i σ H ys hi hs hsame hys hp _ _ (fun σ3 y H5 k1 k2 k3 k4 => ?_) x H2 hy⟩
    refine ⟨ys, k3, by have := hl i ys H hp; omega, m - 1, by omega, by omega, k1, fun b o e => ?_, ys ++ [y], upd_same, stab _ _ _ _ But.upd k4⟩
    rw [upd_ne (ne_of_none e hn0)]; exact k2 b o e
  · have e : i = n := by omega
    subst e
    exact .inl ⟨hstop H hsame, fin H ys hsame hys hp⟩
theorem comp_rngH {lo : Int} {n : Nat} {L : Addr} {Q : Hp → Prop} {σ : St} {H : Hp} (H0 : Hp) (S : St → Prop) (Pv : Nat → List V → Hp → Prop) (stab : ∀ i ys H H', But L H H' → Pv i ys H → Pv i ys H')
    (hn0 : H0 L = none) (hσ : S σ) (h0 : Same H0 H) (hL : H L = some (.lst [])) (p0 : Pv 0 [] H) (hz : n ≤ sizeLine) (hl : ∀ i ys H, Pv i ys H → ys.length ≤ i)
    (turn : ∀ i σ H' ys, i < n → S σ → Same H0 H' → H' L = some (.lst ys) → Pv i ys H' → ∀ (N : St → V → Hp → Prop) (M : St → Hp → Prop), (∀ σ3 y H5, S σ3 → Same H0 H5 → H5 L = some (.lst ys) → Pv (i + 1) (ys ++ [y]) H5 → N σ3 y H5) →
      g (.int (lo + i)) σ H' fun σ3 H3 => tt σ3 H3 fun b H4 => if b = true then te σ3 H4 fun y H5 => N σ3 y H5 else M σ3 H4)
    (fin : ∀ H' ys, Same H0 H' → H' L = some (.lst ys) → Pv n ys H' → Q H') :
    ∃ W : Nat → Nat → St → Hp → Prop, (∃ m, W 0 m σ H) ∧ ∀ i m σ H, W i m σ H → ((Itr lo n).stop i H ∧ Q H) ∨ ((Itr lo n).go i H ∧ ∀ x H2, (Itr lo n).yld i H x H2 → g x σ H2 fun σ3 H3 => tt σ3 H3 fun b H4 => if b = true
      then te σ3 H4 fun y H5 => ∃ ys, H5 L = some (.lst ys) ∧ ys.length < sizeLine ∧ ∃ m', m' < m ∧ W (i + 1) m' σ3 (upd H5 L (.lst (ys ++ [y])))
      else ∃ m', m' < m ∧ W (i + 1) m' σ3 H4) :=
  comp_itH n H0 S Pv (fun i H' hi e => hi) (fun H' e => Nat.le_refl _) stab hn0 hσ h0 hL p0 hz hl
    (fun i σ H' ys hi hs e k p N M hN x H2 hy => by
      obtain ⟨rfl, rfl⟩ := hy
      exact turn i σ H2 ys hi hs e k p N M hN) fin
end
/-! ### == of plain data with itself -/
/-- lists of ints, lists of these -/
def dInts (ns : List Int) : PyData := .list (ns.map PyData.int)
def dCols (cs : List (List Int)) : PyData := .list (cs.map dInts)
theorem RdD.ints {K : PySem.W.Frag} {H : Hp} {a : Addr} {ns : List Int} (h : SqL K H a (ns.map V.int)) : RdD K H (.ref a) (dInts ns) := .lst h (RdDs.ints ns)
/-- columns: lists at these places -/
def ColsAt (K : PySem.W.Frag) (H : Hp) : List Addr → List (List Int) → Prop := Paired fun a c => SqL K H a (c.map V.int)
theorem ColsAt.same {K : PySem.W.Frag} {H H' : Hp} (e : Same H H') : ∀ {as : List Addr} {cs : List (List Int)}, ColsAt K H as cs → ColsAt K H' as cs
  | _, _, .nil => .nil
  | _, _, .cons h t => .cons (e.seq h) (ColsAt.same e t)
theorem ColsAt.get {K : PySem.W.Frag} {H : Hp} : ∀ {as : List Addr} {cs : List (List Int)} {i : Nat} {a : Addr}, ColsAt K H as cs → as[i]? = some a → ∃ c, cs[i]? = some c ∧ SqL K H a (c.map V.int)
  | _, _, 0, _, .cons h _, e => by cases e; exact ⟨_, rfl, h⟩
  | _, _, i + 1, _, .cons _ t, e => ColsAt.get (i := i) t e
theorem ColsAt.length {K : PySem.W.Frag} {H : Hp} {as : List Addr} {cs : List (List Int)} (h : ColsAt K H as cs) : as.length = cs.length := Paired.length h
theorem ColsAt.rd {K : PySem.W.Frag} {H : Hp} : ∀ {as : List Addr} {cs : List (List Int)}, ColsAt K H as cs → RdDs K H (as.map V.ref) (cs.map dInts)
  | _, _, .nil => .nil
  | _, _, .cons h t => .cons (.ints h) (ColsAt.rd t)
/-- .. own lists, away from one place -/
def ColsO (L : Addr) (H : Hp) : List Addr → List (List Int) → Prop := Paired fun a c => H a = some (.lst (c.map V.int)) ∧ a ≠ L
theorem ColsO.but {L : Addr} {H H' : Hp} (e : But L H H') : ∀ {as : List Addr} {cs : List (List Int)}, ColsO L H as cs → ColsO L H' as cs
  | _, _, .nil => .nil
  | _, _, .cons h t => .cons ⟨e _ _ h.1 h.2, h.2⟩ (ColsO.but e t)
theorem ColsO.at {K : PySem.W.Frag} {L : Addr} {H : Hp} : ∀ {as : List Addr} {cs : List (List Int)}, ColsO L H as cs → ColsAt K H as cs
  | _, _, .nil => .nil
  | _, _, .cons h t => .cons (SqL.of h.1) (ColsO.at t)
theorem ColsO.snoc {L : Addr} {H : Hp} {a : Addr} {c : List Int} (h : H a = some (.lst (c.map V.int))) (n : a ≠ L) : ∀ {as : List Addr} {cs : List (List Int)}, ColsO L H as cs → ColsO L H (as ++ [a]) (cs ++ [c])
  | _, _, .nil => .cons ⟨h, n⟩ .nil
  | _, _, .cons k t => .cons k (ColsO.snoc h n t)
theorem snoc_take {α : Type} {l : List α} {i : Nat} {z : α} (h : l[i]? = some z) : l.take (i + 1) = l.take i ++ [z] := by
  rw [List.take_add_one, h]; rfl
section
variable {X : Cx} (K : PySem.W.Frag)
end
theorem ColsO.same {L : Addr} {H H' : Hp} (e : Same H H') {as : List Addr} {cs : List (List Int)} (h : ColsO L H as cs) : ColsO L H' as cs := h.but (But.of e)
/-- a new place is away from them -/
theorem ColsO.away {L L' : Addr} {H H' : Hp} (n : H L' = none) (e : Same H H') : ∀ {as : List Addr} {cs : List (List Int)}, ColsO L H as cs → ColsO L' H' as cs
  | _, _, .nil => .nil
  | _, _, .cons h t => .cons ⟨e _ _ h.1, ne_of_none h.1 n⟩ (ColsO.away n e t)
theorem ColsO.length {L : Addr} {H : Hp} {as : List Addr} {cs : List (List Int)} (h : ColsO L H as cs) : as.length = cs.length := Paired.length h
end L2

/-! MY OWN RULES, part 11: zip's comprehension whose items are new objects -/
namespace L2
open PySem PySem.Spec PyProof.Rows
section
variable {K : PySem.W.Frag} {g : TG} {tt : TT} {te : TE}
end
/-- own lists away from one place, new since H0 -/
def ColsN (L : Addr) (H0 H : Hp) : List Addr → List (List Int) → Prop := Paired fun a c => H a = some (.lst (c.map V.int)) ∧ a ≠ L ∧ H0 a = none
theorem ColsN.but {L : Addr} {H0 H H' : Hp} (e : But L H H') : ∀ {as : List Addr} {cs : List (List Int)}, ColsN L H0 H as cs → ColsN L H0 H' as cs
  | _, _, .nil => .nil
  | _, _, .cons h t => .cons ⟨e _ _ h.1 h.2.1, h.2⟩ (ColsN.but e t)
theorem ColsN.length {L : Addr} {H0 H : Hp} {as : List Addr} {cs : List (List Int)} (h : ColsN L H0 H as cs) : as.length = cs.length := Paired.length h
theorem ColsN.snoc {L : Addr} {H0 H : Hp} {a : Addr} {c : List Int} (h : H a = some (.lst (c.map V.int))) (n : a ≠ L) (n0 : H0 a = none) : ∀ {as : List Addr} {cs : List (List Int)}, ColsN L H0 H as cs → ColsN L H0 H (as ++ [a]) (cs ++ [c])
  | _, _, .nil => .cons ⟨h, n, n0⟩ .nil
  | _, _, .cons k t => .cons k (ColsN.snoc h n n0 t)
end L2

/-! MY OWN RULES, part 12: sorted of ints, list(range(n)), max -/
namespace L2
open PySem PySem.Spec PyProof.Rows
section
variable {X : Cx}
end
end L2

/-! MY OWN RULES, part 13: xs[::-1], a comprehension over a part of a list -/
namespace L2
open PySem PySem.Spec PyProof.Rows
section
variable {X : Cx}
theorem pe_rev {e k : Expr} {te tk : TE} {p2 pos : Pos} (he : PE X e te) (hk : PE X k tk) : PE X (.Subscript e (.Slice none none (some k) p2) pos) (fun σ H Q => te σ H fun x H1 => tk σ H1 fun y H2 => y = .int (-1) ∧ ∃ a xs, x = .ref a ∧ SqL X.K H2 a xs ∧ ∀ l, H2 l = none → Q (.ref l) (upd H2 l (.lst xs.reverse))) := by
  intro pins s σ H Q I h
  refine Subscript_ (thn (he pins s σ H _ I h) fun v s1 ⟨x, H1, I1, r1, q1⟩ => ?_)
  refine wpAny_Slice ?_
  rw [evalPart_none]
  refine wpAny_pure (wpAny_pure ?_)
  rw [evalPart_some]
  refine thn (hk pins s1 σ H1 _ I1 q1) fun u s3 ⟨y, H3, I3, r3, q3⟩ => ?_
  obtain ⟨rfl, a, xs, rfl, hx, q⟩ := q3
  obtain ⟨t, rfl⟩ := r3
  cases r1
  have I4 : Inv X pins σ H3 { s3 with heap := s3.heap.push { cls := .type "slice", data := .fields #[.none, .none, .int (-1) t] } } := I3.kept (t' := s3.toks) fun b ob q => Heap.get?_push_of_some _ q
  obtain ⟨its, r, ht, hz⟩ := I4.list hx
  have hlen := r.length
  show wpAny (model X.prog X.w) X.A (subscriptTail e (.Slice none none (some k) p2) (.ref a) (.ref s3.heap.objs.size)) (EP X pins σ Q) X.xe { s3 with heap := s3.heap.push { cls := .type "slice", data := .fields #[.none, .none, .int (-1) t] } }
  refine tail_any (ops := [.ref a, .ref s3.heap.objs.size]) ht.isList.typeIs slot_list_getitem.lookup ?_ (by with_unfolding_all rfl)
  refine wpAny_getItem_list_slice ht.isList (Heap.IsSliceOf.new ..) .none .none (.int (-1) t) (by simp) ?_ (by rw [List.size_toArray] <;> omega)
  rw [PySem.W.krv_pick]
  refine ⟨.ref _, _, I4.laid (o := .lst xs.reverse) (fun b ob q => Heap.get?_push_of_some _ q) (Nat.le_refl _) ?_, rfl, q _ (I4.hok.fresh (Nat.le_refl _))⟩
  exact ⟨by rw [List.length_reverse]; exact hz, _, 0, r.reverse, Heap.get?_push_size _ rfl⟩
end
end L2

/-! MY OWN RULES, part 14: the tree of questions of a sort, answered by an order: a sorted row -/
namespace L2
open PySem PySem.Spec PyProof.Rows PySem.W
section
variable {O : KeyOrd} {k : Nat → O.α} {n : Nat} {I : Shared → Prop} {cmp : Nat → Nat → (Bool → Shared → Prop) → Shared → Prop}
/-- the key at a place -/
def kat (k : Nat → O.α) (p : Array Nat) (i : Nat) : O.α := k (p.getD i 0)
def SrtTo (k : Nat → O.α) (p : Array Nat) (m : Nat) : Prop := ∀ i j, i ≤ j → j < m → O.kle (kat k p i) (kat k p j)
def DecTo (k : Nat → O.α) (p : Array Nat) (m : Nat) : Prop := ∀ i j, i ≤ j → j < m → O.kle (kat k p j) (kat k p i)
structure Row (n : Nat) (p : Array Nat) : Prop where
  perm : p.Perm (List.range n).toArray
theorem Row.size {p : Array Nat} (h : Row n p) : p.size = n := by rw [h.perm.size_eq]; simp
theorem Row.lt {p : Array Nat} (h : Row n p) (h0 : 0 < n) (i : Nat) : p.getD i 0 < n := by
  by_cases hi : i < p.size
  · have e : p.getD i 0 = p[i] := by simp [Array.getD, hi]
    rw [e]
    have hm : p[i] ∈ p.toList := by simp
    have := (Array.perm_iff_toList_perm.mp h.perm).mem_iff.mp hm
    simpa using this
  · have e : p.getD i 0 = 0 := by simp [Array.getD, hi]
    rw [e]; exact h0
theorem SrtTo.one {p : Array Nat} {m : Nat} (h : m ≤ 1) : SrtTo k p m := fun i j a b => by
  have : i = j := by omega
  subst this; exact KeyOrd.kle_refl _
theorem SrtTo.snoc {p : Array Nat} {m : Nat} (h : SrtTo k p m) (h1 : 1 ≤ m) (e : O.kle (kat k p (m - 1)) (kat k p m)) : SrtTo k p (m + 1) := fun i j a b => by
  by_cases hj : j < m
  · exact h i j a hj
  · have : j = m := by omega
    subst this
    by_cases hi : i = j
    · subst hi; exact KeyOrd.kle_refl _
    · exact KeyOrd.kle_trans (h i (j - 1) (by omega) (by omega)) e
theorem DecTo.snoc {p : Array Nat} {m : Nat} (h : DecTo k p m) (h1 : 1 ≤ m) (e : O.kle (kat k p m) (kat k p (m - 1))) : DecTo k p (m + 1) := fun i j a b => by
  by_cases hj : j < m
  · exact h i j a hj
  · have : j = m := by omega
    subst this
    by_cases hi : i = j
    · subst hi; exact KeyOrd.kle_refl _
    · exact KeyOrd.kle_trans e (h i (j - 1) (by omega) (by omega))
/-- each question is answered by the order, and the state stays one of these -/
def Asks (O : KeyOrd) (k : Nat → O.α) (n : Nat) (I : Shared → Prop) (cmp : Nat → Nat → (Bool → Shared → Prop) → Shared → Prop) : Prop := ∀ i j C s, i < n → j < n → I s → (∀ s', I s' → C (O.blt (k i) (k j)) s') → cmp i j C s
end
end L2

/-! MY OWN RULES, part 15: sorted of lists of ints -/
namespace PySem.SeqAt
open AutoSeq1 (wpAny_loadPart')
open MeetsSeq MeetsSeq2 MeetsSeq3
def RcLtAt (A : Around) (s : Shared) (y x : Value) (b : Bool) : Prop :=
  ∀ (prog : Program) (w : World) (E : Value → Shared → Prop) (Q : Value → Shared → Prop), Q (.bool b) s → wpAny (model prog w) A (richCompare .Lt y x) Q E s
def lexF (e c : Nat → Bool) : List Nat → Bool
  | [] => false
  | j :: r => if e j = true then lexF e c r else c j
end PySem.SeqAt

namespace L2
open PySem PySem.Spec PyProof.Rows PySem.SeqAt PySem.W
@[reducible] def colOrd : KeyOrd where
  α := List Int
  blt a b := decide (a < b)
  irrefl a := by simp
  trans a b c h1 h2 := by simp only [decide_eq_true_eq] at *; exact List.lt_trans h1 h2
  negTrans a b c h := by
    simp only [decide_eq_true_eq] at *
    by_cases hab : a < b
    · exact .inl hab
    · exact .inr (List.lt_of_le_of_lt (List.not_lt.mp hab) h)
  total a b h1 h2 := by simp only [decide_eq_false_iff_not] at *; exact List.le_antisymm (List.not_lt.mp h2) (List.not_lt.mp h1)
theorem lexF_eq : ∀ (xs ys : List Int) (d : Nat) (f g : Nat → Int), xs.length = ys.length → (∀ j, j < xs.length → f (d + j) = xs.getD j 0) → (∀ j, j < xs.length → g (d + j) = ys.getD j 0) →
    lexF (fun j => f j == g j) (fun j => decide (f j < g j)) (List.range' d xs.length) = decide (xs < ys)
  | [], [], d, f, g, _, _, _ => by simp [lexF]
  | x :: xs, y :: ys, d, f, g, hl, hf, hg => by
    have h0 := hf 0 (by simp)
    have g0 := hg 0 (by simp)
    simp at h0 g0
    have ih := lexF_eq xs ys (d + 1) f g (by simpa using hl) (fun j hj => by
      have := hf (j + 1) (by simp; omega)
      rw [show d + 1 + j = d + (j + 1) by omega, this]; simp) (fun j hj => by
      have := hg (j + 1) (by simp; omega)
      rw [show d + 1 + j = d + (j + 1) by omega, this]; simp)
    rw [List.length_cons, List.range'_succ, lexF, ih, h0, g0]
    by_cases e : x = y
    · subst e
      rw [if_pos (by simp)]
      simp [List.cons_lt_cons_iff]
    · rw [if_neg (by simpa using e)]
      simp [List.cons_lt_cons_iff, e]
section
variable {prog : Program} {w : World} {A : Around} {E : Value → Shared → Prop} {s : Shared}
/-- the items are lists of so many ints, none of them at a -/
structure ColVals (h : Heap) (m : Nat) (vs : List Value) (cs : List (List Int)) : Prop where
  len : vs.length = cs.length
  at' : ∀ i, i < vs.length → ∃ (b : Addr) (us : List Value), vs.getD i Value.none = .ref b ∧ h.IsList b us.toArray ∧ IntsAre us (cs.getD i []) ∧ (cs.getD i []).length = m
theorem ColVals.keep {h h' : Heap} {m : Nat} {vs : List Value} {cs : List (List Int)} (c : ColVals h m vs cs) (k : ∀ b o, h.get? b = some o → h'.get? b = some o) : ColVals h' m vs cs :=
  ⟨c.len, fun i hi => by
    obtain ⟨b, us, h1, ⟨o, ho, hc, n, hd⟩, h3, h4⟩ := c.at' i hi
    exact ⟨b, us, h1, ⟨o, k _ _ ho, hc, n, hd⟩, h3, h4⟩⟩
end
section
variable {X : Cx}
end
end L2

/-! MY OWN RULES, part 16: min of a list of ints -/
namespace L2
open PySem PySem.Spec PyProof.Rows
section
variable {X : Cx}
end
end L2

/-! MY OWN RULES, part 17: comprehensions with a test, by words of their own -/
namespace L2
open PySem PySem.Spec PyProof.Rows
section
variable {K : PySem.W.Frag} {g : TG} {tt : TT} {te : TE}
end
section
variable {X : Cx}
end
end L2

/-! MY OWN RULES, part 18: a comprehension with a test whose items are new objects; xs[::-1] in a block; xs[:-1] -/
namespace L2
open PySem PySem.Spec PyProof.Rows
section
variable {K : PySem.W.Frag} {g : TG} {tt : TT} {te : TE}
end
section
variable {X : Cx}
def tRev (K : PySem.W.Frag) (te tk : TE) : TE := fun σ H Q => te σ H fun x H1 => tk σ H1 fun y H2 => y = .int (-1) ∧ ∃ a xs, x = .ref a ∧ SqL K H2 a xs ∧ ∀ l, H2 l = none → Q (.ref l) (upd H2 l (.lst xs.reverse))
end
end L2

/-! MY OWN RULES, part 19: sorted of a dict whose keys are texts -/
namespace PySem.W
open PySem PySem.Calls PyProof.Rows PyProof.V PySem.Spec
section
variable {prog : Program} {w : World} {A : Around} {E : Value → Shared → Prop} {s : Shared} {T : String} {r d : Addr} {n : Nat} {P : Nat → Value → Prop} {OK : Heap → Prop}
end
end PySem.W
namespace L2
open PySem PySem.Spec PyProof.Rows PySem.W
section
variable {X : Cx}
end
end L2

/-! MY OWN RULES, part 20: xs == [] -/
namespace L2
open PySem PySem.Spec PyProof.Rows
section
variable {X : Cx}
def rEqE (K : PySem.W.Frag) : R2 := fun x y H Q => ∃ a b xs, x = .ref a ∧ y = .ref b ∧ SqL K H a xs ∧ SqL K H b [] ∧ Q (.bl xs.isEmpty) H
end
end L2

/-! MY OWN RULES, part 21: what is never come to; texts: slices, <=, int(a text) -/
namespace L2
open PySem PySem.Spec PyProof.Rows
section
variable {X : Cx}
theorem op_le_str : OpR X (compareOp .LtE) (fun x y H Q => ∃ i j, x = .str i ∧ y = .str j ∧ Q (.bl (!decide (j.cps.toList < i.cps.toList))) H) := by
  intro pins s σ H x y v u Q I rx ry h
  obtain ⟨i, j, rfl, rfl, q⟩ := h
  obtain ⟨t, rfl⟩ := (show ∃ t, v = Value.str i t from rx)
  obtain ⟨t', rfl⟩ := (show ∃ t, u = Value.str j t from ry)
  exact PySem.P.le_str ⟨.bl _, H, I, rfl, q⟩
theorem call_intT : CallR X (.type "int") (fun xs H Q => ∃ x n, xs = [.str x] ∧ PySem.intText? x = some n ∧ x.length ≤ 640 ∧ Q (.int n) H) := by
  intro pins s σ H xs us Q I r h
  obtain ⟨x, n, rfl, hn, hl, q⟩ := h
  obtain ⟨u, rfl, ru⟩ := vals1 r
  obtain ⟨t, rfl⟩ := (show ∃ t, u = Value.str x t from ru)
  exact PySem.W.KIN.call_text hn hl ⟨.int n, H, I.tok _, ⟨_, rfl⟩, q⟩
/-- x[lo:hi] of a text -/
def rSlS : V → Option Int → Option Int → Hp → VK → Prop := fun x lo hi H Q => ∃ y, x = .str y ∧ y.length ≤ sizeLine ∧ Q (.str (Txt.slice y lo hi)) H
theorem sl_str : SlR X rSlS := by
  intro pins s σ H x v vl vu lo hi sl Q I rx hs pl pu h
  obtain ⟨y, rfl, hz, q⟩ := h
  obtain ⟨t, rfl⟩ := (show ∃ t, v = Value.str y t from rx)
  refine ⟨"str", _, F.slot_str_getitem.lookup, typeIs_str _ _ _, ?_⟩
  cases pl with
  | none => cases pu with
    | none => exact wpAny_getItem_str_slice (l := none) (u := none) (st := none) hs rfl (post_val_or_str ⟨Nat.le_trans (Txt.slice_le y _ _) hz, fun t' k => ⟨.str _, H, I.tok k, ⟨t', rfl⟩, q⟩⟩)
    | int j uj => exact wpAny_getItem_str_slice (l := none) (u := some (j, uj)) (st := none) hs rfl (post_val_or_str ⟨Nat.le_trans (Txt.slice_le y _ _) hz, fun t' k => ⟨.str _, H, I.tok k, ⟨t', rfl⟩, q⟩⟩)
  | int i ui => cases pu with
    | none => exact wpAny_getItem_str_slice (l := some (i, ui)) (u := none) (st := none) hs rfl (post_val_or_str ⟨Nat.le_trans (Txt.slice_le y _ _) hz, fun t' k => ⟨.str _, H, I.tok k, ⟨t', rfl⟩, q⟩⟩)
    | int j uj => exact wpAny_getItem_str_slice (l := some (i, ui)) (u := some (j, uj)) (st := none) hs rfl (post_val_or_str ⟨Nat.le_trans (Txt.slice_le y _ _) hz, fun t' k => ⟨.str _, H, I.tok k, ⟨t', rfl⟩, q⟩⟩)
end
/-! ### for c in a text of plain signs -/
def Its (x : Str) : It := ⟨fun i _ => i < x.length, fun i H v H' => H' = H ∧ ∃ c, x.cps[i]? = some c ∧ v = .str ⟨#[c]⟩, fun i _ => x.length ≤ i⟩
theorem turn_str {P : Program} {w : World} {K : PySem.W.Frag} {tg : Expr} (it : Addr) (x : Str) (t : Tok) :
    Turn P w K tg (Its x) [it] it (fun i h => h.IsStrIter it "str_ascii_iterator" x t i) where
  mem := by simp
  obj := fun i h st b hb => by
    have e : b = it := by simpa using hb
    subst e
    obtain ⟨o, e, c, d⟩ := st
    exact ⟨o, e, fun v z => by rw [d] at z; cases z⟩
  keep := fun i h h' st k => let ⟨o, ho, r⟩ := st; ⟨o, k it (by simp) o ho, r⟩
  item := by
    intro X hP hw hK hc i pins s σ H E I hf st hg
    subst hP hw hK
    have hg : i < x.cps.size := hg
    obtain ⟨f0, f1, f2, f3, f4, f5⟩ := hf it (by simp)
    refine wpAny_pyNext_ascii_item st (Array.getElem?_eq_getElem hg) fun h' st' sb => ?_
    have I1 : Inv X pins σ H { s with heap := h', toks := s.toks + 1 } := I.turned (t' := s.toks + 1) (fun b o hb e => (sb.2 b hb).trans e) f0 f1 f3 f4 f5
    obtain ⟨oi, e, c, d⟩ := id st'
    exact ⟨_, rfl, go_of (s := { s with heap := h', toks := s.toks + 1 }) e c d (by decide) ⟨.str ⟨#[x.cps[i]]⟩, H, I1, ⟨_, rfl⟩, ⟨rfl, _, Array.getElem?_eq_getElem hg, rfl⟩, st', fun b hb => (hf b hb).1⟩⟩
  done := by
    intro X hP hw hK hc i pins s σ H E I hf st hg
    subst hP hw hK
    have hg : x.cps.size ≤ i := hg
    obtain ⟨f0, f1, f2, f3, f4, f5⟩ := hf it (by simp)
    exact wpAny_pyNext_ascii_end (I.ok.hd hc) st (Array.getElem?_eq_none hg) fun h' eb => ⟨rfl, I.turned (t' := s.toks) (fun b o hb e => eb b o hb e) f0 f1 f3 f4 f5⟩
  self := fun _ _ _ _ _ st h => wpAny_pyIter_striter_ascii st h
section
variable {X : Cx} {tg : Expr}
def iStr (tl : TE) : TI := fun σ H R => tl σ H fun v H1 => ∃ x, v = .str x ∧ x.cps.all (· < 128) = true ∧ R (Its x) H1
theorem pi_str {l : Expr} {tl : TE} (hl : PE X l tl) : PI X tg l (iStr tl) := by
  intro pins s σ H R I h
  refine thn (hl pins s σ H _ I h) fun v s1 ⟨y, H1, I1, r1, x, e, ha, q⟩ => ?_
  subst e
  obtain ⟨t, rfl⟩ := (show ∃ t, v = Value.str x t from r1)
  refine wpAny_pyIter_ascii ha ?_
  refine ⟨s1.heap.objs.size, [s1.heap.objs.size], _, _, _, rfl, I1.kept (t' := s1.toks) fun b o e => Heap.get?_push_of_some _ e, turn_str _ x t, ?_, fun b hb => ?_, q⟩
  · exact ⟨_, Heap.get?_push_size _ rfl, rfl, rfl⟩
  · have e : b = s1.heap.objs.size := by simpa using hb
    subst e
    exact I1.fpOk (Nat.le_refl _) (I1.hok.fresh (Nat.le_refl _))
end
theorem for_str {x : Str} {g : TG} {tb : TS} {D : Ends} {σ : St} {H : Hp} (Pv : Nat → St → Hp → Prop) (h0 : Pv 0 σ H)
    (hs : ∀ i c σ H, x.cps[i]? = some c → Pv i σ H → g (.str ⟨#[c]⟩) σ H fun σ2 H2 => tb { D with nx := Pv (i + 1), ct := Pv (i + 1), bk := D.nx } σ2 H2) (hd : ∀ σ H, Pv x.length σ H → D.nx σ H) :
    ∃ W : Nat → Nat → St → Hp → Prop, (∃ m, W 0 m σ H) ∧ ∀ i m σ H, W i m σ H →
      ((Its x).stop i H ∧ D.nx σ H) ∨ ((Its x).go i H ∧ ∃ N : St → Hp → Prop, (∀ σ' H', N σ' H' → ∃ m', m' < m ∧ W (i + 1) m' σ' H') ∧ ∀ v H', (Its x).yld i H v H' → g v σ H' fun σ2 H2 => tb { D with nx := N, ct := N, bk := D.nx } σ2 H2) := by
  refine ⟨fun i m σ H => m + i = x.length ∧ Pv i σ H, ⟨x.length, rfl, h0⟩, ?_⟩
  rintro i m σ H ⟨hm, p⟩
  by_cases hi : i < x.length
  · refine .inr ⟨hi, Pv (i + 1), fun σ' H' q => ⟨m - 1, by omega, by omega, q⟩, ?_⟩
    rintro v H' ⟨rfl, c, hc, rfl⟩
    exact hs i c σ _ hc p
  · have e : i = x.length := by omega
    subst e
    exact .inl ⟨Nat.le_refl _, hd σ H p⟩
end L2

/-! MY OWN RULES, part 22: xss != yss: lists of lists whose items are the very same objects -/
namespace L2
open PySem PySem.Spec PyProof.Rows
section
variable {X : Cx}
def rNeLL (K : PySem.W.Frag) : R2 := fun x y H Q => ∃ a b, ∃ ps qs : List Addr, x = .ref a ∧ y = .ref b ∧ SqL K H a (ps.map V.ref) ∧ SqL K H b (qs.map V.ref) ∧ ps.length = qs.length ∧
  (∀ (j : Nat) p q, ps[j]? = some p → qs[j]? = some q → p ≠ q ∧ ∃ xs : List Addr, SqL K H p (xs.map V.ref) ∧ SqL K H q (xs.map V.ref)) ∧ Q (.bl false) H
end
end L2

/-! MY OWN RULES, part 23: sorted of a dict of texts, told with its order; d.update(e) -/
namespace PySem.W
open PySem PySem.Calls PyProof.Rows PyProof.V PySem.Spec
section
variable {prog : Program} {w : World} {A : Around} {E : Value → Shared → Prop} {s : Shared} {T : String} {r d : Addr} {n : Nat} {P : Nat → Value → Prop} {OK : Heap → Prop}
end
end PySem.W
namespace L2
open PySem PySem.Spec PyProof.Rows PySem.W
section
variable {X : Cx}
end
section
variable {X : Cx} {pins : List (Addr × Obj)} {σ : St} {H : Hp} {s : Shared} {a b : Addr} {kvs more : List (Key × V)} {A : Around} {E : Value → Shared → Prop}
end
/-- d.update(e) -/
def tDUpd (td ty : TE) : TE := fun σ H Q => td σ H fun x H1 => ∃ a, x = .ref a ∧ IsD H1 a ∧ ty σ H1 fun y H2 => ∃ b kvs more, y = .ref b ∧ H2 a = some (.dK kvs) ∧ H2 b = some (.dK more) ∧ a ≠ b ∧ kvs.length + more.length ≤ sizeLine ∧ Q .non (upd H2 a (.dK (mergeK kvs more)))
section
variable {X : Cx} {o e : Expr} {apos cpos : Pos} {td ty : TE}
end
end L2
namespace L2
open PySem PySem.Spec PyProof.Rows
def leS (a b : Str) : Prop := ¬ b.cps.toList < a.cps.toList
end L2
namespace L2
open PySem PySem.Spec PyProof.Rows
end L2

/-! MY OWN RULES, part 24: sorted of a list of texts, in order -/
namespace L2
open PySem PySem.Spec PyProof.Rows PySem.W
section
variable {X : Cx}
end
end L2

/-! ### try: a body that never raises -/
namespace L2
open PySem PySem.Spec PyProof.Rows
end L2

namespace L2
open PySem PySem.Spec PyProof.Rows
section
variable {X : Cx}
end
end L2

/-! MY OWN RULES, part 27: any(a list of ints), x not in xss -/
namespace L2
open PySem PySem.Spec PyProof.Rows
section
variable {X : Cx}
/-- a list of ints in a list of lists of ints -/
def rNotInC (K : PySem.W.Frag) : R2 := fun x y H Q => ∃ (p a : Addr) (c : List Int) (as : List Addr) (cs : List (List Int)), x = .ref p ∧ y = .ref a ∧ SqL K H p (c.map V.int) ∧ SqL K H a (as.map V.ref) ∧ ColsAt K H as cs ∧ Q (.bl (!decide (c ∈ cs))) H
/-- xs[j], by values, j not below 0 -/
def rGetL (K : PySem.W.Frag) : V → V → Hp → VK → Prop := fun o i H Q => ∃ (p : Addr) (xs : List V) (j : Nat) (v : V), o = .ref p ∧ i = .int j ∧ SqL K H p xs ∧ xs[j]? = some v ∧ Q v H
end
end L2

/-! MY OWN RULES, part 28: xs != [] -/
namespace L2
open PySem PySem.Spec PyProof.Rows
section
variable {X : Cx}
def rNeE (K : PySem.W.Frag) : R2 := fun x y H Q => ∃ a b xs, x = .ref a ∧ y = .ref b ∧ SqL K H a xs ∧ SqL K H b [] ∧ Q (.bl (!xs.isEmpty)) H
end
end L2

/-! MY OWN RULES, part 29: exceptions of own classes, by the model: on their way, made, their attributes, raised -/
namespace PySem
/-- an exception on its way: its record, and the newest entry of its traceback, if it has one -/
structure Heap.FlAt (h : Heap) (e : Addr) (tb : Option Addr) : Prop where
  ex : ∃ oe vs, h.get? e = some oe ∧ oe.data = .fields vs ∧ vs[1]? = some (tb.elim Value.none Value.ref)
  tr : ∀ T, tb = some T → T ≠ e ∧ ∃ oT ts, h.get? T = some oT ∧ oT.data = .fields ts ∧ 3 < ts.size
/-- what its way changes: its own record's fields, its entry, the frames' slots -/
structure Heap.Moved (fs : List Addr) (e : Addr) (tb : Option Addr) (h h' : Heap) : Prop where
  keep : ∀ b o, h.get? b = some o → b ≠ e → tb ≠ some b → b ∉ fs → h'.get? b = some o
  slot : ∀ b o, h.get? b = some o → b ≠ e → tb ≠ some b → ∃ sl, h'.get? b = some { o with slots := sl }
  self : ∀ o, h.get? e = some o → ∃ vs, h'.get? e = some { o with data := .fields vs }
  ent : ∀ b o, tb = some b → b ≠ e → h.get? b = some o → ∃ o', h'.get? b = some o'
  size : h.objs.size ≤ h'.objs.size
theorem Heap.Moved.there {fs : List Addr} {e : Addr} {tb : Option Addr} {h h' : Heap} (m : Heap.Moved fs e tb h h') (b : Addr) (o : Obj) (q : h.get? b = some o) : ∃ o', h'.get? b = some o' := by
  by_cases be : b = e
  · subst be
    obtain ⟨vs, z⟩ := m.self o q
    exact ⟨_, z⟩
  · by_cases bt : tb = some b
    · exact m.ent b o bt be q
    · obtain ⟨sl, z⟩ := m.slot b o q be bt
      exact ⟨_, z⟩
theorem Heap.Moved.refl {fs : List Addr} {e : Addr} {tb : Option Addr} {h : Heap} (x : h.FlAt e tb) : Heap.Moved fs e tb h h :=
  ⟨fun _ _ q _ _ _ => q, fun _ o q _ _ => ⟨o.slots, q⟩, fun o q => by
    obtain ⟨oe, vs, he, hd, _⟩ := x.ex
    rw [q] at he
    cases he
    exact ⟨vs, by rw [q, ← hd]⟩, fun _ o _ _ q => ⟨o, q⟩, Nat.le_refl _⟩
theorem Heap.Moved.trans {fs : List Addr} {e : Addr} {tb tb' : Option Addr} {h h1 h2 : Heap} (x : Heap.Moved fs e tb h h1) (y : Heap.Moved fs e tb' h1 h2) (n : ∀ T, tb' = some T → tb = some T ∨ h.objs.size ≤ T) : Heap.Moved fs e tb h h2 where
  keep := fun b o q be bt bf => y.keep b o (x.keep b o q be bt bf) be (fun z => (n b z).elim bt fun w => absurd (Heap.lt_size q) (Nat.not_lt.mpr w)) bf
  slot := fun b o q be bt => by
    obtain ⟨sl, z⟩ := x.slot b o q be bt
    obtain ⟨sl', z'⟩ := y.slot b _ z be (fun z => (n b z).elim bt fun w => absurd (Heap.lt_size q) (Nat.not_lt.mpr w))
    exact ⟨sl', z'⟩
  self := fun o q => by
    obtain ⟨vs, z⟩ := x.self o q
    obtain ⟨vs', z'⟩ := y.self _ z
    exact ⟨vs', z'⟩
  ent := fun b o _ be q => by
    obtain ⟨o1, z⟩ := x.there b o q
    exact y.there b o1 z
  size := Nat.le_trans x.size y.size
theorem Heap.Moved.mono {fs fs' : List Addr} {e : Addr} {tb : Option Addr} {h h' : Heap} (x : Heap.Moved fs e tb h h') (k : ∀ b ∈ fs, b ∈ fs') : Heap.Moved fs' e tb h h' :=
  ⟨fun b o q be bt bf => x.keep b o q be bt fun z => bf (k b z), x.slot, x.self, x.ent, x.size⟩
theorem mapFields_is {o : Obj} {vs : Array Value} (hd : o.data = .fields vs) (f : Array Value → Array Value) : o.mapFields f = { o with data := .fields (f vs) } := by
  obtain ⟨a, b, c, d⟩ := o
  cases hd
  rfl
section
variable {M : Model} {A : Around} {E : Value → Shared → Prop} {s : Shared}
theorem entry_ex {base : Heap} {env : Env} {outer : List Env} {L e : Addr} {oe : Obj} {vs : Array Value} {hd0 : Value} {nx : Bool} {Q : Unit → Shared → Prop} (fr : A.frames = some (env :: outer)) (fl : s.heap.FunFrames base (env :: outer)) (hL : env.frame = some L)
    (xe : s.heap.get? e = some oe) (xd : oe.data = .fields vs) (xs : 1 < vs.size)
    (k : ∀ h' T, h'.FlAt e (some T) → s.heap.objs.size ≤ T → Heap.Moved ((env :: outer).filterMap (·.frame)) e none s.heap h' → Q () { s with heap := h' }) :
    wpAny M A (do let a ← frameOf env; let pl ← entryPlaceOf L nx; let b ← EntryCells.newEntry hd0 a .none (rawInt L) .none pl; setField (.ref e) 1 b) Q E s := by
  have ene : e ∉ (env :: outer).filterMap (·.frame) := fun z => by
    obtain ⟨_, o, q, nf⟩ := fl.mem z
    rw [xe] at q
    cases q
    exact nf vs xd
  refine wpAny_bind (wpAny_frameOf_fun fr fl hL fun g1 so => ?_)
  refine wpAny_bind (wpAny_entryPlaceOf fun pl ok => ?_)
  unfold EntryCells.newEntry newFields
  refine wpAny_bind (wpAny_newObj_type ?_ (ok.sizeOk5 _ _ _ _ _))
  have e1 : g1.get? e = some oe := (so.2.1 e ene).trans xe
  generalize hO : ({ cls := .type "traceback", dict := none, data := .fields ([hd0, .ref L, .none, rawInt L, .none] ++ (if pl.isEmpty then List.replicate 6 Value.none else pl)).toArray } : Obj) = ob
  have e2 := Heap.get?_push_of_some (h := g1) ob e1
  refine wpAny_setField e2 xd xs ?_
  have Te : g1.objs.size ≠ e := Nat.ne_of_gt (Heap.lt_size e1)
  have nf : ob.isFreed = false := by rw [← hO]; rfl
  have eT : (g1.push ob).get? g1.objs.size = some ob := Heap.get?_push_size g1 nf
  have e3 := Heap.get?_update_self (Obj.mapFields (·.setIfInBounds 1 (Value.ref g1.objs.size))) e2 (Obj.isFreed_of_fields (Obj.data_mapFields xd _))
  refine k _ g1.objs.size ⟨⟨_, _, e3, Obj.data_mapFields xd _, by simp [xs]⟩, fun T z => ?_⟩ (Nat.le_of_eq so.1.symm) ⟨fun b o q be _ bf => ?_, fun b o q be _ => ?_, fun o q => ?_, fun b o z => (by cases z), ?_⟩
  · cases z
    refine ⟨Te, ob, ([hd0, .ref L, .none, rawInt L, .none] ++ (if pl.isEmpty then List.replicate 6 Value.none else pl)).toArray, ?_, by rw [← hO], by simp only [List.size_toArray, List.length_append, List.length_cons, List.length_nil]; omega⟩
    rw [Heap.get?_update_other _ _ (Ne.symm Te)]
    exact eT
  · rw [Heap.get?_update_other _ _ (Ne.symm be)]
    exact Heap.get?_push_of_some _ ((so.2.1 b bf).trans q)
  · obtain ⟨sl, z⟩ := so.2.2 b o q
    refine ⟨sl, ?_⟩
    rw [Heap.get?_update_other _ _ (Ne.symm be)]
    exact Heap.get?_push_of_some _ z
  · rw [xe] at q
    cases q
    exact ⟨_, e3.trans (by rw [mapFields_is xd])⟩
  · show s.heap.objs.size ≤ ((g1.push ob).update e _).objs.size
    rw [Heap.size_after_update, Heap.size_push, ← so.1]
    exact Nat.le_succ _
theorem flight_ex {e : Addr} {tb fr : Option Addr} {Q : Unit → Shared → Prop} (x : s.heap.FlAt e tb) (k : ∀ h', h'.FlAt e tb → Heap.Moved [] e tb s.heap h' → Q () { s with heap := h' }) : wpAny M A (setFlight (.ref e) fr) Q E s := by
  obtain ⟨oe, vs, he, hd, h1⟩ := x.ex
  unfold setFlight
  refine wpAny_bind (wpAny_field he hd h1 ?_)
  cases tb with
  | none =>
    rw [if_neg (by decide)]
    exact wpAny_pure (k _ x (.refl x))
  | some T =>
    obtain ⟨ne, oT, ts, hT, dT, sz⟩ := x.tr T rfl
    rw [if_pos (show ((some T).elim Value.none Value.ref != Value.none) = true from by simp)]
    generalize (fr.elim Value.none fun f => rawInt f) = v3
    refine wpAny_setField hT dT sz ?_
    have he' : (s.heap.update T (Obj.mapFields (·.setIfInBounds 3 v3))).get? e = some oe := (Heap.get?_update_other _ _ ne).trans he
    have hT' := Heap.get?_update_self (Obj.mapFields (·.setIfInBounds 3 v3)) hT (Obj.isFreed_of_fields (Obj.data_mapFields dT _))
    refine k _ ⟨⟨oe, vs, he', hd, h1⟩, fun T' z => ?_⟩ ⟨fun b o q _ bt _ => ?_, fun b o q _ bt => ⟨o.slots, ?_⟩, fun o q => ?_, fun b o z _ _ => ?_, ?_⟩
    · cases z
      exact ⟨ne, _, _, hT', Obj.data_mapFields dT _, by simp [sz]⟩
    · exact (Heap.get?_update_other _ _ fun z => bt (by rw [z])).trans q
    · exact (Heap.get?_update_other _ _ fun z => bt (by rw [z])).trans q
    · rw [he] at q
      cases q
      exact ⟨vs, by rw [he', ← hd]⟩
    · cases z
      exact ⟨_, hT'⟩
    · show s.heap.objs.size ≤ (s.heap.update T _).objs.size
      rw [Heap.size_after_update]
      exact Nat.le_refl _
theorem note_ex {base : Heap} {env : Env} {outer : List Env} {L e : Addr} {tb : Option Addr} {Q : Unit → Shared → Prop} (fr : A.frames = some (env :: outer)) (fl : s.heap.FunFrames base (env :: outer)) (hL : env.frame = some L) (x : s.heap.FlAt e tb)
    (k : ∀ h' T, h'.FlAt e (some T) → tb = some T ∨ s.heap.objs.size ≤ T → Heap.Moved ((env :: outer).filterMap (·.frame)) e tb s.heap h' → Q () { s with heap := h' }) : wpAny M A (noteFrame (.ref e) env) Q E s := by
  obtain ⟨oe, vs, he, hd, h1⟩ := id x.ex
  have sz1 : 1 < vs.size := (Array.getElem?_eq_some_iff.mp h1).1
  unfold noteFrame
  simp only [hL]
  refine wpAny_bind (wpAny_field he hd h1 ?_)
  cases tb with
  | none =>
    rw [if_neg (by decide)]
    exact entry_ex fr fl hL he hd sz1 fun h' T a b c => k h' T a (.inr b) c
  | some T =>
    obtain ⟨ne, oT, ts, hT, dT, sz⟩ := x.tr T rfl
    rw [if_pos (show ((some T).elim Value.none Value.ref != Value.none) = true from by simp)]
    have h3 : ts[3]? = some ts[3] := Array.getElem?_eq_getElem sz
    refine wpAny_bind (wpAny_field hT dT h3 ?_)
    by_cases c : (ts[3] == rawInt L) = true
    · rw [if_pos c]
      exact wpAny_pure (k _ T x (.inl rfl) (.refl x))
    · rw [if_neg c]
      refine wpAny_bind (wpAny_setField hT dT sz ?_)
      have ot : ∀ b, b ≠ T → (s.heap.update T (Obj.mapFields (·.setIfInBounds 3 Value.none))).get? b = s.heap.get? b := fun b z => Heap.get?_update_other _ _ (Ne.symm z)
      have hT' := Heap.get?_update_self (Obj.mapFields (·.setIfInBounds 3 Value.none)) hT (Obj.isFreed_of_fields (Obj.data_mapFields dT _))
      have zs : (s.heap.update T (Obj.mapFields (·.setIfInBounds 3 Value.none))).objs.size = s.heap.objs.size := Heap.size_after_update ..
      refine entry_ex (s := { s with heap := s.heap.update T (Obj.mapFields (·.setIfInBounds 3 Value.none)) }) fr (fl.of_keeps fun b o q nf => ⟨o, (ot b fun z => ?_).trans q, rfl⟩) hL ((ot e (Ne.symm ne)).trans he) hd sz1 fun h' T' a b c => k h' T' a (.inr (by rw [← zs]; exact b)) ?_
      · rw [z, hT] at q
        cases q
        exact nf ts dT
      · refine ⟨fun b o q be bt bf => c.keep b o ((ot b fun z => bt (by rw [z])).trans q) be (fun z => by cases z) bf, fun b o q be bt => c.slot b o ((ot b fun z => bt (by rw [z])).trans q) be fun z => (by cases z), fun o q => c.self o ((ot e (Ne.symm ne)).trans q), fun b o z be q => ?_, ?_⟩
        · cases z
          exact c.there _ _ hT'
        · rw [← zs]
          exact c.size
theorem leave_ex {base : Heap} {env : Env} {outer : List Env} {L e : Addr} {tb : Option Addr} {Q : Unit → Shared → Prop} (fr : A.frames = some (env :: outer)) (fl : s.heap.FunFrames base (env :: outer)) (hL : env.frame = some L) (x : s.heap.FlAt e tb)
    (k : ∀ h' T, h'.FlAt e (some T) → tb = some T ∨ s.heap.objs.size ≤ T → Heap.Moved ((env :: outer).filterMap (·.frame)) e tb s.heap h' → Q () { s with heap := h' }) : wpAny M A (leaving env (.ref e)) Q E s := by
  unfold leaving
  refine wpAny_bind (note_ex fr fl hL x fun h1 T a b c => flight_ex (s := { s with heap := h1 }) a fun h2 a' c' => k h2 T a' b (c.trans (c'.mono fun _ z => absurd z (by simp)) fun T' z => ?_))
  cases z
  exact b
end
end PySem
namespace PySem.W
open PySem PySem.Calls PyProof.Rows PySem.Builtin PySem.Builtin.ObjectAttr
/-- the line above an own exception's class: HallError is the one between -/
abbrev bmV : List Value := [.type "ValueError", .type "Exception", .type "BaseException", .type "object"]
/-- an own exception's class, under another own one that is under ValueError; f its __init__ -/
structure XCls (K : Frag) (C HE f : Addr) : Prop where
  obj : ∃ (nm q : Str) (N : Addr) (bs : List Value) (sn : List Str) (sub : List Value) (ab : Bool) (col : Option Bool) (dd : Option Addr) (k0 k1 k2 k3 k5 : Option Value),
    K.lookup C = some (excClassObj nm q C N bs (.ref HE :: bmV) true sn sub ab col dd k0 k1 k2 k3 k5 "ValueError.__new__")
  init : findIn K (.ref C) "__init__" = some (some (.ref f))
  fn : typeIn K (.ref f) = some (.type "function")
  sa : findIn K (.ref C) "__setattr__" = some (some (.builtin "object.__setattr__"))
  ga : findIn K (.ref C) "__getattribute__" = some (some (.builtin "BaseException.__getattribute__"))
  gh : findIn K (.ref C) "__getattr__" = some none
theorem has_own {C HE : Addr} {T : String} {b : Bool} (h : bmV.contains (.type T) = b) : (Value.ref C :: .ref HE :: bmV).contains (.type T) = b := by
  rw [List.contains_cons, List.contains_cons, h]
  rfl
section
variable {prog : Program} {w : World} {A : Around} {E : Value → Shared → Prop} {R : Result → Shared → Prop} {h : Heap} {g : Array GenState} {d : Drawn} {t : Nat} {os : OsState}
variable {nm q : Str} {C N HE : Addr} {bs : List Value} {sn : List Str} {sub : List Value} {ab : Bool} {col : Option Bool} {dd : Option Addr} {k0 k1 k2 k3 k5 : Option Value}
/-- the tuple of what it is made of, and itself -/
abbrev tupO (vs : List Value) : Obj := { cls := .type "tuple", data := .seq vs.toArray }
abbrev excO (C t : Addr) : Obj := { cls := .ref C, data := .fields #[.ref t, .none, .none, .none, .bool false, .none] }
end
section
variable {prog : Program} {w : World} {A : Around} {E : Value → Shared → Prop} {R : Result → Shared → Prop} {s : Shared} {K : Frag} {C HE f : Addr}
end
section
variable {prog : Program} {w : World} {A : Around} {E : Value → Shared → Prop} {R : Result → Shared → Prop} {s : Shared} {K : Frag} {C HE f e : Addr} {ox : Obj} {od : Option Obj} {vs : Array Value} {name : Str} {v : Value} {tk : Tok}
theorem XCls.cd (Z : XCls K C HE f) : ∃ cd, clsIn K C = some cd ∧ cd.mro = .ref C :: .ref HE :: bmV ∧ cd.hasDict = true := by
  obtain ⟨nm, q, N, bs, sn, sub, ab, col, dd, k0, k1, k2, k3, k5, hK⟩ := Z.obj
  exact ⟨_, by unfold clsIn; rw [hK], rfl, rfl⟩
theorem XCls.mro (Z : XCls K C HE f) {T : String} {b : Bool} (h : bmV.contains (.type T) = b) : mroIn K C (.type T) = some b := by
  obtain ⟨cd, a, m, _⟩ := Z.cd
  unfold mroIn
  rw [a, Option.bind_some, m, has_own h]
  rfl
end
section
variable {M : Model} {A : Around} {E : Value → Shared → Prop} {s : Shared} {K : Frag} {env : Env}
end
section
variable {prog : Program} {w : World} {A : Around} {E : Value → Shared → Prop} {s : Shared} {K : Frag} {C HE f e : Addr} {ox : Obj} {vs : Array Value}
end
end PySem.W

/-! ### exceptions of own classes: on their way, raised, passed on, caught -/
namespace L2
open PySem PySem.Spec PyProof.Rows
/-- an exception's own dict -/
def xdH (dx : Addr) (fs : List (Str × V)) : HO := .ext fun h => ∃ mA, h.Ns1 dx mA ∧ (∀ f, RelO (fs.lookup f) (mA f)) ∧ PySem.Within mA (fs.map (·.1))
/-- an exception that was not raised yet; any exception -/
def xnH (e C : Addr) (dx : Option Addr) : HO := .ext fun h => ∃ o vs, h.get? e = some o ∧ o.cls = .ref C ∧ o.dict = dx ∧ o.data = .fields vs ∧ vs[1]? = some .none
def xoH (e C : Addr) (dx : Option Addr) : HO := .ext fun h => ∃ o vs, h.get? e = some o ∧ o.cls = .ref C ∧ o.dict = dx ∧ o.data = .fields vs
section
variable {P : Program} {w : World} {H : Hp} {h : Heap} {e C dx : Addr} {od : Option Addr} {o : Obj} {vs : Array Value}
theorem xo_ok (he : h.get? e = some o) (hc : o.cls = .ref C) (hd : o.dict = od) (hf : o.data = .fields vs) : ObjOk P w H h e (xoH e C od) :=
  ⟨⟨o, vs, he, hc, hd, hf⟩, ⟨o, he⟩, fun _ _ ⟨o, vs, a, b⟩ k => ⟨o, vs, k _ a, b⟩⟩
theorem xo_get (ok : HOk P w H h) (q : H e = some (xoH e C od)) : ∃ o vs, h.get? e = some o ∧ o.cls = .ref C ∧ o.dict = od ∧ o.data = .fields vs := (ok e _ q).1
end
/-- new since the entry -/
structure NewTo (X : Cx) (T : Addr) : Prop where
  above : X.s₀.heap.objs.size ≤ T
  loc : T ≠ X.env.locals
  cell : ∀ x c, X.env.cells.lookup x = some c → c ≠ T
  pn : ∀ p ∈ X.pn, p.1 ≠ T
section
variable {X : Cx} {pins : List (Addr × Obj)} {σ : St} {H : Hp} {s : Shared} {e C : Addr} {od tb : Option Addr} {h' : Heap} {ER : St → XK} {v : Value}
theorem Inv.newTo (I : Inv X pins σ H s) {T : Addr} (h : s.heap.objs.size ≤ T) : NewTo X T := by
  refine ⟨Nat.le_trans I.sz h, fun z => ?_, fun x c q z => ?_, fun p hp z => ?_⟩
  · subst z
    exact absurd I.lt (Nat.not_lt.mpr h)
  · obtain ⟨_, o, ho, _⟩ := I.cell x c q
    subst z
    exact absurd (Heap.lt_size ho) (Nat.not_lt.mpr h)
  · have q := (I.pin p (List.mem_append_left _ hp)).1
    rw [z] at q
    exact absurd (Heap.lt_size q) (Nat.not_lt.mpr h)
/-- an exception on its way through a body: what is wanted of it (the names' values, its class, its dict, the heap) -/
def Flies (X : Cx) (ER : St → XK) (v : Value) (s : Shared) : Prop :=
  ∃ e C dx σ H tb, v = .ref e ∧ Inv X [] σ H s ∧ H e = some (xoH e C dx) ∧ s.heap.FlAt e tb ∧ (∀ T, tb = some T → H T = none ∧ NewTo X T) ∧ ER σ (.ref C) dx H
/-- what flies is let go on -/
def Lets (X : Cx) (ER : St → XK) : Prop := ∀ v s, Flies X ER v s → X.xe v s
theorem NewTo.unwish {E : Value → Shared → Prop} {T : Addr} (n : NewTo (X.wish E) T) : NewTo X T := ⟨n.above, n.loc, n.cell, n.pn⟩
theorem NewTo.wish {E : Value → Shared → Prop} {T : Addr} (n : NewTo X T) : NewTo (X.wish E) T := ⟨n.above, n.loc, n.cell, n.pn⟩
theorem Flies.unwish {E : Value → Shared → Prop} (z : Flies (X.wish E) ER v s) : Flies X ER v s := by
  obtain ⟨e, C, dx, σ, H, tb, ev, I, he, fl, ht, hE⟩ := z
  exact ⟨e, C, dx, σ, H, tb, ev, I.unwish, he, fl, fun T q => ⟨(ht T q).1, (ht T q).2.unwish⟩, hE⟩
theorem Flies.wish {E : Value → Shared → Prop} (z : Flies X ER v s) : Flies (X.wish E) ER v s := by
  obtain ⟨e, C, dx, σ, H, tb, ev, I, he, fl, ht, hE⟩ := z
  exact ⟨e, C, dx, σ, H, tb, ev, I.wish _, he, fl, fun T q => ⟨(ht T q).1, (ht T q).2.wish⟩, hE⟩
theorem Inv.unpin (I : Inv X pins σ H s) : Inv X [] σ H s := I.pins_of fun p hp => absurd hp (by simp)
/-- it moves on: nothing that is known changes -/
theorem Inv.moved (I : Inv X [] σ H s) (he : H e = some (xoH e C od)) (ht : ∀ T, tb = some T → H T = none ∧ NewTo X T) (m : Heap.Moved (frs X.stack) e tb s.heap h') : Inv X [] σ H { s with heap := h' } := by
  have ne : ∀ b, H b = none → b ≠ e := fun b n z => by
    subst z
    rw [he] at n
    cases n
  refine I.call' (s' := { s with heap := h' }) (H' := H) (ch := tb.toList) rfl ⟨fun b o q n hb hx => m.keep b o q (ne b n) (fun z => hx (by rw [z]; simp)) hb, fun b o q n hb hx => m.slot b o q (ne b n) fun z => hx (by rw [z]; simp), fun _ _ _ n _ => n, fun b o q _ => m.there b o q,
    fun _ _ q => q, fun _ _ _ q => q, fun _ ps q => ⟨#[], by simpa using q⟩⟩ (fun a o q => ?_) I.bare fun b hb => ?_
  · by_cases ae : a = e
    · subst ae
      rw [he] at q
      cases q
      obtain ⟨o, vs, h1, h2, h3, h4⟩ := xo_get I.hok he
      obtain ⟨vs', z⟩ := m.self o h1
      exact xo_ok z h2 h3 rfl
    · refine (I.hok a o q).stay (fun b u hb z => ?_) (fun _ q => q) fun _ _ q => q
      have hb' : ∃ o', H b = some o' := by
        rcases hb with hb | hb
        · exact ⟨o, by rw [hb]; exact q⟩
        · exact ⟨_, hb⟩
      obtain ⟨o', hb'⟩ := hb'
      refine m.keep b u z (fun z => ?_) (fun z => ?_) fun z => ?_
      · rcases hb with hb | hb
        · exact ae (hb.symm.trans z)
        · rw [z, he] at hb
          cases hb
      · rw [(ht b z).1] at hb'
        cases hb'
      · rw [I.stkFree b z] at hb'
        cases hb'
  · have z : tb = some b := by
      cases tb with
      | none => simp at hb
      | some T => simp at hb; rw [hb]
    obtain ⟨_, n⟩ := ht b z
    exact ⟨.inr n.above, Ne.symm (Ne.symm n.loc), n.cell, by simpa using n.pn⟩
/-- a def's own frame, not a block's -/
def Fram (X : Cx) : Prop := X.stack = X.env :: X.outer ∧ X.env.frame = some X.env.locals
theorem frame_set (hs : Fram X) (I : Inv X pins σ H s) : X.A.frames = some (X.env :: X.outer) ∧ s.heap.FunFrames X.base (X.env :: X.outer) := by
  refine ⟨by rw [I.ok.frames, hs.1], ?_⟩
  rw [← hs.1]
  exact I.stack
theorem tb_new (I : Inv X [] σ H s) {tb : Option Addr} {T : Addr} (ht : ∀ T, tb = some T → H T = none ∧ NewTo X T) (b : tb = some T ∨ s.heap.objs.size ≤ T) : ∀ T', some T = some T' → H T' = none ∧ NewTo X T' := fun T' z => by
  cases z
  rcases b with b | b
  · exact ht T b
  · exact ⟨I.hok.fresh b, I.newTo b⟩
end
/-- how an exception lies behind a call -/
def CXR (P : Program) (w : World) : CXT := fun outer H s E v s' =>
  ∃ e C dx H' tb, v = .ref e ∧ s'.os = s.os ∧ AllBare s'.gens ∧ Un (frs outer) [] H H' s.heap s'.heap ∧ HOk P w H' s'.heap ∧ H' e = some (xoH e C dx) ∧ s'.heap.FlAt e tb ∧ (∀ T, tb = some T → H' T = none ∧ s.heap.objs.size ≤ T) ∧ E (.ref C) dx H'
section
variable {P : Program} {w : World} {K : PySem.W.Frag} {mg : Str → Option Value} {base : Heap} {N ps : List Str} {qual : Str} {scope : Scope} {f : Addr} {cd : Value} {A : Around} {outer : List Env} {s s' : Shared} {H : Hp} {E : XK} {v : Value}
theorem flies_leave (z : Flies (cxOf (CXR P w) P w K mg base N qual scope f cd A outer s H E) (fun _ => E) v s') : (cxOf (CXR P w) P w K mg base N qual scope f cd A outer s H E).xe v s' := by
  obtain ⟨e, C, dx, σ, H', tb, ev, I, he, fl, ht, hE⟩ := z
  subst ev
  obtain ⟨fr, ff⟩ := frame_set (X := cxOf (CXR P w) P w K mg base N qual scope f cd A outer s H E) ⟨rfl, rfl⟩ I
  refine leave_ex fr ff rfl fl fun h1 T a b m => ?_
  have I1 := I.moved he ht m
  have t1 := tb_new I ht b
  have hB := I.base
  have ne : ∀ b, H' b = none → b ≠ e := fun b n z => by
    subst z
    rw [he] at n
    cases n
  have nt : ∀ b o, s.heap.get? b = some o → tb ≠ some b := fun b o q z => absurd (Heap.lt_size q) (Nat.not_lt.mpr (ht b z).2.above)
  refine ⟨e, C, dx, H', some T, rfl, I.os, I.bare, ⟨fun b o q n hb hx => ?_, fun b o q n hb hx => ?_, hB.free, fun b o q hx => ?_, hB.tups, hB.frzs, hB.tbls⟩, I1.hok, he, a, fun T' z => ⟨(t1 T' z).1, (t1 T' z).2.above⟩, hE⟩
  · refine m.keep b o (hB.keep b o q n hb hx) (ne b (hB.free b o q n hx)) (nt b o q) fun z => ?_
    rcases List.mem_cons.mp (show b ∈ s.heap.objs.size :: frs outer from z) with z | z
    · exact absurd (Heap.lt_size q) (by rw [z]; exact Nat.lt_irrefl _)
    · exact hb z
  · obtain ⟨sl, z⟩ := hB.slot b o q n hb hx
    obtain ⟨sl', z'⟩ := m.slot b _ z (ne b (hB.free b o q n hx)) (nt b o q)
    exact ⟨sl', z'⟩
  · obtain ⟨o', z⟩ := hB.there b o q hx
    exact m.there b o' z
/-- a def's body, of which exceptions may leave -/
def cxX (P : Program) (w : World) (K : PySem.W.Frag) (mg : Str → Option Value) (base : Heap) (N : List Str) (qual : Str) (scope : Scope) (f : Addr) (cd : Value) (A : Around) (outer : List Env) (s : Shared) (H : Hp) (E : XK) : Cx :=
  (cxOf (CXR P w) P w K mg base N qual scope f cd A outer s H E).wish (Flies (cxOf (CXR P w) P w K mg base N qual scope f cd A outer s H E) fun _ => E)
theorem psx_out {st : List Stmt} {t : TS} (h : PSs (cxX P w K mg base N qual scope f cd A outer s H E) st t) : PSs (cxOf (CXR P w) P w K mg base N qual scope f cd A outer s H E) st t := fun pins s1 σ H1 D I hw =>
  wpAny_mono (h pins s1 σ H1 D (I.wish _) hw) (fun _ _ q => q.unwish) fun _ _ z => flies_leave z
theorem Fun.okX {x : Str} {st : Stmt} {fd : FuncData} {k : Nat} {sp : Sp} (F : Fun K x qual st f fd) (S : FnScope N ps (defScope st)) (len : ∀ vs H Q E, sp vs H Q E → vs.length = ps.length)
    (hbody : ∀ (cdv : Value) (A : Around) (outer : List Env) (s : Shared) (H : Hp) (vs : List V) (Q : VK) (E : XK), Room k (A.deeper (envOfC qual (defScope st) s.heap.objs.size f cdv)) → sp vs H Q E →
      ∃ t, PSs (cxX P w K mg base N qual (defScope st) f cdv A outer s H E) (defBody st) t ∧ t { nx := fun _ H' => Q .non H', rt := Q } (start N vs) H) : FnOk P w K mg base (CXR P w) (k + 1) f fd ps sp := by
  obtain ⟨oc, od, kV, doc, pm, an, cdv, ct, osl, rfl, lk, hcd⟩ := F.ex
  refine fn_of lk hcd S len fun A outer s H vs Q E hr hsp => ?_
  obtain ⟨t, h, q⟩ := hbody cdv A outer s H vs Q E hr hsp
  exact ⟨t, psx_out h, q⟩
theorem FunD.okX {x : Str} {st : Stmt} {fd : FuncData} {dV : Value} {k : Nat} {sp : Sp} (F : FunD K x qual st f fd dV) (S : FnScope N ps (defScope st)) (len : ∀ vs H Q E, sp vs H Q E → vs.length = ps.length)
    (hbody : ∀ (cdv : Value) (A : Around) (outer : List Env) (s : Shared) (H : Hp) (vs : List V) (Q : VK) (E : XK), Room k (A.deeper (envOfC qual (defScope st) s.heap.objs.size f cdv)) → sp vs H Q E →
      ∃ t, PSs (cxX P w K mg base N qual (defScope st) f cdv A outer s H E) (defBody st) t ∧ t { nx := fun _ H' => Q .non H', rt := Q } (start N vs) H) : FnOk P w K mg base (CXR P w) (k + 1) f fd ps sp := by
  obtain ⟨oc, od, kV, doc, pm, an, cdv, ct, osl, rfl, lk, hcd⟩ := F.ex
  refine fn_of lk hcd S len fun A outer s H vs Q E hr hsp => ?_
  obtain ⟨t, h, q⟩ := hbody cdv A outer s H vs Q E hr hsp
  exact ⟨t, psx_out h, q⟩
end
section
variable {X : Cx} {pins : List (Addr × Obj)} {σ : St} {H : Hp} {s s' : Shared} {ER : St → XK} {v : Value}
end
/-! calls of what may raise -/
section
variable {X : Cx} {k : Nat} {f C : Addr} {fd : FuncData} {ps : List Str} {sp : Sp} {dvs : List V} {ds : List Value} {ER : St → XK} {x m : Str} {p pos apos : Pos} {e o : Expr} {es : List Expr} {ta : TE} {t : TA}
def tCallX (sp : Sp) (dvs : List V) (ER : St → XK) (t : TA) : TE := fun σ H Q => t σ H fun vs H1 => sp (vs ++ dvs) H1 Q (ER σ)
def tMethX (C : Addr) (m : Str) (sp : Sp) (dvs : List V) (ER : St → XK) (ta : TE) (t : TA) : TE := fun σ H Q => ta σ H fun x H1 => ∃ a dx fs, x = .ref a ∧ H1 a = some (.ins C dx fs) ∧ fs.lookup m = none ∧
  t σ H1 fun vs H2 => sp (x :: (vs ++ dvs)) H2 Q (ER σ)
def tMakeX (C : Addr) (sp : Sp) (dvs : List V) (ER : St → XK) (t : TA) : TE := fun σ H Q => t σ H fun vs H1 => ∀ x dx, H1 x = none → H1 dx = none → dx ≠ x →
  sp (.ref x :: (vs ++ dvs)) (upd (upd H1 dx (.own x)) x (.ins C dx [])) (fun v H2 => v = .non ∧ Q (.ref x) H2) (ER σ)
/-! an exception made -/
def tMakeE (C : Addr) (sp : Sp) (t : TA) : TE := fun σ H Q => t σ H fun vs H1 => vs.length ≤ 100 ∧ ∀ x, H1 x = none → sp (.ref x :: vs) (upd H1 x (xnH x C none)) (fun v H2 => v = .non ∧ Q (.ref x) H2) E0
/-- raise x -/
def tRaise (K : PySem.W.Frag) (te : TE) (ER : St → XK) : TS := fun _ σ H => te σ H fun v H1 => ∃ e C HE f dx, v = .ref e ∧ PySem.W.XCls K C HE f ∧ H1 e = some (xnH e C dx) ∧ ER σ (.ref C) dx (upd H1 e (xoH e C dx))
end
end L2

/-! ### an exception's __init__, its attributes, isinstance; written texts with values; except -/
namespace L2
open PySem PySem.Spec PyProof.Rows
section
variable {X : Cx} {x f : Str} {a b o value ex : Expr} {ta tb tv : TE} {p pos apos pos' : Pos}
/-- the own class above: its __init__ is ValueError's -/
structure XBase (K : PySem.W.Frag) (HE : Addr) : Prop where
  sp : PySem.W.specialIn K (.ref HE) "__getattribute__" = some (some (.builtin "type.__getattribute__"))
  rd : PySem.W.readsIn K HE (.type "type") = true
  fc : PySem.W.findCls K (.ref HE) (.type "type") "__init__" = some (.val (.builtin "ValueError.__init__"))
def tBinit (K : PySem.W.Frag) (ta tb : TE) : TE := fun σ H Q => ta σ H fun v H1 => tb σ H1 fun _ H2 => ∃ e C HE f dx, v = .ref e ∧ PySem.W.XCls K C HE f ∧ H2 e = some (xnH e C dx) ∧ Q .non H2
/-- e.f = v: the first attribute makes the dict -/
def tXfld (K : PySem.W.Frag) (ta tv : TE) (f : Str) : TS := fun D σ H => tv σ H fun y H1 => ta σ H1 fun v H2 => ∃ e C HE g, v = .ref e ∧ PySem.W.XCls K C HE g ∧ PySem.W.takerIn K C f = some none ∧
  ((H2 e = some (xnH e C none) ∧ ∀ dx, H2 dx = none → dx ≠ e → D.nx σ (upd (upd H2 dx (xdH dx [(f, y)])) e (xnH e C (some dx)))) ∨
   ∃ dx fs, H2 e = some (xnH e C (some dx)) ∧ H2 dx = some (xdH dx fs) ∧ fs.length < 1000 ∧ D.nx σ (upd H2 dx (xdH dx (putF f y fs))))
/-- e.f read -/
def tXget (K : PySem.W.Frag) (ta : TE) (f : Str) : TE := fun σ H Q => ta σ H fun v H1 => ∃ e C HE g dx fs y, v = .ref e ∧ PySem.W.XCls K C HE g ∧ PySem.W.findIn K (.ref C) f = some none ∧ H1 e = some (xoH e C (some dx)) ∧ H1 dx = some (xdH dx fs) ∧ fs.lookup f = some y ∧ Q y H1
/-! texts written with values: f'..{a}..' -/
def tFmt (ta : TE) : TE := fun σ H Q => ta σ H fun v H1 => (∃ i, v = .int i ∧ i.natAbs.log2 < 1920 ∧ Q (.str (toString i)) H1) ∨ ∃ y, v = .str y ∧ y.length ≤ sizeLine ∧ Q (.str y) H1
def PF (X : Cx) (es : List Expr) (t : Str → TE) : Prop :=
  ∀ (acc : Str) (pins : List (Addr × Obj)) (s : Shared) (σ : St) (H : Hp) (Q : VK), Inv X pins σ H s → t acc σ H Q → wpAny (model X.prog X.w) X.A (joinParts acc (evalEach es X.env)) (EP X pins σ Q) X.xe s
def tFnil : Str → TE := fun acc _ H Q => acc.length ≤ sizeLine ∧ Q (.str acc) H
def tFcons (te : TE) (t : Str → TE) : Str → TE := fun acc σ H Q => te σ H fun v H1 => ∃ y, v = .str y ∧ (acc ++ y).length ≤ sizeLine ∧ t (acc ++ y) σ H1 Q
end
end L2

/-! ### try .. except: what is caught, what goes on -/
namespace PySem.W
open PySem PySem.Calls PyProof.Rows
/-- a class that an except names -/
structure XPar (K : Frag) (PC : Addr) : Prop where
  obj : ∃ (nm q : Str) (N : Addr) (bs bm : List Value) (hd : Bool) (sn : List Str) (sub : List Value) (ab : Bool) (col : Option Bool) (dd : Option Addr) (k0 k1 k2 k3 k5 : Option Value) (nid : String),
    K.lookup PC = some (excClassObj nm q PC N bs bm hd sn sub ab col dd k0 k1 k2 k3 k5 nid) ∧ bm.contains (.type "BaseException") = true
theorem XCls.par {K : Frag} {C HE f : Addr} (Z : XCls K C HE f) : XPar K C := by
  obtain ⟨nm, q, N, bs, sn, sub, ab, col, dd, k0, k1, k2, k3, k5, hK⟩ := Z.obj
  exact ⟨nm, q, N, bs, _, _, sn, sub, ab, col, dd, k0, k1, k2, k3, k5, _, hK, by rw [List.contains_cons, show bmV.contains (.type "BaseException") = true from by decide +kernel, Bool.or_true]⟩
end PySem.W
namespace L2
open PySem PySem.Spec PyProof.Rows
/-- the pins that a state bears, borne by all states; within an except's suite -/
abbrev Cx.pinned (X : Cx) (pn : List (Addr × Obj)) : Cx := { X with pn := X.pn ++ pn }
abbrev Cx.mark (X : Cx) (e : Addr) : Cx := { X with A := X.A.mark (some (.ref e)), calm := false, xe := fun _ _ => False }
section
variable {X : Cx} {pins pn : List (Addr × Obj)} {σ : St} {H : Hp} {s : Shared} {ER : St → XK} {v : Value} {D : Ends} {fl : Flow}
theorem Cx.Ok.pinned (ok : X.Ok) : (X.pinned pn).Ok := ⟨ok.mod, ok.kind, ok.glob, ok.blt, ok.above, ok.inj, ok.has, ok.cab, ok.hd, ok.frames, ok.stk, ok.exf, ok.bs, ok.bsz, ok.noex, ok.exfs, ok.funs, ok.frf⟩
theorem Cx.Ok.unpinned (ok : (X.pinned pn).Ok) : X.Ok := ⟨ok.mod, ok.kind, ok.glob, ok.blt, ok.above, ok.inj, ok.has, ok.cab, ok.hd, ok.frames, ok.stk, ok.exf, ok.bs, ok.bsz, ok.noex, ok.exfs, ok.funs, ok.frf⟩
theorem Inv.ofPn (I : Inv (X.pinned pn) pins σ H s) : Inv X pn σ H s := ⟨I.ok.unpinned, I.os, I.bare, I.base, I.loc, I.cell, I.free, I.freeC, fun p hp => I.pin p (List.mem_append_left _ hp), I.hok, I.len⟩
theorem SP.unpinned (h : SP (X.pinned pn) pins D fl s) : SP X pn D fl s := by
  cases fl with
  | next => obtain ⟨σ', H', I, q⟩ := h; exact ⟨σ', H', I.ofPn, q⟩
  | brk => obtain ⟨σ', H', I, q⟩ := h; exact ⟨σ', H', I.ofPn, q⟩
  | cont => obtain ⟨σ', H', I, q⟩ := h; exact ⟨σ', H', I.ofPn, q⟩
  | ret u => obtain ⟨v, σ', H', I, r, q⟩ := h; exact ⟨v, σ', H', I.ofPn, r, q⟩
theorem Flies.unpinned (z : Flies (X.pinned pn) ER v s) : Flies X ER v s := by
  obtain ⟨e, C, dx, σ, H, tb, ev, I, he, fl, ht, hE⟩ := z
  exact ⟨e, C, dx, σ, H, tb, ev, I.ofPn.unpin, he, fl, fun T q => ⟨(ht T q).1, (ht T q).2.above, (ht T q).2.loc, (ht T q).2.cell, fun p hp => (ht T q).2.pn p (List.mem_append_left _ hp)⟩, hE⟩
theorem Inv.mark (I : Inv X pins σ H s) (e : Addr) : Inv (X.mark e) pins σ H s :=
  ⟨⟨I.ok.mod, I.ok.kind, I.ok.glob, I.ok.blt, I.ok.above, I.ok.inj, I.ok.has, I.ok.cab, fun z => (by cases z), I.ok.frames, I.ok.stk, I.ok.exf, I.ok.bs, I.ok.bsz, I.ok.noex, I.ok.exfs, I.ok.funs, I.ok.frf⟩, I.os, I.bare, I.base, I.loc, I.cell, I.free, I.freeC, I.pin, I.hok, I.len⟩
/-- the clauses of a try, from the first: an exception that lies behind the body -/
def PH (X : Cx) (hs : List ExceptHandler) (th : Ends → St → XK) : Prop :=
  ∀ (s : Shared) (σ : St) (H : Hp) (D : Ends) (e C : Addr) (dx : Option Addr) (T : Addr), Inv X [] σ H s → H e = some (xoH e C dx) → s.heap.FlAt e (some T) → H T = none → NewTo X T → th D σ (.ref C) dx H →
    wpAny (model X.prog X.w) X.A (handleBy (.ref e) X.env hs) (SP X [] D) X.xe s
/-- except P as n: suite -/
def tHas (K : PySem.W.Frag) (PC : Addr) (i : Nat) (ts : TS) (tr : Ends → St → XK) : Ends → St → XK := fun D σ cv dx H =>
  ∃ C HE f b, cv = .ref C ∧ PySem.W.XCls K C HE f ∧ PySem.W.mroIn K C (.ref PC) = some b ∧
    if b = true then ∀ e, H e = some (xoH e C dx) → ts { D with nx := fun σ1 H1 => D.nx (σ1.set i none) H1, bk := fun σ1 H1 => D.bk (σ1.set i none) H1, ct := fun σ1 H1 => D.ct (σ1.set i none) H1 } (σ.set i (some (.ref e))) H else tr D σ cv dx H
/-- except P: suite -/
def tHbare (K : PySem.W.Frag) (PC : Addr) (ts : TS) (tr : Ends → St → XK) : Ends → St → XK := fun D σ cv dx H =>
  ∃ C HE f b, cv = .ref C ∧ PySem.W.XCls K C HE f ∧ PySem.W.mroIn K C (.ref PC) = some b ∧ if b = true then ts D σ H else tr D σ cv dx H
/-- the statement -/
def tTryE (tb : (St → XK) → TS) (th : Ends → St → XK) : TS := fun D σ H => tb (th D) D σ H
end
end L2

/-! ### for k, v in d.items(); list(d) -/
namespace L2
open PySem PySem.Spec PyProof.Rows
/-- a dict's pairs, one after another, each a new tuple -/
def Iti (a : Addr) (o : Obj) (kvs : List (Key × V)) : It :=
  ⟨fun i H => H a = some (.frz o (.dK kvs)) ∧ i < kvs.length, fun i H x H' => ∃ p k v, kvs[i]? = some (k, v) ∧ H p = none ∧ H' = upd H p (.tup [kV k, v]) ∧ x = .ref p, fun i H => H a = some (.frz o (.dK kvs)) ∧ kvs.length ≤ i⟩
theorem entry_iti : entryFor table "dict_itemiterator.__iter__" = some Builtin.«dict_keyiterator.__iter__» := entryFor_alias (id' := "dict_keyiterator.__iter__") (by kernel_rfl) rfl (by decide +kernel) (by kernel_rfl)
theorem iter_iti {prog : Program} {w : World} {A : Around} {E : Value → Shared → Prop} {s : Shared} {it : Addr} {Q : Value → Shared → Prop} (ht : s.TypeIs (.ref it) "dict_itemiterator") (h : Q (.ref it) s) : wpAny (model prog w) A (pyIter (.ref it)) Q E s := by
  refine wpAny_pyIter_slot ht PySem.F.slot_dict_itemiterator_iter (wpAny_call_entry PySem.F.slot_dict_itemiterator_iter ht entry_iti ?_ (PySem.F.args_dict_itemiterator_iter_1 _))
  exact wpAny_pure ⟨_, rfl, "dict_itemiterator", _, ht, PySem.F.slot_dict_itemiterator_next.lookup, h⟩
theorem turn_items {P : Program} {w : World} {K : PySem.W.Frag} {elts : List Expr} {x1} {tpos : Pos} (a it : Addr) (o : Obj) (kvs : List (Key × V)) {es : Array DictEntry} {ep : Nat} (hd : o.data = .dict es ep) :
    Turn P w K (.Tuple elts x1 tpos) (Iti a o kvs) [it] it (fun i h => ∃ ok ov, IsItemIter h it a i kvs.length ep ok ov) where
  mem := by simp
  obj := fun i h st b hb => by
    have e : b = it := by simpa using hb
    subst e
    obtain ⟨ok, ov, q⟩ := st
    exact ⟨_, q, fun v z => by cases z⟩
  keep := fun i h h' st k => let ⟨ok, ov, q⟩ := st; ⟨ok, ov, k it (by simp) _ q⟩
  item := by
    intro X hP hw hK hc i pins s σ H E I hf st hg
    subst hP hw hK
    obtain ⟨hz, hi⟩ := hg
    obtain ⟨ok, ov, st⟩ := st
    obtain ⟨vs, rel, dd, hs⟩ := frz_at I.hok hz hd
    obtain ⟨k, v, hkv⟩ : ∃ k v, kvs[i]? = some (k, v) := ⟨kvs[i].1, kvs[i].2, by simp [hi]⟩
    obtain ⟨u, hu, ru⟩ := rel.get hkv
    rw [rel.length] at st
    refine wpAny_pyNext_items_item st dd hu fun key h' hk a1 a2 a3 a4 => ⟨_, rfl, ?_⟩
    refine wpAny_letOwnedTupleGo_items (s := { s with heap := h' }) a1 fun h'' b1 b2 => ?_
    have up : ∀ c q, c ≠ it → h'.get? c = some q → h''.get? c = some q := fun c q n z => b2.extBut _ _ n z
    have ne : s.heap.objs.size ≠ it := Nat.ne_of_gt (Heap.lt_size st)
    have hnew := up _ _ ne a2
    have I1 : Inv X pins σ (upd H s.heap.objs.size (.tup [kV k, v])) { s with heap := h'', toks := s.toks } := by
      refine I.turnedN (ch := [it]) (fun b q hb z => ?_) hf (Nat.le_refl _) ⟨by show 2 ≤ sizeLine; decide, [key, u], .cons (rel_key hk) (.cons ru .nil), ⟨_, hnew, rfl, _, rfl⟩⟩
      have hb : b ≠ it := by simpa using hb
      exact up _ _ hb (a4 b q hb z)
    refine ⟨.ref s.heap.objs.size, _, I1, rfl, ⟨_, k, v, hkv, I.hok.fresh (Nat.le_refl _), rfl, rfl⟩, ⟨key, u, ?_⟩, fun b hb => ?_⟩
    · rw [rel.length]; exact b1
    · have e : b = it := by simpa using hb
      rw [upd_ne (by rw [e]; exact Ne.symm ne)]
      exact (hf b hb).1
  done := by
    intro X hP hw hK hc i pins s σ H E I hf st hg
    subst hP hw hK
    obtain ⟨hz, hi⟩ := hg
    obtain ⟨ok, ov, st⟩ := st
    obtain ⟨vs, rel, dd, hs⟩ := frz_at I.hok hz hd
    rw [rel.length] at st hi
    refine wpAny_pyNext_items_end (I.ok.hd hc) st dd (List.getElem?_eq_none hi) fun h' eb => ⟨rfl, I.turnedE (t' := s.toks) (ch := [it]) (fun b q hb z => ?_) hf⟩
    exact eb b q (by simpa using hb) z
  self := fun _ _ _ _ _ st h => by
    obtain ⟨ok, ov, st⟩ := st
    exact iter_iti ⟨_, st, rfl⟩ h
section
variable {X : Cx} {tg : Expr}
def iItems (X : Cx) (td : TE) : TI := fun σ H R => td σ H fun x H1 => ∃ a kvs, x = .ref a ∧ H1 a = some (.dK kvs) ∧ ∀ o, NF X a → R (Iti a o kvs) (upd H1 a (.frz o (.dK kvs)))
theorem pi_items {elts : List Expr} {x1} {tpos : Pos} {l : Expr} {tl : TE} {apos pos : Pos} (hl : PE X l tl) (hb : attributeBase l "items" X.env (eval l X.env) = eval l X.env := by rfl) (hline : (apos.endLine == pos.line) = true := by rfl) :
    PI X (.Tuple elts x1 tpos) (.Call (.Attribute l "items" apos) [] [] pos) (iItems X tl) := by
  intro pins s σ H R I h
  refine wpAny_Call_method (T := "dict") (id := "dict.items") hb rfl hline PySem.F.plainAttrs_dict PySem.F.slot_dict_items PySem.F.type_dict_items (thn (hl pins s σ H _ I h) fun v s1 ⟨x, H1, I1, r1, q1⟩ => ?_)
  obtain ⟨a, kvs, e, hk, q⟩ := q1
  subst e
  cases r1
  obtain ⟨o, ho, I2⟩ := I1.freeze hk
  obtain ⟨z, hs, vs, rel, dd⟩ := dk_of I1.hok hk
  obtain ⟨ep, da⟩ := id dd.dictAt
  obtain ⟨o', es, ho', ex, hd, hr⟩ := id da
  rw [ho] at ho'; cases ho'
  refine ⟨dd.typeIs, dd.mapOf.noDict, method_meetsIn PySem.F.slot_dict_items PySem.F.entry_dict_items rfl (PySem.evalArgs_none ⟨rfl, dd.typeIs, PySem.F.args_dict_items_1 _, _, meets_dict_items _ a hs, ⟨vs, dd⟩, ?_⟩)⟩
  have kv : ∀ b q, s1.heap.get? b = some q → (s1.heap.push { cls := .type "dict_items", data := .fields #[.ref a] }).get? b = some q := fun b q e => Heap.get?_push_of_some _ e
  have da2 : (s1.heap.push { cls := .type "dict_items", data := .fields #[.ref a] }).DictAt (mixKind X.prog X.w) a vs ep := ⟨o, es, kv _ _ ho, ex, hd, hr⟩
  refine wpAny_pyIter_items (s := { s1 with heap := s1.heap.push { cls := .type "dict_items", data := .fields #[.ref a] } }) ⟨_, Heap.get?_push_size _ rfl, rfl, rfl⟩ da2 ?_
  have I3 := I2.kept (t' := s1.toks) kv
  refine ⟨(s1.heap.push { cls := .type "dict_items", data := .fields #[.ref a] }).objs.size, [(s1.heap.push { cls := .type "dict_items", data := .fields #[.ref a] }).objs.size], _, _, _, rfl, I3.kept (t' := s1.toks) fun b o e => Heap.get?_push_of_some _ e, turn_items a _ o kvs hd, ?_, fun b hb => ?_, q o (I1.nf hk)⟩
  · rw [rel.length]
    exact ⟨_, _, Heap.get?_push_size _ rfl⟩
  · have e : b = (s1.heap.push { cls := .type "dict_items", data := .fields #[.ref a] }).objs.size := by simpa using hb
    subst e
    exact I3.fpOk (Nat.le_refl _) (I3.hok.fresh (Nat.le_refl _))
end
section
variable {K : PySem.W.Frag} {g : TG} {tt : TT} {te : TE}
/-- any iterator of n turns; each turn adds one, which may be a new object, or nothing -/
theorem comp_itTH {J : It} {L : Addr} {Q : Hp → Prop} {σ : St} {H : Hp} (n : Nat) (H0 : Hp) (S : St → Prop) (Pv : Nat → List V → Hp → Prop) (hgo : ∀ i H', i < n → Same H0 H' → J.go i H') (hstop : ∀ H', Same H0 H' → J.stop n H') (stab : ∀ i ys H H', But L H H' → Pv i ys H → Pv i ys H')
    (hn0 : H0 L = none) (hσ : S σ) (h0 : Same H0 H) (hL : H L = some (.lst [])) (p0 : Pv 0 [] H) (hz : n ≤ sizeLine) (hl : ∀ i ys H, Pv i ys H → ys.length ≤ i)
    (turn : ∀ i σ H' ys, i < n → S σ → Same H0 H' → H' L = some (.lst ys) → Pv i ys H' → ∀ (N : St → V → Hp → Prop) (M : St → Hp → Prop), (∀ σ3 y H5, S σ3 → Same H0 H5 → H5 L = some (.lst ys) → Pv (i + 1) (ys ++ [y]) H5 → N σ3 y H5) → (∀ σ3 H4, S σ3 → Same H0 H4 → H4 L = some (.lst ys) → Pv (i + 1) ys H4 → M σ3 H4) →
      ∀ x H2, J.yld i H' x H2 → g x σ H2 fun σ3 H3 => tt σ3 H3 fun b H4 => if b = true then te σ3 H4 fun y H5 => N σ3 y H5 else M σ3 H4)
    (fin : ∀ H' ys, Same H0 H' → H' L = some (.lst ys) → Pv n ys H' → Q H') :
    ∃ W : Nat → Nat → St → Hp → Prop, (∃ m, W 0 m σ H) ∧ ∀ i m σ H, W i m σ H → (J.stop i H ∧ Q H) ∨ (J.go i H ∧ ∀ x H2, J.yld i H x H2 → g x σ H2 fun σ3 H3 => tt σ3 H3 fun b H4 => if b = true
      then te σ3 H4 fun y H5 => ∃ ys, H5 L = some (.lst ys) ∧ ys.length < sizeLine ∧ ∃ m', m' < m ∧ W (i + 1) m' σ3 (upd H5 L (.lst (ys ++ [y])))
      else ∃ m', m' < m ∧ W (i + 1) m' σ3 H4) := by
  refine ⟨fun i m σ H => m + i = n ∧ S σ ∧ Same H0 H ∧ ∃ ys, H L = some (.lst ys) ∧ Pv i ys H, ⟨n, rfl, hσ, h0, [], hL, p0⟩, ?_⟩
  rintro i m σ H ⟨hm, hs, hsame, ys, hys, hp⟩
  by_cases hi : i < n
  · refine .inr ⟨hgo i H hi hsame, fun x H2 hy => turn i σ H ys hi hs hsame hys hp _ _ (fun σ3 y H5 k1 k2 k3 k4 => ?_) (fun σ3 H4 k1 k2 k3 k4 => ?_) x H2 hy⟩
    · refine ⟨ys, k3, by have := hl i ys H hp; omega, m - 1, by omega, by omega, k1, fun b o e => ?_, ys ++ [y], upd_same, stab _ _ _ _ But.upd k4⟩
      rw [upd_ne (ne_of_none e hn0)]; exact k2 b o e
    · exact ⟨m - 1, by omega, by omega, k1, k2, ys, k3, k4⟩
  · have e : i = n := by omega
    subst e
    exact .inl ⟨hstop H hsame, fin H ys hsame hys hp⟩
theorem items_go {a : Addr} {ob : Obj} {kvs : List (Key × V)} {H0 : Hp} (ha : H0 a = some (.frz ob (.dK kvs))) : ∀ i H', i < kvs.length → Same H0 H' → (Iti a ob kvs).go i H' := fun _ _ hi e => ⟨e _ _ ha, hi⟩
theorem items_stop {a : Addr} {ob : Obj} {kvs : List (Key × V)} {H0 : Hp} (ha : H0 a = some (.frz ob (.dK kvs))) : ∀ H', Same H0 H' → (Iti a ob kvs).stop kvs.length H' := fun _ e => ⟨e _ _ ha, Nat.le_refl _⟩
end
end L2
namespace L2
open PySem PySem.Spec PyProof.Rows PySem.W
section
variable {X : Cx}
theorem vals_keys {P : Program} {w : World} : ∀ {us : List Value} {ks : List Key}, us.length = ks.length → (∀ (j : Nat) (k : Key) (u : Value), ks[j]? = some k → us[j]? = some u → (mixKind P w).is k u = true) → Vals (ks.map kV) us
  | [], [], _, _ => .nil
  | [], _ :: _, h, _ => by simp at h
  | _ :: _, [], h, _ => by simp at h
  | u :: us, k :: ks, h, q => .cons (rel_key (q 0 k u rfl rfl)) (vals_keys (by simpa using h) fun j k' u' h1 h2 => q (j + 1) k' u' (by simpa using h1) (by simpa using h2))
theorem call_list_dict (hc : X.calm = true) : CallR X (.type "list") (fun xs H Q => ∃ p kvs, xs = [.ref p] ∧ Rd H p (.dK kvs) ∧ ∀ l, H l = none → Q (.ref l) (upd H l (.lst (kvs.map fun q => kV q.1)))) := by
  intro pins s σ H xs us Q I r h
  obtain ⟨p, kvs, rfl, hk, q⟩ := h
  obtain ⟨u, rfl, ru⟩ := vals1 r
  cases ru
  obtain ⟨z, lo, vs, rel, dd⟩ := dk_rd I.hok hk
  obtain ⟨ep, da⟩ := dd.dictAt
  have hz : vs.length ≤ sizeLine := by rw [← rel.length]; exact z
  refine kdl_call (kdl_dict (knd := mixKind X.prog X.w) (kvs := vs) (ep := ep) lo) (I.ok.hd hc) da hz fun h' tk xs c kp at' its => ?_
  have hks : kvs.map (·.1) = vs.map (·.1) := rel.keys
  refine ⟨.ref s.heap.objs.size, _, I.laid (t' := tk) (o := .lst (kvs.map fun q => kV q.1)) kp (Nat.le_refl _) ⟨by rw [List.length_map]; exact z, xs.toList, c, ?_, at'⟩, rfl, q _ (I.hok.fresh (Nat.le_refl _))⟩
  have e1 : (kvs.map fun q => kV q.1) = (vs.map (·.1)).map kV := by rw [← hks, List.map_map]; rfl
  rw [e1]
  refine vals_keys (P := X.prog) (w := X.w) (by rw [Array.length_toList, its.1, List.length_map]) fun j k u h1 h2 => ?_
  obtain ⟨k', x, h3, h4⟩ := its.2 j u (by simpa using h2)
  rw [List.getElem?_map, h3] at h1
  cases h1
  exact h4
end
end L2

/-! ### a class's __init__ whose last parameter is None where it is left out -/
namespace L2
open PySem PySem.Spec PyProof.Rows
section
variable {P : Program} {w : World} {K : PySem.W.Frag} {mg : Str → Option Value} {base : Heap}
def DefN (K : PySem.W.Frag) (C : Addr) (q : Str) (st : Stmt) (ps : List Str) : Prop := ∃ f fd dV, FunD K "__init__" q st f fd dV ∧ Mk K C f ∧ Binds K fd ps [] ∧ Binds K fd ps [.none]
structure CalN (P : Program) (w : World) (K : PySem.W.Frag) (mg : Str → Option Value) (base : Heap) (CX : CXT) (k : Nat) (C : Addr) (ps : List Str) (sp : Sp) (f : Addr) (fd : FuncData) : Prop where
  ok : FnOk P w K mg base CX k f fd ps sp
  m : Mk K C f
  b0 : Binds K fd ps []
  b1 : Binds K fd ps [.none]
def CalNE (P : Program) (w : World) (K : PySem.W.Frag) (mg : Str → Option Value) (base : Heap) (CX : CXT) (k : Nat) (C : Addr) (ps : List Str) (sp : Sp) : Prop := ∃ f fd, CalN P w K mg base CX k C ps sp f fd
theorem DefN.cal {C : Addr} {q : Str} {st : Stmt} {N ps : List Str} {k : Nat} {sp : Sp} (D : DefN K C q st ps) (S : FnScope N ps (defScope st)) (len : ∀ vs H Q E, sp vs H Q E → vs.length = ps.length)
    (hbody : ∀ (f : Addr) (cdv : Value) (A : Around) (outer : List Env) (s : Shared) (H : Hp) (vs : List V) (Q : VK) (E : XK), Room k (A.deeper (envOfC q (defScope st) s.heap.objs.size f cdv)) → sp vs H Q E →
      ∃ t, PSs (cxOf CX0 P w K mg base N q (defScope st) f cdv A outer s H E).nox (defBody st) t ∧ t { nx := fun _ H' => Q .non H', rt := Q } (start N vs) H) : CalNE P w K mg base CX0 (k + 1) C ps sp := by
  obtain ⟨f, fd, dV, F, g, b0, b1⟩ := D
  exact ⟨f, fd, F.ok S len (hbody f), g, b0, b1⟩
theorem vn_1 : Vals [V.non] [Value.none] := .cons rfl .nil
end
end L2

set_option maxHeartbeats 4000000
namespace K50
open PySem L2
/-! ### the text by places -/
def top (i : Nat) : Stmt := PySem.Challenge.pw_balancehall_k50_amounts.main.body.getD i (.Pass ⟨0, 0, 0, 0⟩)
abbrev sGreat : Stmt := top 12
abbrev sSmall : Stmt := top 13
abbrev sFigure : Stmt := top 14
abbrev sPCounts : Stmt := top 16
abbrev sCW : Stmt := top 17
abbrev sInit : Stmt := inClass (top 19) 0
abbrev sCounts : Stmt := inClass (top 19) 2
abbrev sGInit : Stmt := inClass (top 20) 0
abbrev sGCounts : Stmt := inClass (top 20) 2
abbrev sPInit : Stmt := inClass (top 21) 0
abbrev sPieceCounts : Stmt := inClass (top 21) 2
abbrev sTooLong : Stmt := top 28
abbrev sFInit : Stmt := inClass (top 29) 0
abbrev sFCounts : Stmt := inClass (top 29) 2
abbrev sFWeight : Stmt := inClass (top 29) 3
abbrev sRInit : Stmt := inClass (top 30) 0
abbrev sSign : Stmt := inClass (top 30) 1
abbrev sTake : Stmt := inClass (top 30) 2
abbrev sTakeAll : Stmt := inClass (top 30) 3
abbrev sTakeEnd : Stmt := inClass (top 30) 4
abbrev sRWhole : Stmt := inClass (top 30) 5
abbrev sRElectron : Stmt := inClass (top 30) 6
abbrev sRParts : Stmt := inClass (top 30) 7
abbrev sRPart : Stmt := inClass (top 30) 8
abbrev sRGroup : Stmt := inClass (top 30) 9
abbrev sRAtom : Stmt := inClass (top 30) 10
abbrev sRCount : Stmt := inClass (top 30) 11
abbrev sRNumber : Stmt := inClass (top 30) 12
abbrev sRCharge : Stmt := inClass (top 30) 13
abbrev sRFormula : Stmt := top 31
abbrev sSInit : Stmt := inClass (top 33) 0
abbrev sHave : Stmt := inClass (top 33) 1
abbrev sPut : Stmt := inClass (top 33) 2
abbrev sTotal : Stmt := inClass (top 33) 6
abbrev sStocks : Stmt := inClass (top 33) 7
abbrev sWent : Stmt := inClass (top 33) 8
abbrev sCellAt : Stmt := top 35
abbrev sMixed : Stmt := top 36
abbrev sWhole : Stmt := top 37
abbrev sKind : Stmt := top 38
abbrev sFigures : Stmt := top 40
abbrev sMatter : Stmt := top 41
abbrev sWorld : Stmt := top 42
abbrev sTexts : Stmt := top 46
abbrev sAmountsL : Stmt := top 47
abbrev sMany : Stmt := top 48
abbrev sTotalL : Stmt := top 49
abbrev sTold : Stmt := top 50
abbrev sLaw : Stmt := top 51
/-! ### data -/
theorem nkc : ¬ (("kind" : Str) = "count") := by decide +kernel
def flds (k : Str) (n : Int) : List (Str × V) := putF "count" (.int n) (putF "kind" (.str k) [])
theorem flds_kind (k : Str) (n : Int) : (flds k n).lookup ("kind" : Str) = some (.str k) := by
  unfold flds
  rw [lookup_putF, if_neg nkc, lookup_putF, if_pos rfl]
theorem flds_count (k : Str) (n : Int) : (flds k n).lookup ("count" : Str) = some (.int n) := by
  unfold flds
  rw [lookup_putF, if_pos rfl]
theorem flds_no (k : Str) (n : Int) {m : Str} (h1 : ¬ m = "count") (h2 : ¬ m = "kind") : (flds k n).lookup m = none := by
  unfold flds
  rw [lookup_putF, if_neg h1, lookup_putF, if_neg h2]
  all_goals rfl
def AtomAt (C : Addr) (H : Hp) (p : Addr) (k : Str) (n : Int) : Prop := ∃ dx, H p = some (.ins C dx (flds k n))
theorem AtomAt.same {C : Addr} {H H' : Hp} {p : Addr} {k : Str} {n : Int} (a : AtomAt C H p k n) (e : Same H H') : AtomAt C H' p k n := let ⟨dx, h⟩ := a; ⟨dx, e _ _ h⟩
/-! ### dicts of ints: what stands at a kind; one more -/
def IntD (kvs : List (Key × V)) : Prop := ∀ p ∈ kvs, ∃ i, p.2 = V.int i
def zAt (kvs : List (Key × V)) (k : Key) : Int := match valV kvs k with
  | some (.int i) => i
  | _ => 0
theorem zAt_none {kvs : List (Key × V)} {k : Key} (h : valV kvs k = none) : zAt kvs k = 0 := by unfold zAt; rw [h]
theorem zAt_some {kvs : List (Key × V)} {k : Key} {i : Int} (h : valV kvs k = some (.int i)) : zAt kvs k = i := by unfold zAt; rw [h]
def addC (kvs : List (Key × V)) (k : Key) (n : Int) : List (Key × V) := putK kvs k (.int (zAt kvs k + n))
/-- the counts of atoms, each n times t -/
def cntF (t : Int) (acc : List (Key × V)) (as : List (Str × Int)) : List (Key × V) := as.foldl (fun acc p => addC acc (Sum.inr p.1) (p.2 * t)) acc
/-- the pairs of one dict, times c, added to another -/
def mulF (c : Int) (acc : List (Key × V)) (l : List (Key × V)) (all : List (Key × V)) : List (Key × V) := l.foldl (fun acc p => addC acc p.1 (zAt all p.1 * c)) acc
def mulV (c : Int) : V → V
  | .int i => .int (i * c)
  | v => v
def scale (c : Int) (kvs : List (Key × V)) : List (Key × V) := kvs.map fun p => (p.1, mulV c p.2)
def Bnd (B : Int) (kvs : List (Key × V)) : Prop := ∀ p ∈ kvs, ∃ i, p.2 = V.int i ∧ 0 ≤ i ∧ i ≤ B
theorem Bnd.int {B : Int} {kvs : List (Key × V)} (h : Bnd B kvs) : IntD kvs := fun p hp => let ⟨i, e, _⟩ := h p hp; ⟨i, e⟩
theorem valV_mem' {kvs : List (Key × V)} {k : Key} {v : V} (e : valV kvs k = some v) : (k, v) ∈ kvs := by
  unfold valV at e
  cases f : kvs.find? fun kv => decide (kv.1 = k) with
  | none => rw [f] at e; cases e
  | some p =>
    rw [f] at e
    cases e
    have h1 := List.mem_of_find?_eq_some f
    have h2 : p.1 = k := by simpa using List.find?_some f
    rw [← h2]; exact h1
theorem IntD.look {kvs : List (Key × V)} (h : IntD kvs) {k : Key} {v : V} (e : valV kvs k = some v) : v = .int (zAt kvs k) := by
  obtain ⟨i, hi⟩ := h _ (valV_mem' e)
  have hi : v = .int i := hi
  subst hi
  rw [zAt_some e]
theorem IntD.at {kvs : List (Key × V)} (h : IntD kvs) (k : Key) : (valV kvs k).getD (.int 0) = .int (zAt kvs k) := by
  cases e : valV kvs k with
  | none => rw [zAt_none e]; rfl
  | some v => rw [h.look e]; rfl
theorem Bnd.z_at {B : Int} {kvs : List (Key × V)} (h : Bnd B kvs) (hB : 0 ≤ B) (k : Key) : 0 ≤ zAt kvs k ∧ zAt kvs k ≤ B := by
  cases e : valV kvs k with
  | none => rw [zAt_none e]; exact ⟨Int.le_refl _, hB⟩
  | some v =>
    obtain ⟨i, hi, h0, h1⟩ := h _ (valV_mem' e)
    have hi : v = .int i := hi
    subst hi
    rw [zAt_some e]; exact ⟨h0, h1⟩
theorem Bnd.put {B B' : Int} {kvs : List (Key × V)} (h : Bnd B kvs) (hBB : B ≤ B') (k : Key) {i : Int} (h0 : 0 ≤ i) (h1 : i ≤ B') : Bnd B' (putK kvs k (.int i)) := by
  intro p hp
  unfold putK at hp
  split at hp
  · obtain ⟨q, hq, e⟩ := List.mem_map.mp hp
    subst e
    split
    · exact ⟨i, rfl, h0, h1⟩
    · obtain ⟨j, e, h2, h3⟩ := h q hq
      exact ⟨j, e, h2, Int.le_trans h3 hBB⟩
  · rcases List.mem_append.mp hp with hq | hq
    · obtain ⟨j, e, h2, h3⟩ := h p hq
      exact ⟨j, e, h2, Int.le_trans h3 hBB⟩
    · have e : p = (k, V.int i) := by simpa using hq
      exact ⟨i, by rw [e], h0, h1⟩
theorem Bnd.add {B b : Int} {kvs : List (Key × V)} (h : Bnd B kvs) (hB : 0 ≤ B) (k : Key) {n : Int} (h0 : 0 ≤ n) (h1 : n ≤ b) : Bnd (B + b) (addC kvs k n) := by
  obtain ⟨z0, z1⟩ := h.z_at hB k
  exact h.put (by omega) k (by omega) (by omega)
/-! ### each key once -/
theorem nd_put {kvs : List (Key × V)} {k : Key} {v : V} (h : (kvs.map (·.1)).Nodup) : ((putK kvs k v).map (·.1)).Nodup := by
  cases e : valV kvs k with
  | none => exact nd_putK v h e
  | some x =>
    have ha : (kvs.any fun kv => decide (kv.1 = k)) = true := by rw [valV_any, e]; rfl
    unfold putK
    rw [if_pos ha, List.map_map]
    have : ((fun (x : Key × V) => x.1) ∘ fun kv => if kv.1 = k then (kv.1, v) else kv) = fun (x : Key × V) => x.1 := by
      funext y
      simp only [Function.comp]
      split <;> rfl
    rw [this]
    exact h
theorem scale_val (c : Int) (k : Key) : ∀ kvs : List (Key × V), valV (scale c kvs) k = (valV kvs k).map (mulV c)
  | [] => rfl
  | p :: r => by
    have ih := scale_val c k r
    show valV ((p.1, mulV c p.2) :: scale c r) k = _
    by_cases e : p.1 = k
    · refine (valV_pos (p := (p.1, mulV c p.2)) (r := scale c r) e).trans ?_
      rw [valV_pos e]
      rfl
    · refine (valV_neg (p := (p.1, mulV c p.2)) (r := scale c r) e).trans ?_
      rw [valV_neg e]
      exact ih
theorem scale_put (c : Int) (kvs : List (Key × V)) (k : Key) (i : Int) : scale c (putK kvs k (.int i)) = putK (scale c kvs) k (.int (i * c)) := by
  have ha : ((scale c kvs).any fun kv => decide (kv.1 = k)) = kvs.any fun kv => decide (kv.1 = k) := by
    unfold scale
    rw [List.any_map]; rfl
  unfold putK
  rw [ha]
  split
  · unfold scale
    rw [List.map_map, List.map_map]
    apply List.map_congr_left
    intro p _
    simp only [Function.comp]
    split <;> rfl
  · unfold scale
    rw [List.map_append]; rfl
theorem scale_zAt {kvs : List (Key × V)} (h : IntD kvs) (c : Int) (k : Key) : zAt (scale c kvs) k = zAt kvs k * c := by
  cases e : valV kvs k with
  | none => rw [zAt_none e, zAt_none (by rw [scale_val, e]; rfl), Int.zero_mul]
  | some v =>
    have := h.look e
    subst this
    exact zAt_some (by rw [scale_val, e]; rfl)
theorem IntD.put {kvs : List (Key × V)} (h : IntD kvs) (k : Key) (i : Int) : IntD (putK kvs k (.int i)) := by
  intro p hp
  unfold putK at hp
  split at hp
  · obtain ⟨q, hq, e⟩ := List.mem_map.mp hp
    subst e
    split
    · exact ⟨i, rfl⟩
    · exact h q hq
  · rcases List.mem_append.mp hp with hq | hq
    · exact h p hq
    · have e : p = (k, V.int i) := by simpa using hq
      exact ⟨i, by rw [e]⟩
theorem scale_add {kvs : List (Key × V)} (h : IntD kvs) (c : Int) (k : Key) (n : Int) : scale c (addC kvs k n) = addC (scale c kvs) k (n * c) := by
  unfold addC
  rw [scale_put, scale_zAt h, Int.add_mul]
theorem IntD.add {kvs : List (Key × V)} (h : IntD kvs) (k : Key) (n : Int) : IntD (addC kvs k n) := h.put k _
theorem scale_cnt (t c : Int) : ∀ (as : List (Str × Int)) (acc : List (Key × V)), IntD acc → scale c (cntF t acc as) = cntF (t * c) (scale c acc) as
  | [], _, _ => rfl
  | p :: r, acc, h => by
    show scale c (cntF t (addC acc (Sum.inr p.1) (p.2 * t)) r) = cntF (t * c) (addC (scale c acc) (Sum.inr p.1) (p.2 * (t * c))) r
    rw [scale_cnt t c r _ (h.add _ _), scale_add h, Int.mul_assoc]
theorem cnt_int (t : Int) : ∀ (as : List (Str × Int)) (acc : List (Key × V)), IntD acc → IntD (cntF t acc as)
  | [], _, h => h
  | _ :: r, _, h => cnt_int t r _ (h.add _ _)
theorem cnt_nd (t : Int) : ∀ (as : List (Str × Int)) (acc : List (Key × V)), (acc.map (·.1)).Nodup → ((cntF t acc as).map (·.1)).Nodup
  | [], _, h => h
  | _ :: r, _, h => cnt_nd t r _ (nd_put h)
theorem cnt_len (t : Int) : ∀ (as : List (Str × Int)) (acc : List (Key × V)), (cntF t acc as).length ≤ acc.length + as.length
  | [], _ => Nat.le_refl _
  | p :: r, acc => by
    have := cnt_len t r (addC acc (Sum.inr p.1) (p.2 * t))
    have h2 := length_putK acc (Sum.inr p.1 : Key) (.int (zAt acc (Sum.inr p.1) + p.2 * t))
    have e : (addC acc (Sum.inr p.1) (p.2 * t)).length ≤ acc.length + 1 := h2
    show (cntF t (addC acc (Sum.inr p.1) (p.2 * t)) r).length ≤ _
    rw [List.length_cons]
    omega
theorem cnt_bnd {t b : Int} (hb : 0 ≤ b) : ∀ (as : List (Str × Int)) (acc : List (Key × V)) (B : Int), 0 ≤ B → Bnd B acc → (∀ p ∈ as, 0 ≤ p.2 * t ∧ p.2 * t ≤ b) → Bnd (B + as.length * b) (cntF t acc as)
  | [], acc, B, _, h, _ => by
    have e : B + (([] : List (Str × Int)).length : Int) * b = B := by simp
    rw [e]; exact h
  | p :: r, acc, B, hB, h, hp => by
    obtain ⟨p0, p1⟩ := hp p (List.mem_cons_self ..)
    have := cnt_bnd hb r _ (B + b) (by omega) (h.add hB (Sum.inr p.1) p0 p1) fun q hq => hp q (List.mem_cons_of_mem _ hq)
    have e : B + b + (r.length : Int) * b = B + ((p :: r).length : Int) * b := by
      rw [List.length_cons]
      push_cast
      rw [Int.add_mul, Int.one_mul]
      omega
    rw [← e]
    exact this
/-- the figures of a count -/
def figs (n : Int) : Str := if n = 1 then "" else (toString n : Str)
theorem figs_short : ∀ n : Nat, n < 1000 → (figs (n : Int)).length ≤ 3 := by decide +kernel
theorem figs_len {n : Int} (h : 1 ≤ n) (h' : n ≤ 999) : (figs n).length ≤ 3 := by
  have := figs_short n.toNat (by omega)
  rwa [Int.toNat_of_nonneg (by omega)] at this
/-! ### atoms, groups, pieces -/
abbrev At := Str × Int
def okA (a : At) : Prop := a.1.length ≤ 3 ∧ 1 ≤ a.2 ∧ a.2 ≤ 999
def atx (a : At) : Str := a.1 ++ figs a.2
def jn (ys : List Str) : Str := Str.join ⟨#[]⟩ ys
theorem str_assoc (x y z : Str) : x ++ y ++ z = x ++ (y ++ z) := by
  show (⟨(x.cps ++ y.cps) ++ z.cps⟩ : Str) = ⟨x.cps ++ (y.cps ++ z.cps)⟩
  rw [Array.append_assoc]
theorem npc : ¬ (("parts" : Str) = "count") := by decide +kernel
def gflds (l : Addr) (n : Int) : List (Str × V) := putF "count" (.int n) (putF "parts" (.ref l) [])
theorem gflds_parts (l : Addr) (n : Int) : (gflds l n).lookup ("parts" : Str) = some (.ref l) := by
  unfold gflds
  rw [lookup_putF, if_neg npc, lookup_putF, if_pos rfl]
theorem gflds_count (l : Addr) (n : Int) : (gflds l n).lookup ("count" : Str) = some (.int n) := by
  unfold gflds
  rw [lookup_putF, if_pos rfl]
theorem gflds_no (l : Addr) (n : Int) {m : Str} (h1 : ¬ m = "count") (h2 : ¬ m = "parts") : (gflds l n).lookup m = none := by
  unfold gflds
  rw [lookup_putF, if_neg h1, lookup_putF, if_neg h2]
  all_goals rfl
def AtomsAt (C : Addr) (H : Hp) (ps : List Addr) (as : List At) : Prop := Paired (fun p (a : At) => AtomAt C H p a.1 a.2) ps as
theorem AtomsAt.same {C : Addr} {H H' : Hp} : ∀ {ps : List Addr} {as : List At}, AtomsAt C H ps as → Same H H' → AtomsAt C H' ps as
  | _, _, .nil, _ => .nil
  | _, _, .cons h t, e => .cons (h.same e) (AtomsAt.same t e)
def GroupAt (C G : Addr) (H : Hp) (g : Addr) (as : List At) (c : Int) : Prop := ∃ dx l ps, H g = some (.ins G dx (gflds l c)) ∧ H l = some (.lst (ps.map V.ref)) ∧ AtomsAt C H ps as
theorem GroupAt.same {C G : Addr} {H H' : Hp} {g : Addr} {as : List At} {c : Int} (h : GroupAt C G H g as c) (e : Same H H') : GroupAt C G H' g as c :=
  let ⟨dx, l, ps, h1, h2, h3⟩ := h; ⟨dx, l, ps, e _ _ h1, e _ _ h2, h3.same e⟩
def spCellAt (K : PySem.W.Frag) : Sp := fun vs H Q _ => ∃ (a : Addr) (ns : List Int) (k : Nat), vs = [.ref a, .int k] ∧ SqL K H a (ns.map V.int) ∧ ns.length ≤ 63 ∧ ∀ n, Q (.int n) H
def primes : List Int := [999979, 999983, 1000003, 1000033, 1000037, 1000081, 1000099]
def spMixed : Sp := fun vs H Q _ => ∃ (c p : Int) (j : Nat), vs = [.int c, .int p] ∧ j < 7 ∧ primes[j]? = some p ∧ ∀ n H', Same H H' → Q (.int n) H'
def spWhole : Sp := fun vs H Q _ => ∃ i : Int, vs = [.int i] ∧ Q (.bl true) H
def spKind : Sp := fun vs H Q _ => ∃ n : Int, vs = [.int n] ∧ ∀ (k : Str) H', k.length ≤ 3 → Same H H' → Q (.str k) H'
def spFigs : Sp := fun vs H Q _ => ∃ n : Int, vs = [.int n] ∧ 1 ≤ n ∧ n ≤ 999 ∧ Q (.str (figs n)) H
def spInit (C : Addr) : Sp := fun vs H Q _ => ∃ (p dx : Addr) (k : Str) (n : Int), vs = [.ref p, .str k, .int n] ∧ H p = some (.ins C dx []) ∧ ∀ H', H' p = some (.ins C dx (flds k n)) → (∀ b o, H b = some o → b ≠ p → H' b = some o) → Q .non H'
def spShown (C : Addr) : Sp := fun vs H Q _ => ∃ (p : Addr) (k : Str) (n : Int), vs = [.ref p] ∧ AtomAt C H p k n ∧ k.length ≤ 3 ∧ 1 ≤ n ∧ n ≤ 999 ∧ Q (.str (k ++ figs n)) H
def spCounts (C : Addr) : Sp := fun vs H Q _ => ∃ (p : Addr) (k : Str) (n : Int), vs = [.ref p] ∧ AtomAt C H p k n ∧ ∀ d, H d = none → Q (.ref d) (upd H d (.dK [(Sum.inr k, .int n)]))
def spPShown0 (C : Addr) : Sp := fun vs H Q _ => ∃ (l : Addr) (ps : List Addr) (as : List At), vs = [.ref l] ∧ H l = some (.lst (ps.map V.ref)) ∧ AtomsAt C H ps as ∧ (∀ a ∈ as, okA a) ∧ as.length ≤ 100 ∧ ∀ H', Same H H' → Q (.str (jn (as.map atx))) H'
def okG (as : List At) (c : Int) : Prop := (∀ a ∈ as, okA a) ∧ as.length ≤ 100 ∧ 1 ≤ c ∧ c ≤ 999
def spPCounts0 (C : Addr) : Sp := fun vs H Q _ => ∃ (l : Addr) (ps : List Addr) (as : List At) (t : Int), vs = [.ref l, .int t] ∧ H l = some (.lst (ps.map V.ref)) ∧ AtomsAt C H ps as ∧ as.length ≤ 100 ∧ 1 ≤ t ∧ t ≤ 999 ∧ ∀ d H', H d = none → H' d = some (.dK (cntF t [] as)) → Same H H' → Q (.ref d) H'
def spGCounts (C G : Addr) : Sp := fun vs H Q _ => ∃ (g : Addr) (as : List At) (c : Int), vs = [.ref g] ∧ GroupAt C G H g as c ∧ okG as c ∧ ∀ d H', H d = none → H' d = some (.dK (cntF c [] as)) → Same H H' → Q (.ref d) H'
/-- what is asked of the top for atoms, by every law over formulas -/
structure TxtA (K : PySem.W.Frag) (mg : Str → Option Value) (C : Addr) : Prop where
  c_Atom : Cls K C
  na_kind : NoAttr K C "kind"
  na_count : NoAttr K C "count"
  g_Atom : mg "Atom" = some (.ref C)
  n_len : mg "len" = none
  n_str : mg "str" = none
  n_int : mg "int" = none
  n_bool : mg "bool" = none
  n_range : mg "range" = none
  n_isinstance : mg "isinstance" = none
  k1 : PySem.W.kitOne K (.type "int") (.type "int") = some true
  k2 : PySem.W.kitOne K (.type "int") (.type "bool") = some false
  k3 : PySem.W.kitOne K (.type "dict") (.type "dict") = some true
  k4 : PySem.W.kitOne K (.type "str") (.type "str") = some true
  k6 : PySem.W.kitOne K (.type "list") (.type "list") = some true
/-! ### texts by places -/
theorem str_ext {x y : Str} (h : x.cps.toList = y.cps.toList) : x = y := by
  cases x; cases y
  congr 1
  exact Array.toList_inj.mp h
theorem ix_clip (a b n : Nat) : Builtin.Str.strSliceIndices (some (a : Int)) (some (b : Int)) 1 n = Builtin.Str.strSliceIndices (some (a : Int)) (some ((min b n : Nat) : Int)) 1 n := by
  have h2 : ¬ ((b : Int) < 0) := by omega
  have h3 : ¬ (((min b n : Nat) : Int) < 0) := by omega
  have e2 : max (0 : Int) (min (b : Int) (n : Int)) = max (0 : Int) (min ((min b n : Nat) : Int) (n : Int)) := by omega
  simp only [Builtin.Str.strSliceIndices, h2, h3, if_false, e2, show ((1 : Int) > 0) = True from by simp, if_true]
theorem slice_nat (x : Str) {a b : Nat} (hab : a ≤ b) (ha : a ≤ x.length) : (Txt.slice x (some (a : Int)) (some (b : Int))).cps.toList = (x.cps.toList.drop a).take (b - a) := by
  have hm : a ≤ min b x.length := by omega
  have hb : min b x.length ≤ x.length := by omega
  have h1 := StrLaws.sliced_plain x hm hb
  have h2 := StrLaws.strSliceIndices_plain hm hb
  have hl : x.cps.toList.length = x.length := by simp [Str.length]
  unfold Txt.slice
  rw [ix_clip]
  split
  · rename_i h
    have h : (Builtin.Str.strSliceIndices (some (a : Int)) (some ((min b x.length : Nat) : Int)) 1 x.length).length = x.length := by simpa using h
    rw [h2, List.length_map, List.length_range] at h
    by_cases hz : x.length = 0
    · have : x.cps.toList = [] := List.length_eq_zero_iff.mp (by omega)
      rw [this]; simp
    · have e : a = 0 := by omega
      subst e
      rw [List.drop_zero, List.take_of_length_le (by omega)]
  · show (List.filterMap _ _).toArray.toList = _
    rw [h1, List.take_eq_take_iff, List.length_drop, hl]
    omega
/-- the sign at a place, nothing at the end -/
def sgAt (x : Str) (p : Nat) : Str := ⟨((x.cps.toList.drop p).take 1).toArray⟩
theorem slice_one (x : Str) {p : Nat} (hp : p ≤ x.length) : Txt.slice x (some (p : Int)) (some ((p : Int) + 1)) = sgAt x p := by
  apply str_ext
  have := slice_nat x (a := p) (b := p + 1) (by omega) hp
  rw [Nat.add_sub_cancel_left] at this
  exact this
/-- from place p on the text goes on with t and then with post -/
def Here (x : Str) (p : Nat) (t post : List Nat) : Prop := p ≤ x.length ∧ x.cps.toList.drop p = t ++ post
theorem Here.on {x : Str} {p : Nat} {t u post : List Nat} (h : Here x p (t ++ u) post) : Here x (p + t.length) u post := by
  obtain ⟨h1, h2⟩ := h
  have hl : x.cps.toList.length = x.length := by simp [Str.length]
  have e := congrArg List.length h2
  rw [List.length_drop, List.length_append, List.length_append, hl] at e
  refine ⟨by omega, ?_⟩
  rw [← List.drop_drop, h2, List.append_assoc, List.drop_left]
theorem Here.sg {x : Str} {p : Nat} {c : Nat} {t post : List Nat} (h : Here x p (c :: t) post) : sgAt x p = ⟨#[c]⟩ := by
  unfold sgAt
  rw [h.2]
  rfl
theorem Here.sg0 {x : Str} {p : Nat} {post : List Nat} (h : Here x p [] post) : sgAt x p = ⟨(post.take 1).toArray⟩ := by
  unfold sgAt
  rw [h.2]
  rfl
theorem Here.cut {x : Str} {p : Nat} {t post : List Nat} (h : Here x p t post) : Txt.slice x (some (p : Int)) (some ((p + t.length : Nat) : Int)) = ⟨t.toArray⟩ := by
  apply str_ext
  rw [slice_nat x (by omega) h.1, h.2, Nat.add_sub_cancel_left, List.take_left]
theorem Here.le {x : Str} {p : Nat} {t post : List Nat} (h : Here x p t post) : p + t.length ≤ x.length := by
  have hl : x.cps.toList.length = x.length := by simp [Str.length]
  have e := congrArg List.length h.2
  rw [List.length_drop, List.length_append, hl] at e
  have := h.1
  omega
/-- a sign within lo to hi -/
def inR (lo hi : Nat) (s : Str) : Bool := match s.cps.toList with
  | [c] => decide (lo ≤ c) && decide (c ≤ hi)
  | _ => false
theorem cmp_lo (lo : Nat) (s : Str) (h : s.cps.toList.length ≤ 1) : (!decide (s.cps.toList < [lo])) = (match s.cps.toList with | [c] => decide (lo ≤ c) | _ => false) := by
  match hh : s.cps.toList, h with
  | [], _ => simp
  | [c], _ =>
    have : ([c] < [lo]) ↔ c < lo := by simp [List.cons_lt_cons_iff]
    by_cases hc : c < lo
    · rw [decide_eq_true (this.mpr hc)]; simp; omega
    · rw [decide_eq_false (fun z => hc (this.mp z))]; simp; omega
  | _ :: _ :: _, h => simp at h
theorem cmp_hi (hi : Nat) (s : Str) (h : s.cps.toList.length ≤ 1) : (!decide ([hi] < s.cps.toList)) = (match s.cps.toList with | [c] => decide (c ≤ hi) | _ => true) := by
  match hh : s.cps.toList, h with
  | [], _ => simp
  | [c], _ =>
    have : ([hi] < [c]) ↔ hi < c := by simp [List.cons_lt_cons_iff]
    by_cases hc : hi < c
    · rw [decide_eq_true (this.mpr hc)]; simp; omega
    · rw [decide_eq_false (fun z => hc (this.mp z))]; simp; omega
  | _ :: _ :: _, h => simp at h
theorem sgAt_len (x : Str) (p : Nat) : (sgAt x p).cps.toList.length ≤ 1 := by
  unfold sgAt
  simp
  omega
/-- what comes first is none of these signs -/
def Not (f : Nat → Bool) (l : List Nat) : Prop := ∀ c, l.head? = some c → f c = false
/-! ### figures of a count -/
def isF (c : Nat) : Bool := decide (48 ≤ c) && decide (c ≤ 57)
def isS (c : Nat) : Bool := decide (97 ≤ c) && decide (c ≤ 122)
def isG (c : Nat) : Bool := decide (65 ≤ c) && decide (c ≤ 90)
def figL (n : Int) : List Nat := (figs n).cps.toList
theorem figL_1 : figL 1 = [] := by decide +kernel
theorem figL_dig {n : Nat} (h : n ≠ 1) : figL (n : Int) = (Nat.toDigits 10 n).map Char.toNat := by
  unfold figL figs
  rw [if_neg (by omega)]
  exact PySem.W.KIN.signs_num n
theorem fig_all (n : Nat) : (figL (n : Int)).all isF = true := by
  by_cases h : n = 1
  · subst h; rw [show ((1 : Nat) : Int) = 1 from rfl, figL_1]; rfl
  · rw [figL_dig h, List.all_eq_true]
    intro c hc
    obtain ⟨ch, hch, e⟩ := List.mem_map.mp hc
    have r := PyProof.Rows.digit_range (Nat.isDigit_of_mem_toDigits (by decide) (by decide) hch)
    rw [← e]
    simp only [isF, Bool.and_eq_true, decide_eq_true_eq]
    exact r
theorem dig_ne (n : Nat) : Nat.toDigits 10 n ≠ [] := by
  intro e
  have h := PySem.toDigits_len_ge 10 n
  rw [e] at h
  exact absurd h (by decide)
theorem dig_head : ∀ n : Nat, n ≠ 0 → (Nat.toDigits 10 n).head? ≠ some '0' := by
  intro n
  induction n using Nat.strongRecOn with
  | _ m ih =>
    intro h0
    by_cases h : m < 10
    · rw [Nat.toDigits_of_lt_base h]
      have : ∀ m : Nat, m < 10 → m ≠ 0 → [Nat.digitChar m].head? ≠ some '0' := by decide
      exact this m h h0
    · have hm : m % 10 < 10 := Nat.mod_lt m (by decide)
      have t : Nat.toDigits 10 (m / 10) ++ Nat.toDigits 10 (m % 10) = Nat.toDigits 10 (10 * (m / 10) + m % 10) := Nat.toDigits_append_toDigits (by decide) (by omega) hm
      rw [Nat.div_add_mod] at t
      have := ih (m / 10) (by omega) (by omega)
      rw [← t]
      cases hh : Nat.toDigits 10 (m / 10) with
      | nil => exact absurd hh (dig_ne _)
      | cons c r =>
        rw [hh] at this
        exact this
theorem fig_head (n : Nat) (h0 : n ≠ 0) : (figL (n : Int)).head? ≠ some 48 := by
  by_cases h : n = 1
  · subst h; rw [show ((1 : Nat) : Int) = 1 from rfl, figL_1]; simp
  · rw [figL_dig h, List.head?_map]
    intro z
    cases e : (Nat.toDigits 10 n).head? with
    | none => rw [e] at z; cases z
    | some c =>
      rw [e] at z
      have z : c.toNat = 48 := by simpa using z
      have : c = '0' := by
        apply Char.ext
        apply UInt32.toNat_inj.mp
        exact z
      exact dig_head n h0 (by rw [e, this])
theorem fig_one (n : Nat) : figL (n : Int) ≠ [49] := by
  by_cases h : n = 1
  · subst h; rw [show ((1 : Nat) : Int) = 1 from rfl, figL_1]; simp
  · rw [figL_dig h]
    intro z
    have := PySem.W.KIN.val_back n
    rw [z] at this
    exact h this.symm
theorem fig_nil (n : Nat) (h : figL (n : Int) = []) : n = 1 := by
  by_cases e : n = 1
  · exact e
  · rw [figL_dig e] at h
    exact absurd (List.map_eq_nil_iff.mp h) (dig_ne n)
theorem figs_lenG {n : Nat} {k : Nat} (hk : 0 < k) (h : n < 10 ^ k) : (figs (n : Int)).length ≤ k := by
  unfold figs
  split
  · exact Nat.zero_le _
  · rw [PySem.ofString_length]
    show (Nat.repr n).length ≤ k
    rw [Nat.length_repr_le_iff hk]
    exact h
theorem fig_int (n : Nat) (h : n < 10 ^ 12) (h1 : n ≠ 1) : PySem.intText? (figs (n : Int)) = some (n : Int) := by
  have hd : PySem.NumText.AllDigits (figs (n : Int)).cps.toList := by
    intro c hc
    have := List.all_eq_true.mp (fig_all n) c hc
    simpa only [isF, Bool.and_eq_true, decide_eq_true_eq] using this
  have hne : (figs (n : Int)).cps.toList ≠ [] := fun z => h1 (fig_nil n z)
  have e := PySem.intText_digits hd hne (Nat.le_trans (figs_lenG (by decide) h) (by decide))
  rw [show (figs (n : Int)).cps.toList = _ from figL_dig h1, PySem.W.KIN.val_back] at e
  exact e
theorem inR_one (lo hi c : Nat) : inR lo hi ⟨#[c]⟩ = (decide (lo ≤ c) && decide (c ≤ hi)) := rfl
theorem inR_not {lo hi : Nat} {post : List Nat} (h : Not (fun c => decide (lo ≤ c) && decide (c ≤ hi)) post) : inR lo hi ⟨(post.take 1).toArray⟩ = false := by
  cases post with
  | nil => rfl
  | cons c r => exact h c rfl
/-! ### a dict of ints is its keys in their order and what stands at them; one dict added to another -/
instance memKey (k : Key) (K : List Key) : Decidable (k ∈ K) := decidable_of_iff ((K.any fun x => decide (x = k)) = true) (by simp)
def addAll (acc : List (Key × V)) (l : List (Key × Int)) : List (Key × V) := l.foldl (fun acc p => addC acc p.1 p.2) acc
def insK (K : List Key) (k : Key) : List Key := if k ∈ K then K else K ++ [k]
def insL (K L : List Key) : List Key := L.foldl insK K
def sumK (l : List (Key × Int)) (j : Key) : Int := (l.map fun p => if p.1 = j then p.2 else 0).sum
theorem zAt_put (D : List (Key × V)) (k j : Key) (n : Int) : zAt (putK D k (.int n)) j = if j = k then n else zAt D j := by
  unfold zAt
  rw [valV_put]
  by_cases h : j = k
  · rw [if_pos h, if_pos h]
  · rw [if_neg h, if_neg h]
theorem zAt_add (D : List (Key × V)) (k j : Key) (n : Int) : zAt (addC D k n) j = zAt D j + if k = j then n else 0 := by
  unfold addC
  rw [zAt_put]
  by_cases h : j = k
  · rw [if_pos h, if_pos h.symm, h]
  · rw [if_neg h, if_neg (Ne.symm h), Int.add_zero]
theorem keys_put (D : List (Key × V)) (k : Key) (v : V) : (putK D k v).map (·.1) = insK (D.map (·.1)) k := by
  unfold insK
  cases e : valV D k with
  | none => rw [if_neg (valV_not e), putK_new v e, List.map_append]; rfl
  | some x =>
    rw [if_pos (valV_in e)]
    have ha : (D.any fun kv => decide (kv.1 = k)) = true := by rw [valV_any, e]; rfl
    unfold putK
    rw [if_pos ha, List.map_map]
    apply List.map_congr_left
    intro p _
    simp only [Function.comp]
    split <;> rfl
theorem keys_all : ∀ (l : List (Key × Int)) (acc : List (Key × V)), (addAll acc l).map (·.1) = insL (acc.map (·.1)) (l.map (·.1))
  | [], _ => rfl
  | p :: r, acc => by
    show (addAll (addC acc p.1 p.2) r).map (·.1) = insL (insK (acc.map (·.1)) p.1) (r.map (·.1))
    rw [keys_all r]
    unfold addC
    rw [keys_put]
theorem zAt_all : ∀ (l : List (Key × Int)) (acc : List (Key × V)) (j : Key), zAt (addAll acc l) j = zAt acc j + sumK l j
  | [], acc, j => by show zAt acc j = zAt acc j + 0; rw [Int.add_zero]
  | p :: r, acc, j => by
    show zAt (addAll (addC acc p.1 p.2) r) j = zAt acc j + ((if p.1 = j then p.2 else 0) + sumK r j)
    rw [zAt_all r, zAt_add, Int.add_assoc]
theorem int_all : ∀ (l : List (Key × Int)) (acc : List (Key × V)), IntD acc → IntD (addAll acc l)
  | [], _, h => h
  | _ :: r, _, h => int_all r _ (h.add _ _)
theorem nd_all : ∀ (l : List (Key × Int)) (acc : List (Key × V)), (acc.map (·.1)).Nodup → ((addAll acc l).map (·.1)).Nodup
  | [], _, h => h
  | _ :: r, _, h => nd_all r _ (nd_put h)
theorem own_map {D : List (Key × V)} (hI : IntD D) (hn : (D.map (·.1)).Nodup) : D = (D.map (·.1)).map fun k => (k, V.int (zAt D k)) := by
  rw [List.map_map]
  refine (List.map_id D).symm.trans ?_
  apply List.map_congr_left
  intro p hp
  have e := valV_mem hn hp
  have := hI.look e
  show p = (p.1, V.int (zAt D p.1))
  rw [← this]
theorem dict_ext {A B : List (Key × V)} (hA : IntD A) (hB : IntD B) (nA : (A.map (·.1)).Nodup) (hk : A.map (·.1) = B.map (·.1)) (hz : ∀ k, zAt A k = zAt B k) : A = B := by
  rw [own_map hA nA, own_map hB (hk ▸ nA), ← hk]
  apply List.map_congr_left
  intro k _
  rw [hz k]
theorem mem_insK {K : List Key} {k j : Key} : j ∈ insK K k ↔ j ∈ K ∨ j = k := by
  unfold insK
  split
  · rename_i h
    exact ⟨.inl, fun z => z.elim id fun e => e ▸ h⟩
  · simp
theorem mem_insL : ∀ {L K : List Key} {j : Key}, j ∈ insL K L ↔ j ∈ K ∨ j ∈ L
  | [], K, j => by show j ∈ K ↔ _; simp
  | x :: L, K, j => by
    show j ∈ insL (insK K x) L ↔ _
    rw [mem_insL, mem_insK, List.mem_cons, or_assoc]
theorem insL_insK (K M : List Key) (x : Key) : insL K (insK M x) = insK (insL K M) x := by
  unfold insK
  by_cases h : x ∈ M
  · rw [if_pos h, if_pos (mem_insL.mpr (.inr h))]
  · rw [if_neg h]
    unfold insL
    rw [List.foldl_append]
    rfl
theorem insL_insL (K : List Key) : ∀ (L M : List Key), insL K (insL M L) = insL (insL K M) L
  | [], M => rfl
  | x :: L, M => by
    show insL K (insL (insK M x) L) = insL (insK (insL K M) x) L
    rw [insL_insL K L, insL_insK]
theorem sum_one (f : Key → Int) (j : Key) : ∀ {Ks : List Key}, Ks.Nodup → (Ks.map fun k => if k = j then f k else 0).sum = if j ∈ Ks then f j else 0
  | [], _ => by simp
  | k :: Ks, h => by
    rw [List.nodup_cons] at h
    rw [List.map_cons, List.sum_cons, sum_one f j h.2]
    by_cases e : k = j
    · subst e
      rw [if_pos rfl, if_neg h.1, if_pos (List.mem_cons_self ..), Int.add_zero]
    · rw [if_neg e, Int.zero_add]
      have : (j ∈ k :: Ks) ↔ j ∈ Ks := by rw [List.mem_cons]; exact ⟨fun z => z.elim (fun w => absurd w.symm e) id, .inr⟩
      by_cases hj : j ∈ Ks
      · rw [if_pos hj, if_pos (this.mpr hj)]
      · rw [if_neg hj, if_neg (fun z => hj (this.mp z))]
theorem zAt_out {D : List (Key × V)} {j : Key} (h : ¬ j ∈ D.map (·.1)) : zAt D j = 0 := by
  cases e : valV D j with
  | none => exact zAt_none e
  | some x => exact absurd (valV_in e) h
theorem sumK_mul (c : Int) (j : Key) : ∀ l : List (Key × Int), sumK (l.map fun p => (p.1, p.2 * c)) j = sumK l j * c
  | [] => by show (0 : Int) = 0 * c; rw [Int.zero_mul]
  | p :: r => by
    show (if p.1 = j then p.2 * c else 0) + sumK (r.map fun p => (p.1, p.2 * c)) j = ((if p.1 = j then p.2 else 0) + sumK r j) * c
    rw [sumK_mul c j r, Int.add_mul]
    split
    · rfl
    · rw [Int.zero_mul]
/-- what was gathered in a dict of its own, and then added c times, is as if added one by one -/
theorem add_dict (c : Int) {acc : List (Key × V)} (hI : IntD acc) (hn : (acc.map (·.1)).Nodup) (l : List (Key × Int)) :
    addAll acc ((addAll [] l).map fun p => (p.1, zAt (addAll [] l) p.1 * c)) = addAll acc (l.map fun p => (p.1, p.2 * c)) := by
  have hD : IntD (addAll [] l) := int_all l [] fun p hp => by cases hp
  have nD : ((addAll [] l).map (·.1)).Nodup := nd_all l [] List.nodup_nil
  refine dict_ext (int_all _ _ hI) (int_all _ _ hI) (nd_all _ _ hn) ?_ fun j => ?_
  · rw [keys_all, keys_all, List.map_map, List.map_map]
    show insL (acc.map (·.1)) ((addAll [] l).map (·.1)) = insL (acc.map (·.1)) (l.map (·.1))
    rw [keys_all, insL_insL]
    rfl
  · rw [zAt_all, zAt_all, sumK_mul]
    congr 1
    have e := sum_one (fun k => zAt (addAll [] l) k * c) j nD
    rw [List.map_map] at e
    have e2 : sumK ((addAll [] l).map fun p => (p.1, zAt (addAll [] l) p.1 * c)) j = if j ∈ (addAll [] l).map (·.1) then zAt (addAll [] l) j * c else 0 := by
      rw [← e]
      unfold sumK
      rw [List.map_map]
      rfl
    have e3 : zAt (addAll [] l) j = sumK l j := by
      rw [zAt_all]
      show (0 : Int) + _ = _
      rw [Int.zero_add]
    rw [e2]
    split
    · rw [e3]
    · rename_i h
      rw [← e3, zAt_out h, Int.zero_mul]
theorem cnt_all (t : Int) : ∀ (as : List (Str × Int)) (acc : List (Key × V)), cntF t acc as = addAll acc (as.map fun p => ((Sum.inr p.1 : Key), p.2 * t))
  | [], _ => rfl
  | p :: r, acc => cnt_all t r _
theorem mul_all (c : Int) (all : List (Key × V)) : ∀ (l acc : List (Key × V)), mulF c acc l all = addAll acc (l.map fun p => (p.1, zAt all p.1 * c))
  | [], _ => rfl
  | p :: r, acc => mul_all c all r _
/-- the counts of atoms, added t times -/
theorem mul_cnt (c t : Int) (as : List (Str × Int)) {acc : List (Key × V)} (hI : IntD acc) (hn : (acc.map (·.1)).Nodup) : mulF c acc (cntF t [] as) (cntF t [] as) = cntF (t * c) acc as := by
  rw [mul_all, cnt_all, cnt_all, add_dict c hI hn, List.map_map]
  congr 1
  apply List.map_congr_left
  intro p _
  show ((Sum.inr p.1 : Key), p.2 * t * c) = (Sum.inr p.1, p.2 * (t * c))
  rw [Int.mul_assoc]
/-! ### the reader: its fields, its promises -/
theorem ntp : ¬ (("text" : Str) = "place") := by decide +kernel
def rflds (x : Str) (p : Nat) : List (Str × V) := putF "place" (.int p) (putF "text" (.str x) [])
theorem rflds_text (x : Str) (p : Nat) : (rflds x p).lookup ("text" : Str) = some (.str x) := by
  unfold rflds
  rw [lookup_putF, if_neg ntp, lookup_putF, if_pos rfl]
theorem rflds_place (x : Str) (p : Nat) : (rflds x p).lookup ("place" : Str) = some (.int p) := by
  unfold rflds
  rw [lookup_putF, if_pos rfl]
theorem rflds_no (x : Str) (p : Nat) {m : Str} (h1 : ¬ m = "place") (h2 : ¬ m = "text") : (rflds x p).lookup m = none := by
  unfold rflds
  rw [lookup_putF, if_neg h1, lookup_putF, if_neg h2]
  all_goals rfl
theorem rflds_put (x : Str) (p q : Nat) : putF "place" (.int q) (rflds x p) = rflds x q := by
  unfold rflds
  simp only [putF, if_neg ntp, if_true]
theorem rflds_len (x : Str) (p : Nat) : (rflds x p).length < 1000 := by
  unfold rflds
  simp only [putF, if_neg ntp]
  show 2 < 1000
  decide
def RdAt (R : Addr) (H : Hp) (r : Addr) (x : Str) (p : Nat) : Prop := ∃ dx, H r = some (.ins R dx (rflds x p))
theorem RdAt.same {R : Addr} {H H' : Hp} {r : Addr} {x : Str} {p : Nat} (h : RdAt R H r x p) (e : Same H H') : RdAt R H' r x p := let ⟨dx, h⟩ := h; ⟨dx, e _ _ h⟩
/-- all but the object at r stays -/
def Kept (r : Addr) (H H' : Hp) : Prop := ∀ b o, H b = some o → b ≠ r → H' b = some o
theorem Kept.refl (r : Addr) (H : Hp) : Kept r H H := fun _ _ h _ => h
theorem Kept.trans {r : Addr} {H H' H'' : Hp} (h : Kept r H H') (h' : Kept r H' H'') : Kept r H H'' := fun b o e n => h' b o (h b o e n) n
theorem Kept.of {r : Addr} {H H' : Hp} (h : Same H H') : Kept r H H' := fun b o e _ => h b o e
def spR (lo hi : Nat) : Sp := fun vs H Q _ => ∃ s : Str, vs = [.str s] ∧ s.cps.toList.length ≤ 1 ∧ Q (.bl (inR lo hi s)) H
def spRInit (R : Addr) : Sp := fun vs H Q _ => ∃ (r dx : Addr) (x : Str), vs = [.ref r, .str x] ∧ H r = some (.ins R dx []) ∧ ∀ H', RdAt R H' r x 0 → Kept r H H' → Q .non H'
def spSign (R : Addr) : Sp := fun vs H Q _ => ∃ (r : Addr) (x : Str) (p : Nat), vs = [.ref r] ∧ RdAt R H r x p ∧ p ≤ x.length ∧ x.length ≤ 1000 ∧ Q (.str (sgAt x p)) H
def spTake (R : Addr) : Sp := fun vs H Q _ => ∃ (r : Addr) (x : Str) (p : Nat) (s : Str) (c : Nat) (t post : List Nat), vs = [.ref r, .str s] ∧ s = ⟨#[c]⟩ ∧ RdAt R H r x p ∧ Here x p (c :: t) post ∧ x.length ≤ 1000 ∧ ∀ H', RdAt R H' r x (p + 1) → Kept r H H' → Q .non H'
def spTakeAll (R : Addr) : Sp := fun vs H Q _ => ∃ (r : Addr) (x : Str) (p : Nat) (s : Str) (post : List Nat), vs = [.ref r, .str s] ∧ s.cps.all (· < 128) = true ∧ RdAt R H r x p ∧ Here x p s.cps.toList post ∧ x.length ≤ 1000 ∧ ∀ H', RdAt R H' r x (p + s.length) → Kept r H H' → Q .non H'
def spTakeEnd (R : Addr) : Sp := fun vs H Q _ => ∃ (r : Addr) (x : Str), vs = [.ref r] ∧ RdAt R H r x x.length ∧ x.length ≤ 1000 ∧ Q .non H
def spNumber (R : Addr) : Sp := fun vs H Q _ => ∃ (r : Addr) (x : Str) (p : Nat) (n lg : Int) (post : List Nat), vs = [.ref r, .int lg] ∧ RdAt R H r x p ∧ Here x p (figL n) post ∧ 1 ≤ n ∧ n < 10 ^ 12 ∧ ((figL n).length : Int) ≤ lg ∧ Not isF post ∧ x.length ≤ 1000 ∧ ∀ H', RdAt R H' r x (p + (figL n).length) → Kept r H H' → Q (.int n) H'
def spRCount (R : Addr) : Sp := fun vs H Q _ => ∃ (r : Addr) (x : Str) (p : Nat) (n : Int) (post : List Nat), vs = [.ref r] ∧ RdAt R H r x p ∧ Here x p (figL n) post ∧ 1 ≤ n ∧ n ≤ 999 ∧ Not isF post ∧ x.length ≤ 1000 ∧ ∀ H', RdAt R H' r x (p + (figL n).length) → Kept r H H' → Q (.int n) H'
/-- a kind: a great letter, then small ones -/
def okK (k : List Nat) : Prop := ∃ c r, k = c :: r ∧ isG c = true ∧ r.all isS = true ∧ r.length ≤ 2
def spRAtom (C R : Addr) : Sp := fun vs H Q _ => ∃ (r : Addr) (x : Str) (p : Nat) (k : List Nat) (n : Int) (post : List Nat), vs = [.ref r] ∧ RdAt R H r x p ∧ Here x p (k ++ figL n) post ∧ okK k ∧ 1 ≤ n ∧ n ≤ 999 ∧ Not isF post ∧ Not isS post ∧ x.length ≤ 1000 ∧
  ∀ a H', H a = none → AtomAt C H' a ⟨k.toArray⟩ n → RdAt R H' r x (p + (k ++ figL n).length) → Kept r H H' → Q (.ref a) H'
/-- what is asked of the top for the reader -/
structure TxtR (K : PySem.W.Frag) (mg : Str → Option Value) (C R : Addr) (uK uN : Tok) : Prop extends TxtA K mg C where
  c_Reader : Cls K R
  na_text : NoAttr K R "text"
  na_place : NoAttr K R "place"
  g_LONGEST_KIND : mg "LONGEST_KIND" = some (.int 3 uK)
  g_LONGEST_COUNT : mg "LONGEST_COUNT" = some (.int 3 uN)
section
seal PSs PS PE PT PW PA PG PGs PI PC PTs
variable {P : Program} {w : World} {K : PySem.W.Frag} {mg : Str → Option Value} {base : Heap} {C R G Pc Fo : Addr} {uK uN uB uE uM : Tok}
theorem scGreat : FnScope ["sign"] ["sign"] (defScope sGreat) := ⟨rfl, rfl, rfl, by decide +kernel, rfl, by decide +kernel, by decide +kernel⟩
theorem scSmall : FnScope ["sign"] ["sign"] (defScope sSmall) := ⟨rfl, rfl, rfl, by decide +kernel, rfl, by decide +kernel, by decide +kernel⟩
theorem scFigure : FnScope ["sign"] ["sign"] (defScope sFigure) := ⟨rfl, rfl, rfl, by decide +kernel, rfl, by decide +kernel, by decide +kernel⟩
theorem rg_val (lo hi : Nat) (s : Str) (h : s.cps.toList.length ≤ 1) : (if (!decide (s.cps.toList < [lo])) = true then (!decide ([hi] < s.cps.toList)) else false) = inR lo hi s := by
  rw [cmp_lo lo s h, cmp_hi hi s h]
  unfold inR
  match hh : s.cps.toList, h with
  | [], _ => rfl
  | [c], _ =>
    show (if decide (lo ≤ c) = true then decide (c ≤ hi) else false) = (decide (lo ≤ c) && decide (c ≤ hi))
    cases decide (lo ≤ c) <;> rfl
  | _ :: _ :: _, h => simp at h
theorem ok_great (D : Def K mg "is_great" "is_great" sGreat ["sign"]) : CalE P w K mg base 1 "is_great" ["sign"] (spR 65 90) := by
  refine D.cal scGreat (fun vs H Q E h => ?_) (fun f cdv A outer s H vs Q E hr h => ?_)
  · obtain ⟨n, rfl, _⟩ := h
    rfl
  · obtain ⟨x, rfl, hl, q⟩ := h
    refine ⟨_, (pss_one
          (ps_ret (pe_chain op_le_str op_le_str pe_str (pv 0) pe_str))), ?_⟩
    rw [← rg_val 65 90 x hl] at q
    have e1 : ("A" : Str).cps.toList = [65] := by decide +kernel
    have e2 : ("Z" : Str).cps.toList = [90] := by decide +kernel
    refine ⟨_, rfl, _, _, rfl, rfl, _, rfl, ?_⟩
    rw [e1]
    cases hh : (!decide (x.cps.toList < [65])) with
    | false => rw [hh] at q; exact iteF q
    | true => rw [hh] at q; exact iteT ⟨_, _, rfl, rfl, by rw [e2]; exact q⟩
theorem ok_small (D : Def K mg "is_small" "is_small" sSmall ["sign"]) : CalE P w K mg base 1 "is_small" ["sign"] (spR 97 122) := by
  refine D.cal scSmall (fun vs H Q E h => ?_) (fun f cdv A outer s H vs Q E hr h => ?_)
  · obtain ⟨n, rfl, _⟩ := h
    rfl
  · obtain ⟨x, rfl, hl, q⟩ := h
    refine ⟨_, (pss_one
          (ps_ret (pe_chain op_le_str op_le_str pe_str (pv 0) pe_str))), ?_⟩
    rw [← rg_val 97 122 x hl] at q
    have e1 : ("a" : Str).cps.toList = [97] := by decide +kernel
    have e2 : ("z" : Str).cps.toList = [122] := by decide +kernel
    refine ⟨_, rfl, _, _, rfl, rfl, _, rfl, ?_⟩
    rw [e1]
    cases hh : (!decide (x.cps.toList < [97])) with
    | false => rw [hh] at q; exact iteF q
    | true => rw [hh] at q; exact iteT ⟨_, _, rfl, rfl, by rw [e2]; exact q⟩
theorem ok_figure (D : Def K mg "is_figure" "is_figure" sFigure ["sign"]) : CalE P w K mg base 1 "is_figure" ["sign"] (spR 48 57) := by
  refine D.cal scFigure (fun vs H Q E h => ?_) (fun f cdv A outer s H vs Q E hr h => ?_)
  · obtain ⟨n, rfl, _⟩ := h
    rfl
  · obtain ⟨x, rfl, hl, q⟩ := h
    refine ⟨_, (pss_one
          (ps_ret (pe_chain op_le_str op_le_str pe_str (pv 0) pe_str))), ?_⟩
    rw [← rg_val 48 57 x hl] at q
    have e1 : ("0" : Str).cps.toList = [48] := by decide +kernel
    have e2 : ("9" : Str).cps.toList = [57] := by decide +kernel
    refine ⟨_, rfl, _, _, rfl, rfl, _, rfl, ?_⟩
    rw [e1]
    cases hh : (!decide (x.cps.toList < [48])) with
    | false => rw [hh] at q; exact iteF q
    | true => rw [hh] at q; exact iteT ⟨_, _, rfl, rfl, by rw [e2]; exact q⟩
theorem scRInit : FnScope ["self", "text"] ["self", "text"] (defScope sRInit) := ⟨rfl, rfl, rfl, by decide +kernel, rfl, by decide +kernel, by decide +kernel⟩
theorem ok_rinit (D : DefI K R "Reader.__init__" sRInit ["self", "text"] []) (T : TxtR K mg C R uK uN) : CalIE P w K mg base 1 R ["self", "text"] [] (spRInit R) := by
  refine D.cal scRInit (fun vs H Q E h => ?_) (fun f cdv A outer s H vs Q E hr h => ?_)
  · obtain ⟨r, dx, x, rfl, _⟩ := h
    rfl
  · obtain ⟨r, dx, x, rfl, hp, q⟩ := h
    refine ⟨_, (pss_cons
          (ps_fld (pv 0) (pv 1) rfl)
        (pss_one
          (ps_fld (pv 0) pe_int rfl))), ?_⟩
    refine ⟨_, rfl, _, rfl, r, R, dx, [], rfl, hp, T.c_Reader, T.na_text, (by show 0 < 1000; decide), _, rfl, r, R, dx, _, rfl, upd_same, T.c_Reader, T.na_place, (by show 1 < 1000; decide), ?_⟩
    refine q _ ⟨dx, upd_same⟩ fun b o e hb => ?_
    rw [upd_ne hb, upd_ne hb]
    exact e
theorem scSign : FnScope ["self"] ["self"] (defScope sSign) := ⟨rfl, rfl, rfl, by decide +kernel, rfl, by decide +kernel, by decide +kernel⟩
theorem ok_sign (D : DefM K R "sign" "Reader.sign" sSign ["self"]) (T : TxtR K mg C R uK uN) : CalME P w K mg base 1 R "sign" ["self"] (spSign R) := by
  refine D.cal scSign (fun vs H Q E h => ?_) (fun f cdv A outer s H vs Q E hr h => ?_)
  · obtain ⟨r, x, p, rfl, _⟩ := h
    rfl
  · obtain ⟨r, x, p, rfl, ⟨dx, hR⟩, hp, hx, q⟩ := h
    have big : (1000 : Nat) ≤ sizeLine := by decide
    refine ⟨_, (pss_one
          (ps_ret (pe_slice sl_str (pe_fld (pv 0) rfl) (po_some (pe_fld (pv 0) rfl)) (po_some (pe_op op_add (pe_fld (pv 0) rfl) pe_int))))), ?_⟩
    rw [← slice_one x hp] at q
    exact ⟨_, rfl, r, R, dx, _, _, rfl, hR, T.c_Reader, T.na_text, rflds_text _ _, _, rfl, r, R, dx, _, _, rfl, hR, T.c_Reader, T.na_place, rflds_place _ _, _, rfl, _, rfl, r, R, dx, _, _, rfl, hR, T.c_Reader, T.na_place, rflds_place _ _, _, _, rfl, rfl, _, rfl, x, rfl, by omega, q⟩
theorem scTake : FnScope ["self", "sign"] ["self", "sign"] (defScope sTake) := ⟨rfl, rfl, rfl, by decide +kernel, rfl, by decide +kernel, by decide +kernel⟩
theorem ok_take (D : DefM K R "take" "Reader.take" sTake ["self", "sign"]) (T : TxtR K mg C R uK uN) (c1 : CalME P w K mg base 1 R "sign" ["self"] (spSign R)) : CalME P w K mg base 2 R "take" ["self", "sign"] (spTake R) := by
  obtain ⟨_, _, c_Reader_sign⟩ := c1
  refine D.cal scTake (fun vs H Q E h => ?_) (fun f cdv A outer s H vs Q E hr h => ?_)
  · obtain ⟨r, x, p, sg, c, t, post, rfl, _⟩ := h
    rfl
  · obtain ⟨r, x, p, sg, c, t, post, rfl, hs, ⟨dx, hR⟩, hh, hx, q⟩ := h
    refine ⟨_, (pss_cons
          (ps_if (pt_cmpR op_ne (pe_meth0 (pv 0) T.c_Reader c_Reader_sign.m c_Reader_sign.ok (hr.mono (by decide)) c_Reader_sign.b .nil pass0) (pv 1) (nomark _))
            (pss_one
              ps_never)
            pss_nil)
        (pss_one
          (ps_fldaug (pv 0) pe_int in_add))), ?_⟩
    refine ⟨_, rfl, r, dx, _, rfl, hR, rflds_no _ _ (by decide +kernel) (by decide +kernel), r, x, p, rfl, ⟨dx, hR⟩, hh.1, hx, _, rfl, rfl, _, rfl, iteNS (by rw [hh.sg, hs]) ?_⟩
    refine ⟨_, rfl, r, R, dx, _, _, rfl, hR, T.c_Reader, T.na_place, rflds_place _ _, _, _, rfl, rfl, dx, _, hR, rflds_len _ _, ?_⟩
    refine q _ ⟨dx, ?_⟩ fun b o e hb => ?_
    · rw [upd_same]
      exact congrArg (fun z => some (HO.ins R dx z)) (rflds_put x p (p + 1))
    · rw [upd_ne hb]; exact e
theorem scTakeAll : FnScope ["self", "signs", "sign"] ["self", "signs"] (defScope sTakeAll) := ⟨rfl, rfl, rfl, by decide +kernel, rfl, by decide +kernel, by decide +kernel⟩
theorem ok_takeall (D : DefM K R "take_all" "Reader.take_all" sTakeAll ["self", "signs"]) (T : TxtR K mg C R uK uN) (c1 : CalME P w K mg base 2 R "take" ["self", "sign"] (spTake R)) : CalME P w K mg base 3 R "take_all" ["self", "signs"] (spTakeAll R) := by
  obtain ⟨_, _, c_Reader_take⟩ := c1
  refine D.cal scTakeAll (fun vs H Q E h => ?_) (fun f cdv A outer s H vs Q E hr h => ?_)
  · obtain ⟨r, x, p, sg, post, rfl, _⟩ := h
    rfl
  · obtain ⟨r, x, p, sg, post, rfl, ha, hR, hh, hx, q⟩ := h
    refine ⟨_, (pss_one
          (ps_for PassesOwn.never rfl (pi_str (pv 1)) (pg_name (i := 2) scTakeAll.nd rfl (Or.inl rfl))
            (pss_one
              (ps_expr (pe_meth (pv 0) T.c_Reader c_Reader_take.m c_Reader_take.ok (hr.mono (by decide)) c_Reader_take.b .nil pass0 (pa_cons (pv 2) pa_nil)))))), ?_⟩
    refine ⟨_, rfl, sg, rfl, ha, for_str (fun i σ H' => ∃ v : Option V, σ = [some (.ref r), some (.str sg), v] ∧ RdAt R H' r x (p + i) ∧ Kept r H H') ⟨none, rfl, hR, Kept.refl r H⟩ ?_ ?_⟩
    · rintro i c σ H' hc ⟨v, rfl, ⟨dx, hR'⟩, kk⟩
      have hc' : sg.cps.toList[i]? = some c := by rw [Array.getElem?_toList]; exact hc
      have hi : i < sg.cps.toList.length := (List.getElem?_eq_some_iff.mp hc').1
      have e : sg.cps.toList = sg.cps.toList.take i ++ c :: sg.cps.toList.drop (i + 1) := by
        conv => lhs; rw [← List.take_append_drop i sg.cps.toList]
        congr 1
        rw [List.drop_eq_getElem_cons hi]
        congr 1
        exact (List.getElem?_eq_some_iff.mp hc').2
      have h2 : Here x (p + i) (c :: sg.cps.toList.drop (i + 1)) post := by
        have h3 := Here.on (t := sg.cps.toList.take i) (u := c :: sg.cps.toList.drop (i + 1)) (e ▸ hh)
        rwa [List.length_take, Nat.min_eq_left (by omega)] at h3
      refine ⟨_, rfl, r, dx, _, rfl, hR', rflds_no _ _ (by decide +kernel) (by decide +kernel), _, rfl, r, x, p + i, _, c, _, post, rfl, rfl, ⟨dx, hR'⟩, h2, hx, fun H'' hR'' k'' => ?_⟩
      exact ⟨_, rfl, hR'', kk.trans k''⟩
    · rintro σ H' ⟨v, rfl, hR', kk⟩
      exact q _ hR' kk
theorem scTakeEnd : FnScope ["self"] ["self"] (defScope sTakeEnd) := ⟨rfl, rfl, rfl, by decide +kernel, rfl, by decide +kernel, by decide +kernel⟩
theorem ok_takeend (D : DefM K R "take_end" "Reader.take_end" sTakeEnd ["self"]) (T : TxtR K mg C R uK uN) : CalME P w K mg base 1 R "take_end" ["self"] (spTakeEnd R) := by
  refine D.cal scTakeEnd (fun vs H Q E h => ?_) (fun f cdv A outer s H vs Q E hr h => ?_)
  · obtain ⟨r, x, rfl, _⟩ := h
    rfl
  · obtain ⟨r, x, rfl, ⟨dx, hR⟩, hx, q⟩ := h
    refine ⟨_, (pss_one
          (ps_if (pt_cmpR op_lt (pe_fld (pv 0) rfl) (pe_callB call_len_str rfl T.n_len bt_len (pa_cons (pe_fld (pv 0) rfl) pa_nil)) (nomark _))
            (pss_one
              ps_never)
            pss_nil)), ?_⟩
    exact ⟨_, rfl, r, R, dx, _, _, rfl, hR, T.c_Reader, T.na_place, rflds_place _ _, _, rfl, r, R, dx, _, _, rfl, hR, T.c_Reader, T.na_text, rflds_text _ _, x, rfl, Nat.le_trans hx (by decide), _, _, rfl, rfl, _, rfl, iteN (by omega) q⟩
theorem fig_n {n : Int} (h1 : 1 ≤ n) (h2 : n < 10 ^ 12) : ∃ m : Nat, n = (m : Int) ∧ m < 10 ^ 12 ∧ m ≠ 0 := ⟨n.toNat, by omega, by omega, by omega⟩
theorem scRNumber : FnScope ["self", "longest", "begin", "written"] ["self", "longest"] (defScope sRNumber) := ⟨rfl, rfl, rfl, by decide +kernel, rfl, by decide +kernel, by decide +kernel⟩
theorem ok_number (D : DefM K R "read_number" "Reader.read_number" sRNumber ["self", "longest"]) (T : TxtR K mg C R uK uN) (c1 : CalME P w K mg base 1 R "sign" ["self"] (spSign R)) (c2 : CalE P w K mg base 1 "is_figure" ["sign"] (spR 48 57)) : CalME P w K mg base 2 R "read_number" ["self", "longest"] (spNumber R) := by
  obtain ⟨_, _, c_Reader_sign⟩ := c1
  obtain ⟨_, _, c_is_figure⟩ := c2
  refine D.cal scRNumber (fun vs H Q E h => ?_) (fun f cdv A outer s H vs Q E hr h => ?_)
  · obtain ⟨r, x, p, n, lg, post, rfl, _⟩ := h
    rfl
  · obtain ⟨r, x, p, n, lg, post, rfl, ⟨dx, hR⟩, hh, n1, n2, fl, hnf, hx, q⟩ := h
    obtain ⟨m, rfl, m1, m0⟩ := fig_n n1 n2
    have big : (1000 : Nat) ≤ sizeLine := by decide
    have fa := fig_all m
    have fh := fig_head m m0
    have f1 := fig_one m
    have fl12 : (figL (m : Int)).length ≤ 12 := by
      have := figs_lenG (k := 12) (by decide) m1
      unfold figL
      simpa [Str.length] using this
    have e0 : ("0" : Str) = ⟨#[48]⟩ := by decide +kernel
    have e1 : ("1" : Str) = ⟨#[49]⟩ := by decide +kernel
    refine ⟨_, (pss_cons
          (ps_if (pt_cmpR op_eq (pe_meth0 (pv 0) T.c_Reader c_Reader_sign.m c_Reader_sign.ok (hr.mono (by decide)) c_Reader_sign.b .nil pass0) pe_str (nomark _))
            (pss_one
              ps_never)
            pss_nil)
        (pss_cons
          (ps_set (i := 2) scRNumber.nd rfl (Or.inl rfl) (pe_fld (pv 0) rfl))
        (pss_cons
          (ps_while PassesOwn.never (PW.pt (pw_and (pt_val (pe_call c_is_figure.ok (hr.mono (by decide)) rfl c_is_figure.g c_is_figure.kp c_is_figure.b .nil pass0 (pa_cons (pe_meth0 (pv 0) T.c_Reader c_Reader_sign.m c_Reader_sign.ok (hr.mono (by decide)) c_Reader_sign.b .nil pass0) pa_nil))) (pw_and1 (pt_cmpR op_lt (pe_op op_sub (pe_fld (pv 0) rfl) (pv 2)) (pv 1) (nomark _)))))
            (pss_one
              (ps_fldaug (pv 0) pe_int in_add)))
        (pss_cons
          (ps_set (i := 3) scRNumber.nd rfl (Or.inl rfl) (pe_slice sl_str (pe_fld (pv 0) rfl) (po_some (pv 2)) (po_some (pe_fld (pv 0) rfl))))
        (pss_cons
          (ps_if (pt_cmpR op_eq (pv 3) pe_str (nomark _))
            (pss_one
              ps_never)
            pss_nil)
        (pss_one
          (ps_ret (pe_ifExp (pt_truth (pv 3) (fun _ => rfl)) (pe_callTy call_intT rfl T.n_int bt_int (pa_cons (pv 3) pa_nil)) pe_int)))))))), ?_⟩
    -- no nought ahead
    have s0 : ¬ V.str (sgAt x p) = V.str "0" := by
      rw [e0]
      intro z
      have z : sgAt x p = ⟨#[48]⟩ := by injection z
      cases hf : figL (m : Int) with
      | nil =>
        rw [hf] at hh
        rw [hh.sg0] at z
        cases post with
        | nil => have := congrArg (fun s : Str => s.cps.toList) z; simp at this
        | cons c r =>
          have : c = 48 := by have := congrArg (fun s : Str => s.cps.toList) z; simpa using this
          have := hnf c rfl
          subst_vars
          simp [isF] at this
      | cons c r =>
        rw [hf] at hh fh
        rw [hh.sg] at z
        have : c = 48 := by have := congrArg (fun s : Str => s.cps.toList) z; simpa using this
        exact fh (by rw [this]; rfl)
    refine ⟨_, rfl, r, dx, _, rfl, hR, rflds_no _ _ (by decide +kernel) (by decide +kernel), r, x, p, rfl, ⟨dx, hR⟩, hh.1, hx, rfl, _, rfl, iteN s0 ?_⟩
    refine ⟨_, rfl, r, R, dx, _, _, rfl, hR, T.c_Reader, T.na_place, rflds_place _ _, ?_⟩
    refine ⟨fun k σ H' => ∃ j : Nat, k + j = (figL (m : Int)).length ∧ σ = [some (.ref r), some (.int lg), some (.int p), none] ∧ RdAt R H' r x (p + j) ∧ Kept r H H', ⟨(figL (m : Int)).length, 0, by omega, rfl, ⟨dx, hR⟩, Kept.refl r H⟩, ?_⟩
    rintro k σ H' ⟨j, hk, rfl, ⟨dx', hR'⟩, kk⟩
    have hle := hh.le
    refine ⟨_, rfl, r, dx', _, rfl, hR', rflds_no _ _ (by decide +kernel) (by decide +kernel), r, x, p + j, rfl, ⟨dx', hR'⟩, by omega, hx, _, rfl, sgAt_len _ _, _, rfl, ?_⟩
    by_cases hj : j < (figL (m : Int)).length
    · have e : figL (m : Int) = (figL (m : Int)).take j ++ (figL (m : Int))[j] :: (figL (m : Int)).drop (j + 1) := by
        conv => lhs; rw [← List.take_append_drop j (figL (m : Int))]
        congr 1
        exact List.drop_eq_getElem_cons hj
      have h2 : Here x (p + j) ((figL (m : Int))[j] :: (figL (m : Int)).drop (j + 1)) post := by
        have h3 := Here.on (t := (figL (m : Int)).take j) (u := (figL (m : Int))[j] :: (figL (m : Int)).drop (j + 1)) (e ▸ hh)
        rwa [List.length_take, Nat.min_eq_left (by omega)] at h3
      have ev : inR 48 57 (sgAt x (p + j)) = true := by
        rw [h2.sg, inR_one]
        exact List.all_eq_true.mp fa _ (List.getElem_mem hj)
      rw [ev]
      refine iteT ⟨_, rfl, r, R, dx', _, _, rfl, hR', T.c_Reader, T.na_place, rflds_place _ _, _, rfl, _, _, rfl, rfl, _, rfl, _, _, rfl, rfl, _, rfl, iteP (by omega) ?_⟩
      refine ⟨_, fun σ' H'' h => ⟨k - 1, by omega, h⟩, ?_⟩
      refine ⟨_, rfl, r, R, dx', _, _, rfl, hR', T.c_Reader, T.na_place, rflds_place _ _, _, _, rfl, rfl, dx', _, hR', rflds_len _ _, ?_⟩
      refine ⟨j + 1, by omega, rfl, ⟨dx', ?_⟩, fun b o z w => ?_⟩
      · rw [upd_same]
        exact congrArg (fun z => some (HO.ins R dx' z)) (rflds_put x (p + j) (p + j + 1))
      · rw [upd_ne w]; exact kk b o z w
    · have ej : j = (figL (m : Int)).length := by omega
      have h2 : Here x (p + j) [] post := by
        have h3 := Here.on (t := figL (m : Int)) (u := []) (by rw [List.append_nil]; exact hh)
        rwa [← ej] at h3
      have ev : inR 48 57 (sgAt x (p + j)) = false := by
        rw [h2.sg0]
        exact inR_not hnf
      rw [ev]
      refine iteF (iteF ?_)
      have ec : Txt.slice x (some (p : Int)) (some ((p + j : Nat) : Int)) = figs (m : Int) := by
        rw [ej, hh.cut]
        apply str_ext
        simp [figL]
      refine ⟨_, rfl, r, R, dx', _, _, rfl, hR', T.c_Reader, T.na_text, rflds_text _ _, _, rfl, _, rfl, _, rfl, r, R, dx', _, _, rfl, hR', T.c_Reader, T.na_place, rflds_place _ _, _, rfl, x, rfl, by omega, ?_⟩
      rw [ec]
      have nw : ¬ V.str (figs (m : Int)) = V.str "1" := by
        rw [e1]
        intro z
        have z : figs (m : Int) = ⟨#[49]⟩ := by injection z
        exact f1 (by unfold figL; rw [z])
      refine ⟨_, rfl, rfl, _, rfl, iteN nw ?_⟩
      rw [ej] at hR'
      have fin := q H' ⟨dx', hR'⟩ kk
      have lf : (figs (m : Int)).length = (figL (m : Int)).length := by unfold figL; simp [Str.length]
      refine ⟨_, rfl, _, ⟨by rw [lf]; omega, rfl⟩, ?_⟩
      by_cases hm : m = 1
      · subst hm
        have ez : (((figs ((1 : Nat) : Int)).length : Int) != 0) = false := by decide +kernel
        rw [ez]
        exact iteF fin
      · have ez : (((figs (m : Int)).length : Int) != 0) = true := by
          rw [lf]
          have : (figL (m : Int)).length ≠ 0 := fun z => hm (fig_nil m (List.length_eq_zero_iff.mp z))
          simp only [bne_iff_ne, ne_eq]
          omega
        rw [ez]
        exact iteT ⟨_, rfl, _, _, rfl, fig_int m m1 hm, by rw [lf]; omega, fin⟩
theorem scRCount : FnScope ["self"] ["self"] (defScope sRCount) := ⟨rfl, rfl, rfl, by decide +kernel, rfl, by decide +kernel, by decide +kernel⟩
theorem ok_rcount (D : DefM K R "read_count" "Reader.read_count" sRCount ["self"]) (T : TxtR K mg C R uK uN) (c1 : CalME P w K mg base 2 R "read_number" ["self", "longest"] (spNumber R)) : CalME P w K mg base 3 R "read_count" ["self"] (spRCount R) := by
  obtain ⟨_, _, c_Reader_read_number⟩ := c1
  refine D.cal scRCount (fun vs H Q E h => ?_) (fun f cdv A outer s H vs Q E hr h => ?_)
  · obtain ⟨r, x, p, n, post, rfl, _⟩ := h
    rfl
  · obtain ⟨r, x, p, n, post, rfl, ⟨dx, hR⟩, hh, n1, n2, hnf, hx, q⟩ := h
    refine ⟨_, (pss_one
          (ps_ret (pe_meth (pv 0) T.c_Reader c_Reader_read_number.m c_Reader_read_number.ok (hr.mono (by decide)) c_Reader_read_number.b .nil pass0 (pa_cons (pe_glob (v := .int 3) rfl T.g_LONGEST_COUNT ⟨_, rfl⟩) pa_nil)))), ?_⟩
    exact ⟨_, rfl, r, dx, _, rfl, hR, rflds_no _ _ (by decide +kernel) (by decide +kernel), r, x, p, n, 3, post, rfl, ⟨dx, hR⟩, hh, n1, by omega, (by have := figs_len n1 n2; unfold figL; simp [Str.length] at this; simpa using by omega), hnf, hx, q⟩
theorem kept_none {r a : Addr} {H H' : Hp} {o : HO} (k : Kept r H H') (hr : H' r = some o) (h : H' a = none) : H a = none := by
  cases hh : H a with
  | none => rfl
  | some o' =>
    by_cases e : a = r
    · rw [e, hr] at h; cases h
    · rw [k a o' hh e] at h; cases h
theorem not_app {f : Nat → Bool} {l post : List Nat} (h1 : ∀ c ∈ l, f c = false) (h2 : Not f post) : Not f (l ++ post) := by
  cases l with
  | nil => exact h2
  | cons c r =>
    intro d hd
    have e : c = d := by simpa using hd
    rw [← e]
    exact h1 c (List.mem_cons_self ..)
theorem fig_nots {n : Int} (h1 : 1 ≤ n) (h2 : n ≤ 999) : ∀ c ∈ figL n, isS c = false := by
  intro c hc
  obtain ⟨m, rfl, m1, m0⟩ := fig_n h1 (by omega)
  have := List.all_eq_true.mp (fig_all m) c hc
  simp only [isF, isS, Bool.and_eq_true, decide_eq_true_eq] at *
  simp
  omega
theorem scRAtom : FnScope ["self", "begin", "kind"] ["self"] (defScope sRAtom) := ⟨rfl, rfl, rfl, by decide +kernel, rfl, by decide +kernel, by decide +kernel⟩
theorem ok_ratom (D : DefM K R "read_atom" "Reader.read_atom" sRAtom ["self"]) (T : TxtR K mg C R uK uN) (c1 : CalME P w K mg base 1 R "sign" ["self"] (spSign R)) (c2 : CalE P w K mg base 1 "is_great" ["sign"] (spR 65 90)) (c3 : CalE P w K mg base 1 "is_small" ["sign"] (spR 97 122)) (c4 : CalME P w K mg base 3 R "read_count" ["self"] (spRCount R))
    (c5 : CalIE P w K mg base 1 C ["self", "kind", "count"] [1] (spInit C)) : CalME P w K mg base 4 R "read_atom" ["self"] (spRAtom C R) := by
  obtain ⟨_, _, c_Reader_sign⟩ := c1
  obtain ⟨_, _, c_is_great⟩ := c2
  obtain ⟨_, _, c_is_small⟩ := c3
  obtain ⟨_, _, c_Reader_read_count⟩ := c4
  obtain ⟨_, _, c_Atom⟩ := c5
  obtain ⟨_, v_Atom_0, b_Atom_0⟩ := c_Atom.b 1 (by decide)
  refine D.cal scRAtom (fun vs H Q E h => ?_) (fun f cdv A outer s H vs Q E hr h => ?_)
  · obtain ⟨r, x, p, k, n, post, rfl, _⟩ := h
    rfl
  · obtain ⟨r, x, p, k, n, post, rfl, ⟨dx, hR⟩, hh, ⟨c, rk, rfl, hc, hsm, hl⟩, n1, n2, hnf, hns, hx, q⟩ := h
    have big : (1000 : Nat) ≤ sizeLine := by decide
    have hle := hh.le
    refine ⟨_, (pss_cons
          (ps_if (pt_not (pt_val (pe_call c_is_great.ok (hr.mono (by decide)) rfl c_is_great.g c_is_great.kp c_is_great.b .nil pass0 (pa_cons (pe_meth0 (pv 0) T.c_Reader c_Reader_sign.m c_Reader_sign.ok (hr.mono (by decide)) c_Reader_sign.b .nil pass0) pa_nil))))
            (pss_one
              ps_never)
            pss_nil)
        (pss_cons
          (ps_set (i := 1) scRAtom.nd rfl (Or.inl rfl) (pe_fld (pv 0) rfl))
        (pss_cons
          (ps_fldaug (pv 0) pe_int in_add)
        (pss_cons
          (ps_while PassesOwn.never (PW.pt (pw_and (pt_val (pe_call c_is_small.ok (hr.mono (by decide)) rfl c_is_small.g c_is_small.kp c_is_small.b .nil pass0 (pa_cons (pe_meth0 (pv 0) T.c_Reader c_Reader_sign.m c_Reader_sign.ok (hr.mono (by decide)) c_Reader_sign.b .nil pass0) pa_nil))) (pw_and1 (pt_cmpR op_lt (pe_op op_sub (pe_fld (pv 0) rfl) (pv 1)) (pe_glob (v := .int 3) rfl T.g_LONGEST_KIND ⟨_, rfl⟩) (nomark _)))))
            (pss_one
              (ps_fldaug (pv 0) pe_int in_add)))
        (pss_cons
          (ps_set (i := 2) scRAtom.nd rfl (Or.inl rfl) (pe_slice sl_str (pe_fld (pv 0) rfl) (po_some (pv 1)) (po_some (pe_fld (pv 0) rfl))))
        (pss_one
          (ps_ret (pe_make c_Atom.m c_Atom.ok (hr.mono (by decide)) rfl T.g_Atom b_Atom_0 v_Atom_0 pass0 (pa_cons (pv 2) (pa_cons (pe_meth0 (pv 0) T.c_Reader c_Reader_read_count.m c_Reader_read_count.ok (hr.mono (by decide)) c_Reader_read_count.b .nil pass0) pa_nil)))))))))), ?_⟩
    refine ⟨_, rfl, r, dx, _, rfl, hR, rflds_no _ _ (by decide +kernel) (by decide +kernel), r, x, p, rfl, ⟨dx, hR⟩, hh.1, hx, _, rfl, sgAt_len _ _, _, rfl, ?_⟩
    have ev : inR 65 90 (sgAt x p) = true := by
      rw [Here.sg (c := c) (t := rk ++ figL n) hh, inR_one]
      exact hc
    rw [ev]
    refine iteF ?_
    refine ⟨_, rfl, r, R, dx, _, _, rfl, hR, T.c_Reader, T.na_place, rflds_place _ _, ?_⟩
    refine ⟨_, rfl, r, R, dx, _, _, rfl, hR, T.c_Reader, T.na_place, rflds_place _ _, _, _, rfl, rfl, dx, _, hR, rflds_len _ _, ?_⟩
    have hR1 : (upd H r (.ins R dx (putF "place" (.int ((p : Int) + 1)) (rflds x p)))) r = some (.ins R dx (rflds x (p + 1))) := by
      rw [upd_same]
      exact congrArg (fun z => some (HO.ins R dx z)) (rflds_put x p (p + 1))
    have k1 : Kept r H (upd H r (.ins R dx (putF "place" (.int ((p : Int) + 1)) (rflds x p)))) := fun b o z w => by rw [upd_ne w]; exact z
    generalize upd H r _ = H1 at hR1 k1 ⊢
    have hh1 : Here x (p + 1) (rk ++ figL n) post := Here.on (t := [c]) (u := rk ++ figL n) hh
    refine ⟨fun m σ H' => ∃ j : Nat, m + j = rk.length ∧ σ = [some (.ref r), some (.int p), none] ∧ RdAt R H' r x (p + 1 + j) ∧ Kept r H H', ⟨rk.length, 0, by omega, rfl, ⟨dx, hR1⟩, k1⟩, ?_⟩
    rintro m σ H' ⟨j, hk, rfl, ⟨dx', hR'⟩, kk⟩
    have hle1 := hh1.le
    rw [List.length_append] at hle1
    refine ⟨_, rfl, r, dx', _, rfl, hR', rflds_no _ _ (by decide +kernel) (by decide +kernel), r, x, p + 1 + j, rfl, ⟨dx', hR'⟩, by omega, hx, _, rfl, sgAt_len _ _, _, rfl, ?_⟩
    by_cases hj : j < rk.length
    · have e : rk = rk.take j ++ rk[j] :: rk.drop (j + 1) := by
        conv => lhs; rw [← List.take_append_drop j rk]
        congr 1
        exact List.drop_eq_getElem_cons hj
      have h2 : Here x (p + 1 + j) (rk[j] :: (rk.drop (j + 1) ++ figL n)) post := by
        have e' : rk ++ figL n = rk.take j ++ (rk[j] :: (rk.drop (j + 1) ++ figL n)) := by
          conv => lhs; rw [e]
          rw [List.append_assoc]
          rfl
        have h3 := Here.on (t := rk.take j) (u := rk[j] :: (rk.drop (j + 1) ++ figL n)) (e' ▸ hh1)
        rwa [List.length_take, Nat.min_eq_left (by omega)] at h3
      have ev : inR 97 122 (sgAt x (p + 1 + j)) = true := by
        rw [h2.sg, inR_one]
        exact List.all_eq_true.mp hsm _ (List.getElem_mem hj)
      rw [ev]
      refine iteT ⟨_, rfl, r, R, dx', _, _, rfl, hR', T.c_Reader, T.na_place, rflds_place _ _, _, rfl, _, _, rfl, rfl, _, _, rfl, rfl, _, rfl, iteP (by omega) ?_⟩
      refine ⟨_, fun σ' H'' h => ⟨m - 1, by omega, h⟩, ?_⟩
      refine ⟨_, rfl, r, R, dx', _, _, rfl, hR', T.c_Reader, T.na_place, rflds_place _ _, _, _, rfl, rfl, dx', _, hR', rflds_len _ _, ?_⟩
      refine ⟨j + 1, by omega, rfl, ⟨dx', ?_⟩, fun b o z w => ?_⟩
      · rw [upd_same]
        exact congrArg (fun z => some (HO.ins R dx' z)) (rflds_put x (p + 1 + j) (p + 1 + j + 1))
      · rw [upd_ne w]; exact kk b o z w
    · have ej : j = rk.length := by omega
      have h2 : Here x (p + 1 + j) (figL n) post := by
        have h3 := Here.on (t := rk) (u := figL n) hh1
        rwa [← ej] at h3
      have ev : inR 97 122 (sgAt x (p + 1 + j)) = false := by
        have h3 : Here x (p + 1 + j) [] (figL n ++ post) := ⟨h2.1, by rw [h2.2]; rfl⟩
        rw [h3.sg0]
        exact inR_not (not_app (fig_nots n1 n2) hns)
      rw [ev]
      refine iteF (iteF ?_)
      have ec : Txt.slice x (some (p : Int)) (some ((p + 1 + j : Nat) : Int)) = ⟨(c :: rk).toArray⟩ := by
        have h3 : Here x p (c :: rk) (figL n ++ post) := ⟨hh.1, by rw [hh.2, List.append_assoc]⟩
        have := h3.cut
        rw [List.length_cons] at this
        rw [show p + 1 + j = p + (rk.length + 1) by omega]
        exact this
      refine ⟨_, rfl, r, R, dx', _, _, rfl, hR', T.c_Reader, T.na_text, rflds_text _ _, _, rfl, _, rfl, _, rfl, r, R, dx', _, _, rfl, hR', T.c_Reader, T.na_place, rflds_place _ _, _, rfl, x, rfl, by omega, ?_⟩
      rw [ec]
      refine ⟨_, rfl, _, rfl, r, dx', _, rfl, hR', rflds_no _ _ (by decide +kernel) (by decide +kernel), r, x, p + 1 + j, n, post, rfl, ⟨dx', hR'⟩, h2, n1, n2, hnf, hx, fun H2 hR2 k2 => ?_⟩
      obtain ⟨dx2, hR2⟩ := hR2
      refine fun a da na nda nea => ⟨a, da, _, n, rfl, upd_same, fun H3 h3 k3 => ⟨rfl, ?_⟩⟩
      have s3 : Same H2 H3 := fun b o z => k3 b o (by rw [upd_ne (ne_of_none z na), upd_ne (ne_of_none z nda)]; exact z) (ne_of_none z na)
      have kf := (kk.trans k2)
      refine q a H3 (kept_none kf hR2 na) ⟨da, h3⟩ ⟨dx2, ?_⟩ (kf.trans (Kept.of s3))
      rw [s3 _ _ hR2, List.length_append, List.length_cons]
      rw [show p + 1 + j + (figL n).length = p + (rk.length + 1 + (figL n).length) by omega]
inductive Tr where
  | one (k : List Nat) (n : Int)
  | gr (ts : List Tr) (n : Int)
def ttx : Nat → Tr → List Nat
  | _, .one k n => k ++ figL n
  | 0, .gr _ _ => []
  | d + 1, .gr ts n => 40 :: (ts.flatMap (ttx d) ++ 41 :: figL n)
def okT : Nat → Tr → Prop
  | _, .one k n => okK k ∧ 1 ≤ n ∧ n ≤ 999
  | 0, .gr _ _ => False
  | d + 1, .gr ts n => ts ≠ [] ∧ (∀ t ∈ ts, okT d t) ∧ 1 ≤ n ∧ n ≤ 999
def TreeAt (C G : Addr) : Nat → Hp → Addr → Tr → Prop
  | _, H, p, .one k n => AtomAt C H p ⟨k.toArray⟩ n
  | 0, _, _, .gr _ _ => False
  | d + 1, H, p, .gr ts n => ∃ dx l ps, H p = some (.ins G dx (gflds l n)) ∧ H l = some (.lst (ps.map V.ref)) ∧ Paired (TreeAt C G d H) ps ts
/-- the tree lies in what is new behind H -/
def NewT (C G : Addr) (d : Nat) (H H' : Hp) (a : Addr) (t : Tr) : Prop := ∀ H'', (∀ b o, H b = none → H' b = some o → H'' b = some o) → TreeAt C G d H'' a t
/-- the same, and L is no part of it -/
def NewL (C G L : Addr) (d : Nat) (H H' : Hp) (a : Addr) (t : Tr) : Prop := ∀ H'', (∀ b o, H b = none → b ≠ L → H' b = some o → H'' b = some o) → TreeAt C G d H'' a t
def NewTs (C G : Addr) (d : Nat) (H H' : Hp) (l : Addr) (ts : List Tr) : Prop := H l = none ∧ ∃ ps, H' l = some (.lst (ps.map V.ref)) ∧ ∀ H'', (∀ b o, H b = none → H' b = some o → H'' b = some o) → Paired (TreeAt C G d H'') ps ts
def Stop (post : List Nat) : Prop := Not isF post ∧ Not isS post ∧ Not isG post ∧ Not (fun c => decide (c = 40)) post
def spRPart (C G R : Addr) (d : Nat) : Sp := fun vs H Q _ => ∃ (r : Addr) (x : Str) (p : Nat) (a : Nat) (t : Tr) (post : List Nat), vs = [.ref r, .int a] ∧ RdAt R H r x p ∧ Here x p (ttx d t) post ∧ okT d t ∧ a + d ≤ 4 ∧ Not isF post ∧ Not isS post ∧ x.length ≤ 1000 ∧
  ∀ y H', H y = none → NewT C G d H H' y t → RdAt R H' r x (p + (ttx d t).length) → Kept r H H' → Q (.ref y) H'
def spRGroup (C G R : Addr) : Nat → Sp
  | 0 => fun _ _ _ _ => False
  | d + 1 => fun vs H Q _ => ∃ (r : Addr) (x : Str) (p : Nat) (a : Nat) (ts : List Tr) (n : Int) (post : List Nat), vs = [.ref r, .int a] ∧ RdAt R H r x p ∧ Here x p (ttx (d + 1) (.gr ts n)) post ∧ okT (d + 1) (.gr ts n) ∧ a + d + 1 ≤ 4 ∧ Not isF post ∧ x.length ≤ 1000 ∧
    ∀ y H', H y = none → NewT C G (d + 1) H H' y (.gr ts n) → RdAt R H' r x (p + (ttx (d + 1) (.gr ts n)).length) → Kept r H H' → Q (.ref y) H'
def spRParts (C G R : Addr) (d : Nat) : Sp := fun vs H Q _ => ∃ (r : Addr) (x : Str) (p : Nat) (a : Nat) (ts : List Tr) (post : List Nat), vs = [.ref r, .int a] ∧ RdAt R H r x p ∧ Here x p (ts.flatMap (ttx d)) post ∧ ts ≠ [] ∧ (∀ t ∈ ts, okT d t) ∧ a + d ≤ 4 ∧ Stop post ∧ x.length ≤ 1000 ∧
  ∀ l H', NewTs C G d H H' l ts → RdAt R H' r x (p + (ts.flatMap (ttx d)).length) → Kept r H H' → Q (.ref l) H'
structure TxtT (K : PySem.W.Frag) (mg : Str → Option Value) (C R G : Addr) (uK uN uB uE uM : Tok) : Prop extends TxtR K mg C R uK uN where
  c_Group : Cls K G
  na_gparts : NoAttr K G "parts"
  na_gcount : NoAttr K G "count"
  g_Group : mg "Group" = some (.ref G)
  g_GROUP_BEGIN : mg "GROUP_BEGIN" = some (.str "(" uB)
  g_GROUP_END : mg "GROUP_END" = some (.str ")" uE)
  g_MOST_GROUPS_AROUND : mg "MOST_GROUPS_AROUND" = some (.int 3 uM)
theorem e40 : ("(" : Str) = ⟨#[40]⟩ := by decide +kernel
theorem e41 : (")" : Str) = ⟨#[41]⟩ := by decide +kernel
theorem ttx_ne {d : Nat} {t : Tr} (h : okT d t) : ∃ c r, ttx d t = c :: r ∧ ((isG c = true ∧ ∃ k n, t = .one k n) ∨ (c = 40 ∧ ∃ ts n, t = .gr ts n)) := by
  cases t with
  | one k n =>
    have h : okK k ∧ 1 ≤ n ∧ n ≤ 999 := by cases d <;> exact h
    obtain ⟨⟨c, r, rfl, hc, _⟩, _⟩ := h
    have e : ttx d (.one (c :: r) n) = c :: (r ++ figL n) := by cases d <;> rfl
    exact ⟨c, _, e, .inl ⟨hc, _, _, rfl⟩⟩
  | gr ts n =>
    cases d with
    | zero => exact h.elim
    | succ d => exact ⟨40, _, rfl, .inr ⟨rfl, _, _, rfl⟩⟩
theorem scRPart : FnScope ["self", "around"] ["self", "around"] (defScope sRPart) := ⟨rfl, rfl, rfl, by decide +kernel, rfl, by decide +kernel, by decide +kernel⟩
theorem ok_rpart (d : Nat) (D : DefM K R "read_part" "Reader.read_part" sRPart ["self", "around"]) (T : TxtT K mg C R G uK uN uB uE uM) (c1 : CalME P w K mg base 1 R "sign" ["self"] (spSign R)) (c2 : CalME P w K mg base 4 R "read_atom" ["self"] (spRAtom C R)) (c3 : CalME P w K mg base (3 * d + 4) R "read_group" ["self", "around"] (spRGroup C G R d)) :
    CalME P w K mg base (3 * d + 5) R "read_part" ["self", "around"] (spRPart C G R d) := by
  obtain ⟨_, _, c_Reader_sign⟩ := c1
  obtain ⟨_, _, c_Reader_read_atom⟩ := c2
  obtain ⟨_, _, c_Reader_read_group⟩ := c3
  refine D.cal scRPart (fun vs H Q E h => ?_) (fun f cdv A outer s H vs Q E hr h => ?_)
  · obtain ⟨r, x, p, a, t, post, rfl, _⟩ := h
    rfl
  · obtain ⟨r, x, p, a, t, post, rfl, ⟨dx, hR⟩, hh, ok, ha, hnf, hns, hx, q⟩ := h
    refine ⟨_, (pss_cons
          (ps_if (PW.pt (pw_and (pt_cmpR op_eq (pe_meth0 (pv 0) T.c_Reader c_Reader_sign.m c_Reader_sign.ok (hr.mono (by omega)) c_Reader_sign.b .nil pass0) (pe_glob (v := .str "(") rfl T.g_GROUP_BEGIN ⟨_, rfl⟩) (nomark _)) (pw_and1 (pt_cmpR op_le (pv 1) (pe_glob (v := .int 3) rfl T.g_MOST_GROUPS_AROUND ⟨_, rfl⟩) (nomark _)))))
            (pss_one
              (ps_ret (pe_meth (pv 0) T.c_Reader c_Reader_read_group.m c_Reader_read_group.ok (hr.mono (by omega)) c_Reader_read_group.b .nil pass0 (pa_cons (pv 1) pa_nil))))
            pss_nil)
        (pss_one
          (ps_ret (pe_meth0 (pv 0) T.c_Reader c_Reader_read_atom.m c_Reader_read_atom.ok (hr.mono (by omega)) c_Reader_read_atom.b .nil pass0)))), ?_⟩
    obtain ⟨c, rest, hc, ht⟩ := ttx_ne ok
    have hsg : sgAt x p = ⟨#[c]⟩ := Here.sg (t := rest) (hc ▸ hh)
    refine ⟨_, rfl, r, dx, _, rfl, hR, rflds_no _ _ (by decide +kernel) (by decide +kernel), r, x, p, rfl, ⟨dx, hR⟩, hh.1, hx, rfl, _, rfl, ?_⟩
    rcases ht with ⟨hg, k, n, rfl⟩ | ⟨rfl, ts, n, rfl⟩
    · have ne : ¬ V.str (sgAt x p) = V.str "(" := by
        rw [hsg, e40]
        intro z
        have z : (⟨#[c]⟩ : Str) = ⟨#[40]⟩ := by injection z
        have : c = 40 := by have := congrArg (fun s : Str => s.cps.toList) z; simpa using this
        subst this
        simp [isG] at hg
      refine iteN ne ?_
      have ok' : okK k ∧ 1 ≤ n ∧ n ≤ 999 := by cases d <;> exact ok
      have et : ttx d (.one k n) = k ++ figL n := by cases d <;> rfl
      rw [et] at hh q
      refine ⟨_, rfl, r, dx, _, rfl, hR, rflds_no _ _ (by decide +kernel) (by decide +kernel), r, x, p, k, n, post, rfl, ⟨dx, hR⟩, hh, ok'.1, ok'.2.1, ok'.2.2, hnf, hns, hx, fun y H' ny hA hR' kp => q y H' ny (fun H'' ke => ?_) hR' kp⟩
      obtain ⟨dy, hA⟩ := hA
      have e : TreeAt C G d H'' y (.one k n) = AtomAt C H'' y ⟨k.toArray⟩ n := by cases d <;> rfl
      rw [e]
      exact ⟨dy, ke _ _ ny hA⟩
    · cases d with
      | zero => exact ok.elim
      | succ d =>
        refine iteP (by rw [hsg, e40]) ?_
        refine ⟨_, rfl, _, _, rfl, rfl, _, rfl, iteP (by omega) ?_⟩
        exact ⟨_, rfl, r, dx, _, rfl, hR, rflds_no _ _ (by decide +kernel) (by decide +kernel), _, rfl, r, x, p, a, ts, n, post, rfl, ⟨dx, hR⟩, hh, ok, by omega, hnf, hx, q⟩
def spGInit (X : Addr) : Sp := fun vs H Q _ => ∃ (p dx l : Addr) (c : Int) (xs : List V), vs = [.ref p, .ref l, .int c] ∧ H p = some (.ins X dx []) ∧ H l = some (.lst xs) ∧
  ∀ n H', H n = none → H' p = some (.ins X dx (gflds n c)) → H' n = some (.lst xs) → (∀ b o, H b = some o → b ≠ p → H' b = some o) → Q .non H'
theorem upd2_none {H : Hp} {a b m : Addr} {o o' : HO} (h : (upd (upd H a o) b o') m = none) : H m = none := by
  by_cases e : m = b
  · rw [e, upd_same] at h; cases h
  · rw [upd_ne e] at h
    by_cases e' : m = a
    · rw [e', upd_same] at h; cases h
    · rwa [upd_ne e'] at h
theorem stop41 (l : List Nat) : Stop (41 :: l) := by
  refine ⟨?_, ?_, ?_, ?_⟩ <;> (intro c hc; have e : 41 = c := by simpa using hc) <;> subst e <;> decide
theorem scRGroup : FnScope ["self", "around", "parts"] ["self", "around"] (defScope sRGroup) := ⟨rfl, rfl, rfl, by decide +kernel, rfl, by decide +kernel, by decide +kernel⟩
theorem ok_rgroup0 (D : DefM K R "read_group" "Reader.read_group" sRGroup ["self", "around"]) : CalME P w K mg base 4 R "read_group" ["self", "around"] (spRGroup C G R 0) :=
  D.cal (k := 3) scRGroup (fun vs H Q E h => h.elim) (fun f cdv A outer s H vs Q E hr h => h.elim)
theorem ok_rgroup (d : Nat) (D : DefM K R "read_group" "Reader.read_group" sRGroup ["self", "around"]) (T : TxtT K mg C R G uK uN uB uE uM) (c1 : CalME P w K mg base 2 R "take" ["self", "sign"] (spTake R)) (c2 : CalME P w K mg base 3 R "read_count" ["self"] (spRCount R)) (c3 : CalME P w K mg base (3 * d + 6) R "read_parts" ["self", "around"] (spRParts C G R d))
    (c4 : CalIE P w K mg base 1 G ["self", "parts", "count"] [1] (spGInit G)) : CalME P w K mg base (3 * d + 7) R "read_group" ["self", "around"] (spRGroup C G R (d + 1)) := by
  obtain ⟨_, _, c_Reader_take⟩ := c1
  obtain ⟨_, _, c_Reader_read_count⟩ := c2
  obtain ⟨_, _, c_Reader_read_parts⟩ := c3
  obtain ⟨_, _, c_Group⟩ := c4
  obtain ⟨_, v_Group_0, b_Group_0⟩ := c_Group.b 1 (by decide)
  refine D.cal scRGroup (fun vs H Q E h => ?_) (fun f cdv A outer s H vs Q E hr h => ?_)
  · obtain ⟨r, x, p, a, ts, n, post, rfl, _⟩ := h
    rfl
  · obtain ⟨r, x, p, a, ts, n, post, rfl, ⟨dx, hR⟩, hh, ⟨hne, hok, n1, n2⟩, ha, hnf, hx, q⟩ := h
    refine ⟨_, (pss_cons
          (ps_expr (pe_meth (pv 0) T.c_Reader c_Reader_take.m c_Reader_take.ok (hr.mono (by omega)) c_Reader_take.b .nil pass0 (pa_cons (pe_glob (v := .str "(") rfl T.g_GROUP_BEGIN ⟨_, rfl⟩) pa_nil)))
        (pss_cons
          (ps_set (i := 2) scRGroup.nd rfl (Or.inl rfl) (pe_meth (pv 0) T.c_Reader c_Reader_read_parts.m c_Reader_read_parts.ok (hr.mono (by omega)) c_Reader_read_parts.b .nil pass0 (pa_cons (pe_op op_add (pv 1) pe_int) pa_nil)))
        (pss_cons
          (ps_expr (pe_meth (pv 0) T.c_Reader c_Reader_take.m c_Reader_take.ok (hr.mono (by omega)) c_Reader_take.b .nil pass0 (pa_cons (pe_glob (v := .str ")") rfl T.g_GROUP_END ⟨_, rfl⟩) pa_nil)))
        (pss_one
          (ps_ret (pe_make c_Group.m c_Group.ok (hr.mono (by omega)) rfl T.g_Group b_Group_0 v_Group_0 pass0 (pa_cons (pv 2) (pa_cons (pe_meth0 (pv 0) T.c_Reader c_Reader_read_count.m c_Reader_read_count.ok (hr.mono (by omega)) c_Reader_read_count.b .nil pass0) pa_nil)))))))), ?_⟩
    have hh0 : Here x p (40 :: (ts.flatMap (ttx d) ++ 41 :: figL n)) post := hh
    have hh1 : Here x (p + 1) (ts.flatMap (ttx d) ++ 41 :: figL n) post := Here.on (t := [40]) hh0
    have hh2 : Here x (p + 1) (ts.flatMap (ttx d)) (41 :: (figL n ++ post)) := ⟨hh1.1, by rw [hh1.2, List.append_assoc]; rfl⟩
    have hh3 : Here x (p + 1 + (ts.flatMap (ttx d)).length) (41 :: figL n) post := Here.on (t := ts.flatMap (ttx d)) hh1
    have hh4 : Here x (p + 1 + (ts.flatMap (ttx d)).length + 1) (figL n) post := Here.on (t := [41]) hh3
    refine ⟨_, rfl, r, dx, _, rfl, hR, rflds_no _ _ (by decide +kernel) (by decide +kernel), r, x, p, _, 40, _, post, rfl, e40, ⟨dx, hR⟩, hh0, hx, fun H1 hR1 k1 => ?_⟩
    obtain ⟨dx1, hR1⟩ := hR1
    refine ⟨_, rfl, r, dx1, _, rfl, hR1, rflds_no _ _ (by decide +kernel) (by decide +kernel), _, rfl, _, _, rfl, rfl, r, x, p + 1, a + 1, ts, _, rfl, ⟨dx1, hR1⟩, hh2, hne, hok, by omega, stop41 _, hx, fun l H2 hN hR2 k2 => ?_⟩
    obtain ⟨dx2, hR2⟩ := hR2
    obtain ⟨hl1, ps, hl2, hps⟩ := hN
    refine ⟨_, rfl, r, dx2, _, rfl, hR2, rflds_no _ _ (by decide +kernel) (by decide +kernel), r, x, p + 1 + (ts.flatMap (ttx d)).length, _, 41, _, post, rfl, e41, ⟨dx2, hR2⟩, hh3, hx, fun H3 hR3 k3 => ?_⟩
    obtain ⟨dx3, hR3⟩ := hR3
    refine ⟨_, rfl, _, rfl, r, dx3, _, rfl, hR3, rflds_no _ _ (by decide +kernel) (by decide +kernel), r, x, _, n, post, rfl, ⟨dx3, hR3⟩, hh4, n1, n2, hnf, hx, fun H4 hR4 k4 => ?_⟩
    obtain ⟨dx4, hR4⟩ := hR4
    have nlr : l ≠ r := fun z => by rw [z, hR1] at hl1; cases hl1
    have hl4 := k4 _ _ (k3 _ _ hl2 nlr) nlr
    refine fun g dg ng ndg neg => ⟨g, dg, l, n, ps.map V.ref, rfl, upd_same, ?_, fun m H5 hm hg hgm kp => ⟨rfl, ?_⟩⟩
    · rw [upd_ne (ne_of_none hl4 ng), upd_ne (ne_of_none hl4 ndg)]; exact hl4
    have s5 : Same H4 H5 := fun b o z => kp b o (by rw [upd_ne (ne_of_none z ng), upd_ne (ne_of_none z ndg)]; exact z) (ne_of_none z ng)
    have kf : Kept r H H4 := ((k1.trans k2).trans k3).trans k4
    refine q g H5 (kept_none kf hR4 ng) (fun H'' ke => ?_) ⟨dx4, ?_⟩ (kf.trans (Kept.of s5))
    · refine ⟨dg, m, ps, ke _ _ (kept_none kf hR4 ng) hg, ke _ _ (kept_none kf hR4 (upd2_none hm)) hgm, hps H'' fun b o z1 z2 => ?_⟩
      have nbr : b ≠ r := fun z => by rw [z, hR1] at z1; cases z1
      exact ke _ _ (kept_none k1 hR1 z1) (s5 _ _ (k4 _ _ (k3 _ _ z2 nbr) nbr))
    · rw [s5 _ _ hR4]
      show some (HO.ins R dx4 (rflds x (p + 1 + (ts.flatMap (ttx d)).length + 1 + (figL n).length))) = some (HO.ins R dx4 (rflds x (p + (40 :: (ts.flatMap (ttx d) ++ 41 :: figL n)).length)))
      rw [List.length_cons, List.length_append, List.length_cons]
      rw [show p + 1 + (ts.flatMap (ttx d)).length + 1 + (figL n).length = p + ((ts.flatMap (ttx d)).length + ((figL n).length + 1) + 1) by omega]
theorem flat_len {d : Nat} : ∀ {ts : List Tr}, (∀ t ∈ ts, okT d t) → ts.length ≤ (ts.flatMap (ttx d)).length
  | [], _ => Nat.le_refl _
  | t :: ts, h => by
    obtain ⟨c, r, e, _⟩ := ttx_ne (h t (List.mem_cons_self ..))
    have := flat_len (d := d) (ts := ts) fun u hu => h u (List.mem_cons_of_mem _ hu)
    rw [List.flatMap_cons, List.length_append, e, List.length_cons, List.length_cons]
    omega
theorem list_at {α : Type} {l : List α} {i : Nat} (h : i < l.length) : l = l.take i ++ l[i] :: l.drop (i + 1) := by
  conv => lhs; rw [← List.take_append_drop i l]
  congr 1
  exact List.drop_eq_getElem_cons h
/-- what follows a part: another part, or what stops -/
theorem next_not {d : Nat} {ts : List Tr} {post : List Nat} (h : ∀ t ∈ ts, okT d t) (hs : Stop post) : Not isF (ts.flatMap (ttx d) ++ post) ∧ Not isS (ts.flatMap (ttx d) ++ post) := by
  cases ts with
  | nil => exact ⟨hs.1, hs.2.1⟩
  | cons t ts =>
    obtain ⟨c, r, e, hc⟩ := ttx_ne (h t (List.mem_cons_self ..))
    have hc : isG c = true ∨ c = 40 := hc.elim (fun z => .inl z.1) fun z => .inr z.1
    rw [List.flatMap_cons, e]
    refine ⟨fun b hb => ?_, fun b hb => ?_⟩ <;> have eb : c = b := by simpa using hb
    · subst eb
      rcases hc with hc | rfl
      · simp only [isG, isF, Bool.and_eq_true, decide_eq_true_eq] at *
        simp
        omega
      · decide
    · subst eb
      rcases hc with hc | rfl
      · simp only [isG, isS, Bool.and_eq_true, decide_eq_true_eq] at *
        simp
        omega
      · decide
theorem here_i {d : Nat} {x : Str} {p : Nat} {ts : List Tr} {post : List Nat} {i : Nat} (h : Here x p (ts.flatMap (ttx d)) post) (hi : i < ts.length) : Here x (p + ((ts.take i).flatMap (ttx d)).length) (ttx d ts[i]) ((ts.drop (i + 1)).flatMap (ttx d) ++ post) := by
  have e : ts.flatMap (ttx d) = (ts.take i).flatMap (ttx d) ++ (ttx d ts[i] ++ (ts.drop (i + 1)).flatMap (ttx d)) := by
    conv => lhs; rw [list_at hi]
    rw [List.flatMap_append, List.flatMap_cons]
  have h1 := Here.on (t := (ts.take i).flatMap (ttx d)) (e ▸ h)
  exact ⟨h1.1, by rw [h1.2, List.append_assoc]⟩
theorem flat_snoc {d : Nat} {ts : List Tr} {i : Nat} (hi : i < ts.length) : (ts.take (i + 1)).flatMap (ttx d) = (ts.take i).flatMap (ttx d) ++ ttx d ts[i] := by
  rw [List.take_add_one, List.getElem?_eq_getElem hi]
  show (ts.take i ++ [ts[i]]).flatMap (ttx d) = _
  rw [List.flatMap_append, List.flatMap_cons, List.flatMap_nil, List.append_nil]
theorem paired_imp {α β : Type} {p q : α → β → Prop} (h : ∀ a b, p a b → q a b) : ∀ {as : List α} {bs : List β}, Paired p as bs → Paired q as bs
  | _, _, .nil => .nil
  | _, _, .cons x t => .cons (h _ _ x) (paired_imp h t)
theorem paired_snoc {α β : Type} {p : α → β → Prop} {a : α} {b : β} (x : p a b) : ∀ {as : List α} {bs : List β}, Paired p as bs → Paired p (as ++ [a]) (bs ++ [b])
  | _, _, .nil => .cons x .nil
  | _, _, .cons y t => .cons y (paired_snoc x t)
theorem scRParts : FnScope ["self", "around", "parts"] ["self", "around"] (defScope sRParts) := ⟨rfl, rfl, rfl, by decide +kernel, rfl, by decide +kernel, by decide +kernel⟩
theorem ok_rparts (d : Nat) (D : DefM K R "read_parts" "Reader.read_parts" sRParts ["self", "around"]) (T : TxtT K mg C R G uK uN uB uE uM) (c1 : CalME P w K mg base 1 R "sign" ["self"] (spSign R)) (c2 : CalE P w K mg base 1 "is_great" ["sign"] (spR 65 90)) (c3 : CalME P w K mg base (3 * d + 5) R "read_part" ["self", "around"] (spRPart C G R d)) :
    CalME P w K mg base (3 * d + 6) R "read_parts" ["self", "around"] (spRParts C G R d) := by
  obtain ⟨_, _, c_Reader_sign⟩ := c1
  obtain ⟨_, _, c_is_great⟩ := c2
  obtain ⟨_, _, c_Reader_read_part⟩ := c3
  refine D.cal scRParts (fun vs H Q E h => ?_) (fun f cdv A outer s H vs Q E hr h => ?_)
  · obtain ⟨r, x, p, a, ts, post, rfl, _⟩ := h
    rfl
  · obtain ⟨r, x, p, a, ts, post, rfl, ⟨dx, hR⟩, hh, hne, hok, ha, hst, hx, q⟩ := h
    have big : (2000 : Nat) ≤ sizeLine := by decide
    have hle := hh.le
    have hfl := flat_len hok
    have t0 : 0 < ts.length := List.length_pos_iff.mpr hne
    refine ⟨_, (pss_cons
          (ps_set (i := 2) scRParts.nd rfl (Or.inl rfl) (pe_lst (pa_cons (pe_meth (pv 0) T.c_Reader c_Reader_read_part.m c_Reader_read_part.ok (hr.mono (by omega)) c_Reader_read_part.b .nil pass0 (pa_cons (pv 1) pa_nil)) pa_nil)))
        (pss_cons
          (ps_while PassesOwn.never (PW.pt (pw_or (pt_val (pe_call c_is_great.ok (hr.mono (by omega)) rfl c_is_great.g c_is_great.kp c_is_great.b .nil pass0 (pa_cons (pe_meth0 (pv 0) T.c_Reader c_Reader_sign.m c_Reader_sign.ok (hr.mono (by omega)) c_Reader_sign.b .nil pass0) pa_nil))) (pw_or1 (pt_cmpR op_eq (pe_meth0 (pv 0) T.c_Reader c_Reader_sign.m c_Reader_sign.ok (hr.mono (by omega)) c_Reader_sign.b .nil pass0) (pe_glob (v := .str "(") rfl T.g_GROUP_BEGIN ⟨_, rfl⟩) (nomark _)))))
            (pss_one
              (ps_expr (pe_bm PySem.F.plainAttrs_list PySem.F.slot_list_append PySem.F.type_list_append mt_append (pv 2) (pa_cons (pe_meth (pv 0) T.c_Reader c_Reader_read_part.m c_Reader_read_part.ok (hr.mono (by omega)) c_Reader_read_part.b .nil pass0 (pa_cons (pv 1) pa_nil)) pa_nil)))))
        (pss_one
          (ps_ret (pv 2))))), ?_⟩
    have hdr : ∀ i, ∀ t ∈ ts.drop i, okT d t := fun i t ht => hok t (List.mem_of_mem_drop ht)
    have h0 : Here x p (ttx d ts[0]) ((ts.drop (0 + 1)).flatMap (ttx d) ++ post) := here_i hh t0
    have n0 := next_not (hdr (0 + 1)) hst
    refine ⟨_, rfl, r, dx, _, rfl, hR, rflds_no _ _ (by decide +kernel) (by decide +kernel), _, rfl, r, x, p, a, ts[0], _, rfl, ⟨dx, hR⟩, h0, hok _ (List.getElem_mem t0), ha, n0.1, n0.2, hx, fun y H1 ny hN hR1 k1 => ⟨(by show 1 ≤ sizeLine; decide), fun L hL => ?_⟩⟩
    obtain ⟨dx1, hR1⟩ := hR1
    have hL0 : H L = none := kept_none k1 hR1 hL
    have nLr : L ≠ r := fun z => by rw [z, hR1] at hL; cases hL
    refine ⟨fun m σ H' => ∃ i : Nat, m + i = ts.length ∧ σ = [some (.ref r), some (.int a), some (.ref L)] ∧ RdAt R H' r x (p + ((ts.take i).flatMap (ttx d)).length) ∧ Kept r H H' ∧ ∃ ps, H' L = some (.lst (ps.map V.ref)) ∧ ps.length = i ∧ Paired (NewL C G L d H H') ps (ts.take i), ⟨ts.length - 1, 1, by omega, rfl, ?_, ?_, [y], upd_same, rfl, ?_⟩, ?_⟩
    · refine ⟨dx1, ?_⟩
      rw [upd_ne (Ne.symm nLr), hR1]
      have := flat_snoc (d := d) t0
      rw [this]
      rfl
    · exact k1.trans (Kept.of (Same.new hL))
    · rw [show ts.take 1 = [ts[0]] by
        have := @List.take_add_one _ ts 0
        rw [this, List.getElem?_eq_getElem t0]; rfl]
      refine .cons (fun H'' ke => hN H'' fun b o z1 z2 => ?_) .nil
      have nbL : b ≠ L := ne_of_none z2 hL
      exact ke b o z1 nbL (by rw [upd_ne nbL]; exact z2)
    rintro m σ H' ⟨i, hm, rfl, ⟨dx', hR'⟩, kk, ps, hL', hpl, hP⟩
    have hpi : p + ((ts.take i).flatMap (ttx d)).length ≤ x.length := by
      have : ((ts.take i).flatMap (ttx d)).length ≤ (ts.flatMap (ttx d)).length := by
        conv => rhs; rw [← List.take_append_drop i ts, List.flatMap_append, List.length_append]
        omega
      omega
    refine ⟨_, rfl, r, dx', _, rfl, hR', rflds_no _ _ (by decide +kernel) (by decide +kernel), r, x, _, rfl, ⟨dx', hR'⟩, hpi, hx, _, rfl, sgAt_len _ _, _, rfl, ?_⟩
    by_cases hi : i < ts.length
    · have h2 := here_i hh hi
      have okt := hok _ (List.getElem_mem hi)
      obtain ⟨c, rest, hc, ht⟩ := ttx_ne okt
      have hsg : sgAt x (p + ((ts.take i).flatMap (ttx d)).length) = ⟨#[c]⟩ := Here.sg (t := rest) (hc ▸ h2)
      have nn := next_not (hdr (i + 1)) hst
      have hps : ps.length < sizeLine := by omega
      rcases ht with ⟨hg, _⟩ | ⟨hc40, _⟩
      case' inl =>
        have ev : inR 65 90 (sgAt x (p + ((ts.take i).flatMap (ttx d)).length)) = true := by
          rw [hsg, inR_one]
          exact hg
        rw [ev]
        refine iteT (iteT ?_)
      case' inr =>
        have ev : inR 65 90 (sgAt x (p + ((ts.take i).flatMap (ttx d)).length)) = false := by
          rw [hsg, inR_one, hc40]
          rfl
        rw [ev]
        refine iteF ⟨_, rfl, r, dx', _, rfl, hR', rflds_no _ _ (by decide +kernel) (by decide +kernel), r, x, _, rfl, ⟨dx', hR'⟩, hpi, hx, rfl, _, rfl, iteP (by rw [hsg, e40, hc40]) ?_⟩
      all_goals
        refine ⟨_, fun σ' H'' h => ⟨m - 1, by omega, h⟩, ?_⟩
        refine ⟨_, rfl, .inl ⟨rfl, _, SqL.of hL'⟩, _, rfl, r, dx', _, rfl, hR', rflds_no _ _ (by decide +kernel) (by decide +kernel), _, rfl, r, x, _, a, ts[i], _, rfl, ⟨dx', hR'⟩, h2, okt, ha, nn.1, nn.2, hx, fun y H2 ny hN hR2 k2 => ?_⟩
        obtain ⟨dx2, hR2⟩ := hR2
        have hL2 := k2 _ _ hL' nLr
        refine ⟨L, _, _, rfl, rfl, hL2, by rw [List.length_map]; exact hps, i + 1, by omega, rfl, ⟨dx2, ?_⟩, fun b o z w => ?_, ps ++ [y], by rw [upd_same, List.map_append]; rfl, by rw [List.length_append, hpl]; rfl, ?_⟩
        · rw [upd_ne (Ne.symm nLr), hR2, flat_snoc hi, List.length_append, Nat.add_assoc]
        · rw [upd_ne (ne_of_none z hL0)]
          exact k2 _ _ (kk _ _ z w) w
        · rw [List.take_add_one, List.getElem?_eq_getElem hi]
          refine paired_snoc (fun H'' ke => hN H'' fun b o z1 z2 => ?_) (paired_imp (fun c t h H'' ke => h H'' fun b o z1 z2 z3 => ke b o z1 z2 ?_) hP)
          · have nbL : b ≠ L := fun z => by rw [z, hL'] at z1; cases z1
            exact ke b o (kept_none kk hR' z1) nbL (by rw [upd_ne nbL]; exact z2)
          · have nbr : b ≠ r := fun z => by rw [z, hR] at z1; cases z1
            rw [upd_ne z2]
            exact k2 _ _ z3 nbr
    · have ei : i = ts.length := by omega
      rw [ei, List.take_length] at hR' hP hpi ⊢
      have h3 : Here x (p + (ts.flatMap (ttx d)).length) [] post := Here.on (t := ts.flatMap (ttx d)) (u := []) (by rw [List.append_nil]; exact hh)
      have ev : inR 65 90 (sgAt x (p + (ts.flatMap (ttx d)).length)) = false := by
        rw [h3.sg0]
        exact inR_not hst.2.2.1
      rw [ev]
      have ne : ¬ V.str (sgAt x (p + (ts.flatMap (ttx d)).length)) = V.str "(" := by
        rw [h3.sg0, e40]
        intro z
        have z : (⟨(post.take 1).toArray⟩ : Str) = ⟨#[40]⟩ := by injection z
        cases post with
        | nil => have := congrArg (fun s : Str => s.cps.toList) z; simp at this
        | cons c _ =>
          have e : c = 40 := by have := congrArg (fun s : Str => s.cps.toList) z; simpa using this
          have := hst.2.2.2 c rfl
          simp [e] at this
      refine iteF ⟨_, rfl, r, dx', _, rfl, hR', rflds_no _ _ (by decide +kernel) (by decide +kernel), r, x, _, rfl, ⟨dx', hR'⟩, hpi, hx, rfl, _, rfl, iteN ne ?_⟩
      exact ⟨_, rfl, q L H' ⟨hL0, ps, hL', fun H'' ke => paired_imp (fun c t h => h H'' fun b o z1 _ z3 => ke b o z1 z3) hP⟩ ⟨dx', hR'⟩ kk⟩
theorem ok_trees (D1 : DefM K R "read_group" "Reader.read_group" sRGroup ["self", "around"]) (D2 : DefM K R "read_part" "Reader.read_part" sRPart ["self", "around"]) (D3 : DefM K R "read_parts" "Reader.read_parts" sRParts ["self", "around"]) (T : TxtT K mg C R G uK uN uB uE uM)
    (c1 : CalME P w K mg base 1 R "sign" ["self"] (spSign R)) (c2 : CalE P w K mg base 1 "is_great" ["sign"] (spR 65 90)) (c3 : CalME P w K mg base 4 R "read_atom" ["self"] (spRAtom C R)) (c4 : CalME P w K mg base 2 R "take" ["self", "sign"] (spTake R)) (c5 : CalME P w K mg base 3 R "read_count" ["self"] (spRCount R))
    (c6 : CalIE P w K mg base 1 G ["self", "parts", "count"] [1] (spGInit G)) : ∀ d : Nat, CalME P w K mg base (3 * d + 6) R "read_parts" ["self", "around"] (spRParts C G R d)
  | 0 => ok_rparts 0 D3 T c1 c2 (ok_rpart 0 D2 T c1 c3 (ok_rgroup0 D1))
  | d + 1 => ok_rparts (d + 1) D3 T c1 c2 (ok_rpart (d + 1) D2 T c1 c3 (by rw [show 3 * (d + 1) + 4 = 3 * d + 7 by omega]; exact ok_rgroup d D1 T c4 c5 (ok_trees D1 D2 D3 T c1 c2 c3 c4 c5 c6 d) c6))
/-- the charge's text, which ends a formula's -/
def chL (n : Int) : List Nat := if n = 0 then [] else 94 :: (figL (if n < 0 then -n else n) ++ [if 0 < n then 43 else 45])
/-- behind a formula: a blank, or nothing -/
def Enp (post : List Nat) : Prop := post = [] ∨ ∃ r, post = 32 :: r
theorem Enp.ne {post : List Nat} (h : Enp post) {c : Nat} (hc : c ≠ 32) : ¬ V.str (⟨(post.take 1).toArray⟩ : Str) = V.str (⟨#[c]⟩ : Str) := by
  intro z
  have z : (⟨(post.take 1).toArray⟩ : Str) = ⟨#[c]⟩ := by injection z
  have z := congrArg (fun s : Str => s.cps.toList) z
  rcases h with rfl | ⟨r, rfl⟩
  · simp at z
  · have e : 32 = c := by simpa using z
    exact hc e.symm
theorem Enp.stop {post : List Nat} (h : Enp post) : Stop post := by
  rcases h with rfl | ⟨r, rfl⟩
  · refine ⟨?_, ?_, ?_, ?_⟩ <;> (intro c hc; cases hc)
  · refine ⟨?_, ?_, ?_, ?_⟩ <;> (intro c hc; have e : 32 = c := by simpa using hc) <;> subst e <;> decide
def spRCharge (R : Addr) : Sp := fun vs H Q _ => ∃ (r : Addr) (x : Str) (p : Nat) (n : Int) (post : List Nat), vs = [.ref r] ∧ RdAt R H r x p ∧ Here x p (chL n) post ∧ Enp post ∧ -999 ≤ n ∧ n ≤ 999 ∧ x.length ≤ 1000 ∧ ∀ H', RdAt R H' r x (p + (chL n).length) → Kept r H H' → Q (.int n) H'
structure TxtC (K : PySem.W.Frag) (mg : Str → Option Value) (C R : Addr) (uK uN uC uP uI : Tok) : Prop extends TxtR K mg C R uK uN where
  g_CHARGE_MARK : mg "CHARGE_MARK" = some (.str "^" uC)
  g_PLUS : mg "PLUS" = some (.str "+" uP)
  g_MINUS : mg "MINUS" = some (.str "-" uI)
theorem e94 : ("^" : Str) = ⟨#[94]⟩ := by decide +kernel
theorem e43 : ("+" : Str) = ⟨#[43]⟩ := by decide +kernel
theorem e45 : ("-" : Str) = ⟨#[45]⟩ := by decide +kernel
theorem str1_ne {c b : Nat} (h : c ≠ b) : ¬ V.str (⟨#[c]⟩ : Str) = V.str (⟨#[b]⟩ : Str) := by
  intro z
  have z : (⟨#[c]⟩ : Str) = ⟨#[b]⟩ := by injection z
  exact h (by have := congrArg (fun s : Str => s.cps.toList) z; simpa using this)
theorem scRCharge : FnScope ["self", "count"] ["self"] (defScope sRCharge) := ⟨rfl, rfl, rfl, by decide +kernel, rfl, by decide +kernel, by decide +kernel⟩
theorem ok_rcharge {uC uP uI : Tok} (D : DefM K R "read_charge" "Reader.read_charge" sRCharge ["self"]) (T : TxtC K mg C R uK uN uC uP uI) (c1 : CalME P w K mg base 1 R "sign" ["self"] (spSign R)) (c2 : CalME P w K mg base 2 R "take" ["self", "sign"] (spTake R)) (c3 : CalME P w K mg base 3 R "read_count" ["self"] (spRCount R)) :
    CalME P w K mg base 4 R "read_charge" ["self"] (spRCharge R) := by
  obtain ⟨_, _, c_Reader_sign⟩ := c1
  obtain ⟨_, _, c_Reader_take⟩ := c2
  obtain ⟨_, _, c_Reader_read_count⟩ := c3
  refine D.cal scRCharge (fun vs H Q E h => ?_) (fun f cdv A outer s H vs Q E hr h => ?_)
  · obtain ⟨r, x, p, n, post, rfl, _⟩ := h
    rfl
  · obtain ⟨r, x, p, n, post, rfl, ⟨dx, hR⟩, hh, hpo, n1, n2, hx, q⟩ := h
    refine ⟨_, (pss_cons
          (ps_if (pt_cmpR op_ne (pe_meth0 (pv 0) T.c_Reader c_Reader_sign.m c_Reader_sign.ok (hr.mono (by decide)) c_Reader_sign.b .nil pass0) (pe_glob (v := .str "^") rfl T.g_CHARGE_MARK ⟨_, rfl⟩) (nomark _))
            (pss_one
              (ps_ret pe_int))
            pss_nil)
        (pss_cons
          (ps_expr (pe_meth (pv 0) T.c_Reader c_Reader_take.m c_Reader_take.ok (hr.mono (by decide)) c_Reader_take.b .nil pass0 (pa_cons (pe_glob (v := .str "^") rfl T.g_CHARGE_MARK ⟨_, rfl⟩) pa_nil)))
        (pss_cons
          (ps_set (i := 1) scRCharge.nd rfl (Or.inl rfl) (pe_meth0 (pv 0) T.c_Reader c_Reader_read_count.m c_Reader_read_count.ok (hr.mono (by decide)) c_Reader_read_count.b .nil pass0))
        (pss_cons
          (ps_if (pt_cmpR op_eq (pe_meth0 (pv 0) T.c_Reader c_Reader_sign.m c_Reader_sign.ok (hr.mono (by decide)) c_Reader_sign.b .nil pass0) (pe_glob (v := .str "-") rfl T.g_MINUS ⟨_, rfl⟩) (nomark _))
            (pss_cons
              (ps_expr (pe_meth (pv 0) T.c_Reader c_Reader_take.m c_Reader_take.ok (hr.mono (by decide)) c_Reader_take.b .nil pass0 (pa_cons (pe_glob (v := .str "-") rfl T.g_MINUS ⟨_, rfl⟩) pa_nil)))
            (pss_one
              (ps_ret (pe_un un_neg (pv 1)))))
            pss_nil)
        (pss_cons
          (ps_expr (pe_meth (pv 0) T.c_Reader c_Reader_take.m c_Reader_take.ok (hr.mono (by decide)) c_Reader_take.b .nil pass0 (pa_cons (pe_glob (v := .str "+") rfl T.g_PLUS ⟨_, rfl⟩) pa_nil)))
        (pss_one
          (ps_ret (pv 1)))))))), ?_⟩
    refine ⟨_, rfl, r, dx, _, rfl, hR, rflds_no _ _ (by decide +kernel) (by decide +kernel), r, x, p, rfl, ⟨dx, hR⟩, hh.1, hx, rfl, _, rfl, ?_⟩
    by_cases h0 : n = 0
    · subst h0
      have hh : Here x p [] post := hh
      have ne : ¬ V.str (sgAt x p) = V.str "^" := by
        rw [hh.sg0, e94]
        exact hpo.ne (by decide)
      rw [decide_eq_false ne]
      exact iteT (q H ⟨dx, hR⟩ (Kept.refl r H))
    · have ec : chL n = 94 :: (figL (if n < 0 then -n else n) ++ [if 0 < n then 43 else 45]) := by unfold chL; rw [if_neg h0]
      rw [ec] at hh q
      have a1 : 1 ≤ (if n < 0 then -n else n) := by split <;> omega
      have a2 : (if n < 0 then -n else n) ≤ 999 := by split <;> omega
      have eq : V.str (sgAt x p) = V.str "^" := by rw [hh.sg, e94]
      rw [decide_eq_true eq]
      refine iteF ?_
      have hh1 : Here x (p + 1) (figL (if n < 0 then -n else n) ++ [if 0 < n then 43 else 45]) post := Here.on (t := [94]) hh
      have hh2 : Here x (p + 1) (figL (if n < 0 then -n else n)) ((if 0 < n then 43 else 45) :: post) := ⟨hh1.1, by rw [hh1.2, List.append_assoc]; rfl⟩
      have hh3 : Here x (p + 1 + (figL (if n < 0 then -n else n)).length) [if 0 < n then 43 else 45] post := Here.on hh1
      refine ⟨_, rfl, r, dx, _, rfl, hR, rflds_no _ _ (by decide +kernel) (by decide +kernel), r, x, p, _, 94, _, post, rfl, e94, ⟨dx, hR⟩, hh, hx, fun H1 hR1 k1 => ?_⟩
      obtain ⟨dx1, hR1⟩ := hR1
      have nf : Not isF ((if 0 < n then 43 else 45) :: post) := by
        intro c hc
        have e : (if 0 < n then 43 else 45) = c := by simpa using hc
        rw [← e]
        split <;> rfl
      refine ⟨_, rfl, r, dx1, _, rfl, hR1, rflds_no _ _ (by decide +kernel) (by decide +kernel), r, x, p + 1, _, _, rfl, ⟨dx1, hR1⟩, hh2, a1, a2, nf, hx, fun H2 hR2 k2 => ?_⟩
      obtain ⟨dx2, hR2⟩ := hR2
      have kk := k1.trans k2
      refine ⟨_, rfl, r, dx2, _, rfl, hR2, rflds_no _ _ (by decide +kernel) (by decide +kernel), r, x, _, rfl, ⟨dx2, hR2⟩, hh3.1, hx, rfl, _, rfl, ?_⟩
      have el : p + 1 + (figL (if n < 0 then -n else n)).length + 1 = p + (94 :: (figL (if n < 0 then -n else n) ++ [if 0 < n then 43 else 45])).length := by
        rw [List.length_cons, List.length_append]
        simp
        omega
      by_cases hp : 0 < n
      · rw [if_pos hp] at hh3
        have ne : ¬ V.str (sgAt x (p + 1 + (figL (if n < 0 then -n else n)).length)) = V.str "-" := by
          rw [hh3.sg, e45]
          exact str1_ne (by decide)
        refine iteN ne ?_
        refine ⟨_, rfl, r, dx2, _, rfl, hR2, rflds_no _ _ (by decide +kernel) (by decide +kernel), r, x, _, _, 43, _, post, rfl, e43, ⟨dx2, hR2⟩, hh3, hx, fun H3 hR3 k3 => ?_⟩
        rw [el] at hR3
        have := q H3 hR3 (kk.trans k3)
        refine ⟨_, rfl, ?_⟩
        rw [if_neg (by omega)]
        exact this
      · rw [if_neg hp] at hh3
        refine iteP (by rw [hh3.sg, e45]) ?_
        refine ⟨_, rfl, r, dx2, _, rfl, hR2, rflds_no _ _ (by decide +kernel) (by decide +kernel), r, x, _, _, 45, _, post, rfl, e45, ⟨dx2, hR2⟩, hh3, hx, fun H3 hR3 k3 => ?_⟩
        rw [el] at hR3
        have := q H3 hR3 (kk.trans k3)
        have e2 : -(if n < 0 then -n else n) = n := by rw [if_pos (by omega), Int.neg_neg]
        rw [show V.int n = V.int (-(if n < 0 then -n else n)) from by rw [e2]] at this
        exact ⟨_, rfl, _, rfl, this⟩
theorem npch : ¬ (("pieces" : Str) = "charge") := by decide +kernel
def fflds (l : Addr) (n : Int) : List (Str × V) := putF "charge" (.int n) (putF "pieces" (.ref l) [])
theorem fflds_pieces (l : Addr) (n : Int) : (fflds l n).lookup ("pieces" : Str) = some (.ref l) := by
  unfold fflds
  rw [lookup_putF, if_neg npch, lookup_putF, if_pos rfl]
theorem fflds_charge (l : Addr) (n : Int) : (fflds l n).lookup ("charge" : Str) = some (.int n) := by
  unfold fflds
  rw [lookup_putF, if_pos rfl]
theorem fflds_no (l : Addr) (n : Int) {m : Str} (h1 : ¬ m = "charge") (h2 : ¬ m = "pieces") : (fflds l n).lookup m = none := by
  unfold fflds
  rw [lookup_putF, if_neg h1, lookup_putF, if_neg h2]
  all_goals rfl
def spFInit (X : Addr) : Sp := fun vs H Q _ => ∃ (p dx l : Addr) (c : Int) (xs : List V), vs = [.ref p, .ref l, .int c] ∧ H p = some (.ins X dx []) ∧ H l = some (.lst xs) ∧
  ∀ n H', H n = none → H' p = some (.ins X dx (fflds n c)) → H' n = some (.lst xs) → (∀ b o, H b = some o → b ≠ p → H' b = some o) → Q .non H'
abbrev PTr := Int × List Tr
def PieceT (C G Pc : Addr) (d : Nat) (H : Hp) (p : Addr) (x : PTr) : Prop := ∃ dx l ps, H p = some (.ins Pc dx (gflds l x.1)) ∧ H l = some (.lst (ps.map V.ref)) ∧ Paired (TreeAt C G d H) ps x.2
def FormT (C G Pc Fo : Addr) (d : Nat) (H : Hp) (f : Addr) (xs : List PTr) (n : Int) : Prop := ∃ dx l ps, H f = some (.ins Fo dx (fflds l n)) ∧ H l = some (.lst (ps.map V.ref)) ∧ Paired (PieceT C G Pc d H) ps xs
def NewP (C G Pc L : Addr) (d : Nat) (H H' : Hp) (p : Addr) (x : PTr) : Prop := ∀ H'', (∀ b o, H b = none → b ≠ L → H' b = some o → H'' b = some o) → PieceT C G Pc d H'' p x
def NewF (C G Pc Fo : Addr) (d : Nat) (H H' : Hp) (f : Addr) (xs : List PTr) (n : Int) : Prop := ∀ H'', (∀ b o, H b = none → H' b = some o → H'' b = some o) → FormT C G Pc Fo d H'' f xs n
def pcL (d : Nat) (x : PTr) : List Nat := figL x.1 ++ x.2.flatMap (ttx d)
def dotL (d : Nat) (xs : List PTr) : List Nat := xs.flatMap fun x => 46 :: pcL d x
def wL (d : Nat) : List PTr → Int → List Nat
  | [], _ => [101, 94, 45]
  | x :: r, n => x.2.flatMap (ttx d) ++ (dotL d r ++ chL n)
def okX (d : Nat) (x : PTr) : Prop := x.2 ≠ [] ∧ (∀ t ∈ x.2, okT d t) ∧ 1 ≤ x.1 ∧ x.1 ≤ 999
def okW (d : Nat) : List PTr → Int → Prop
  | [], n => n = -1
  | x :: r, n => x.1 = 1 ∧ (∀ y ∈ x :: r, okX d y) ∧ -999 ≤ n ∧ n ≤ 999
def spRElectron (C G Pc Fo R : Addr) (d : Nat) : Sp := fun vs H Q _ => ∃ (r : Addr) (x : Str) (p : Nat) (post : List Nat), vs = [.ref r] ∧ RdAt R H r x p ∧ Here x p [101, 94, 45] post ∧ x.length ≤ 1000 ∧ ∀ f H', H f = none → NewF C G Pc Fo d H H' f [] (-1) → RdAt R H' r x (p + 3) → Kept r H H' → Q (.ref f) H'
def spRWhole (C G Pc Fo R : Addr) (d : Nat) : Sp := fun vs H Q _ => ∃ (r : Addr) (x : Str) (p : Nat) (xs : List PTr) (n : Int) (post : List Nat), vs = [.ref r] ∧ RdAt R H r x p ∧ Here x p (wL d xs n) post ∧ Enp post ∧ okW d xs n ∧ d ≤ 4 ∧ x.length ≤ 1000 ∧
  ∀ f H', H f = none → NewF C G Pc Fo d H H' f xs n → RdAt R H' r x (p + (wL d xs n).length) → Kept r H H' → Q (.ref f) H'
structure TxtW (K : PySem.W.Frag) (mg : Str → Option Value) (C R G Pc Fo : Addr) (uK uN uB uE uM uC uP uI uD uL uT : Tok) : Prop extends TxtT K mg C R G uK uN uB uE uM, TxtC K mg C R uK uN uC uP uI where
  c_Piece : Cls K Pc
  c_Formula : Cls K Fo
  na_pparts : NoAttr K Pc "parts"
  na_pcount : NoAttr K Pc "count"
  na_fpieces : NoAttr K Fo "pieces"
  na_fcharge : NoAttr K Fo "charge"
  g_Piece : mg "Piece" = some (.ref Pc)
  g_Formula : mg "Formula" = some (.ref Fo)
  g_Reader : mg "Reader" = some (.ref R)
  g_PIECE_DOT : mg "PIECE_DOT" = some (.str "." uD)
  g_ELECTRON : mg "ELECTRON" = some (.str "e^-" uL)
  g_LONGEST_TEXT : mg "LONGEST_TEXT" = some (.int 400 uT)
  n_list : mg "list" = none
  n_abs : mg "abs" = none
theorem here_all {x : Str} {l : List Nat} (h : x.cps.toList = l) : Here x 0 l [] := ⟨Nat.zero_le _, by rw [List.drop_zero, h, List.append_nil]⟩
theorem scRElectron : FnScope ["self"] ["self"] (defScope sRElectron) := ⟨rfl, rfl, rfl, by decide +kernel, rfl, by decide +kernel, by decide +kernel⟩
variable {uC uP uI uD uL uT : Tok}
theorem ok_relectron (d : Nat) (D : DefM K R "read_electron" "Reader.read_electron" sRElectron ["self"]) (T : TxtW K mg C R G Pc Fo uK uN uB uE uM uC uP uI uD uL uT) (c1 : CalME P w K mg base 3 R "take_all" ["self", "signs"] (spTakeAll R)) (c2 : CalIE P w K mg base 1 Fo ["self", "pieces", "charge"] [0] (spFInit Fo)) :
    CalME P w K mg base 4 R "read_electron" ["self"] (spRElectron C G Pc Fo R d) := by
  obtain ⟨_, _, c_Reader_take_all⟩ := c1
  obtain ⟨_, _, c_Formula⟩ := c2
  obtain ⟨_, v_Formula_0, b_Formula_0⟩ := c_Formula.b 1 (by decide)
  refine D.cal scRElectron (fun vs H Q E h => ?_) (fun f cdv A outer s H vs Q E hr h => ?_)
  · obtain ⟨r, x, p, post, rfl, _⟩ := h
    rfl
  · obtain ⟨r, x, p, post, rfl, ⟨dx, hR⟩, hxl, hx, q⟩ := h
    refine ⟨_, (pss_cons
          (ps_expr (pe_meth (pv 0) T.c_Reader c_Reader_take_all.m c_Reader_take_all.ok (hr.mono (by decide)) c_Reader_take_all.b .nil pass0 (pa_cons (pe_glob (v := .str "e^-") rfl T.g_ELECTRON ⟨_, rfl⟩) pa_nil)))
        (pss_one
          (ps_ret (pe_make c_Formula.m c_Formula.ok (hr.mono (by decide)) rfl T.g_Formula b_Formula_0 v_Formula_0 pass0 (pa_cons (pe_lst pa_nil) (pa_cons (pe_un un_neg pe_int) pa_nil)))))), ?_⟩
    have ee : ("e^-" : Str).cps.toList = [101, 94, 45] := by decide +kernel
    have ea : ("e^-" : Str).cps.all (· < 128) = true := by decide +kernel
    have el : ("e^-" : Str).length = 3 := by decide +kernel
    refine ⟨_, rfl, r, dx, _, rfl, hR, rflds_no _ _ (by decide +kernel) (by decide +kernel), r, x, p, _, post, rfl, ea, ⟨dx, hR⟩, by rw [ee]; exact hxl, hx, fun H1 hR1 k1 => ?_⟩
    obtain ⟨dx1, hR1⟩ := hR1
    refine ⟨(by show 0 ≤ sizeLine; decide), fun l hl => ⟨1, rfl, fun g dg ng ndg neg => ⟨g, dg, l, -1, [], rfl, upd_same, ?_, fun m H5 hm hg hgm kp => ⟨rfl, ?_⟩⟩⟩⟩
    · rw [upd_ne (ne_of_none upd_same ng), upd_ne (ne_of_none upd_same ndg)]; exact upd_same
    have sl : Same H1 (upd H1 l (.lst [])) := Same.new hl
    have s5 : Same (upd H1 l (.lst [])) H5 := fun b o z => kp b o (by rw [upd_ne (ne_of_none z ng), upd_ne (ne_of_none z ndg)]; exact z) (ne_of_none z ng)
    have kf : Kept r H (upd H1 l (.lst [])) := k1.trans (Kept.of sl)
    have hRl := sl _ _ hR1
    refine q g H5 (kept_none kf hRl ng) (fun H'' ke => ⟨dg, m, [], ke _ _ (kept_none kf hRl ng) hg, ke _ _ (kept_none kf hRl (upd2_none hm)) hgm, .nil⟩) ⟨dx1, ?_⟩ (kf.trans (Kept.of s5))
    rw [s5 _ _ hRl, el]
variable {uC uP uI uD uL uT : Tok}
theorem here_fm {α : Type} (f : α → List Nat) {x : Str} {p : Nat} {ts : List α} {post : List Nat} {i : Nat} (h : Here x p (ts.flatMap f) post) (hi : i < ts.length) : Here x (p + ((ts.take i).flatMap f).length) (f ts[i]) ((ts.drop (i + 1)).flatMap f ++ post) := by
  have e : ts.flatMap f = (ts.take i).flatMap f ++ (f ts[i] ++ (ts.drop (i + 1)).flatMap f) := by
    conv => lhs; rw [list_at hi]
    rw [List.flatMap_append, List.flatMap_cons]
  have h1 := Here.on (t := (ts.take i).flatMap f) (e ▸ h)
  exact ⟨h1.1, by rw [h1.2, List.append_assoc]⟩
theorem fm_snoc {α : Type} (f : α → List Nat) {ts : List α} {i : Nat} (hi : i < ts.length) : (ts.take (i + 1)).flatMap f = (ts.take i).flatMap f ++ f ts[i] := by
  rw [List.take_add_one, List.getElem?_eq_getElem hi]
  show (ts.take i ++ [ts[i]]).flatMap f = _
  rw [List.flatMap_append, List.flatMap_cons, List.flatMap_nil, List.append_nil]
theorem ch_head (n : Int) : chL n = [] ∨ ∃ r, chL n = 94 :: r := by
  unfold chL
  split
  · exact .inl rfl
  · exact .inr ⟨_, rfl⟩
theorem stop_cons {c : Nat} {l : List Nat} (h : c = 46 ∨ c = 94) : Stop (c :: l) := by
  refine ⟨?_, ?_, ?_, ?_⟩ <;> (intro b hb; have e : c = b := by simpa using hb) <;> subst e <;> rcases h with rfl | rfl <;> decide
theorem stop_dots (d : Nat) (xs : List PTr) (n : Int) {post : List Nat} (hpo : Enp post) : Stop (dotL d xs ++ (chL n ++ post)) := by
  cases xs with
  | nil =>
    show Stop (chL n ++ post)
    rcases ch_head n with e | ⟨r, e⟩
    · rw [e]; exact hpo.stop
    · rw [e]; exact stop_cons (.inr rfl)
  | cons x r => exact stop_cons (.inl rfl)
theorem dot_len (d : Nat) : ∀ xs : List PTr, xs.length ≤ (dotL d xs).length
  | [] => Nat.le_refl _
  | y :: r => by
    have ih := dot_len d r
    show r.length + 1 ≤ (46 :: pcL d y ++ dotL d r).length
    rw [List.length_append, List.length_cons]
    omega
theorem e46 : ("." : Str) = ⟨#[46]⟩ := by decide +kernel
theorem scRWhole : FnScope ["self", "pieces", "count"] ["self"] (defScope sRWhole) := ⟨rfl, rfl, rfl, by decide +kernel, rfl, by decide +kernel, by decide +kernel⟩
theorem ok_rwhole (d : Nat) (D : DefM K R "read_whole" "Reader.read_whole" sRWhole ["self"]) (T : TxtW K mg C R G Pc Fo uK uN uB uE uM uC uP uI uD uL uT) (c1 : CalME P w K mg base 1 R "sign" ["self"] (spSign R)) (c2 : CalME P w K mg base 2 R "take" ["self", "sign"] (spTake R)) (c3 : CalME P w K mg base 3 R "read_count" ["self"] (spRCount R)) (c4 : CalME P w K mg base (3 * d + 6) R "read_parts" ["self", "around"] (spRParts C G R d))
    (c5 : CalME P w K mg base 4 R "read_charge" ["self"] (spRCharge R)) (c6 : CalME P w K mg base 4 R "read_electron" ["self"] (spRElectron C G Pc Fo R d)) (c7 : CalIE P w K mg base 1 Pc ["self", "parts", "count"] [1] (spGInit Pc)) (c8 : CalIE P w K mg base 1 Fo ["self", "pieces", "charge"] [0] (spFInit Fo)) :
    CalME P w K mg base (3 * d + 7) R "read_whole" ["self"] (spRWhole C G Pc Fo R d) := by
  obtain ⟨_, _, c_Reader_sign⟩ := c1
  obtain ⟨_, _, c_Reader_take⟩ := c2
  obtain ⟨_, _, c_Reader_read_count⟩ := c3
  obtain ⟨_, _, c_Reader_read_parts⟩ := c4
  obtain ⟨_, _, c_Reader_read_charge⟩ := c5
  obtain ⟨_, _, c_Reader_read_electron⟩ := c6
  obtain ⟨_, _, c_Piece⟩ := c7
  obtain ⟨_, _, c_Formula⟩ := c8
  obtain ⟨_, v_Piece_1, b_Piece_1⟩ := c_Piece.b 0 (by decide)
  obtain ⟨_, v_Piece_0, b_Piece_0⟩ := c_Piece.b 1 (by decide)
  obtain ⟨_, v_Formula_0, b_Formula_0⟩ := c_Formula.b 1 (by decide)
  refine D.cal scRWhole (fun vs H Q E h => ?_) (fun f cdv A outer s H vs Q E hr h => ?_)
  · obtain ⟨r, x, p, xs, n, post, rfl, _⟩ := h
    rfl
  · obtain ⟨r, x, p, xs, n, post, rfl, ⟨dx, hR⟩, hxl, hpo, hok, hd4, hx, q⟩ := h
    have big : (2000 : Nat) ≤ sizeLine := by decide
    refine ⟨_, (pss_cons
          (ps_if (pt_cmpR op_eq (pe_meth0 (pv 0) T.c_Reader c_Reader_sign.m c_Reader_sign.ok (hr.mono (by omega)) c_Reader_sign.b .nil pass0) (pe_ix ix_str (pe_glob (v := .str "e^-") rfl T.g_ELECTRON ⟨_, rfl⟩) pe_int (fun _ _ => rfl)) (nomark _))
            (pss_one
              (ps_ret (pe_meth0 (pv 0) T.c_Reader c_Reader_read_electron.m c_Reader_read_electron.ok (hr.mono (by omega)) c_Reader_read_electron.b .nil pass0)))
            pss_nil)
        (pss_cons
          (ps_set (i := 1) scRWhole.nd rfl (Or.inl rfl) (pe_lst (pa_cons (pe_make c_Piece.m c_Piece.ok (hr.mono (by omega)) rfl T.g_Piece b_Piece_1 v_Piece_1 pass0 (pa_cons (pe_meth (pv 0) T.c_Reader c_Reader_read_parts.m c_Reader_read_parts.ok (hr.mono (by omega)) c_Reader_read_parts.b .nil pass0 (pa_cons pe_int pa_nil)) pa_nil)) pa_nil)))
        (pss_cons
          (ps_while PassesOwn.never (pt_cmpR op_eq (pe_meth0 (pv 0) T.c_Reader c_Reader_sign.m c_Reader_sign.ok (hr.mono (by omega)) c_Reader_sign.b .nil pass0) (pe_glob (v := .str ".") rfl T.g_PIECE_DOT ⟨_, rfl⟩) (nomark _))
            (pss_cons
              (ps_expr (pe_meth (pv 0) T.c_Reader c_Reader_take.m c_Reader_take.ok (hr.mono (by omega)) c_Reader_take.b .nil pass0 (pa_cons (pe_glob (v := .str ".") rfl T.g_PIECE_DOT ⟨_, rfl⟩) pa_nil)))
            (pss_cons
              (ps_set (i := 2) scRWhole.nd rfl (Or.inl rfl) (pe_meth0 (pv 0) T.c_Reader c_Reader_read_count.m c_Reader_read_count.ok (hr.mono (by omega)) c_Reader_read_count.b .nil pass0))
            (pss_one
              (ps_expr (pe_bm PySem.F.plainAttrs_list PySem.F.slot_list_append PySem.F.type_list_append mt_append (pv 1) (pa_cons (pe_make c_Piece.m c_Piece.ok (hr.mono (by omega)) rfl T.g_Piece b_Piece_0 v_Piece_0 pass0 (pa_cons (pe_meth (pv 0) T.c_Reader c_Reader_read_parts.m c_Reader_read_parts.ok (hr.mono (by omega)) c_Reader_read_parts.b .nil pass0 (pa_cons pe_int pa_nil)) (pa_cons (pv 2) pa_nil))) pa_nil)))))))
        (pss_one
          (ps_ret (pe_make c_Formula.m c_Formula.ok (hr.mono (by omega)) rfl T.g_Formula b_Formula_0 v_Formula_0 pass0 (pa_cons (pv 1) (pa_cons (pe_meth0 (pv 0) T.c_Reader c_Reader_read_charge.m c_Reader_read_charge.ok (hr.mono (by omega)) c_Reader_read_charge.b .nil pass0) pa_nil)))))))), ?_⟩
    refine ⟨_, rfl, r, dx, _, rfl, hR, rflds_no _ _ (by decide +kernel) (by decide +kernel), r, x, p, rfl, ⟨dx, hR⟩, hxl.1, hx, "e^-", 0, 101, rfl, rfl, (by decide +kernel), (by decide +kernel), rfl, _, rfl, ?_⟩
    cases xs with
    | nil =>
      have hn : n = -1 := hok
      subst hn
      have hxl : Here x p [101, 94, 45] post := hxl
      refine iteP (by rw [hxl.sg]) ?_
      exact ⟨_, rfl, r, dx, _, rfl, hR, rflds_no _ _ (by decide +kernel) (by decide +kernel), r, x, p, post, rfl, ⟨dx, hR⟩, hxl, hx, q⟩
    | cons x0 r0 =>
      obtain ⟨h01, hoks, n1, n2⟩ := hok
      have ok0 := hoks x0 (List.mem_cons_self ..)
      have hw : Here x p (x0.2.flatMap (ttx d) ++ (dotL d r0 ++ chL n)) post := hxl
      have hh0 : Here x p (x0.2.flatMap (ttx d)) (dotL d r0 ++ (chL n ++ post)) := ⟨hw.1, by rw [hw.2, List.append_assoc, List.append_assoc]⟩
      have hb : Here x (p + (x0.2.flatMap (ttx d)).length) (dotL d r0 ++ chL n) post := Here.on hw
      have hb2 : Here x (p + (x0.2.flatMap (ttx d)).length) (dotL d r0) (chL n ++ post) := ⟨hb.1, by rw [hb.2, List.append_assoc]⟩
      have ne : ¬ V.str (sgAt x p) = V.str (⟨#[101]⟩ : Str) := by
        have t0 : 0 < x0.2.length := List.length_pos_iff.mpr ok0.1
        obtain ⟨c, rest, hc, ht⟩ := ttx_ne (ok0.2.1 _ (List.getElem_mem t0))
        have h2 := here_i hh0 t0
        have hsg : sgAt x p = ⟨#[c]⟩ := Here.sg (t := rest) (hc ▸ h2)
        rw [hsg]
        refine str1_ne ?_
        rcases ht with ⟨hg, _⟩ | ⟨rfl, _⟩
        · intro z
          subst z
          simp [isG] at hg
        · decide
      refine iteN ne ?_
      refine ⟨_, rfl, r, dx, _, rfl, hR, rflds_no _ _ (by decide +kernel) (by decide +kernel), r, x, p, 0, x0.2, _, rfl, ⟨dx, hR⟩, hh0, ok0.1, ok0.2.1, by omega, stop_dots d r0 n hpo, hx, fun l H1 hN hR1 k1 => ?_⟩
      obtain ⟨dx1, hR1⟩ := hR1
      obtain ⟨hl0, ps0, hl1, hps0⟩ := hN
      refine fun g dg ng ndg neg => ⟨g, dg, l, 1, ps0.map V.ref, rfl, upd_same, ?_, fun m H2 hm hg hgm kp => ⟨rfl, (by show 1 ≤ sizeLine; decide), fun L hL => ?_⟩⟩
      · rw [upd_ne (ne_of_none hl1 ng), upd_ne (ne_of_none hl1 ndg)]; exact hl1
      have s2 : Same H1 H2 := fun b o z => kp b o (by rw [upd_ne (ne_of_none z ng), upd_ne (ne_of_none z ndg)]; exact z) (ne_of_none z ng)
      have hR2 := s2 _ _ hR1
      have k2 : Kept r H H2 := k1.trans (Kept.of s2)
      have hL0 : H L = none := kept_none k2 hR2 hL
      have nLr : L ≠ r := fun z => by rw [z, hR2] at hL; cases hL
      have sL : Same H2 (upd H2 L (.lst [V.ref g])) := Same.new hL
      have ng0 := kept_none k1 hR1 ng
      have nm0 := kept_none k1 hR1 (upd2_none hm)
      have first : NewP C G Pc L d H (upd H2 L (.lst [V.ref g])) g x0 := fun H'' ke => by
        refine ⟨dg, m, ps0, ?_, ke _ _ nm0 (ne_of_none hgm hL) (sL _ _ hgm), hps0 H'' fun b o z1 z2 => ke b o z1 (ne_of_none (s2 _ _ z2) hL) (sL _ _ (s2 _ _ z2))⟩
        rw [h01]
        exact ke _ _ ng0 (ne_of_none hg hL) (sL _ _ hg)
      refine ⟨fun k σ H' => ∃ i : Nat, k + i = r0.length ∧ (∃ v : Option V, σ = [some (.ref r), some (.ref L), v]) ∧ RdAt R H' r x (p + (x0.2.flatMap (ttx d)).length + (dotL d (r0.take i)).length) ∧ Kept r H H' ∧ ∃ ps, H' L = some (.lst (ps.map V.ref)) ∧ ps.length = i + 1 ∧ Paired (NewP C G Pc L d H H') ps (x0 :: r0.take i), ⟨r0.length, 0, by omega, ⟨none, rfl⟩, ?_, k2.trans (Kept.of sL), [g], upd_same, rfl, .cons first .nil⟩, ?_⟩
      · exact ⟨dx1, sL _ _ hR2⟩
      rintro k σ H' ⟨i, hk, ⟨v, rfl⟩, ⟨dx', hR'⟩, kk, ps, hL', hpl, hP⟩
      have hle := hb2.le
      have hil : (dotL d (r0.take i)).length ≤ (dotL d r0).length := by
        unfold dotL
        conv => rhs; rw [← List.take_append_drop i r0, List.flatMap_append, List.length_append]
        omega
      have hr0 := dot_len d r0
      refine ⟨_, rfl, r, dx', _, rfl, hR', rflds_no _ _ (by decide +kernel) (by decide +kernel), r, x, _, rfl, ⟨dx', hR'⟩, by omega, hx, rfl, _, rfl, ?_⟩
      by_cases hi : i < r0.length
      · have h2 : Here x (p + (x0.2.flatMap (ttx d)).length + (dotL d (r0.take i)).length) (46 :: (figL r0[i].1 ++ r0[i].2.flatMap (ttx d))) (dotL d (r0.drop (i + 1)) ++ (chL n ++ post)) := here_fm (fun x => 46 :: pcL d x) hb2 hi
        have oki := hoks _ (List.mem_cons_of_mem _ (List.getElem_mem hi))
        have h3 : Here x (p + (x0.2.flatMap (ttx d)).length + (dotL d (r0.take i)).length + 1) (figL r0[i].1 ++ r0[i].2.flatMap (ttx d)) (dotL d (r0.drop (i + 1)) ++ (chL n ++ post)) := Here.on (t := [46]) h2
        have h4 : Here x (p + (x0.2.flatMap (ttx d)).length + (dotL d (r0.take i)).length + 1) (figL r0[i].1) (r0[i].2.flatMap (ttx d) ++ (dotL d (r0.drop (i + 1)) ++ (chL n ++ post))) := ⟨h3.1, by rw [h3.2, List.append_assoc]⟩
        have h5 : Here x (p + (x0.2.flatMap (ttx d)).length + (dotL d (r0.take i)).length + 1 + (figL r0[i].1).length) (r0[i].2.flatMap (ttx d)) (dotL d (r0.drop (i + 1)) ++ (chL n ++ post)) := Here.on h3
        have st := stop_dots d (r0.drop (i + 1)) n hpo
        have nn := next_not oki.2.1 st
        refine iteP (by rw [h2.sg, e46]) ?_
        refine ⟨_, fun σ' H'' h => ⟨k - 1, by omega, h⟩, ?_⟩
        refine ⟨_, rfl, r, dx', _, rfl, hR', rflds_no _ _ (by decide +kernel) (by decide +kernel), r, x, _, _, 46, _, _, rfl, e46, ⟨dx', hR'⟩, h2, hx, fun H3 hR3 k3 => ?_⟩
        obtain ⟨dx3, hR3⟩ := hR3
        refine ⟨_, rfl, r, dx3, _, rfl, hR3, rflds_no _ _ (by decide +kernel) (by decide +kernel), r, x, _, r0[i].1, _, rfl, ⟨dx3, hR3⟩, h4, oki.2.2.1, oki.2.2.2, nn.1, hx, fun H4 hR4 k4 => ?_⟩
        obtain ⟨dx4, hR4⟩ := hR4
        have k34 := k3.trans k4
        have hL4 := k34 _ _ hL' nLr
        refine ⟨_, rfl, .inl ⟨rfl, _, SqL.of hL4⟩, _, rfl, r, dx4, _, rfl, hR4, rflds_no _ _ (by decide +kernel) (by decide +kernel), r, x, _, 0, r0[i].2, _, rfl, ⟨dx4, hR4⟩, h5, oki.1, oki.2.1, by omega, st, hx, fun l' H5 hN' hR5 k5 => ?_⟩
        obtain ⟨dx5, hR5⟩ := hR5
        obtain ⟨hl0', ps', hl1', hps'⟩ := hN'
        refine ⟨_, rfl, fun g' dg' ng' ndg' neg' => ⟨g', dg', l', r0[i].1, ps'.map V.ref, rfl, upd_same, ?_, fun m' H6 hm' hg' hgm' kp' => ⟨rfl, ?_⟩⟩⟩
        · rw [upd_ne (ne_of_none hl1' ng'), upd_ne (ne_of_none hl1' ndg')]; exact hl1'
        have s6 : Same H5 H6 := fun b o z => kp' b o (by rw [upd_ne (ne_of_none z ng'), upd_ne (ne_of_none z ndg')]; exact z) (ne_of_none z ng')
        have k36 : Kept r H' H6 := (k34.trans k5).trans (Kept.of s6)
        have hL5 := k5 _ _ hL4 nLr
        have hL6 := s6 _ _ hL5
        have k45 : Kept r H H4 := kk.trans k34
        have k55 : Kept r H H5 := k45.trans k5
        refine ⟨L, _, _, rfl, rfl, hL6, by rw [List.length_map]; omega, i + 1, by omega, ⟨_, rfl⟩, ⟨dx5, ?_⟩, fun b o z w => ?_, ps ++ [g'], by rw [upd_same, List.map_append]; rfl, by rw [List.length_append, hpl]; rfl, ?_⟩
        · rw [upd_ne (Ne.symm nLr), s6 _ _ hR5]
          have e := fm_snoc (fun x => 46 :: pcL d x) hi
          have e' : (dotL d (r0.take (i + 1))).length = (dotL d (r0.take i)).length + ((figL r0[i].1).length + (r0[i].2.flatMap (ttx d)).length + 1) := by
            unfold dotL
            rw [e, List.length_append, List.length_cons]
            unfold pcL
            rw [List.length_append]
          rw [e']
          congr 3
          omega
        · rw [upd_ne (ne_of_none z hL0)]
          exact k36 _ _ (kk _ _ z w) w
        · rw [List.take_add_one, List.getElem?_eq_getElem hi]
          refine paired_snoc (as := ps) (bs := x0 :: r0.take i) (fun H'' ke => ?_) (paired_imp (fun c t h H'' ke => h H'' fun b o z1 z2 z3 => ke b o z1 z2 ?_) hP)
          · have u : ∀ {b o}, H6 b = some o → b ≠ L → (upd H6 L (.lst (ps.map V.ref ++ [V.ref g']))) b = some o := fun {b o} z w => by rw [upd_ne w]; exact z
            have ngL : g' ≠ L := fun z => by rw [z, hL5] at ng'; cases ng'
            have nm5 := upd2_none hm'
            have nmL : m' ≠ L := fun z => by rw [z, hL5] at nm5; cases nm5
            refine ⟨dg', m', ps', ke _ _ (kept_none k55 hR5 ng') ngL (u hg' ngL), ke _ _ (kept_none k55 hR5 nm5) nmL (u hgm' nmL), hps' H'' fun b o z1 z2 => ?_⟩
            have nbL : b ≠ L := fun z => by rw [z, hL4] at z1; cases z1
            exact ke b o (kept_none k45 hR4 z1) nbL (u (s6 _ _ z2) nbL)
          · have nbr : b ≠ r := fun z => by rw [z, hR] at z1; cases z1
            rw [upd_ne z2]
            exact k36 _ _ z3 nbr
      · have ei : i = r0.length := by omega
        rw [ei, List.take_length] at hR' hP ⊢
        have h3 : Here x (p + (x0.2.flatMap (ttx d)).length + (dotL d r0).length) (chL n) post := Here.on hb
        have ne2 : ¬ V.str (sgAt x (p + (x0.2.flatMap (ttx d)).length + (dotL d r0).length)) = V.str "." := by
          rw [e46]
          rcases ch_head n with e | ⟨rr, e⟩
          · rw [e] at h3
            rw [h3.sg0]
            exact hpo.ne (by decide)
          · rw [e] at h3
            rw [h3.sg]
            exact str1_ne (by decide)
        refine iteN ne2 ?_
        refine ⟨_, rfl, _, rfl, r, dx', _, rfl, hR', rflds_no _ _ (by decide +kernel) (by decide +kernel), r, x, _, n, post, rfl, ⟨dx', hR'⟩, h3, hpo, n1, n2, hx, fun H3 hR3 k3 => ?_⟩
        obtain ⟨dx3, hR3⟩ := hR3
        have hL3 := k3 _ _ hL' nLr
        have k03 := kk.trans k3
        refine fun g' dg' ng' ndg' neg' => ⟨g', dg', L, n, ps.map V.ref, rfl, upd_same, ?_, fun m' H6 hm' hg' hgm' kp' => ⟨rfl, ?_⟩⟩
        · rw [upd_ne (ne_of_none hL3 ng'), upd_ne (ne_of_none hL3 ndg')]; exact hL3
        have s6 : Same H3 H6 := fun b o z => kp' b o (by rw [upd_ne (ne_of_none z ng'), upd_ne (ne_of_none z ndg')]; exact z) (ne_of_none z ng')
        refine q g' H6 (kept_none k03 hR3 ng') (fun H'' ke => ?_) ⟨dx3, ?_⟩ (k03.trans (Kept.of s6))
        · refine ⟨dg', m', ps, ke _ _ (kept_none k03 hR3 ng') hg', ke _ _ (kept_none k03 hR3 (upd2_none hm')) hgm', paired_imp (fun c t h => h H'' fun b o z1 z2 z3 => ke b o z1 ?_) hP⟩
          have nbr : b ≠ r := fun z => by rw [z, hR] at z1; cases z1
          exact s6 _ _ (k3 _ _ z3 nbr)
        · rw [s6 _ _ hR3]
          rw [show wL d (x0 :: r0) n = x0.2.flatMap (ttx d) ++ (dotL d r0 ++ chL n) from rfl, List.length_append, List.length_append]
          congr 3
          omega
variable {uC uP uI uD uL uT : Tok}
def spTooLong : Sp := fun vs H Q _ => ∃ x : Str, vs = [.str x] ∧ x.length ≤ 400 ∧ Q .non H
def spReadF (C G Pc Fo : Addr) (d : Nat) : Sp := fun vs H Q _ => ∃ (x : Str) (xs : List PTr) (n : Int), vs = [.str x] ∧ x.cps.toList = wL d xs n ∧ okW d xs n ∧ d ≤ 4 ∧ x.length ≤ 400 ∧ ∀ f H', H f = none → NewF C G Pc Fo d H H' f xs n → Same H H' → Q (.ref f) H'
theorem scTooLong : FnScope ["text"] ["text"] (defScope sTooLong) := ⟨rfl, rfl, rfl, by decide +kernel, rfl, by decide +kernel, by decide +kernel⟩
theorem ok_toolong (D : Def K mg "refuse_too_long" "refuse_too_long" sTooLong ["text"]) (T : TxtW K mg C R G Pc Fo uK uN uB uE uM uC uP uI uD uL uT) : CalE P w K mg base 1 "refuse_too_long" ["text"] spTooLong := by
  refine D.cal scTooLong (fun vs H Q E h => ?_) (fun f cdv A outer s H vs Q E hr h => ?_)
  · obtain ⟨x, rfl, _⟩ := h
    rfl
  · obtain ⟨x, rfl, hx, q⟩ := h
    refine ⟨_, (pss_one
          (ps_if (pt_cmpR op_gt (pe_callB call_len_str rfl T.n_len bt_len (pa_cons (pv 0) pa_nil)) (pe_glob (v := .int 400) rfl T.g_LONGEST_TEXT ⟨_, rfl⟩) (nomark _))
            (pss_one
              ps_never)
            pss_nil)), ?_⟩
    exact ⟨_, rfl, x, rfl, Nat.le_trans hx (by decide), _, _, rfl, rfl, _, rfl, iteN (by omega) q⟩
theorem scRFormula : FnScope ["text", "reader", "formula"] ["text"] (defScope sRFormula) := ⟨rfl, rfl, rfl, by decide +kernel, rfl, by decide +kernel, by decide +kernel⟩
theorem ok_rformula (d : Nat) (D : Def K mg "read_formula" "read_formula" sRFormula ["text"]) (T : TxtW K mg C R G Pc Fo uK uN uB uE uM uC uP uI uD uL uT) (c1 : CalE P w K mg base 1 "refuse_too_long" ["text"] spTooLong) (c2 : CalIE P w K mg base 1 R ["self", "text"] [] (spRInit R)) (c3 : CalME P w K mg base (3 * d + 7) R "read_whole" ["self"] (spRWhole C G Pc Fo R d)) (c4 : CalME P w K mg base 1 R "take_end" ["self"] (spTakeEnd R)) :
    CalE P w K mg base (3 * d + 8) "read_formula" ["text"] (spReadF C G Pc Fo d) := by
  obtain ⟨_, _, c_refuse_too_long⟩ := c1
  obtain ⟨_, _, c_Reader⟩ := c2
  obtain ⟨_, _, c_Reader_read_whole⟩ := c3
  obtain ⟨_, _, c_Reader_take_end⟩ := c4
  obtain ⟨_, v_Reader_0, b_Reader_0⟩ := c_Reader.b 0 (by decide)
  refine D.cal scRFormula (fun vs H Q E h => ?_) (fun f cdv A outer s H vs Q E hr h => ?_)
  · obtain ⟨x, xs, n, rfl, _⟩ := h
    rfl
  · obtain ⟨x, xs, n, rfl, hxl, hok, hd4, hx, q⟩ := h
    refine ⟨_, (pss_cons
          (ps_expr (pe_call c_refuse_too_long.ok (hr.mono (by omega)) rfl c_refuse_too_long.g c_refuse_too_long.kp c_refuse_too_long.b .nil pass0 (pa_cons (pv 0) pa_nil)))
        (pss_cons
          (ps_set (i := 1) scRFormula.nd rfl (Or.inl rfl) (pe_make c_Reader.m c_Reader.ok (hr.mono (by omega)) rfl T.g_Reader b_Reader_0 v_Reader_0 pass0 (pa_cons (pv 0) pa_nil)))
        (pss_cons
          (ps_set (i := 2) scRFormula.nd rfl (Or.inl rfl) (pe_meth0 (pv 1) T.c_Reader c_Reader_read_whole.m c_Reader_read_whole.ok (hr.mono (by omega)) c_Reader_read_whole.b .nil pass0))
        (pss_cons
          (ps_expr (pe_meth0 (pv 1) T.c_Reader c_Reader_take_end.m c_Reader_take_end.ok (hr.mono (by omega)) c_Reader_take_end.b .nil pass0))
        (pss_one
          (ps_ret (pv 2))))))), ?_⟩
    refine ⟨_, rfl, x, rfl, hx, ?_⟩
    refine ⟨_, rfl, fun r dr nr ndr ner => ⟨r, dr, x, rfl, upd_same, fun H1 hR1 k1 => ⟨rfl, ?_⟩⟩⟩
    obtain ⟨dx1, hR1⟩ := hR1
    have s1 : Same H H1 := fun b o z => k1 b o (by rw [upd_ne (ne_of_none z nr), upd_ne (ne_of_none z ndr)]; exact z) (ne_of_none z nr)
    refine ⟨_, rfl, r, dx1, _, rfl, hR1, rflds_no _ _ (by decide +kernel) (by decide +kernel), r, x, 0, xs, n, [], rfl, ⟨dx1, hR1⟩, here_all hxl, .inl rfl, hok, hd4, by omega, fun f H2 nf hF hR2 k2 => ?_⟩
    obtain ⟨dx2, hR2⟩ := hR2
    have hxe : 0 + (wL d xs n).length = x.length := by rw [← hxl]; simp [Str.length]
    rw [hxe] at hR2
    have back : ∀ b, H1 b = none → H b = none := fun b z => by
      cases hh : H b with
      | none => rfl
      | some o => rw [s1 _ _ hh] at z; cases z
    refine ⟨_, rfl, r, dx2, _, rfl, hR2, rflds_no _ _ (by decide +kernel) (by decide +kernel), r, x, rfl, ⟨dx2, hR2⟩, by omega, ?_⟩
    exact ⟨_, rfl, q f H2 (back f nf) (fun H'' ke => hF H'' fun b o z1 z2 => ke b o (back b z1) z2) fun b o z => k2 b o (s1 _ _ z) (ne_of_none z nr)⟩
/-! ### trees shown -/
theorem app_arr (a b : List Nat) : (⟨a.toArray⟩ : Str) ++ ⟨b.toArray⟩ = ⟨(a ++ b).toArray⟩ := by
  show (⟨a.toArray ++ b.toArray⟩ : Str) = _
  simp
theorem len_arr (a : List Nat) : (⟨a.toArray⟩ : Str).length = a.length := by simp [Str.length]
theorem figs_arr (n : Int) : figs n = ⟨(figL n).toArray⟩ := by
  apply str_ext
  simp [figL]
def spGShownT (C G : Addr) : Nat → Sp
  | 0 => fun _ _ _ _ => False
  | d + 1 => fun vs H Q _ => ∃ (g : Addr) (ts : List Tr) (n : Int), vs = [.ref g] ∧ TreeAt C G (d + 1) H g (.gr ts n) ∧ okT (d + 1) (.gr ts n) ∧ (ttx (d + 1) (.gr ts n)).length ≤ 1000 ∧ ∀ H', Same H H' → Q (.str ⟨(ttx (d + 1) (.gr ts n)).toArray⟩) H'
def spPShownT (C G : Addr) (d : Nat) : Sp := fun vs H Q _ => ∃ (l : Addr) (ps : List Addr) (ts : List Tr), vs = [.ref l] ∧ H l = some (.lst (ps.map V.ref)) ∧ Paired (TreeAt C G d H) ps ts ∧ (∀ t ∈ ts, okT d t) ∧ (ts.flatMap (ttx d)).length ≤ 1000 ∧ ∀ H', Same H H' → Q (.str ⟨(ts.flatMap (ttx d)).toArray⟩) H'
theorem TreeAt.same {C G : Addr} : ∀ {d : Nat} {H H' : Hp} {p : Addr} {t : Tr}, TreeAt C G d H p t → Same H H' → TreeAt C G d H' p t
  | 0, H, H', p, .one k n, h, e => AtomAt.same h e
  | d + 1, H, H', p, .one k n, h, e => AtomAt.same (C := C) (k := ⟨k.toArray⟩) (n := n) h e
  | 0, _, _, _, .gr _ _, h, _ => h.elim
  | d + 1, H, H', p, .gr ts n, ⟨dx, l, ps, h1, h2, h3⟩, e => ⟨dx, l, ps, e _ _ h1, e _ _ h2, paired_imp (fun a b h => TreeAt.same h e) h3⟩
theorem paired_get {α β : Type} {p : α → β → Prop} : ∀ {as : List α} {bs : List β} {i : Nat} {a : α}, Paired p as bs → as[i]? = some a → ∃ b, bs[i]? = some b ∧ p a b
  | _, _, _, _, .nil, h => by simp at h
  | _, _, 0, _, .cons h _, e => ⟨_, rfl, by have e := Option.some.inj e; rw [← e]; exact h⟩
  | _, _, i + 1, _, .cons _ t, e => paired_get (i := i) t e
variable {uC uP uI uD uL uT : Tok}
def spPieceShownT (C G Pc : Addr) (d : Nat) : Sp := fun vs H Q _ => ∃ (q : Addr) (x : PTr), vs = [.ref q] ∧ PieceT C G Pc d H q x ∧ okX d x ∧ (pcL d x).length ≤ 1000 ∧ ∀ H', Same H H' → Q (.str ⟨(pcL d x).toArray⟩) H'
def spChargeT : Sp := fun vs H Q _ => ∃ n : Int, vs = [.int n] ∧ -999 ≤ n ∧ n ≤ 999 ∧ Q (.str ⟨(chL n).toArray⟩) H
def spFShownT (C G Pc Fo : Addr) (d : Nat) : Sp := fun vs H Q _ => ∃ (f : Addr) (xs : List PTr) (n : Int), vs = [.ref f] ∧ FormT C G Pc Fo d H f xs n ∧ okW d xs n ∧ (wL d xs n).length ≤ 1000 ∧ ∀ H', Same H H' → Q (.str ⟨(wL d xs n).toArray⟩) H'
theorem PieceT.same {C G Pc : Addr} {d : Nat} {H H' : Hp} {p : Addr} {x : PTr} (h : PieceT C G Pc d H p x) (e : Same H H') : PieceT C G Pc d H' p x :=
  let ⟨dx, l, ps, h1, h2, h3⟩ := h; ⟨dx, l, ps, e _ _ h1, e _ _ h2, paired_imp (fun _ _ h => TreeAt.same h e) h3⟩
theorem FormT.same {C G Pc Fo : Addr} {d : Nat} {H H' : Hp} {p : Addr} {xs : List PTr} {n : Int} (h : FormT C G Pc Fo d H p xs n) (e : Same H H') : FormT C G Pc Fo d H' p xs n :=
  let ⟨dx, l, ps, h1, h2, h3⟩ := h; ⟨dx, l, ps, e _ _ h1, e _ _ h2, paired_imp (fun _ _ h => PieceT.same h e) h3⟩
theorem scFigures : FnScope ["_law_count_here"] ["_law_count_here"] (defScope sFigures) := ⟨rfl, rfl, rfl, by decide +kernel, rfl, by decide +kernel, by decide +kernel⟩
theorem ok_figures (D : Def K mg "_law_figures" "_law_figures" sFigures ["_law_count_here"]) (T : TxtA K mg C) : CalE P w K mg base 1 "_law_figures" ["_law_count_here"] spFigs := by
  refine D.cal scFigures (fun vs H Q E h => ?_) (fun f cdv A outer s H vs Q E hr h => ?_)
  · obtain ⟨n, rfl, _⟩ := h
    rfl
  · obtain ⟨n, rfl, h1, h2, k⟩ := h
    refine ⟨_, (pss_cons
          (ps_if (pt_cmpR op_eq (pv 0) pe_int (nomark _))
            (pss_one
              (ps_ret pe_str))
            pss_nil)
        (pss_one
          (ps_ret (pe_callTy call_str_int rfl T.n_str bt_str (pa_cons (pv 0) pa_nil))))), ?_⟩
    refine ⟨_, rfl, rfl, _, rfl, ite2 (fun e => ?_) fun e => ?_⟩
    · have e : n = 1 := by simpa using e
      subst e
      exact k
    · have e : ¬ n = 1 := by simpa using e
      refine ⟨_, rfl, _, rfl, small_log (by omega) (by omega), ?_⟩
      unfold figs at k
      rw [if_neg e] at k
      exact k
theorem scInit : FnScope ["self", "kind", "count"] ["self", "kind", "count"] (defScope sInit) := ⟨rfl, rfl, rfl, by decide +kernel, rfl, by decide +kernel, by decide +kernel⟩
theorem ok_init (D : DefI K C "Atom.__init__" sInit ["self", "kind", "count"] [1]) (T : TxtA K mg C) : CalIE P w K mg base 1 C ["self", "kind", "count"] [1] (spInit C) := by
  refine D.cal scInit (fun vs H Q E h => ?_) (fun f cdv A outer s H vs Q E hr h => ?_)
  · obtain ⟨p, dx, k, n, rfl, _⟩ := h
    rfl
  · obtain ⟨p, dx, k, n, rfl, hp, q⟩ := h
    refine ⟨_, (pss_cons
          (ps_fld (pv 0) (pv 1) rfl)
        (pss_one
          (ps_fld (pv 0) (pv 2) rfl))), ?_⟩
    refine ⟨_, rfl, _, rfl, p, C, dx, [], rfl, hp, T.c_Atom, T.na_kind, (by show 0 < 1000; decide), _, rfl, _, rfl, p, C, dx, _, rfl, upd_same, T.c_Atom, T.na_count, (by show 1 < 1000; decide), ?_⟩
    refine q _ upd_same fun b o e hb => ?_
    rw [upd_ne hb, upd_ne hb]
    exact e
theorem scCellAt : FnScope ["_law_script", "_law_k"] ["_law_script", "_law_k"] (defScope sCellAt) := ⟨rfl, rfl, rfl, by decide +kernel, rfl, by decide +kernel, by decide +kernel⟩
theorem ok_cell_at (D : Def K mg "_law_cell_at" "_law_cell_at" sCellAt ["_law_script", "_law_k"]) (T : TxtA K mg C) : CalE P w K mg base 1 "_law_cell_at" ["_law_script", "_law_k"] (spCellAt K) := by
  refine D.cal scCellAt (fun vs H Q E h => ?_) (fun f cdv A outer s H vs Q E hr h => ?_)
  · obtain ⟨a, ns, k, rfl, _⟩ := h
    rfl
  · obtain ⟨a, ns, k, rfl, hS, hl, q⟩ := h
    refine ⟨_, (pss_cons
          (ps_if (pt_cmpR op_lt (pv 1) (pe_callB call_len_seq rfl T.n_len bt_len (pa_cons (pv 0) pa_nil)) (nomark _))
            (pss_one
              (ps_ret (pe_ix ix_list (pv 0) (pv 1) (fun _ _ => rfl))))
            pss_nil)
        (pss_one
          (ps_ret pe_int))), ?_⟩
    refine ⟨_, rfl, _, rfl, a, _, rfl, .inl hS, _, _, rfl, rfl, _, rfl, ite2 (fun e => ?_) fun e => ?_⟩
    · have e : k < ns.length := by simpa using e
      exact ⟨_, rfl, _, rfl, a, _, _, V.int ns[k], rfl, rfl, hS, atI_nat (by rw [List.getElem?_map, List.getElem?_eq_getElem e]; rfl), q _⟩
    · exact q 0
theorem scWhole : FnScope ["_law_found"] ["_law_found"] (defScope sWhole) := ⟨rfl, rfl, rfl, by decide +kernel, rfl, by decide +kernel, by decide +kernel⟩
theorem ok_whole (D : Def K mg "_law_whole" "_law_whole" sWhole ["_law_found"]) (T : TxtA K mg C) : CalE P w K mg base 1 "_law_whole" ["_law_found"] spWhole := by
  refine D.cal scWhole (fun vs H Q E h => ?_) (fun f cdv A outer s H vs Q E hr h => ?_)
  · obtain ⟨i, rfl, _⟩ := h
    rfl
  · obtain ⟨i, rfl, q⟩ := h
    refine ⟨_, (pss_one
          (ps_ret (pe_and (pe_callB call_isinst rfl T.n_isinstance bt_isinstance (pa_cons (pv 0) (pa_cons (pe_bltn (v := .ty "int") rfl T.n_int bt_int rfl) pa_nil))) (pe_one (pe_not (pe_callB call_isinst rfl T.n_isinstance bt_isinstance (pa_cons (pv 0) (pa_cons (pe_bltn (v := .ty "bool") rfl T.n_bool bt_bool rfl) pa_nil)))))))), ?_⟩
    exact ⟨_, rfl, _, _, _, _, _, rfl, rfl, .int i, T.k1, _, rfl, iteT ⟨_, rfl, _, _, _, _, _, rfl, rfl, .int i, T.k2, _, rfl, q⟩⟩
abbrev great : Str := "ABCDEFGHIJKLMNOPQRSTUVWXYZ"
abbrev small : Str := "abcdefghijklmnopqrstuvwxyz"
theorem great_len : great.cps.toList.length = 26 := by decide +kernel
theorem small_len : small.cps.toList.length = 26 := by decide +kernel
def ten : List Str := ["C", "Co", "O", "Cob", "H", "N", "No", "B", "Ob", "Nob"]
theorem scKind : FnScope ["_law_number", "_law_great", "_law_small", "_law_kind_here", "_law_k"] ["_law_number"] (defScope sKind) := ⟨rfl, rfl, rfl, by decide +kernel, rfl, by decide +kernel, by decide +kernel⟩
def spKindK : Sp := fun vs H Q _ => ∃ n : Int, vs = [.int n] ∧ ∀ (k : List Nat) H', okK k → Same H H' → Q (.str ⟨k.toArray⟩) H'
def okKb : List Nat → Bool
  | c :: r => isG c && r.all isS && decide (r.length ≤ 2)
  | [] => false
theorem okK_of : ∀ {l : List Nat}, okKb l = true → okK l
  | [], h => by cases h
  | c :: r, h => by
    simp only [okKb, Bool.and_eq_true, decide_eq_true_eq] at h
    exact ⟨c, r, rfl, h.1.1, h.1.2, h.2⟩
theorem ten_ok : ten.all (fun x => okKb x.cps.toList) = true := by decide +kernel
theorem great_all : great.cps.toList.all isG = true := by decide +kernel
theorem small_all : small.cps.toList.all isS = true := by decide +kernel
theorem ok_kindK (D : Def K mg "_law_kind" "_law_kind" sKind ["_law_number"]) (T : TxtA K mg C) : CalE P w K mg base 1 "_law_kind" ["_law_number"] spKindK := by
  refine D.cal scKind (fun vs H Q E h => ?_) (fun f cdv A outer s H vs Q E hr h => ?_)
  · obtain ⟨n, rfl, _⟩ := h
    rfl
  · obtain ⟨n, rfl, q⟩ := h
    refine ⟨_, (pss_cons
          (ps_set (i := 1) scKind.nd rfl (Or.inl rfl) pe_str)
        (pss_cons
          (ps_set (i := 2) scKind.nd rfl (Or.inl rfl) pe_str)
        (pss_cons
          (ps_if (pt_cmpR op_eq (pe_op op_mod (pv 0) pe_int) pe_int (nomark _))
            (pss_one
              (ps_ret (pe_ix ix_list (pe_lst (pa_csts (.str (.str (.str (.str (.str (.str (.str (.str (.str (.str .nil)))))))))))) (pe_op op_mod (pe_op op_fdiv (pv 0) pe_int) pe_int) (fun _ _ => rfl))))
            pss_nil)
        (pss_cons
          (ps_set (i := 0) scKind.nd rfl (Or.inl rfl) (pe_op op_fdiv (pv 0) pe_int))
        (pss_cons
          (ps_set (i := 3) scKind.nd rfl (Or.inl rfl) (pe_ix ix_str (pv 1) (pe_op op_mod (pv 0) pe_int) (fun _ _ => rfl)))
        (pss_cons
          (ps_for PassesOwn.never rfl (pi_range1 rfl T.n_range (pa_cons (pe_op op_mod (pe_op op_fdiv (pv 0) pe_int) pe_int) pa_nil)) (pg_name (i := 4) scKind.nd rfl (Or.inl rfl))
            (pss_one
              (ps_set (i := 3) scKind.nd rfl (Or.inl rfl) (pe_op op_add_str (pv 3) (pe_ix ix_str (pv 2) (pe_op op_mod (pe_op op_fdiv (pv 0) (pe_op op_add pe_int (pe_op op_mul pe_int (pv 4)))) pe_int) (fun _ _ => rfl))))))
        (pss_one
          (ps_ret (pv 3))))))))), ?_⟩
    refine ⟨_, rfl, _, _, rfl, rfl, (by show (0 : Int) < 2; decide), rfl, _, rfl, ite2 (fun _ => ?_) fun _ => ?_⟩
    · have b0 : 0 ≤ n / 2 % 10 := Int.emod_nonneg _ (by decide)
      have b1 : n / 2 % 10 < 10 := Int.emod_lt_of_pos _ (by decide)
      obtain ⟨v, hv, hat⟩ := atI_in (xs := ten.map V.str) b0 b1
      obtain ⟨k, hk, rfl⟩ := List.mem_map.mp hv
      have ek : (⟨k.cps.toList.toArray⟩ : Str) = k := str_ext (by simp)
      have okk := okK_of (List.all_eq_true.mp ten_ok k hk)
      have q' : ∀ l (hl : H l = none), Q (.str k) (upd H l (.lst (ten.map V.str))) := fun l hl => by
        have := q k.cps.toList _ okk (Same.new (o := .lst (ten.map V.str)) hl)
        rwa [ek] at this
      exact ⟨(by show 10 ≤ sizeLine; decide), fun l hl => ⟨_, rfl, _, _, rfl, rfl, ⟨by decide, by decide⟩, _, _, rfl, rfl, (by show (0 : Int) < 10; decide), l, ten.map V.str, _, _, rfl, rfl, SqL.of upd_same, hat, q' l hl⟩⟩
    · have b0 : 0 ≤ n / 2 % 26 := Int.emod_nonneg _ (by decide)
      have b1 : n / 2 % 26 < 26 := Int.emod_lt_of_pos _ (by decide)
      have b2 : 0 ≤ n / 2 / 26 % 3 := Int.emod_nonneg _ (by decide)
      have b3 : n / 2 / 26 % 3 < 3 := Int.emod_lt_of_pos _ (by decide)
      obtain ⟨c, hc, hat⟩ := atI_in (xs := great.cps.toList) b0 (by rw [great_len]; exact b1)
      have gc := List.all_eq_true.mp great_all c hc
      refine ⟨_, rfl, _, _, rfl, rfl, ⟨by decide, by decide⟩, _, rfl, _, rfl, _, _, rfl, rfl, (by show (0 : Int) < 26; decide), great, _, c, rfl, rfl, (by decide +kernel), hat, ?_⟩
      refine ⟨_, rfl, _, _, rfl, rfl, ⟨by decide, by decide⟩, _, _, rfl, rfl, (by show (0 : Int) < 3; decide), _, rfl, by omega, by omega,
        for_range (fun i σ H' => ∃ (r : List Nat) (v : Option V), σ = [some (.int (n / 2)), some (.str great), some (.str small), some (.str ⟨(c :: r).toArray⟩), v] ∧ r.all isS = true ∧ r.length ≤ i ∧ H' = H) ⟨[], none, rfl, rfl, Nat.le_refl _, rfl⟩ ?_ ?_⟩
      · rintro i σ H' hi ⟨r, v, rfl, ha, hk, rfl⟩
        have c0 : 0 ≤ n / 2 / (78 + 1950 * (0 + (i : Int))) % 26 := Int.emod_nonneg _ (by decide)
        have c1 : n / 2 / (78 + 1950 * (0 + (i : Int))) % 26 < 26 := Int.emod_lt_of_pos _ (by decide)
        obtain ⟨c2, hc2, hat2⟩ := atI_in (xs := small.cps.toList) c0 (by rw [small_len]; exact c1)
        have sc2 := List.all_eq_true.mp small_all c2 hc2
        have l2 : (⟨#[c2]⟩ : Str).length = 1 := rfl
        have big : (100 : Nat) ≤ sizeLine := by decide
        have e2 : (⟨(c :: r).toArray⟩ : Str) ++ ⟨#[c2]⟩ = ⟨(c :: (r ++ [c2])).toArray⟩ := app_arr (c :: r) [c2]
        refine ⟨_, rfl, _, rfl, _, rfl, _, rfl, _, _, rfl, rfl, .inl ⟨by decide, by decide⟩, _, _, rfl, rfl, _, _, rfl, rfl, ⟨by omega, by omega⟩, _, _, rfl, rfl, (by show (0 : Int) < 26; decide), small, _, c2, rfl, rfl, (by decide +kernel), hat2, _, _, rfl, rfl, ?_, r ++ [c2], some (.int (0 + (i : Int))), ?_, ?_, ?_, rfl⟩
        · rw [len_arr, l2, List.length_cons]
          omega
        · rw [← e2]
          rfl
        · rw [List.all_append, ha]
          simpa using sc2
        · rw [List.length_append]
          show r.length + 1 ≤ i + 1
          omega
      · rintro σ H' ⟨r, v, rfl, ha, hk, rfl⟩
        exact ⟨_, rfl, q (c :: r) _ ⟨c, r, rfl, gc, ha, by omega⟩ (Same.refl _)⟩
def spCount : Sp := fun vs H Q _ => ∃ n : Int, vs = [.int n] ∧ ∀ c H', 1 ≤ c → c ≤ 999 → Same H H' → Q (.int c) H'
variable {uC uP uI uD uL uT : Tok}
theorem scGInit : FnScope ["self", "parts", "count"] ["self", "parts", "count"] (defScope sGInit) := ⟨rfl, rfl, rfl, by decide +kernel, rfl, by decide +kernel, by decide +kernel⟩
theorem ok_ginit (D : DefI K G "Group.__init__" sGInit ["self", "parts", "count"] [1]) (T : TxtW K mg C R G Pc Fo uK uN uB uE uM uC uP uI uD uL uT) : CalIE P w K mg base 1 G ["self", "parts", "count"] [1] (spGInit G) := by
  refine D.cal scGInit (fun vs H Q E h => ?_) (fun f cdv A outer s H vs Q E hr h => ?_)
  · obtain ⟨p, dx, l, c, xs, rfl, _⟩ := h
    rfl
  · obtain ⟨p, dx, l, c, xs, rfl, hp, hl, q⟩ := h
    refine ⟨_, (pss_cons
          (ps_fld (pv 0) (pe_callTy call_list_of rfl T.n_list bt_list (pa_cons (pv 1) pa_nil)) rfl)
        (pss_one
          (ps_fld (pv 0) (pv 2) rfl))), ?_⟩
    refine ⟨_, rfl, l, xs, rfl, .inl (SqL.of hl), fun n hn => ?_⟩
    have npn : p ≠ n := ne_of_none hp hn
    refine ⟨_, rfl, p, G, dx, [], rfl, (by rw [upd_ne npn]; exact hp), T.c_Group, T.na_gparts, (by show 0 < 1000; decide), _, rfl, _, rfl, p, G, dx, _, rfl, upd_same, T.c_Group, T.na_gcount, (by show 1 < 1000; decide), ?_⟩
    refine q n _ hn upd_same (by rw [upd_ne (Ne.symm npn), upd_ne (Ne.symm npn), upd_same]) fun b o e hb => ?_
    rw [upd_ne hb, upd_ne hb, upd_ne (ne_of_none e hn)]
    exact e
theorem scPInit : FnScope ["self", "parts", "count"] ["self", "parts", "count"] (defScope sPInit) := ⟨rfl, rfl, rfl, by decide +kernel, rfl, by decide +kernel, by decide +kernel⟩
theorem ok_pinit (D : DefI K Pc "Piece.__init__" sPInit ["self", "parts", "count"] [1]) (T : TxtW K mg C R G Pc Fo uK uN uB uE uM uC uP uI uD uL uT) : CalIE P w K mg base 1 Pc ["self", "parts", "count"] [1] (spGInit Pc) := by
  refine D.cal scPInit (fun vs H Q E h => ?_) (fun f cdv A outer s H vs Q E hr h => ?_)
  · obtain ⟨p, dx, l, c, xs, rfl, _⟩ := h
    rfl
  · obtain ⟨p, dx, l, c, xs, rfl, hp, hl, q⟩ := h
    refine ⟨_, (pss_cons
          (ps_fld (pv 0) (pe_callTy call_list_of rfl T.n_list bt_list (pa_cons (pv 1) pa_nil)) rfl)
        (pss_one
          (ps_fld (pv 0) (pv 2) rfl))), ?_⟩
    refine ⟨_, rfl, l, xs, rfl, .inl (SqL.of hl), fun n hn => ?_⟩
    have npn : p ≠ n := ne_of_none hp hn
    refine ⟨_, rfl, p, Pc, dx, [], rfl, (by rw [upd_ne npn]; exact hp), T.c_Piece, T.na_pparts, (by show 0 < 1000; decide), _, rfl, _, rfl, p, Pc, dx, _, rfl, upd_same, T.c_Piece, T.na_pcount, (by show 1 < 1000; decide), ?_⟩
    refine q n _ hn upd_same (by rw [upd_ne (Ne.symm npn), upd_ne (Ne.symm npn), upd_same]) fun b o e hb => ?_
    rw [upd_ne hb, upd_ne hb, upd_ne (ne_of_none e hn)]
    exact e
theorem scFInit : FnScope ["self", "pieces", "charge"] ["self", "pieces", "charge"] (defScope sFInit) := ⟨rfl, rfl, rfl, by decide +kernel, rfl, by decide +kernel, by decide +kernel⟩
theorem ok_finit (D : DefI K Fo "Formula.__init__" sFInit ["self", "pieces", "charge"] [0]) (T : TxtW K mg C R G Pc Fo uK uN uB uE uM uC uP uI uD uL uT) : CalIE P w K mg base 1 Fo ["self", "pieces", "charge"] [0] (spFInit Fo) := by
  refine D.cal scFInit (fun vs H Q E h => ?_) (fun f cdv A outer s H vs Q E hr h => ?_)
  · obtain ⟨p, dx, l, c, xs, rfl, _⟩ := h
    rfl
  · obtain ⟨p, dx, l, c, xs, rfl, hp, hl, q⟩ := h
    refine ⟨_, (pss_cons
          (ps_fld (pv 0) (pe_callTy call_list_of rfl T.n_list bt_list (pa_cons (pv 1) pa_nil)) rfl)
        (pss_one
          (ps_fld (pv 0) (pv 2) rfl))), ?_⟩
    refine ⟨_, rfl, l, xs, rfl, .inl (SqL.of hl), fun n hn => ?_⟩
    have npn : p ≠ n := ne_of_none hp hn
    refine ⟨_, rfl, p, Fo, dx, [], rfl, (by rw [upd_ne npn]; exact hp), T.c_Formula, T.na_fpieces, (by show 0 < 1000; decide), _, rfl, _, rfl, p, Fo, dx, _, rfl, upd_same, T.c_Formula, T.na_fcharge, (by show 1 < 1000; decide), ?_⟩
    refine q n _ hn upd_same (by rw [upd_ne (Ne.symm npn), upd_ne (Ne.symm npn), upd_same]) fun b o e hb => ?_
    rw [upd_ne hb, upd_ne hb, upd_ne (ne_of_none e hn)]
    exact e
structure TxtP (K : PySem.W.Frag) (mg : Str → Option Value) (C : Addr) : Prop extends TxtA K mg C where
  n_dict : mg "dict" = none
  n_abs : mg "abs" = none
/-- the atoms of trees, in the order of the text, each times all counts above it -/
def flatT : Nat → Int → Tr → List (Str × Int)
  | _, m, .one k n => [(⟨k.toArray⟩, n * m)]
  | 0, _, .gr _ _ => []
  | d + 1, m, .gr ts n => ts.flatMap (flatT d (n * m))
def flatP (d : Nat) (x : PTr) : List (Str × Int) := x.2.flatMap (flatT d x.1)
def cW (d : Nat) (xs : List PTr) : List (Key × V) := cntF 1 [] (xs.flatMap (flatP d))
def okTs (ts : List Tr) : Prop := ts ≠ [] ∧ (∀ t ∈ ts, okT 1 t) ∧ (ts.flatMap (ttx 1)).length ≤ 23 ∧ (ts.flatMap (flatT 1 1)).length ≤ 5
theorem merge_nd : ∀ (l acc : List (Key × V)), ((acc ++ l).map (·.1)).Nodup → mergeK acc l = acc ++ l
  | [], acc, _ => by rw [List.append_nil]; rfl
  | p :: r, acc, h => by
    have hn : valV acc p.1 = none := by
      cases e : valV acc p.1 with
      | none => rfl
      | some x =>
        rw [List.map_append, List.nodup_append] at h
        exact absurd rfl (h.2.2 _ (valV_in e) p.1 (by simp))
    show mergeK (putK acc p.1 p.2) r = _
    rw [putK_new _ hn, merge_nd r (acc ++ [(p.1, p.2)]) (by rw [List.append_assoc]; exact h), List.append_assoc]
    rfl
theorem cnt_one (c : Int) : ∀ (as : List (Str × Int)) (acc : List (Key × V)), cntF 1 acc (as.map fun p => (p.1, p.2 * c)) = cntF c acc as
  | [], _ => rfl
  | p :: r, acc => by
    show cntF 1 (addC acc (Sum.inr p.1) (p.2 * c * 1)) (r.map fun p => (p.1, p.2 * c)) = cntF c (addC acc (Sum.inr p.1) (p.2 * c)) r
    rw [Int.mul_one, cnt_one c r]
theorem scale_all {D : List (Key × V)} (hI : IntD D) (hn : (D.map (·.1)).Nodup) (c : Int) : (D.map fun p => (p.1, V.int (c * zAt D p.1))) = scale c D := by
  unfold scale
  apply List.map_congr_left
  intro p hp
  have e := hI.look (valV_mem hn hp)
  show (p.1, V.int (c * zAt D p.1)) = (p.1, mulV c p.2)
  rw [e]
  show _ = (p.1, V.int (zAt D p.1 * c))
  rw [Int.mul_comm]
abbrev AtL := List (List Nat × Int)
def aT (a : List Nat × Int) : Tr := .one a.1 a.2
def at0 (as : AtL) : List (Str × Int) := as.map fun a => ((⟨a.1.toArray⟩ : Str), a.2)
def okAL (as : AtL) : Prop := ∀ a ∈ as, okK a.1 ∧ 1 ≤ a.2 ∧ a.2 ≤ 999
theorem flat_atoms (d : Nat) (m : Int) (as : AtL) : (as.map aT).flatMap (flatT d m) = (at0 as).map fun p => (p.1, p.2 * m) := by
  unfold at0
  induction as with
  | nil => rfl
  | cons a r ih =>
    rw [List.map_cons, List.flatMap_cons, ih, List.map_cons, List.map_cons]
    have e : flatT d m (aT a) = [((⟨a.1.toArray⟩ : Str), a.2 * m)] := by cases d <;> rfl
    rw [e]
    rfl
theorem ttx_atoms (d : Nat) (as : AtL) : (as.map aT).flatMap (ttx d) = as.flatMap fun a => a.1 ++ figL a.2 := by
  induction as with
  | nil => rfl
  | cons a r ih =>
    rw [List.map_cons, List.flatMap_cons, ih, List.flatMap_cons]
    have e : ttx d (aT a) = a.1 ++ figL a.2 := by cases d <;> rfl
    rw [e]
theorem figL_len {n : Int} (h : 1 ≤ n) (h' : n ≤ 999) : (figL n).length ≤ 3 := by
  have := figs_len h h'
  rw [figs_arr, len_arr] at this
  exact this
theorem figL_two {n : Int} (h : 1 ≤ n) (h' : n ≤ 99) : (figL n).length ≤ 2 := by
  obtain ⟨m, rfl⟩ := Int.eq_ofNat_of_zero_le (show 0 ≤ n by omega)
  have := figs_lenG (n := m) (k := 2) (by decide) (by omega)
  rw [figs_arr, len_arr] at this
  exact this
theorem okK_l3 {k : List Nat} (h : okK k) : k.length ≤ 3 := by
  obtain ⟨c, r, rfl, _, _, h3⟩ := h
  rw [List.length_cons]
  omega
theorem atoms_len {as : AtL} (h : okAL as) : (as.flatMap fun a => a.1 ++ figL a.2).length ≤ 6 * as.length := by
  induction as with
  | nil => exact Nat.zero_le _
  | cons a r ih =>
    have h1 := h a (List.mem_cons_self ..)
    have h2 := ih fun b hb => h b (List.mem_cons_of_mem _ hb)
    have h3 := okK_l3 h1.1
    have h4 := figL_len h1.2.1 h1.2.2
    rw [List.flatMap_cons, List.length_append, List.length_append, List.length_cons]
    omega
theorem atoms_ok {as : AtL} (h : okAL as) (d : Nat) : ∀ t ∈ as.map aT, okT d t := by
  intro t ht
  obtain ⟨a, ha, rfl⟩ := List.mem_map.mp ht
  have := h a ha
  cases d <;> exact this
theorem ts1_ok {as : AtL} (h : okAL as) (h1 : 1 ≤ as.length) (h3 : as.length ≤ 3) : okTs (as.map aT) := by
  refine ⟨?_, atoms_ok h 1, ?_, ?_⟩
  · intro z
    have := congrArg List.length z
    rw [List.length_map, List.length_nil] at this
    omega
  · rw [ttx_atoms]
    have := atoms_len h
    omega
  · rw [flat_atoms, List.length_map]
    unfold at0
    rw [List.length_map]
    omega
theorem ts1_c (as : AtL) : cW 1 [(1, as.map aT)] = cntF 1 [] (at0 as) := by
  show cntF 1 [] ((as.map aT).flatMap (flatT 1 1) ++ []) = _
  rw [List.append_nil, flat_atoms, cnt_one]
theorem ts2_x (as : AtL) (c : Int) : ([Tr.gr (as.map aT) c].flatMap (ttx 1)) = 40 :: ((as.flatMap fun a => a.1 ++ figL a.2) ++ 41 :: figL c) := by
  rw [List.flatMap_cons, List.flatMap_nil, List.append_nil]
  show 40 :: ((as.map aT).flatMap (ttx 0) ++ 41 :: figL c) = _
  rw [ttx_atoms]
theorem ts2_f (as : AtL) (c : Int) : ([Tr.gr (as.map aT) c].flatMap (flatT 1 1)) = (at0 as).map fun p => (p.1, p.2 * (c * 1)) := by
  rw [List.flatMap_cons, List.flatMap_nil, List.append_nil]
  show (as.map aT).flatMap (flatT 0 (c * 1)) = _
  rw [flat_atoms]
theorem ts2_ok {as : AtL} (h : okAL as) (h1 : 1 ≤ as.length) (h3 : as.length ≤ 3) {c : Int} (c1 : 1 ≤ c) (c2 : c ≤ 999) : okTs [.gr (as.map aT) c] := by
  refine ⟨by simp, fun t ht => ?_, ?_, ?_⟩
  · have e : t = .gr (as.map aT) c := by simpa using ht
    subst e
    exact ⟨(ts1_ok h h1 h3).1, atoms_ok h 0, c1, c2⟩
  · rw [ts2_x]
    have := atoms_len h
    have := figL_len c1 c2
    simp only [List.length_cons, List.length_append]
    omega
  · rw [ts2_f, List.length_map]
    unfold at0
    rw [List.length_map]
    omega
theorem ts2_c (as : AtL) (c : Int) : cW 1 [(1, [.gr (as.map aT) c])] = scale c (cntF 1 [] (at0 as)) := by
  show cntF 1 [] ([Tr.gr (as.map aT) c].flatMap (flatT 1 1) ++ []) = _
  rw [List.append_nil, ts2_f, cnt_one, scale_cnt 1 c _ [] (fun p hp => by cases hp), Int.mul_one, Int.one_mul]
  rfl
theorem IntD.val_mem {kvs : List (Key × V)} (h : IntD kvs) {k : Key} {v : V} (hm : (k, v) ∈ kvs) : valV kvs k = some (.int (zAt kvs k)) := by
  cases f : valV kvs k with
  | none => exact absurd (List.mem_map_of_mem (f := (·.1)) hm) (valV_not f)
  | some x => rw [h.look f]
theorem none_back {H H' : Hp} {D : Addr} (e : Same H H') (h : H' D = none) : H D = none := by
  cases hh : H D with
  | none => rfl
  | some o => rw [e _ _ hh] at h; cases h
theorem take_snoc {α : Type} {l : List α} {i : Nat} {a : α} (h : l[i]? = some a) : l.take (i + 1) = l.take i ++ [a] := by
  rw [List.take_add_one, h]
  rfl
theorem e_nil : (⟨(([] : AtL).flatMap fun a => a.1 ++ figL a.2).toArray⟩ : Str) = "" := by decide +kernel
def Pvv (o : Obj) (KV : List (Key × V)) (d D2 : Addr) (m : Int) (H2 : Hp) : Nat → St → Hp → Prop := fun i σ H' => ∃ (v : Option V) (ps : List (Addr × Key × V)), σ = [v, some (.int m), some (.ref d)] ∧ H' d = some (.frz o (.dK KV)) ∧ H' D2 = some (.lst (ps.map fun p => .ref p.1)) ∧ (∀ p ∈ ps, H' p.1 = some (.tup [kV p.2.1, p.2.2])) ∧ ps.map (·.2) = ((KV.take i).map fun p => (p.1, V.int (m * zAt KV p.1))) ∧ ∀ b o', H2 b = some o' → b ≠ d → H' b = some o'
/-- a formula of the law: its pieces and its charge; its text; what is asked of it -/
abbrev Fm := List PTr × Int
def fL (x : Fm) : List Nat := wL 1 x.1 x.2
def okFm (x : Fm) : Prop := okW 1 x.1 x.2 ∧ (fL x).length ≤ 33 ∧ (x.1.flatMap (flatP 1)).length ≤ 7
/-- the tuple that tells it, and its counts -/
def FmAt (H : Hp) (t : Addr) (x : Fm) : Prop := ∃ d, H t = some (.tup [.str ⟨(fL x).toArray⟩, .ref d, .int x.2]) ∧ H d = some (.dK (cW 1 x.1))
theorem FmAt.same {H H' : Hp} {t : Addr} {x : Fm} (h : FmAt H t x) (e : Same H H') : FmAt H' t x := let ⟨d, h1, h2⟩ := h; ⟨d, e _ _ h1, e _ _ h2⟩
theorem sgn_at (n : Int) : atI [V.str "-", V.str "+"] (if decide (n > 0) = true then 1 else 0) = some (V.str (if 0 < n then ("+" : Str) else ("-" : Str))) := by
  by_cases h : 0 < n
  · rw [if_pos (decide_eq_true h), if_pos h]
    rfl
  · rw [if_neg (by simpa using h), if_neg h]
    rfl
theorem ch_text {n : Int} (e : ¬ n = 0) : (⟨(chL n).toArray⟩ : Str) = "^" ++ figs (if n < 0 then -n else n) ++ (if 0 < n then ("+" : Str) else ("-" : Str)) := by
  unfold chL
  rw [if_neg e, figs_arr, e94, e43, e45]
  rw [show (⟨#[94]⟩ : Str) = ⟨[94].toArray⟩ from rfl, app_arr]
  by_cases hp : 0 < n
  · rw [if_pos hp, if_pos hp, show (⟨#[43]⟩ : Str) = ⟨[43].toArray⟩ from rfl, app_arr]
    simp
  · rw [if_neg hp, if_neg hp, show (⟨#[45]⟩ : Str) = ⟨[45].toArray⟩ from rfl, app_arr]
    simp
theorem w_ch {xs : List PTr} (h : xs ≠ []) (n : Int) : wL 1 xs n = wL 1 xs 0 ++ chL n := by
  cases xs with
  | nil => exact absurd rfl h
  | cons x r =>
    show x.2.flatMap (ttx 1) ++ (dotL 1 r ++ chL n) = x.2.flatMap (ttx 1) ++ (dotL 1 r ++ []) ++ chL n
    rw [List.append_nil, List.append_assoc]
def okB (xs : List PTr) : Prop := xs ≠ [] ∧ (∀ n, -999 ≤ n → n ≤ 999 → okW 1 xs n) ∧ (wL 1 xs 0).length ≤ 29 ∧ (xs.flatMap (flatP 1)).length ≤ 7
def wat (t : Int) : PTr := (t, [.one [72] 2, .one [79] 1])
theorem eH : ("H" : Str) = ⟨[72].toArray⟩ := by decide +kernel
theorem fig1 : figL 1 = [] := by decide +kernel
theorem b1_x (ts : List Tr) : wL 1 [(1, ts)] 0 = ts.flatMap (ttx 1) := by
  show ts.flatMap (ttx 1) ++ ([] ++ []) = _
  simp
theorem b1_ok {ts : List Tr} (h : okTs ts) : okB [(1, ts)] := by
  obtain ⟨h1, h2, h3, h4⟩ := h
  refine ⟨by simp, fun n n1 n2 => ⟨rfl, fun x hx => ?_, n1, n2⟩, ?_, ?_⟩
  · have e : x = (1, ts) := by simpa using hx
    subst e
    exact ⟨h1, h2, (by show (1 : Int) ≤ 1; decide), (by show (1 : Int) ≤ 999; decide)⟩
  · rw [b1_x]
    omega
  · show (ts.flatMap (flatT 1 1) ++ []).length ≤ 7
    rw [List.append_nil]
    omega
theorem fm_ok {xs : List PTr} (h : okB xs) {n : Int} (n1 : -99 ≤ n) (n2 : n ≤ 99) : okFm (xs, n) := by
  obtain ⟨h1, h2, h3, h4⟩ := h
  refine ⟨h2 n (by omega) (by omega), ?_, h4⟩
  show (wL 1 xs n).length ≤ 33
  rw [w_ch h1, List.length_append]
  have : (chL n).length ≤ 4 := by
    unfold chL
    split
    · exact Nat.zero_le _
    · have := figL_two (n := if n < 0 then -n else n) (by split <;> omega) (by split <;> omega)
      rw [List.length_cons, List.length_append]
      show _ + 1 + 1 ≤ 4
      omega
  omega
theorem cW_int (xs : List PTr) : IntD (cW 1 xs) := cnt_int 1 _ _ fun p hp => by cases hp
theorem cW_len {xs : List PTr} {m : Nat} (h : (xs.flatMap (flatP 1)).length ≤ m) : (cW 1 xs).length ≤ m := by
  have := cnt_len 1 (xs.flatMap (flatP 1)) []
  rw [List.length_nil] at this
  unfold cW
  omega
/-- a term of the law: a count and a formula -/
abbrev Tm := Int × Fm
def TermAt (H : Hp) (t : Addr) (x : Tm) : Prop := ∃ f, H t = some (.tup [.int x.1, .ref f]) ∧ FmAt H f x.2
def okTm (B : Int) (x : Tm) : Prop := 1 ≤ x.1 ∧ x.1 ≤ B ∧ okFm x.2
theorem TermAt.same {H H' : Hp} {t : Addr} {x : Tm} (h : TermAt H t x) (e : Same H H') : TermAt H' t x := let ⟨f, h1, h2⟩ := h; ⟨f, e _ _ h1, h2.same e⟩
theorem TermAt.but {D : Addr} {H H' : Hp} {ys : List V} {t : Addr} {x : Tm} (hD : H D = some (.lst ys)) (e : ∀ b o, H b = some o → b ≠ D → H' b = some o) (h : TermAt H t x) : TermAt H' t x := by
  obtain ⟨f, h1, d, h2, h3⟩ := h
  exact ⟨f, e _ _ h1 (ne_of h1 hD (by intro z; cases z)), d, e _ _ h2 (ne_of h2 hD (by intro z; cases z)), e _ _ h3 (ne_of h3 hD (by intro z; cases z))⟩
def TermsAt (H : Hp) (l : Addr) (xs : List Tm) : Prop := ∃ ts, H l = some (.lst (ts.map V.ref)) ∧ Paired (TermAt H) ts xs
theorem TermsAt.same {H H' : Hp} {l : Addr} {xs : List Tm} (h : TermsAt H l xs) (e : Same H H') : TermsAt H' l xs := let ⟨ts, h1, h2⟩ := h; ⟨ts, e _ _ h1, paired_imp (fun _ _ z => z.same e) h2⟩
variable {uC uP uI uD uL uT : Tok}
/-- a term's text, a side's text -/
def tmS (x : Tm) : Str := if x.1 = 1 then ⟨(fL x.2).toArray⟩ else (toString x.1 : Str) ++ " " ++ ⟨(fL x.2).toArray⟩
def sdS (xs : List Tm) : Str := Txt.join " + " (xs.map tmS)
variable {uC uP uI uD uL uT : Tok}
/-! ### counts over trees -/
theorem flat_mul (c : Int) : ∀ (d : Nat) (m : Int) (t : Tr), flatT d (m * c) t = (flatT d m t).map fun p => (p.1, p.2 * c)
  | d, m, .one k n => by
    have e1 : flatT d (m * c) (.one k n) = [(⟨k.toArray⟩, n * (m * c))] := by cases d <;> rfl
    have e2 : flatT d m (.one k n) = [(⟨k.toArray⟩, n * m)] := by cases d <;> rfl
    rw [e1, e2, List.map_cons, List.map_nil, Int.mul_assoc]
  | 0, _, .gr _ _ => rfl
  | d + 1, m, .gr ts n => by
    show ts.flatMap (flatT d (n * (m * c))) = (ts.flatMap (flatT d (n * m))).map _
    rw [List.map_flatMap, ← Int.mul_assoc]
    congr 1
    funext t
    exact flat_mul c d (n * m) t
/-- the counts that a part tells by itself -/
theorem cnt_app (t : Int) (acc : List (Key × V)) (as bs : List (Str × Int)) : cntF t acc (as ++ bs) = cntF t (cntF t acc as) bs := by
  unfold cntF
  rw [List.foldl_append]
theorem cnt_step (t : Int) {acc : List (Key × V)} (hI : IntD acc) (hn : (acc.map (·.1)).Nodup) (d : Nat) (x : Tr) :
    mulF t acc (cntF 1 [] (flatT d 1 x)) (cntF 1 [] (flatT d 1 x)) = cntF 1 acc (flatT d t x) := by
  have e := flat_mul t d 1 x
  rw [Int.one_mul] at e
  rw [mul_cnt t 1 (flatT d 1 x) hI hn, Int.one_mul, e, cnt_one]
theorem no_int : IntD [] := fun p hp => by cases hp
theorem mul_int (c : Int) (all : List (Key × V)) : ∀ (l acc : List (Key × V)), IntD acc → IntD (mulF c acc l all)
  | [], _, h => h
  | _ :: r, _, h => mul_int c all r _ (h.add _ _)
theorem mul_len (c : Int) (all : List (Key × V)) : ∀ (l acc : List (Key × V)), (mulF c acc l all).length ≤ acc.length + l.length
  | [], _ => Nat.le_refl _
  | p :: r, acc => by
    have h1 := mul_len c all r (addC acc p.1 (zAt all p.1 * c))
    have h2 : (addC acc p.1 (zAt all p.1 * c)).length ≤ acc.length + 1 := length_putK _ _ _
    show (mulF c (addC acc p.1 (zAt all p.1 * c)) r all).length ≤ _
    rw [List.length_cons]
    omega
theorem small1000 {n : Nat} (h : n ≤ 1000) : n < sizeLine := Nat.lt_of_le_of_lt h (by decide)
theorem upd_four {H : Hp} {d e : Addr} {A F B E : HO} (hne : d ≠ e) (he : H e = some E) : upd (upd (upd (upd H d A) e F) d B) e E = upd H d B := by
  funext b
  by_cases h1 : b = e
  · subst h1
    rw [upd_same, upd_ne (Ne.symm hne), he]
  · rw [upd_ne h1]
    by_cases h2 : b = d
    · subst h2
      rw [upd_same, upd_same]
    · rw [upd_ne h2, upd_ne h1, upd_ne h2, upd_ne h2]
theorem mul_snoc (c : Int) (all acc : List (Key × V)) {i : Nat} {p : Key × V} (h : all[i]? = some p) : mulF c acc (all.take (i + 1)) all = addC (mulF c acc (all.take i) all) p.1 (zAt all p.1 * c) := by
  unfold mulF
  rw [take_snoc h, List.foldl_append]
  rfl
/-- the inner loop: a dict's pairs, times t, added to the dict at d -/
theorem inner_ok {X : Cx} {D : Ends} {l d e : Addr} {t : Int} {v3 v5 : Option V} {H : Hp} {acc kin : List (Key × V)} (hu : X.A.units + 1 < cLine) (hd : H d = some (.dK acc)) (he : H e = some (.dK kin)) (hne : d ≠ e) (hI : IntD acc) (hI2 : IntD kin) (hl : acc.length + kin.length ≤ 1000) (t1 : 1 ≤ t) (t2 : t ≤ 999)
    (fin : ∀ z : Option V, D.nx [some (.ref l), some (.int t), some (.ref d), v3, some (.ref e), z] (upd H d (.dK (mulF t acc kin kin)))) :
    tThaw X (tFor (iDict X (tVar 4)) (gName 5) (sDPut (tVar 2) (tVar 5) (tOp (rI0 fun i j => .int (i + j)) (tDGet2 (tVar 2) (tVar 5) (tC (.int 0))) (tOp (rI CMul fun i j => .int (i * j)) (tDGet (tVar 4) (tVar 5)) (tVar 1))))) D [some (.ref l), some (.int t), some (.ref d), v3, some (.ref e), v5] H := by
  refine ⟨_, rfl, e, kin, rfl, he, fun o nf => for_dict nf (fun j σ H' => ∃ z : Option V, σ = [some (.ref l), some (.int t), some (.ref d), v3, some (.ref e), z] ∧ H' = upd H d (.dK (mulF t acc (kin.take j) kin))) ?_ ?_ ?_ ?_⟩
  · exact ⟨v5, rfl, (upd_back hd).symm⟩
  · rintro i σ H' ⟨_, _, rfl⟩
    rw [upd_ne (Ne.symm hne)]
    exact he
  · rintro i k v σ H' hi ⟨z, rfl, rfl⟩
    have hdi : ∀ o', (upd (upd H d (.dK (mulF t acc (kin.take i) kin))) e o') d = some (.dK (mulF t acc (kin.take i) kin)) := fun o' => by rw [upd_ne hne]; exact upd_same
    have hv := hI2.val_mem (List.mem_of_getElem? hi)
    have hIi : IntD (mulF t acc (kin.take i) kin) := mul_int t kin _ _ hI
    have hli := mul_len t kin (kin.take i) acc
    have hti : (kin.take i).length ≤ kin.length := List.length_take_le' _ _
    refine ⟨_, rfl, d, rfl, .inl ⟨_, .inl (hdi _)⟩, _, rfl, _, DGet.k (k := k) (hdi _), _, rfl, _, rfl, e, V.int (zAt kin k), rfl, .inl ⟨_, k, .inr ⟨o, upd_same⟩, rfl, hv.symm⟩, _, rfl, _, _, rfl, rfl, .inr ⟨by omega, by omega⟩, _, _, hIi.at k, rfl, _, rfl, _, rfl, d, _, rfl, DPut.k (k := k) (hdi _) (small1000 ?_), ?_⟩
    · omega
    · refine ⟨by rw [upd_ne (Ne.symm hne)]; exact upd_same, some (kV k), rfl, ?_⟩
      rw [upd_four hne he, mul_snoc t kin acc hi]
      rfl
  · rintro σ H' ⟨z, rfl, rfl⟩
    rw [List.take_length]
    exact fin z
theorem scPCounts : FnScope ["parts", "times", "total", "part", "inner", "kind"] ["parts", "times"] (defScope sPCounts) := ⟨rfl, rfl, rfl, by decide +kernel, rfl, by decide +kernel, by decide +kernel⟩
theorem scCounts : FnScope ["self"] ["self"] (defScope sCounts) := ⟨rfl, rfl, rfl, by decide +kernel, rfl, by decide +kernel, by decide +kernel⟩
theorem ok_counts (D : DefM K C "counts" "Atom.counts" sCounts ["self"]) (T : TxtA K mg C) : CalME P w K mg base 1 C "counts" ["self"] (spCounts C) := by
  refine D.cal scCounts (fun vs H Q E h => ?_) (fun f cdv A outer s H vs Q E hr h => ?_)
  · obtain ⟨p, k, n, rfl, _⟩ := h
    rfl
  · obtain ⟨p, k, n, rfl, ⟨dx, hp⟩, q⟩ := h
    refine ⟨_, (pss_one
          (ps_ret (pe_disp (pps_cons (pe_fld (pv 0) rfl) (pe_fld (pv 0) rfl) pps_nil) rfl rfl (by intro z; cases z) (by decide)))), ?_⟩
    intro d hd
    have hp' : ∀ o, (upd H d o) p = some (.ins C dx (flds k n)) := fun o => by rw [upd_ne (ne_of_none hp hd)]; exact hp
    refine ⟨_, rfl, p, C, dx, _, _, rfl, hp' _, T.c_Atom, T.na_kind, flds_kind _ _, _, rfl, p, C, dx, _, _, rfl, hp' _, T.c_Atom, T.na_count, flds_count _ _, upd_same, [(Sum.inr k, .int n)], rfl, (by show 1 ≤ 15; decide), ?_⟩
    rw [upd_upd]
    exact q d hd
def spGCountsT (C G : Addr) : Nat → Sp
  | 0 => fun _ _ _ _ => False
  | d + 1 => fun vs H Q _ => ∃ (g : Addr) (ts : List Tr) (n : Int), vs = [.ref g] ∧ TreeAt C G (d + 1) H g (.gr ts n) ∧ okT (d + 1) (.gr ts n) ∧ (flatT (d + 1) 1 (.gr ts n)).length ≤ 400 ∧ ∀ e H', H e = none → H' e = some (.dK (cntF 1 [] (flatT (d + 1) 1 (.gr ts n)))) → Same H H' → Q (.ref e) H'
def spPCountsT (C G : Addr) (d : Nat) : Sp := fun vs H Q _ => ∃ (l : Addr) (ps : List Addr) (ts : List Tr) (t : Int), vs = [.ref l, .int t] ∧ H l = some (.lst (ps.map V.ref)) ∧ Paired (TreeAt C G d H) ps ts ∧ (∀ x ∈ ts, okT d x) ∧ 1 ≤ t ∧ t ≤ 999 ∧ (ts.flatMap (flatT d t)).length ≤ 400 ∧
  ∀ e H', H e = none → H' e = some (.dK (cntF 1 [] (ts.flatMap (flatT d t)))) → Same H H' → Q (.ref e) H'
theorem flat_len1 (d : Nat) (t : Int) (x : Tr) : (flatT d t x).length = (flatT d 1 x).length := by
  have e := flat_mul t d 1 x
  rw [Int.one_mul] at e
  rw [e, List.length_map]
theorem flat_mem_len {d : Nat} {t : Int} {ts : List Tr} {x : Tr} (h : x ∈ ts) : (flatT d 1 x).length ≤ (ts.flatMap (flatT d t)).length := by
  rw [← flat_len1 d t x]
  obtain ⟨as, bs, rfl⟩ := List.append_of_mem h
  rw [List.flatMap_append, List.flatMap_cons, List.length_append, List.length_append]
  omega
theorem one_cnt (k : Str) (n : Int) : cntF 1 [] [(k, n * 1)] = [(Sum.inr k, .int n)] := by
  show putK [] (Sum.inr k) (.int (zAt [] (Sum.inr k) + n * 1 * 1)) = _
  rw [show zAt [] (Sum.inr k : Key) = 0 from rfl, Int.zero_add, Int.mul_one, Int.mul_one]
  rfl
theorem flat_take_len {d : Nat} {t : Int} (ts : List Tr) (i : Nat) : ((ts.take i).flatMap (flatT d t)).length ≤ (ts.flatMap (flatT d t)).length := by
  conv => rhs; rw [← List.take_append_drop i ts, List.flatMap_append, List.length_append]
  omega
theorem cnt_nd1 (l : List (Str × Int)) : ((cntF 1 [] l).map (·.1)).Nodup := cnt_nd 1 l [] List.nodup_nil
theorem cnt_int1 (l : List (Str × Int)) : IntD (cntF 1 [] l) := cnt_int 1 l [] no_int
theorem cnt_len1 (l : List (Str × Int)) : (cntF 1 [] l).length ≤ l.length := by
  have := cnt_len 1 l []
  rw [List.length_nil] at this
  omega
theorem ok_pcountsT (d : Nat) (D : Def K mg "parts_counts" "parts_counts" sPCounts ["parts", "times"]) (T : TxtT K mg C R G uK uN uB uE uM) (c1 : CalME P w K mg base 1 C "counts" ["self"] (spCounts C)) (c2 : CalME P w K mg base (2 * d + 1) G "counts" ["self"] (spGCountsT C G d)) : CalE P w K mg base (2 * d + 2) "parts_counts" ["parts", "times"] (spPCountsT C G d) := by
  obtain ⟨_, _, c_Atom_counts⟩ := c1
  obtain ⟨_, _, c_Group_counts⟩ := c2
  refine D.cal scPCounts (fun vs H Q E h => ?_) (fun f cdv A outer s H vs Q E hr h => ?_)
  · obtain ⟨l, ps, ts, t, rfl, _⟩ := h
    rfl
  · obtain ⟨l, ps, ts, t, rfl, hl, hP, hok, t1, t2, hz, q⟩ := h
    have hu := hu_of hr
    have lp : ps.length = ts.length := Paired.length hP
    refine ⟨_, (pss_cons
          (ps_set (i := 2) scPCounts.nd rfl (Or.inl rfl) pe_dnewK)
        (pss_cons
          (ps_for PassesOwn.never rfl (pi_list (pv 0)) (pg_name (i := 3) scPCounts.nd rfl (Or.inl rfl))
            (pss_cons
              (ps_set (i := 4) scPCounts.nd rfl (Or.inl rfl) (pe_or2 (pe_meth0 (pv 3) T.c_Atom c_Atom_counts.m c_Atom_counts.ok (hr.mono (by omega)) c_Atom_counts.b .nil pass0) (pe_meth0 (pv 3) T.c_Group c_Group_counts.m c_Group_counts.ok (hr.mono (by omega)) c_Group_counts.b .nil pass0)))
            (pss_one
              (ps_thaw (ps_for PassesOwn.never rfl (pi_dict (pv 4)) (pg_name (i := 5) scPCounts.nd rfl (Or.inl rfl))
                (pss_one
                  (ps_dput hu (pv 2) (pv 5) (pe_op op_add (pe_dget2 hu (pv 2) (pv 5) pe_int ⟨rfl, rfl, rfl, rfl⟩) (pe_op op_mul (pe_dget hu (pv 4) (pv 5) (fun _ _ => rfl)) (pv 1))) rfl)))))))
        (pss_one
          (ps_ret (pv 2))))), ?_⟩
    intro e0 he0
    refine ⟨_, rfl, l, rfl, ⟨_, SqL.of (Same.new he0 _ _ hl)⟩, for_list (K := K) (a := l) (xs := ps.map V.ref) (fun i σ H' => ∃ v u z : Option V, σ = [some (.ref l), some (.int t), some (.ref e0), v, u, z] ∧ Same H H' ∧ H' e0 = some (.dK (cntF 1 [] ((ts.take i).flatMap (flatT d t))))) ?_ (fun i σ H' _ ⟨_, _, _, _, e, _⟩ => SqL.of (e _ _ hl)) ?_ ?_⟩
    · exact ⟨none, none, none, rfl, Same.new he0, upd_same⟩
    · rintro i v σ H' hi ⟨v', u, z, rfl, e, hd'⟩
      rw [List.getElem?_map] at hi
      obtain ⟨p, hp, rfl⟩ : ∃ p, ps[i]? = some p ∧ v = V.ref p := by
        cases hh : ps[i]? with
        | none => rw [hh] at hi; cases hi
        | some p => rw [hh] at hi; exact ⟨p, rfl, (Option.some.inj hi).symm⟩
      obtain ⟨x, hx, hT⟩ := paired_get hP hp
      have hT := hT.same e
      have okx := hok x (List.mem_of_getElem? hx)
      have lx := Nat.le_trans (flat_mem_len (d := d) (t := t) (List.mem_of_getElem? hx)) hz
      have li := Nat.le_trans (flat_take_len (d := d) (t := t) ts i) hz
      have hnew : cntF 1 [] ((ts.take (i + 1)).flatMap (flatT d t)) = mulF t (cntF 1 [] ((ts.take i).flatMap (flatT d t))) (cntF 1 [] (flatT d 1 x)) (cntF 1 [] (flatT d 1 x)) := by
        rw [cnt_step t (cnt_int1 _) (cnt_nd1 _), take_snoc hx, List.flatMap_append, List.flatMap_cons, List.flatMap_nil, List.append_nil, cnt_app]
      have hlen : (cntF 1 [] ((ts.take i).flatMap (flatT d t))).length + (cntF 1 [] (flatT d 1 x)).length ≤ 1000 := by
        have := cnt_len1 ((ts.take i).flatMap (flatT d t))
        have := cnt_len1 (flatT d 1 x)
        omega
      cases x with
      | one k n =>
        have ok' : okK k ∧ 1 ≤ n ∧ n ≤ 999 := by cases d <;> exact okx
        have hA : AtomAt C H' p ⟨k.toArray⟩ n := by cases d <;> exact hT
        have ef : flatT d 1 (.one k n) = [(⟨k.toArray⟩, n * 1)] := by cases d <;> rfl
        rw [ef, one_cnt] at hnew hlen
        obtain ⟨dx, hp'⟩ := id hA
        refine Or.inl ⟨_, rfl, p, dx, _, rfl, hp', flds_no _ _ (by decide +kernel) (by decide +kernel), p, _, n, rfl, hA, fun b hb => ?_⟩
        have nb : e0 ≠ b := ne_of_none hd' hb
        refine inner_ok hu (by rw [upd_ne nb]; exact hd') upd_same nb (cnt_int1 _) (fun q hq => ⟨n, by rw [List.mem_singleton.mp hq]⟩) hlen t1 t2 fun z' => ⟨_, _, _, rfl, fun b' o w' => ?_, ?_⟩
        · rw [upd_ne (ne_of_none w' he0), upd_ne (ne_of_none (e _ _ w') hb)]
          exact e _ _ w'
        · rw [upd_same, hnew]
      | gr us n =>
        cases d with
        | zero => exact okx.elim
        | succ d =>
          obtain ⟨dx, l', ps', h1, h2, h3⟩ := id hT
          refine Or.inr ⟨_, rfl, p, dx, _, rfl, h1, gflds_no _ _ (by decide +kernel) (by decide +kernel), p, us, n, rfl, hT, okx, lx, fun b H'' nb hb e' => ?_⟩
          refine inner_ok hu (e' _ _ hd') hb (ne_of_none hd' nb) (cnt_int1 _) (cnt_int1 _) hlen t1 t2 fun z' => ⟨_, _, _, rfl, fun b' o w' => ?_, ?_⟩
          · rw [upd_ne (ne_of_none w' he0)]
            exact e' _ _ (e _ _ w')
          · rw [upd_same, hnew]
    · rintro σ H' ⟨v, u, z, rfl, e, hd'⟩
      rw [List.length_map, lp, List.take_length] at hd'
      exact ⟨_, rfl, q e0 H' he0 hd' e⟩
theorem scGCounts : FnScope ["self"] ["self"] (defScope sGCounts) := ⟨rfl, rfl, rfl, by decide +kernel, rfl, by decide +kernel, by decide +kernel⟩
theorem ok_gcounts0 (D : DefM K G "counts" "Group.counts" sGCounts ["self"]) : CalME P w K mg base 1 G "counts" ["self"] (spGCountsT C G 0) :=
  D.cal (k := 0) scGCounts (fun vs H Q E h => h.elim) (fun f cdv A outer s H vs Q E hr h => h.elim)
theorem ok_gcountsT (d : Nat) (D : DefM K G "counts" "Group.counts" sGCounts ["self"]) (T : TxtT K mg C R G uK uN uB uE uM) (c1 : CalE P w K mg base (2 * d + 2) "parts_counts" ["parts", "times"] (spPCountsT C G d)) : CalME P w K mg base (2 * d + 3) G "counts" ["self"] (spGCountsT C G (d + 1)) := by
  obtain ⟨_, _, c_parts_counts⟩ := c1
  refine D.cal scGCounts (fun vs H Q E h => ?_) (fun f cdv A outer s H vs Q E hr h => ?_)
  · obtain ⟨g, ts, n, rfl, _⟩ := h
    rfl
  · obtain ⟨g, ts, n, rfl, ⟨dx, l, ps, h1, h2, h3⟩, ⟨ne, hok, n1, n2⟩, hz, q⟩ := h
    have e : flatT (d + 1) 1 (.gr ts n) = ts.flatMap (flatT d n) := by
      show ts.flatMap (flatT d (n * 1)) = _
      rw [Int.mul_one]
    rw [e] at hz q
    refine ⟨_, (pss_one
          (ps_ret (pe_call c_parts_counts.ok (hr.mono (by omega)) rfl c_parts_counts.g c_parts_counts.kp c_parts_counts.b .nil pass0 (pa_cons (pe_fld (pv 0) rfl) (pa_cons (pe_fld (pv 0) rfl) pa_nil))))), ?_⟩
    exact ⟨_, rfl, g, G, dx, _, _, rfl, h1, T.c_Group, T.na_gparts, gflds_parts _ _, _, rfl, g, G, dx, _, _, rfl, h1, T.c_Group, T.na_gcount, gflds_count _ _, l, ps, ts, n, rfl, h2, h3, hok, n1, n2, hz, q⟩
theorem ok_countsT (D1 : Def K mg "parts_counts" "parts_counts" sPCounts ["parts", "times"]) (D2 : DefM K G "counts" "Group.counts" sGCounts ["self"]) (T : TxtT K mg C R G uK uN uB uE uM) (c1 : CalME P w K mg base 1 C "counts" ["self"] (spCounts C)) : ∀ d : Nat, CalE P w K mg base (2 * d + 2) "parts_counts" ["parts", "times"] (spPCountsT C G d)
  | 0 => ok_pcountsT 0 D1 T c1 (ok_gcounts0 D2)
  | d + 1 => ok_pcountsT (d + 1) D1 T c1 (ok_gcountsT d D2 T (ok_countsT D1 D2 T c1 d))
def spPieceCountsT (C G Pc : Addr) (d : Nat) : Sp := fun vs H Q _ => ∃ (q : Addr) (x : PTr), vs = [.ref q] ∧ PieceT C G Pc d H q x ∧ okX d x ∧ (flatP d x).length ≤ 400 ∧ ∀ e H', H e = none → H' e = some (.dK (cntF 1 [] (flatP d x))) → Same H H' → Q (.ref e) H'
theorem scPieceCounts : FnScope ["self"] ["self"] (defScope sPieceCounts) := ⟨rfl, rfl, rfl, by decide +kernel, rfl, by decide +kernel, by decide +kernel⟩
theorem ok_piececountsT (d : Nat) (D : DefM K Pc "counts" "Piece.counts" sPieceCounts ["self"]) (T : TxtW K mg C R G Pc Fo uK uN uB uE uM uC uP uI uD uL uT) (c1 : CalE P w K mg base (2 * d + 2) "parts_counts" ["parts", "times"] (spPCountsT C G d)) : CalME P w K mg base (2 * d + 3) Pc "counts" ["self"] (spPieceCountsT C G Pc d) := by
  obtain ⟨_, _, c_parts_counts⟩ := c1
  refine D.cal scPieceCounts (fun vs H Q E h => ?_) (fun f cdv A outer s H vs Q E hr h => ?_)
  · obtain ⟨q, x, rfl, _⟩ := h
    rfl
  · obtain ⟨g, x, rfl, ⟨dx, l, ps, h1, h2, h3⟩, ⟨ne, hok, n1, n2⟩, hz, q⟩ := h
    refine ⟨_, (pss_one
          (ps_ret (pe_call c_parts_counts.ok (hr.mono (by omega)) rfl c_parts_counts.g c_parts_counts.kp c_parts_counts.b .nil pass0 (pa_cons (pe_fld (pv 0) rfl) (pa_cons (pe_fld (pv 0) rfl) pa_nil))))), ?_⟩
    exact ⟨_, rfl, g, Pc, dx, _, _, rfl, h1, T.c_Piece, T.na_pparts, gflds_parts _ _, _, rfl, g, Pc, dx, _, _, rfl, h1, T.c_Piece, T.na_pcount, gflds_count _ _, l, ps, x.2, x.1, rfl, h2, h3, hok, n1, n2, hz, q⟩
def spPCountsP (C G Pc : Addr) (d : Nat) : Sp := fun vs H Q _ => ∃ (l : Addr) (ps : List Addr) (xs : List PTr), vs = [.ref l, .int 1] ∧ H l = some (.lst (ps.map V.ref)) ∧ Paired (PieceT C G Pc d H) ps xs ∧ (∀ x ∈ xs, okX d x) ∧ (xs.flatMap (flatP d)).length ≤ 400 ∧
  ∀ e H', H e = none → H' e = some (.dK (cW d xs)) → Same H H' → Q (.ref e) H'
theorem ok_pcountsP (d : Nat) (D : Def K mg "parts_counts" "parts_counts" sPCounts ["parts", "times"]) (T : TxtW K mg C R G Pc Fo uK uN uB uE uM uC uP uI uD uL uT) (c1 : CalME P w K mg base (2 * d + 3) Pc "counts" ["self"] (spPieceCountsT C G Pc d)) : CalE P w K mg base (2 * d + 4) "parts_counts" ["parts", "times"] (spPCountsP C G Pc d) := by
  obtain ⟨_, _, c_Piece_counts⟩ := c1
  refine D.cal scPCounts (fun vs H Q E h => ?_) (fun f cdv A outer s H vs Q E hr h => ?_)
  · obtain ⟨l, ps, xs, rfl, _⟩ := h
    rfl
  · obtain ⟨l, ps, xs, rfl, hl, hP, hok, hz, q⟩ := h
    have hu := hu_of hr
    have lp : ps.length = xs.length := Paired.length hP
    refine ⟨_, (pss_cons
          (ps_set (i := 2) scPCounts.nd rfl (Or.inl rfl) pe_dnewK)
        (pss_cons
          (ps_for PassesOwn.never rfl (pi_list (pv 0)) (pg_name (i := 3) scPCounts.nd rfl (Or.inl rfl))
            (pss_cons
              (ps_set (i := 4) scPCounts.nd rfl (Or.inl rfl) (pe_meth0 (pv 3) T.c_Piece c_Piece_counts.m c_Piece_counts.ok (hr.mono (by omega)) c_Piece_counts.b .nil pass0))
            (pss_one
              (ps_thaw (ps_for PassesOwn.never rfl (pi_dict (pv 4)) (pg_name (i := 5) scPCounts.nd rfl (Or.inl rfl))
                (pss_one
                  (ps_dput hu (pv 2) (pv 5) (pe_op op_add (pe_dget2 hu (pv 2) (pv 5) pe_int ⟨rfl, rfl, rfl, rfl⟩) (pe_op op_mul (pe_dget hu (pv 4) (pv 5) (fun _ _ => rfl)) (pv 1))) rfl)))))))
        (pss_one
          (ps_ret (pv 2))))), ?_⟩
    intro e0 he0
    refine ⟨_, rfl, l, rfl, ⟨_, SqL.of (Same.new he0 _ _ hl)⟩, for_list (K := K) (a := l) (xs := ps.map V.ref) (fun i σ H' => ∃ v u z : Option V, σ = [some (.ref l), some (.int 1), some (.ref e0), v, u, z] ∧ Same H H' ∧ H' e0 = some (.dK (cW d (xs.take i)))) ?_ (fun i σ H' _ ⟨_, _, _, _, e, _⟩ => SqL.of (e _ _ hl)) ?_ ?_⟩
    · exact ⟨none, none, none, rfl, Same.new he0, upd_same⟩
    · rintro i v σ H' hi ⟨v', u, z, rfl, e, hd'⟩
      rw [List.getElem?_map] at hi
      obtain ⟨p, hp, rfl⟩ : ∃ p, ps[i]? = some p ∧ v = V.ref p := by
        cases hh : ps[i]? with
        | none => rw [hh] at hi; cases hi
        | some p => rw [hh] at hi; exact ⟨p, rfl, (Option.some.inj hi).symm⟩
      obtain ⟨x, hx, hT⟩ := paired_get hP hp
      have hT := hT.same e
      have okx := hok x (List.mem_of_getElem? hx)
      have lx : (flatP d x).length ≤ 400 := by
        refine Nat.le_trans ?_ hz
        obtain ⟨as, bs, rfl⟩ := List.append_of_mem (List.mem_of_getElem? hx)
        rw [List.flatMap_append, List.flatMap_cons, List.length_append, List.length_append]
        omega
      have li : ((xs.take i).flatMap (flatP d)).length ≤ 400 := by
        refine Nat.le_trans ?_ hz
        conv => rhs; rw [← List.take_append_drop i xs, List.flatMap_append, List.length_append]
        omega
      have hnew : cW d (xs.take (i + 1)) = mulF 1 (cW d (xs.take i)) (cntF 1 [] (flatP d x)) (cntF 1 [] (flatP d x)) := by
        unfold cW
        rw [mul_cnt 1 1 (flatP d x) (cnt_int1 _) (cnt_nd1 _), take_snoc hx, List.flatMap_append, List.flatMap_cons, List.flatMap_nil, List.append_nil, cnt_app]
        rfl
      obtain ⟨dx, l', ps', h1, h2, h3⟩ := id hT
      refine ⟨_, rfl, p, dx, _, rfl, h1, gflds_no _ _ (by decide +kernel) (by decide +kernel), p, x, rfl, hT, okx, lx, fun b H'' nb hb e' => ?_⟩
      refine inner_ok hu (e' _ _ hd') hb (ne_of_none hd' nb) (cnt_int1 _) (cnt_int1 _) ?_ (by decide) (by decide) fun z' => ⟨_, _, _, rfl, fun b' o w' => ?_, ?_⟩
      · have z1 : (cW d (xs.take i)).length ≤ ((xs.take i).flatMap (flatP d)).length := cnt_len1 ((xs.take i).flatMap (flatP d))
        have z2 := cnt_len1 (flatP d x)
        omega
      · rw [upd_ne (ne_of_none w' he0)]
        exact e' _ _ (e _ _ w')
      · rw [upd_same, hnew]
    · rintro σ H' ⟨v, u, z, rfl, e, hd'⟩
      rw [List.length_map, lp, List.take_length] at hd'
      exact ⟨_, rfl, q e0 H' he0 hd' e⟩
def spFCountsT (C G Pc Fo : Addr) (d : Nat) : Sp := fun vs H Q _ => ∃ (f : Addr) (xs : List PTr) (n : Int), vs = [.ref f] ∧ FormT C G Pc Fo d H f xs n ∧ okW d xs n ∧ (xs.flatMap (flatP d)).length ≤ 400 ∧ ∀ e H', H e = none → H' e = some (.dK (cW d xs)) → Same H H' → Q (.ref e) H'
theorem okW_okX {d : Nat} {xs : List PTr} {n : Int} (h : okW d xs n) : ∀ x ∈ xs, okX d x := by
  cases xs with
  | nil => intro x hx; cases hx
  | cons y r => exact h.2.1
theorem scFCounts : FnScope ["self"] ["self"] (defScope sFCounts) := ⟨rfl, rfl, rfl, by decide +kernel, rfl, by decide +kernel, by decide +kernel⟩
theorem ok_fcountsT (d : Nat) (D : DefM K Fo "counts" "Formula.counts" sFCounts ["self"]) (T : TxtW K mg C R G Pc Fo uK uN uB uE uM uC uP uI uD uL uT) (c1 : CalE P w K mg base (2 * d + 4) "parts_counts" ["parts", "times"] (spPCountsP C G Pc d)) : CalME P w K mg base (2 * d + 5) Fo "counts" ["self"] (spFCountsT C G Pc Fo d) := by
  obtain ⟨_, _, c_parts_counts⟩ := c1
  refine D.cal scFCounts (fun vs H Q E h => ?_) (fun f cdv A outer s H vs Q E hr h => ?_)
  · obtain ⟨f, xs, n, rfl, _⟩ := h
    rfl
  · obtain ⟨g, xs, n, rfl, ⟨dx, l, ps, h1, h2, h3⟩, hok, hz, q⟩ := h
    refine ⟨_, (pss_one
          (ps_ret (pe_call c_parts_counts.ok (hr.mono (by omega)) rfl c_parts_counts.g c_parts_counts.kp c_parts_counts.b .nil pass0 (pa_cons (pe_fld (pv 0) rfl) (pa_cons pe_int pa_nil))))), ?_⟩
    exact ⟨_, rfl, g, Fo, dx, _, _, rfl, h1, T.c_Formula, T.na_fpieces, fflds_pieces _ _, l, ps, xs, rfl, h2, h3, okW_okX hok, hz, q⟩
variable {uC uP uI uD uL uT : Tok}
/-! ### weights -/
def FitD (n : Nat) (kvs : List (Key × V)) : Prop := ∀ k, Fit n (zAt kvs k)
theorem fit_of {i : Int} (h0 : -(2 ^ 128) < i) (h1 : i < 2 ^ 128) : Fit 128 i := by
  show i.natAbs < 2 ^ 128
  omega
theorem fit_bnd {kvs : List (Key × V)} (h : Bnd (2 ^ 127) kvs) : FitD 128 kvs := fun k => by
  obtain ⟨z0, z1⟩ := h.z_at (by decide) k
  exact fit_of (by omega) (by omega)
def wsm (kc kw l : List (Key × V)) : Int := (l.map fun p => zAt kc p.1 * zAt kw p.1).sum
theorem wsm_snoc (kc kw : List (Key × V)) {l : List (Key × V)} {i : Nat} {p : Key × V} (h : l[i]? = some p) : wsm kc kw (l.take (i + 1)) = wsm kc kw (l.take i) + zAt kc p.1 * zAt kw p.1 := by
  unfold wsm
  rw [take_snoc h, List.map_append, List.sum_append]
  simp
theorem mul128 {i j : Int} (h : Fit 128 i) (h' : Fit 128 j) : CMulF i j := .inr ⟨128, 128, h, h', by decide⟩
def spCW : Sp := fun vs H Q _ => ∃ (c w : Addr) (kc kw : List (Key × V)), vs = [.ref c, .ref w] ∧ H c = some (.dK kc) ∧ H w = some (.dK kw) ∧ c ≠ w ∧ IntD kw ∧ IntD kc ∧ FitD 128 kw ∧ FitD 128 kc ∧ Q (.int (wsm kc kw kc)) H
theorem scCW : FnScope ["counts", "weights", "total", "kind"] ["counts", "weights"] (defScope sCW) := ⟨rfl, rfl, rfl, by decide +kernel, rfl, by decide +kernel, by decide +kernel⟩
theorem ok_cw (D : Def K mg "counts_weight" "counts_weight" sCW ["counts", "weights"]) : CalE P w K mg base 1 "counts_weight" ["counts", "weights"] spCW := by
  refine D.cal scCW (fun vs H Q E h => ?_) (fun f cdv A outer s H vs Q E hr h => ?_)
  · obtain ⟨c, w, kc, kw, rfl, _⟩ := h
    rfl
  · obtain ⟨c, w, kc, kw, rfl, hc, hw, ncw, hI, hJ, fw, fc, q⟩ := h
    have hu := hu_of hr
    refine ⟨_, (pss_cons
          (ps_set (i := 2) scCW.nd rfl (Or.inl rfl) pe_int)
        (pss_cons
          (ps_thaw (ps_for PassesOwn.never rfl (pi_dict (pv 0)) (pg_name (i := 3) scCW.nd rfl (Or.inl rfl))
            (pss_one
              (ps_aug (i := 2) scCW.nd rfl (Or.inl rfl) (pe_op op_mulF (pe_dget hu (pv 0) (pv 3) (fun _ _ => rfl)) (pe_dget2 hu (pv 1) (pv 3) pe_int ⟨rfl, rfl, rfl, rfl⟩)) ip_add))))
        (pss_one
          (ps_ret (pv 2))))), ?_⟩
    refine ⟨_, rfl, c, _, rfl, hc, fun o nf => for_dict nf (fun i σ H' => ∃ v : Option V, σ = [some (.ref c), some (.ref w), some (.int (wsm kc kw (kc.take i))), v] ∧ H' = H) ?_ (fun i σ H' ⟨_, _, e⟩ => by rw [e]; exact hc) ?_ ?_⟩
    · exact ⟨none, rfl, rfl⟩
    · rintro i k v σ H' hi ⟨u, rfl, rfl⟩
      have hw' : (upd H' c (.frz o (.dK kc))) w = some (.dK kw) := by rw [upd_ne (Ne.symm ncw)]; exact hw
      have hv := hJ.val_mem (List.mem_of_getElem? hi)
      refine ⟨_, rfl, _, rfl, _, rfl, c, V.int (zAt kc k), rfl, .inl ⟨_, k, .inr ⟨o, upd_same⟩, rfl, hv.symm⟩, _, rfl, w, rfl, .inl ⟨_, .inl hw'⟩, _, rfl, _, DGet.k (k := k) hw', _, _, rfl, hI.at k, mul128 (fc k) (fw k), _, _, rfl, rfl, ?_⟩
      refine ⟨upd_same, some (kV k), ?_, by rw [upd_upd, upd_back hc]⟩
      rw [wsm_snoc kc kw hi]
      rfl
    · rintro σ H' ⟨v, rfl, rfl⟩
      rw [List.take_length]
      exact ⟨_, rfl, q⟩
def spFWeightT (C G Pc Fo : Addr) (d : Nat) : Sp := fun vs H Q _ => ∃ (f u : Addr) (xs : List PTr) (n : Int) (kw : List (Key × V)), vs = [.ref f, .ref u] ∧ FormT C G Pc Fo d H f xs n ∧ okW d xs n ∧ -999 ≤ n ∧ n ≤ 999 ∧ (xs.flatMap (flatP d)).length ≤ 400 ∧ FitD 128 (cW d xs) ∧ H u = some (.dK kw) ∧ IntD kw ∧ FitD 128 kw ∧ ∀ H', Same H H' → Q (.int (wsm (cW d xs) kw (cW d xs) + n * zAt kw (Sum.inr "+"))) H'
theorem scFWeight : FnScope ["self", "weights"] ["self", "weights"] (defScope sFWeight) := ⟨rfl, rfl, rfl, by decide +kernel, rfl, by decide +kernel, by decide +kernel⟩
theorem ok_fweightT (d : Nat) (D : DefM K Fo "weight" "Formula.weight" sFWeight ["self", "weights"]) (T : TxtW K mg C R G Pc Fo uK uN uB uE uM uC uP uI uD uL uT) (c1 : CalE P w K mg base 1 "counts_weight" ["counts", "weights"] spCW) (c2 : CalME P w K mg base (2 * d + 5) Fo "counts" ["self"] (spFCountsT C G Pc Fo d)) : CalME P w K mg base (2 * d + 6) Fo "weight" ["self", "weights"] (spFWeightT C G Pc Fo d) := by
  obtain ⟨_, _, c_counts_weight⟩ := c1
  obtain ⟨_, _, c_Formula_counts⟩ := c2
  refine D.cal scFWeight (fun vs H Q E h => ?_) (fun f cdv A outer s H vs Q E hr h => ?_)
  · obtain ⟨f, u, xs, n, kw, rfl, _⟩ := h
    rfl
  · obtain ⟨f, u, xs, n, kw, rfl, hF, okf, n1, n2, hz, fc, hw, hI, fw, q⟩ := h
    have hu := hu_of hr
    obtain ⟨dx, l, ps, hf, _⟩ := id hF
    refine ⟨_, (pss_one
          (ps_ret (pe_op op_add (pe_call c_counts_weight.ok (hr.mono (by omega)) rfl c_counts_weight.g c_counts_weight.kp c_counts_weight.b .nil pass0 (pa_cons (pe_meth0 (pv 0) T.c_Formula c_Formula_counts.m c_Formula_counts.ok (hr.mono (by omega)) c_Formula_counts.b .nil pass0) (pa_cons (pv 1) pa_nil))) (pe_op op_mulF (pe_fld (pv 0) rfl) (pe_dget2 hu (pv 1) (pe_glob (v := .str "+") rfl T.g_PLUS ⟨_, rfl⟩) pe_int ⟨rfl, rfl, rfl, rfl⟩))))), ?_⟩
    refine ⟨_, rfl, f, dx, _, rfl, hf, fflds_no _ _ (by decide +kernel) (by decide +kernel), f, xs, n, rfl, hF, okf, hz, fun d H1 nd hd e1 => ?_⟩
    have hw1 := e1 _ _ hw
    refine ⟨_, rfl, d, u, _, kw, rfl, hd, hw1, Ne.symm (ne_of_none hw nd), hI, cnt_int1 _, fw, fc, ?_⟩
    exact ⟨_, rfl, f, Fo, dx, _, _, rfl, e1 _ _ hf, T.c_Formula, T.na_fcharge, fflds_charge _ _, _, rfl, u, rfl, .inl ⟨_, .inl hw1⟩, _, DGet.k (k := Sum.inr "+") hw1, _, _, rfl, hI.at _, mul128 (fit_of (by omega) (by omega)) (fw _), _, _, rfl, rfl, q _ e1⟩
variable {uC uP uI uD uL uT : Tok} {St : Addr}
/-! ### the store: its fields, its promises -/
structure TxtS (K : PySem.W.Frag) (mg : Str → Option Value) (C R G Pc Fo St : Addr) (uK uN uB uE uM uC uP uI uD uL uT : Tok) : Prop extends TxtW K mg C R G Pc Fo uK uN uB uE uM uC uP uI uD uL uT where
  n_dict : mg "dict" = none
  n_sum : mg "sum" = none
  c_Store : Cls K St
  na_amounts : NoAttr K St "amounts"
  na_gone : NoAttr K St "gone"
  g_Store : mg "Store" = some (.ref St)
theorem nag : ¬ (("amounts" : Str) = "gone") := by decide +kernel
def sfl (d g : Addr) : List (Str × V) := putF "gone" (.ref g) (putF "amounts" (.ref d) [])
theorem sfl_amounts (d g : Addr) : (sfl d g).lookup ("amounts" : Str) = some (.ref d) := by
  unfold sfl
  rw [lookup_putF, if_neg nag, lookup_putF, if_pos rfl]
theorem sfl_gone (d g : Addr) : (sfl d g).lookup ("gone" : Str) = some (.ref g) := by
  unfold sfl
  rw [lookup_putF, if_pos rfl]
theorem sfl_no (d g : Addr) {m : Str} (h1 : ¬ m = "gone") (h2 : ¬ m = "amounts") : (sfl d g).lookup m = none := by
  unfold sfl
  rw [lookup_putF, if_neg h1, lookup_putF, if_neg h2]
  all_goals rfl
def StoAt (St : Addr) (H : Hp) (st d g : Addr) : Prop := ∃ dx, H st = some (.ins St dx (sfl d g))
def GoodX (x : Str) : Prop := ∃ fm : Fm, okFm fm ∧ x = ⟨(fL fm).toArray⟩
def spHave (St : Addr) : Sp := fun vs H Q _ => ∃ (st d g : Addr) (x : Str) (kvs : List (Key × V)), vs = [.ref st, .str x] ∧ StoAt St H st d g ∧ H d = some (.dK kvs) ∧ IntD kvs ∧ GoodX x ∧ ∀ H', Same H H' → Q (.int (zAt kvs (Sum.inr x))) H'
def spPut (St : Addr) : Sp := fun vs H Q _ => ∃ (st d g : Addr) (x : Str) (m : Int) (kvs : List (Key × V)), vs = [.ref st, .str x, .int m] ∧ StoAt St H st d g ∧ H d = some (.dK kvs) ∧ IntD kvs ∧ kvs.length ≤ 1000 ∧ GoodX x ∧ ∀ H', Kept d H H' → H' d = some (.dK (addC kvs (Sum.inr x) m)) → Q .non H'
theorem scHave : FnScope ["self", "text"] ["self", "text"] (defScope sHave) := ⟨rfl, rfl, rfl, by decide +kernel, rfl, by decide +kernel, by decide +kernel⟩
theorem ok_have (D : DefM K St "have" "Store.have" sHave ["self", "text"]) (T : TxtS K mg C R G Pc Fo St uK uN uB uE uM uC uP uI uD uL uT) (c1 : CalE P w K mg base 11 "read_formula" ["text"] (spReadF C G Pc Fo 1)) : CalME P w K mg base 12 St "have" ["self", "text"] (spHave St) := by
  obtain ⟨_, _, c_read_formula⟩ := c1
  refine D.cal scHave (fun vs H Q E h => ?_) (fun f cdv A outer s H vs Q E hr h => ?_)
  · obtain ⟨st, d, g, x, kvs, rfl, _⟩ := h
    rfl
  · obtain ⟨st, d, g, x, kvs, rfl, ⟨dx, hst⟩, hd, hI, ⟨fm, okf, ex⟩, q⟩ := h
    have hu := hu_of hr
    have hxl : x.cps.toList = wL 1 fm.1 fm.2 := by rw [ex]; rfl
    have hx4 : x.length ≤ 400 := by
      have := okf.2.1
      rw [ex, len_arr]
      omega
    refine ⟨_, (pss_cons
          (ps_expr (pe_call c_read_formula.ok (hr.mono (by decide)) rfl c_read_formula.g c_read_formula.kp c_read_formula.b .nil pass0 (pa_cons (pv 1) pa_nil)))
        (pss_one
          (ps_ret (pe_dget2 hu (pe_fld (pv 0) rfl) (pv 1) pe_int ⟨rfl, rfl, rfl, rfl⟩)))), ?_⟩
    refine ⟨_, rfl, x, fm.1, fm.2, rfl, hxl, okf.1, by decide, hx4, fun f H1 nf hF e1 => ?_⟩
    refine ⟨_, rfl, st, St, dx, _, _, rfl, e1 _ _ hst, T.c_Store, T.na_amounts, sfl_amounts _ _, d, rfl, .inl ⟨_, .inl (e1 _ _ hd)⟩, _, rfl, _, DGet.k (k := Sum.inr x) (e1 _ _ hd), ?_⟩
    have e := hI.at (Sum.inr x)
    rw [e]
    exact q _ e1
theorem scPut : FnScope ["self", "text", "many"] ["self", "text", "many"] (defScope sPut) := ⟨rfl, rfl, rfl, by decide +kernel, rfl, by decide +kernel, by decide +kernel⟩
theorem ok_put (D : DefM K St "put" "Store.put" sPut ["self", "text", "many"]) (T : TxtS K mg C R G Pc Fo St uK uN uB uE uM uC uP uI uD uL uT) (c1 : CalME P w K mg base 12 St "have" ["self", "text"] (spHave St)) : CalME P w K mg base 13 St "put" ["self", "text", "many"] (spPut St) := by
  obtain ⟨_, _, c_Store_have⟩ := c1
  refine D.cal scPut (fun vs H Q E h => ?_) (fun f cdv A outer s H vs Q E hr h => ?_)
  · obtain ⟨st, d, g, x, m, kvs, rfl, _⟩ := h
    rfl
  · obtain ⟨st, d, g, x, m, kvs, rfl, ⟨dx, hst⟩, hd, hI, hl, hx, q⟩ := h
    have hu := hu_of hr
    refine ⟨_, (pss_one
          (ps_dput hu (pe_fld (pv 0) rfl) (pv 1) (pe_op op_add (pe_meth (pv 0) T.c_Store c_Store_have.m c_Store_have.ok (hr.mono (by decide)) c_Store_have.b .nil pass0 (pa_cons (pv 1) pa_nil)) (pv 2)) rfl)), ?_⟩
    refine ⟨_, rfl, st, dx, _, rfl, hst, sfl_no _ _ (by decide +kernel) (by decide +kernel), _, rfl, st, d, g, x, kvs, rfl, ⟨dx, hst⟩, hd, hI, hx, fun H1 e1 => ?_⟩
    refine ⟨_, rfl, _, _, rfl, rfl, _, rfl, st, St, dx, _, _, rfl, e1 _ _ hst, T.c_Store, T.na_amounts, sfl_amounts _ _, _, rfl, d, _, rfl, DPut.k (k := Sum.inr x) (e1 _ _ hd) (small1000 hl), ?_⟩
    refine q _ (fun b o z n => ?_) upd_same
    rw [upd_ne n]
    exact e1 _ _ z
variable {uC uP uI uD uL uT : Tok} {St : Addr}
theorem out_none {kvs : List (Key × V)} {k : Key} (h : ¬ k ∈ kvs.map (·.1)) : valV kvs k = none := by
  cases e : valV kvs k with
  | none => rfl
  | some v => exact absurd (valV_in e) h
theorem addC_new {kvs : List (Key × V)} {k : Key} (h : ¬ k ∈ kvs.map (·.1)) (n : Int) : addC kvs k n = kvs ++ [(k, .int n)] := by
  unfold addC
  rw [putK_new _ (out_none h), zAt_none (out_none h), Int.zero_add]
theorem zat_mem {kvs : List (Key × V)} (hn : (kvs.map (·.1)).Nodup) {k : Key} {z : Int} (h : (k, V.int z) ∈ kvs) : zAt kvs k = z := zAt_some (valV_mem hn h)
theorem take_out {kvs : List (Key × V)} (hn : (kvs.map (·.1)).Nodup) {i : Nat} {p : Key × V} (h : kvs[i]? = some p) : ¬ p.1 ∈ (kvs.take i).map (·.1) := by
  intro m
  have e : kvs.take (i + 1) = kvs.take i ++ [p] := take_snoc h
  have hs : ((kvs.take (i + 1)).map (·.1)).Nodup := hn.sublist ((List.take_sublist _ _).map _)
  rw [e, List.map_append, List.nodup_append] at hs
  exact hs.2.2 _ m p.1 (by simp) rfl
def spSInit (St : Addr) : Sp := fun vs H Q _ => ∃ (p dx : Addr) (v : V) (kvs : List (Key × V)), vs = [.ref p, v] ∧ H p = some (.ins St dx []) ∧ ((v = .non ∧ kvs = []) ∨ ∃ a, v = .ref a ∧ H a = some (.dK kvs)) ∧ IntD kvs ∧ (kvs.map (·.1)).Nodup ∧ (∀ q ∈ kvs, ∃ x, q.1 = Sum.inr x ∧ GoodX x) ∧ kvs.length ≤ 900 ∧
  ∀ d g H', H d = none → H g = none → d ≠ g → StoAt St H' p d g → H' d = some (.dK kvs) → H' g = some (.lst []) → (∀ b o, H b = some o → b ≠ p → H' b = some o) → Q .non H'
theorem scSInit : FnScope ["self", "amounts", "text"] ["self", "amounts"] (defScope sSInit) := ⟨rfl, rfl, rfl, by decide +kernel, rfl, by decide +kernel, by decide +kernel⟩
theorem ok_sinit (D : DefN K St "Store.__init__" sSInit ["self", "amounts"]) (T : TxtS K mg C R G Pc Fo St uK uN uB uE uM uC uP uI uD uL uT) (c1 : CalME P w K mg base 13 St "put" ["self", "text", "many"] (spPut St)) : CalNE P w K mg base CX0 14 St ["self", "amounts"] (spSInit St) := by
  obtain ⟨_, _, c_Store_put⟩ := c1
  refine D.cal scSInit (fun vs H Q E h => ?_) (fun f cdv A outer s H vs Q E hr h => ?_)
  · obtain ⟨p, dx, v, kvs, rfl, _⟩ := h
    rfl
  · obtain ⟨p, dx, v, kvs, rfl, hp, hv, hI, hn, hg, hl, q⟩ := h
    have hu := hu_of hr
    refine ⟨_, (pss_cons
          (ps_fld (pv 0) pe_dnewK rfl)
        (pss_cons
          (ps_fld (pv 0) (pe_lst pa_nil) rfl)
        (pss_one
          (ps_if (pt_cmp (pc_notN (pv 1)))
            (pss_one
              (ps_thaw (ps_for PassesOwn.never rfl (pi_dict (pv 1)) (pg_name (i := 2) scSInit.nd rfl (Or.inl rfl))
                (pss_one
                  (ps_expr (pe_meth (pv 0) T.c_Store c_Store_put.m c_Store_put.ok (hr.mono (by decide)) c_Store_put.b .nil pass0 (pa_cons (pv 2) (pa_cons (pe_dget hu (pv 1) (pv 2) (fun _ _ => rfl)) pa_nil))))))))
            pss_nil)))), ?_⟩
    refine fun d hd => ?_
    have npd : p ≠ d := ne_of_none hp hd
    refine ⟨_, rfl, p, St, dx, [], rfl, (by rw [upd_ne npd]; exact hp), T.c_Store, T.na_amounts, (by show 0 < 1000; decide), (by show 0 ≤ sizeLine; decide), fun g hg' => ?_⟩
    have npg : p ≠ g := fun z => by rw [z, upd_same] at hg'; cases hg'
    rw [upd_ne (Ne.symm npg)] at hg'
    have ndg : d ≠ g := fun z => by rw [z, upd_same] at hg'; cases hg'
    rw [upd_ne (Ne.symm ndg)] at hg'
    refine ⟨_, rfl, p, St, dx, _, rfl, (by rw [upd_ne npg, upd_same]), T.c_Store, T.na_gone, (by show 1 < 1000; decide), ?_⟩
    generalize hH1 : upd (upd (upd (upd H d (.dK [])) p (.ins St dx (putF "amounts" (.ref d) []))) g (.lst [])) p (.ins St dx (putF "gone" (.ref g) (putF "amounts" (.ref d) []))) = H1
    have h1p : H1 p = some (.ins St dx (sfl d g)) := by rw [← hH1, upd_same]; rfl
    have h1d : H1 d = some (.dK []) := by rw [← hH1, upd_ne (Ne.symm npd), upd_ne ndg, upd_ne (Ne.symm npd), upd_same]
    have h1g : H1 g = some (.lst []) := by rw [← hH1, upd_ne (Ne.symm npg), upd_same]
    have h1o : ∀ b o, H b = some o → b ≠ p → H1 b = some o := fun b o z n => by
      rw [← hH1, upd_ne n, upd_ne (ne_of_none z hg'), upd_ne n, upd_ne (ne_of_none z hd)]
      exact z
    rcases hv with ⟨rfl, rfl⟩ | ⟨a, rfl, ha⟩
    · exact ⟨_, rfl, _, rfl, iteF (q d g H1 hd hg' ndg ⟨dx, h1p⟩ h1d h1g h1o)⟩
    · have nap : a ≠ p := ne_of ha hp (by intro z; cases z)
      have ha1 := h1o a _ ha nap
      have nad : a ≠ d := ne_of_none ha hd
      have nag : a ≠ g := ne_of_none ha hg'
      refine ⟨_, rfl, _, rfl, iteT ?_⟩
      refine ⟨_, rfl, a, kvs, rfl, ha1, fun o nf => for_dict nf (fun i σ H' => ∃ v2 : Option V, σ = [some (.ref p), some (.ref a), v2] ∧ H' d = some (.dK (kvs.take i)) ∧ ∀ b o', H1 b = some o' → b ≠ d → H' b = some o') ?_ (fun i σ H' ⟨_, _, _, e⟩ => e _ _ ha1 nad) ?_ ?_⟩
      · exact ⟨none, rfl, h1d, fun b o' z _ => z⟩
      · rintro i k v σ H' hi ⟨v2, rfl, hd', e⟩
        obtain ⟨x, ex, gx⟩ := hg _ (List.mem_of_getElem? hi)
        have ex : k = Sum.inr x := ex
        subst ex
        have hv := hI.val_mem (List.mem_of_getElem? hi)
        obtain ⟨z, ez⟩ := hI _ (List.mem_of_getElem? hi)
        have ez : v = V.int z := ez
        subst ez
        have hzz : zAt kvs (Sum.inr x) = z := by
          have m := List.mem_of_getElem? hi
          exact zAt_some (by rw [hv]; exact congrArg some (by rw [zat_mem hn m]))
        have hp' : (upd H' a (.frz o (.dK kvs))) p = some (.ins St dx (sfl d g)) := by rw [upd_ne (Ne.symm nap)]; exact e _ _ h1p npd
        have hdd : (upd H' a (.frz o (.dK kvs))) d = some (.dK (kvs.take i)) := by rw [upd_ne (Ne.symm nad)]; exact hd'
        refine ⟨_, rfl, p, dx, _, rfl, hp', sfl_no _ _ (by decide +kernel) (by decide +kernel), _, rfl, _, rfl, _, rfl, a, V.int z, rfl, .inl ⟨_, Sum.inr x, .inr ⟨o, upd_same⟩, rfl, (by rw [hv, hzz])⟩, p, d, g, x, z, kvs.take i, rfl, ⟨dx, hp'⟩, hdd, fun q hq => hI q (List.mem_of_mem_take hq), ?_, gx, fun H2 kp hd2 => ?_⟩
        · rw [List.length_take]; omega
        · refine ⟨kp _ _ upd_same nad, some (.str x), rfl, ?_, fun b o' z' nb => ?_⟩
          · rw [upd_ne (Ne.symm nad), hd2, addC_new (take_out hn hi), take_snoc hi]
          · by_cases ba : b = a
            · subst ba
              rw [upd_same]
              rw [ha1] at z'
              exact z'
            · rw [upd_ne ba]
              refine kp _ _ ?_ nb
              rw [upd_ne ba]
              exact e _ _ z' nb
      · rintro σ H' ⟨v2, rfl, hd', e⟩
        rw [List.take_length] at hd'
        exact q d g H' hd hg' ndg ⟨dx, e _ _ h1p npd⟩ hd' (e _ _ h1g (Ne.symm ndg)) fun b o' z nb => e _ _ (h1o b o' z nb) (ne_of_none z hd)
variable {uC uP uI uD uL uT : Tok} {St : Addr}
/-- what a formula weighs by a kind alone -/
def wOne (x : Fm) (k : Str) : Int := wsm (cW 1 x.1) [(Sum.inr k, .int 1)] (cW 1 x.1) + x.2 * zAt [(Sum.inr k, .int 1)] (Sum.inr "+")
def zv : V → Int
  | .int i => i
  | _ => 0
def KeyFm (q : Key × V) (x : Fm) : Prop := q.1 = Sum.inr (⟨(fL x).toArray⟩ : Str) ∧ okFm x ∧ FitD 128 (cW 1 x.1) ∧ ∀ k, -(2 ^ 60) < wOne x k ∧ wOne x k < 2 ^ 60
def totL (kvs : List (Key × V)) (fs : List Fm) (k : Str) : List Int := List.zipWith (fun q x => zv q.2 * wOne x k) kvs fs
def spTotal (St : Addr) : Sp := fun vs H Q _ => ∃ (st d g : Addr) (k : Str) (kvs : List (Key × V)) (fs : List Fm), vs = [.ref st, .str k] ∧ StoAt St H st d g ∧ H d = some (.dK kvs) ∧ IntD kvs ∧ kvs.length ≤ 900 ∧ Paired KeyFm kvs fs ∧ ∀ H', Same H H' → Q (.int (totL kvs fs k).sum) H'
theorem okW_ch {xs : List PTr} {n : Int} (h : okW 1 xs n) : -999 ≤ n ∧ n ≤ 999 := by
  cases xs with
  | nil =>
    have h : n = -1 := h
    omega
  | cons x r =>
    obtain ⟨_, _, h1, h2⟩ := h
    exact ⟨h1, h2⟩
theorem one_fit (k : Str) : FitD 128 [(Sum.inr k, .int 1)] := fun k' => by
  have e : zAt [(Sum.inr k, .int 1)] k' = if k' = Sum.inr k then 1 else 0 := by
    have := zAt_put [] (Sum.inr k) k' 1
    exact this
  rw [e]
  split
  · exact fit_of (by decide) (by decide)
  · exact fit_of (by decide) (by decide)
theorem one_int (k : Str) : IntD [(Sum.inr k, V.int 1)] := fun p hp => by
  have e : p = (Sum.inr k, V.int 1) := by simpa using hp
  exact ⟨1, by rw [e]⟩
theorem scTotal : FnScope ["self", "kind"] ["self", "kind"] (defScope sTotal) := ⟨rfl, rfl, rfl, by decide +kernel, rfl, by decide +kernel, by decide +kernel⟩
theorem ok_total (D : DefM K St "total" "Store.total" sTotal ["self", "kind"]) (T : TxtS K mg C R G Pc Fo St uK uN uB uE uM uC uP uI uD uL uT) (c1 : CalE P w K mg base 11 "read_formula" ["text"] (spReadF C G Pc Fo 1)) (c2 : CalME P w K mg base 8 Fo "weight" ["self", "weights"] (spFWeightT C G Pc Fo 1)) : CalME P w K mg base 12 St "total" ["self", "kind"] (spTotal St) := by
  obtain ⟨_, _, c_read_formula⟩ := c1
  obtain ⟨_, _, c_Formula_weight⟩ := c2
  refine D.cal scTotal (fun vs H Q E h => ?_) (fun f cdv A outer s H vs Q E hr h => ?_)
  · obtain ⟨st, d, g, k, kvs, fs, rfl, _⟩ := h
    rfl
  · obtain ⟨st, d, g, k, kvs, fs, rfl, ⟨dx, hst⟩, hd, hI, hl, hP, q⟩ := h
    have hu := hu_of hr
    have big : (2000 : Nat) ≤ sizeLine := by decide
    have hpl := Paired.length hP
    refine ⟨_, (pss_one
          (ps_ret (pe_callB (call_sum rfl) rfl T.n_sum bt_sum (pa_cons (pe_thaw (pe_comp (sc := (defScope sTotal)) (NX := ["self", "kind"]) (N := ["text", "many", "kind"]) (fr := [none, none, some 1]) ⟨by rfl, by rfl, by decide +kernel, by decide +kernel, by decide +kernel, by rfl, by decide +kernel⟩ rfl rfl rfl (pi_items (pe_fld (pv 0) rfl)) (fun _ _ _ _ => (pg_tupK K 2 rfl rfl (pgs_cons (pg_name (i := 0) (show (["text", "many", "kind"] : List Str).Nodup by decide +kernel) rfl (Or.inl rfl) (Or.inr rfl)) (pgs_cons (pg_name (i := 1) (show (["text", "many", "kind"] : List Str).Nodup by decide +kernel) rfl (Or.inl rfl) (Or.inr rfl)) pgs_nil)))) (fun _ _ _ _ => pts_nil) (fun _ _ _ _ => (pe_op op_mul (pv 1) (pe_meth (pe_call c_read_formula.ok (hr.mono (by decide)) rfl c_read_formula.g c_read_formula.kp c_read_formula.b .nil pass0 (pa_cons (pv 0) pa_nil)) T.c_Formula c_Formula_weight.m c_Formula_weight.ok (hr.mono (by decide)) c_Formula_weight.b .nil pass0 (pa_cons (pe_disp (pps_cons (pv 2) pe_int pps_nil) rfl rfl (by intro z; cases z) (by decide)) pa_nil)))))) pa_nil)))), ?_⟩
    refine ⟨_, rfl, st, St, dx, _, _, rfl, hst, T.c_Store, T.na_amounts, sfl_amounts _ _, d, kvs, rfl, hd, fun o nf L hL => ?_⟩
    have nLd : L ≠ d := fun z => by rw [z, upd_same] at hL; cases hL
    have hz : (upd H d (.frz o (.dK kvs))) d = some (.frz o (.dK kvs)) := upd_same
    refine comp_it (J := Iti d o kvs) (L := L) kvs.length (upd H d (.frz o (.dK kvs))) (fun σ => ∃ v u : Option V, σ = [v, u, some (.str k)]) (fun i ys => ys = ((totL kvs fs k).take i).map V.int) (items_go hz) (items_stop hz) hL ⟨none, none, rfl⟩ (Same.new hL) upd_same rfl (by omega) ?_ ?_ ?_
    · rintro i ys rfl
      rw [List.length_map, List.length_take]; omega
    · rintro i σ H2 ys hi ⟨v, u, rfl⟩ hs hL2 rfl N M hN y H3 ⟨t, kk, vv, hkv, ht, rfl, rfl⟩
      obtain ⟨x, hx, ek, okf, fc, wb⟩ := paired_get hP hkv
      have ek : kk = Sum.inr (⟨(fL x).toArray⟩ : Str) := ek
      subst ek
      obtain ⟨z, ez⟩ := hI _ (List.mem_of_getElem? hkv)
      have ez : vv = V.int z := ez
      subst ez
      have hzw : (totL kvs fs k)[i]? = some (z * wOne x k) := by unfold totL; rw [List.getElem?_zipWith, hkv, hx]; rfl
      have hx4 : (⟨(fL x).toArray⟩ : Str).length ≤ 400 := by
        have := okf.2.1
        rw [len_arr]
        omega
      obtain ⟨n1, n2⟩ := okW_ch okf.1
      have s3 := hs.trans (Same.new (o := .tup [.str ⟨(fL x).toArray⟩, .int z]) ht)
      refine ⟨t, _, rfl, SqT.of upd_same, rfl, _, _, rfl, _, _, rfl, rfl, _, rfl, _, rfl, _, x.1, x.2, rfl, rfl, okf.1, by decide, hx4, fun f4 H4 nf4 hF e4 => ?_⟩
      have hF4 := hF H4 fun b o' _ z2 => z2
      obtain ⟨df, lf, pf, hf4, _⟩ := id hF4
      refine ⟨f4, df, _, rfl, hf4, fflds_no _ _ (by decide +kernel) (by decide +kernel), fun w5 hw5 => ⟨_, rfl, upd_same, [(Sum.inr k, .int 1)], rfl, (by show 1 ≤ 15; decide), ?_⟩⟩
      have s5 : Same H4 (upd (upd H4 w5 (.dK [])) w5 (.dK (mergeK [] [(Sum.inr k, .int 1)]))) := fun b o' z' => by
        rw [upd_ne (ne_of_none z' hw5), upd_ne (ne_of_none z' hw5)]
        exact z'
      have hflat : (x.1.flatMap (flatP 1)).length ≤ 400 := Nat.le_trans okf.2.2 (by decide)
      refine ⟨f4, w5, x.1, x.2, [(Sum.inr k, .int 1)], rfl, hF4.same s5, okf.1, n1, n2, hflat, fc, by rw [upd_same]; rfl, one_int k, one_fit k, fun H6 e6 => ?_⟩
      have s6 := ((e4.trans s5).trans e6)
      refine ⟨_, _, rfl, rfl, .inr ⟨by have := (wb k).1; show -(2 ^ 64) < wOne x k; omega, by have := (wb k).2; show wOne x k < 2 ^ 64; omega⟩, hN _ _ _ ⟨_, _, rfl⟩ (s3.trans s6) ?_ ?_⟩
      · exact s6 _ _ (by rw [upd_ne (ne_of_none hL2 ht)]; exact hL2)
      · rw [snoc_take hzw, List.map_append]; rfl
    · rintro H2 ys hs hL2 rfl
      have hlt : (totL kvs fs k).length ≤ kvs.length := by unfold totL; rw [List.length_zipWith]; omega
      refine ⟨d, o, kvs, hs _ _ hz, nf, L, totL kvs fs k, rfl, SqL.of ?_, q _ fun b o' z' => ?_⟩
      · rw [upd_ne nLd, hL2, List.take_of_length_le hlt]
      · by_cases bd : b = d
        · subst bd
          rw [upd_same]
          rw [hd] at z'
          exact z'
        · rw [upd_ne bd]
          exact hs _ _ (by rw [upd_ne bd]; exact z')
/-- what is above nought -/
def posD (kvs : List (Key × V)) : List (Key × V) := kvs.filter fun q => decide (0 < zv q.2)
def spStocks (St : Addr) : Sp := fun vs H Q _ => ∃ (st d g : Addr) (kvs : List (Key × V)), vs = [.ref st] ∧ StoAt St H st d g ∧ H d = some (.dK kvs) ∧ IntD kvs ∧ (kvs.map (·.1)).Nodup ∧ kvs.length ≤ 900 ∧ ∀ e H', H e = none → H' e = some (.dK (posD kvs)) → Same H H' → Q (.ref e) H'
theorem scStocks : FnScope ["self"] ["self"] (defScope sStocks) := ⟨rfl, rfl, rfl, by decide +kernel, rfl, by decide +kernel, by decide +kernel⟩
def PvS (L : Addr) (kvs : List (Key × V)) (H0 : Hp) : Nat → List V → Hp → Prop := fun i ys H' => ∃ ps : List (Addr × Key × V), ys = ps.map (fun p => V.ref p.1) ∧ (∀ p ∈ ps, H' p.1 = some (.tup [kV p.2.1, p.2.2]) ∧ p.1 ≠ L) ∧ ps.map (·.2) = posD (kvs.take i)
theorem pos_len (kvs : List (Key × V)) : (posD kvs).length ≤ kvs.length := List.length_filter_le _ _
theorem ok_stocks (D : DefM K St "stocks" "Store.stocks" sStocks ["self"]) (T : TxtS K mg C R G Pc Fo St uK uN uB uE uM uC uP uI uD uL uT) : CalME P w K mg base 1 St "stocks" ["self"] (spStocks St) := by
  refine D.cal scStocks (fun vs H Q E h => ?_) (fun f cdv A outer s H vs Q E hr h => ?_)
  · obtain ⟨st, d, g, kvs, rfl, _⟩ := h
    rfl
  · obtain ⟨st, d, g, kvs, rfl, ⟨dx, hst⟩, hd, hI, hn, hl, q⟩ := h
    have hu := hu_of hr
    have big : (2000 : Nat) ≤ sizeLine := by decide
    refine ⟨_, (pss_one
          (ps_ret (pe_callTy (call_dictP rfl) rfl T.n_dict bt_dict (pa_cons (pe_thaw (pe_comp (sc := (defScope sStocks)) (NX := ["self"]) (N := ["text", "many"]) (fr := [none, none]) ⟨by rfl, by rfl, by decide +kernel, by decide +kernel, by decide +kernel, by rfl, by decide +kernel⟩ rfl rfl rfl (pi_items (pe_fld (pv 0) rfl)) (fun _ _ _ _ => (pg_tupK K 2 rfl rfl (pgs_cons (pg_name (i := 0) (show (["text", "many"] : List Str).Nodup by decide +kernel) rfl (Or.inl rfl) (Or.inr rfl)) (pgs_cons (pg_name (i := 1) (show (["text", "many"] : List Str).Nodup by decide +kernel) rfl (Or.inl rfl) (Or.inr rfl)) pgs_nil)))) (fun _ _ _ _ => (pts_one (pt_cmpR op_gt (pv 1) pe_int (nomark _)))) (fun _ _ _ _ => (pe_tup (pa_cons (pv 0) (pa_cons (pv 1) pa_nil)))))) pa_nil)))), ?_⟩
    refine ⟨_, rfl, st, St, dx, _, _, rfl, hst, T.c_Store, T.na_amounts, sfl_amounts _ _, d, kvs, rfl, hd, fun o nf L hL => ?_⟩
    have nLd : L ≠ d := fun z => by rw [z, upd_same] at hL; cases hL
    have hz : (upd H d (.frz o (.dK kvs))) d = some (.frz o (.dK kvs)) := upd_same
    refine comp_itTH (J := Iti d o kvs) (L := L) kvs.length (upd H d (.frz o (.dK kvs))) (fun σ => ∃ v u : Option V, σ = [v, u]) (PvS L kvs H) (items_go hz) (items_stop hz) ?_ hL ⟨none, none, rfl⟩ (Same.new hL) upd_same ⟨[], rfl, (fun p hp => by cases hp), rfl⟩ (by omega) ?_ ?_ ?_
    · rintro i ys H1 H2 e ⟨ps, e1, e2, e3⟩
      exact ⟨ps, e1, fun p hp => ⟨e _ _ (e2 p hp).1 (e2 p hp).2, (e2 p hp).2⟩, e3⟩
    · rintro i ys H1 ⟨ps, e1, _, e3⟩
      have h1 := congrArg List.length e3
      have h2 := pos_len (kvs.take i)
      rw [List.length_map] at h1
      rw [List.length_take] at h2
      rw [e1, List.length_map]
      omega
    · rintro i σ H2 ys hi ⟨v, u, rfl⟩ hs hL2 ⟨ps, rfl, e2, e3⟩ N M hN hM y H3 ⟨t, kk, vv, hkv, ht, rfl, rfl⟩
      obtain ⟨z, ez⟩ := hI _ (List.mem_of_getElem? hkv)
      have ez : vv = V.int z := ez
      subst ez
      have s3 := hs.trans (Same.new (o := .tup [kV kk, .int z]) ht)
      have hL3 : (upd H2 t (.tup [kV kk, .int z])) L = some (.lst (ps.map fun p => V.ref p.1)) := by rw [upd_ne (ne_of_none hL2 ht)]; exact hL2
      refine ⟨t, _, rfl, SqT.of upd_same, rfl, _, _, rfl, _, _, rfl, rfl, _, rfl, _, _, rfl, rfl, _, rfl, ite2 (fun ec => ?_) fun ec => ?_⟩
      · have ec : 0 < z := by simpa using ec
        refine ⟨_, rfl, _, rfl, (by show 2 ≤ sizeLine; decide), fun t2 ht2 => ?_⟩
        have s4 := Same.new (o := .tup [kV kk, .int z]) ht2
        have nLt : L ≠ t2 := ne_of_none hL3 ht2
        refine hN _ _ _ ⟨_, _, rfl⟩ (s3.trans s4) (s4 _ _ hL3) ⟨ps ++ [(t2, kk, .int z)], by rw [List.map_append]; rfl, fun p hp => ?_, ?_⟩
        · rcases List.mem_append.mp hp with hp | hp
          · exact ⟨s4 _ _ (Same.new ht _ _ (e2 p hp).1), (e2 p hp).2⟩
          · have e' : p = (t2, kk, .int z) := by simpa using hp
            subst e'
            exact ⟨upd_same, Ne.symm nLt⟩
        · unfold posD at e3 ⊢
          rw [List.map_append, e3, take_snoc hkv, List.filter_append, show [(kk, V.int z)].filter (fun q => decide (0 < zv q.2)) = [(kk, V.int z)] by simp [zv, ec]]
          rfl
      · have ec : ¬ 0 < z := by simpa using ec
        refine hM _ _ ⟨_, _, rfl⟩ s3 hL3 ⟨ps, rfl, fun p hp => ⟨Same.new ht _ _ (e2 p hp).1, (e2 p hp).2⟩, ?_⟩
        unfold posD at e3 ⊢
        rw [e3, take_snoc hkv, List.filter_append, show [(kk, V.int z)].filter (fun q => decide (0 < zv q.2)) = [] by simp [zv, ec], List.append_nil]
    · rintro H2 ys hs hL2 ⟨ps, rfl, e2, e3⟩
      rw [List.take_length] at e3
      have s2 : Same H (upd H2 d (.dK kvs)) := fun b o' z' => by
        by_cases bd : b = d
        · subst bd
          rw [upd_same]
          rw [hd] at z'
          exact z'
        · rw [upd_ne bd]
          exact hs _ _ (by rw [upd_ne bd]; exact z')
      refine ⟨d, o, kvs, hs _ _ hz, nf, L, ps, rfl, by rw [upd_ne nLd]; exact hL2, fun p hp => ?_, fun e he => ?_⟩
      · have p1 := (e2 p hp).1
        rw [upd_ne (ne_of p1 (hs _ _ hz) (by intro z; cases z))]
        exact p1
      · have e8 : mergeK [] (ps.map (·.2)) = posD kvs := by
          rw [e3, merge_nd _ [] (by rw [List.nil_append]; exact (List.filter_sublist.map _).nodup hn), List.nil_append]
        rw [e8]
        exact q e _ (none_back s2 he) upd_same (s2.trans (Same.new he))
def spWent (K : PySem.W.Frag) (St : Addr) : Sp := fun vs H Q _ => ∃ (st d g : Addr), vs = [.ref st] ∧ StoAt St H st d g ∧ H g = some (.lst []) ∧ ∀ l H', H l = none → H' l = some (.lst []) → Same H H' → Q (.ref l) H'
theorem scWent : FnScope ["self"] ["self"] (defScope sWent) := ⟨rfl, rfl, rfl, by decide +kernel, rfl, by decide +kernel, by decide +kernel⟩
theorem ok_went (D : DefM K St "went" "Store.went" sWent ["self"]) (T : TxtS K mg C R G Pc Fo St uK uN uB uE uM uC uP uI uD uL uT) : CalME P w K mg base 1 St "went" ["self"] (spWent K St) := by
  refine D.cal scWent (fun vs H Q E h => ?_) (fun f cdv A outer s H vs Q E hr h => ?_)
  · obtain ⟨st, d, g, rfl, _⟩ := h
    rfl
  · obtain ⟨st, d, g, rfl, ⟨dx, hst⟩, hg, q⟩ := h
    refine ⟨_, (pss_one
          (ps_ret (pe_comp (sc := (defScope sWent)) (NX := ["self"]) (N := ["text", "times"]) (fr := [none, none]) ⟨by rfl, by rfl, by decide +kernel, by decide +kernel, by decide +kernel, by rfl, by decide +kernel⟩ rfl rfl rfl (pi_list (pe_fld (pv 0) rfl)) (fun _ _ _ _ => (pg_tupK K 2 rfl rfl (pgs_cons (pg_name (i := 0) (show (["text", "times"] : List Str).Nodup by decide +kernel) rfl (Or.inl rfl) (Or.inr rfl)) (pgs_cons (pg_name (i := 1) (show (["text", "times"] : List Str).Nodup by decide +kernel) rfl (Or.inl rfl) (Or.inr rfl)) pgs_nil)))) (fun _ _ _ _ => pts_nil) (fun _ _ _ _ => (pe_tup (pa_cons (pv 0) (pa_cons (pv 1) pa_nil))))))), ?_⟩
    refine ⟨_, rfl, st, St, dx, _, _, rfl, hst, T.c_Store, T.na_gone, sfl_gone _ _, g, rfl, ⟨_, SqL.of hg⟩, fun L hL => ?_⟩
    refine comp_lst (K := K) (a := g) (L := L) (xs := []) H (fun σ => ∃ v u : Option V, σ = [v, u]) (fun i ys => ys = []) (SqL.of hg) hL ⟨none, none, rfl⟩ (Same.new hL) upd_same rfl (by decide) ?_ ?_ ?_
    · rintro i ys rfl
      exact Nat.zero_le _
    · rintro i x σ H2 ys hx
      cases hx
    · rintro H2 ys hs hL2 rfl
      exact q L H2 hL hL2 hs
variable {uC uP uI uD uL uT : Tok} {St : Addr}
theorem scMixed : FnScope ["_law_cell", "_law_prime", "_law_number"] ["_law_cell", "_law_prime"] (defScope sMixed) := ⟨rfl, rfl, rfl, by decide +kernel, rfl, by decide +kernel, by decide +kernel⟩
def spMix : Sp := fun vs H Q _ => ∃ (c p : Int), vs = [.int c, .int p] ∧ 0 < p ∧ p < 2 ^ 60 ∧ ∀ n, Q (.int n) H
theorem ok_mix (D : Def K mg "_law_mixed" "_law_mixed" sMixed ["_law_cell", "_law_prime"]) : CalE P w K mg base 1 "_law_mixed" ["_law_cell", "_law_prime"] spMix := by
  refine D.cal scMixed (fun vs H Q E h => ?_) (fun f cdv A outer s H vs Q E hr h => ?_)
  · obtain ⟨c, p, rfl, _⟩ := h
    rfl
  · obtain ⟨c, p, rfl, p0, p1, q⟩ := h
    have m0 : 0 ≤ c % 2147483647 := Int.emod_nonneg _ (by decide)
    have m1 : c % 2147483647 < 2147483647 := Int.emod_lt_of_pos _ (by decide)
    refine ⟨_, (pss_cons
          (ps_set (i := 2) scMixed.nd rfl (Or.inl rfl) (pe_op op_add (pe_op op_mod (pv 0) pe_int) pe_int))
        (pss_one
          (ps_ret (pe_op op_mod (pe_op op_add (pe_op op_mul (pe_op op_mul (pv 2) (pv 2)) pe_int) (pv 2)) (pv 1))))), ?_⟩
    refine ⟨_, rfl, _, _, rfl, rfl, (by show (0 : Int) < 2147483647; decide), _, _, rfl, rfl, ?_⟩
    refine ⟨_, rfl, _, rfl, _, _, rfl, rfl, .inl ⟨by omega, by omega⟩, _, _, rfl, rfl, .inr ⟨by decide, by decide⟩, _, rfl, _, _, rfl, rfl, _, rfl, _, _, rfl, rfl, p0, q _⟩
theorem fig12 : figL 12 = [49, 50] := by decide +kernel
theorem fig3 : figL 3 = [51] := by decide +kernel
theorem e12 : (".12" : Str) = ⟨[46, 49, 50].toArray⟩ := by decide +kernel
theorem e413 : (")3" : Str) = ⟨[41, 51].toArray⟩ := by decide +kernel
theorem b3_x (ts : List Tr) (k : List Nat) : wL 1 [(1, ts), (12, [.one k 1])] 0 = ts.flatMap (ttx 1) ++ ([46, 49, 50] ++ k) := by
  show ts.flatMap (ttx 1) ++ (((46 :: (figL 12 ++ (k ++ figL 1 ++ []))) ++ []) ++ []) = _
  rw [fig12, fig1]
  simp
theorem b3_ok {ts : List Tr} (h : okTs ts) {k : List Nat} (hk : okK k) : okB [(1, ts), (12, [.one k 1])] := by
  obtain ⟨h1, h2, h3, h4⟩ := h
  refine ⟨by simp, fun n n1 n2 => ⟨rfl, fun x hx => ?_, n1, n2⟩, ?_, ?_⟩
  · have e : x = (1, ts) ∨ x = (12, [.one k 1]) := by simpa using hx
    rcases e with e | e
    · subst e
      exact ⟨h1, h2, (by show (1 : Int) ≤ 1; decide), (by show (1 : Int) ≤ 999; decide)⟩
    · subst e
      refine ⟨by simp, fun u hu => ?_, (by show (1 : Int) ≤ 12; decide), (by show (12 : Int) ≤ 999; decide)⟩
      have e : u = .one k 1 := by simpa using hu
      subst e
      exact ⟨hk, by decide, by decide⟩
  · have := okK_l3 hk
    rw [b3_x, List.length_append, List.length_append]
    show _ + (3 + _) ≤ 29
    omega
  · show (ts.flatMap (flatT 1 1) ++ ([((⟨k.toArray⟩ : Str), (1 : Int) * 12)] ++ [] ++ [])).length ≤ 7
    rw [List.length_append]
    show _ + 1 ≤ 7
    omega
theorem b3_c (ts : List Tr) (k : List Nat) : cW 1 [(1, ts), (12, [.one k 1])] = addC (cW 1 [(1, ts)]) (Sum.inr ⟨k.toArray⟩) 12 := by
  have e : ([(1, ts), (12, [.one k 1])] : List PTr).flatMap (flatP 1) = ([(1, ts)] : List PTr).flatMap (flatP 1) ++ [((⟨k.toArray⟩ : Str), 1 * 12)] := by
    show ts.flatMap (flatT 1 1) ++ ([((⟨k.toArray⟩ : Str), (1 : Int) * 12)] ++ [] ++ []) = (ts.flatMap (flatT 1 1) ++ []) ++ _
    simp
  unfold cW cntF
  rw [e, List.foldl_append]
  rfl
theorem three_at {k0 k1 k2 : List Nat} (h0 : okK k0) (h1 : okK k1) (h2 : okK k2) {i : Nat} (hi : i < 3) : ∃ k, okK k ∧ atI [V.str ⟨k0.toArray⟩, .str ⟨k1.toArray⟩, .str ⟨k2.toArray⟩] (0 + (i : Int)) = some (V.str ⟨k.toArray⟩) := by
  match i, hi with
  | 0, _ => exact ⟨k0, h0, rfl⟩
  | 1, _ => exact ⟨k1, h1, rfl⟩
  | 2, _ => exact ⟨k2, h2, rfl⟩
theorem few_at {i : Nat} (hi : i < 3) : ∃ z, 0 < z ∧ z < 100 ∧ atI [V.int 1, .int 5, .int 25] (0 + (i : Int)) = some (V.int z) := by
  match i, hi with
  | 0, _ => exact ⟨1, by decide, by decide, rfl⟩
  | 1, _ => exact ⟨5, by decide, by decide, rfl⟩
  | 2, _ => exact ⟨25, by decide, by decide, rfl⟩
def PvM (o : Obj) (KV : List (Key × V)) (d D2 : Addr) (H2 : Hp) : Nat → L2.St → Hp → Prop := fun i σ H' => ∃ (v : Option V) (ps : List (Addr × Key × V)), σ = [v, some (.ref d)] ∧ H' d = some (.frz o (.dK KV)) ∧ H' D2 = some (.lst (ps.map fun p => .ref p.1)) ∧ (∀ p ∈ ps, H' p.1 = some (.tup [kV p.2.1, p.2.2])) ∧ ps.map (·.2) = ((KV.take i).map fun p => (p.1, V.int (3 * zAt KV p.1))) ∧ ∀ b o', H2 b = some o' → b ≠ d → H' b = some o'
def spMatter : Sp := fun vs H Q _ => ∃ (c : Int) (kl : Addr) (k0 k1 k2 : List Nat), vs = [.int c, .ref kl] ∧ H kl = some (.lst [.str ⟨k0.toArray⟩, .str ⟨k1.toArray⟩, .str ⟨k2.toArray⟩]) ∧ okK k0 ∧ okK k1 ∧ okK k2 ∧ ∀ (t : Addr) (x : Fm) H', okFm x → FmAt H' t x → Same H H' → Q (.ref t) H'
theorem scMatter : FnScope ["_law_cell", "_law_kinds", "_law_counts", "_law_text_here", "_law_k", "_law_count_here", "_law_charge"] ["_law_cell", "_law_kinds"] (defScope sMatter) := ⟨rfl, rfl, rfl, by decide +kernel, rfl, by decide +kernel, by decide +kernel⟩
theorem ok_matter (D : Def K mg "_law_matter" "_law_matter" sMatter ["_law_cell", "_law_kinds"]) (T : TxtS K mg C R G Pc Fo St uK uN uB uE uM uC uP uI uD uL uT) (c4 : CalE P w K mg base 1 "_law_figures" ["_law_count_here"] spFigs) :
    CalE P w K mg base 2 "_law_matter" ["_law_cell", "_law_kinds"] spMatter := by
  obtain ⟨_, _, c_l_figures⟩ := c4
  refine D.cal scMatter (fun vs H Q E h => ?_) (fun f cdv A outer s H vs Q E hr h => ?_)
  · obtain ⟨c, kl, k0, k1, k2, rfl, _⟩ := h
    rfl
  · obtain ⟨c, kl, k0, k1, k2, rfl, hkl0, okk0, okk1, okk2, q⟩ := h
    have hu := hu_of hr
    have hu0 := hr.units0
    have big : (2000 : Nat) ≤ sizeLine := by decide
    refine ⟨_, (pss_cons
          (ps_set (i := 2) scMatter.nd rfl (Or.inr rfl) pe_dnewK)
        (pss_cons
          (ps_set (i := 3) scMatter.nd rfl (Or.inl rfl) pe_str)
        (pss_cons
          (ps_for PassesOwn.never rfl (pi_range1 rfl T.n_range (pa_cons pe_int pa_nil)) (pg_name (i := 4) scMatter.nd rfl (Or.inl rfl))
            (pss_cons
              (ps_set (i := 5) scMatter.nd rfl (Or.inl rfl) (pe_op op_mod (pe_op op_fdiv (pv 0) (pe_ix ix_list (pe_lst (pa_cons pe_int (pa_cons pe_int (pa_cons pe_int pa_nil)))) (pv 4) (fun _ _ => rfl))) pe_int))
            (pss_one
              (ps_if (pt_cmpR op_gt (pv 5) pe_int (nomark _))
                (pss_cons
                  (ps_dput hu (pv 2) (pe_ix ix_list (pv 1) (pv 4) (fun _ _ => rfl)) (pe_op op_add (pe_dget2 hu (pv 2) (pe_ix ix_list (pv 1) (pv 4) (fun _ _ => rfl)) pe_int ⟨rfl, rfl, rfl, rfl⟩) (pv 5)) rfl)
                (pss_one
                  (ps_set (i := 3) scMatter.nd rfl (Or.inl rfl) (pe_op op_add_str (pe_op op_add_str (pv 3) (pe_ix ix_list (pv 1) (pv 4) (fun _ _ => rfl))) (pe_call c_l_figures.ok (hr.mono (by decide)) rfl c_l_figures.g c_l_figures.kp c_l_figures.b .nil pass0 (pa_cons (pv 5) pa_nil))))))
                pss_nil))))
        (pss_cons
          (ps_set (i := 6) scMatter.nd rfl (Or.inl rfl) (pe_ix ix_list (pe_lst (pa_cons pe_int (pa_cons pe_int (pa_cons pe_int (pa_cons (pe_un un_neg pe_int) (pa_cons pe_int (pa_cons (pe_un un_neg pe_int) pa_nil))))))) (pe_op op_mod (pe_op op_fdiv (pv 0) pe_int) pe_int) (fun _ _ => rfl)))
        (pss_cons
          (ps_if (pt_cmpR op_eq (pv 3) pe_str (nomark _))
            (pss_one
              (ps_ret (pe_tup (pa_cons pe_str (pa_cons pe_dnewK (pa_cons (pe_un un_neg pe_int) pa_nil))))))
            pss_nil)
        (pss_cons
          (ps_if (pt_cmpR op_eq (pe_op op_mod (pe_op op_fdiv (pv 0) pe_int) pe_int) pe_int (nomark _))
            (pss_cons
              (ps_set (i := 3) scMatter.nd rfl (Or.inl rfl) (pe_op op_add_str (pe_op op_add_str pe_str (pv 3)) pe_str))
            (pss_one
              (ps_set (i := 2) scMatter.nd rfl (Or.inr rfl) (pe_callTy (call_dictP rfl) rfl T.n_dict bt_dict (pa_cons (pe_thaw (pe_comp (sc := (defScope sMatter)) (NX := ["_law_cell", "_law_kinds", "_law_counts", "_law_text_here", "_law_k", "_law_count_here", "_law_charge"]) (N := ["_law_kind_here", "_law_counts"]) (fr := [none, some 2]) ⟨by rfl, by rfl, by decide +kernel, by decide +kernel, by decide +kernel, by rfl, by decide +kernel⟩ rfl rfl rfl (pi_dict (pv 2)) (fun _ _ _ _ => (pg_name (i := 0) (show (["_law_kind_here", "_law_counts"] : List Str).Nodup by decide +kernel) rfl (Or.inl rfl) (Or.inr rfl))) (fun _ _ _ _ => pts_nil) (fun _ _ _ _ => (pe_tup (pa_cons (pv 0) (pa_cons (pe_op op_mul pe_int (pe_dget hu (pv 1) (pv 0) (fun _ _ => rfl))) pa_nil)))))) pa_nil)))))
            pss_nil)
        (pss_cons
          (ps_if (pt_cmpR op_eq (pe_op op_mod (pe_op op_fdiv (pv 0) pe_int) pe_int) pe_int (nomark _))
            (pss_cons
              (ps_set (i := 3) scMatter.nd rfl (Or.inl rfl) (pe_op op_add_str (pe_op op_add_str (pv 3) pe_str) (pe_ix ix_list (pv 1) pe_int (fun _ _ => rfl))))
            (pss_one
              (ps_dput hu (pv 2) (pe_ix ix_list (pv 1) pe_int (fun _ _ => rfl)) (pe_op op_add (pe_dget2 hu (pv 2) (pe_ix ix_list (pv 1) pe_int (fun _ _ => rfl)) pe_int ⟨rfl, rfl, rfl, rfl⟩) pe_int) rfl)))
            pss_nil)
        (pss_cons
          (ps_if (pt_cmpR op_ne (pv 6) pe_int (nomark _))
            (pss_one
              (ps_set (i := 3) scMatter.nd rfl (Or.inl rfl) (pe_op op_add_str (pe_op op_add_str (pe_op op_add_str (pv 3) pe_str) (pe_call c_l_figures.ok (hr.mono (by decide)) rfl c_l_figures.g c_l_figures.kp c_l_figures.b .nil pass0 (pa_cons (pe_callB call_abs rfl T.n_abs bt_abs (pa_cons (pv 6) pa_nil)) pa_nil))) (pe_ix ix_list (pe_lst (pa_cons pe_str (pa_cons pe_str pa_nil))) (pe_callTy call_int1 rfl T.n_int bt_int (pa_cons (pe_cmpR op_gt (pv 6) pe_int (nomark _)) pa_nil)) (fun _ _ => rfl)))))
            pss_nil)
        (pss_one
          (ps_ret (pe_tup (pa_cons (pv 3) (pa_cons (pv 2) (pa_cons (pv 6) pa_nil)))))))))))))), ?_⟩
    refine fun d hd => ?_
    refine ⟨_, rfl, by decide, by decide, for_range (fun i σ H' => ∃ (as : AtL) (v3 v4 : Option V), σ = [some (.int c), some (.ref kl), some (.ref d), some (.str ⟨(as.flatMap fun a => a.1 ++ figL a.2).toArray⟩), v3, v4, none] ∧ okAL as ∧ as.length ≤ i ∧ H' d = some (.dK (cntF 1 [] (at0 as))) ∧ Same H H') ?_ ?_ ?_⟩
    · exact ⟨[], none, none, by rw [e_nil]; rfl, (fun a ha => by cases ha), Nat.le_refl _, upd_same, Same.new hd⟩
    · rintro i σ H' hi ⟨as, v3, v4, rfl, hok, hl, hd', e⟩
      have hi3 : i < 3 := by have : i < (3 : Int).toNat := hi; omega
      obtain ⟨k, hk, hka⟩ := three_at okk0 okk1 okk2 hi3
      obtain ⟨z, z0, z1, hza⟩ := few_at hi3
      have hkl' := e _ _ hkl0
      have sl : ∀ l, H' l = none → Same H' (upd H' l (.lst [V.int 1, .int 5, .int 25])) := fun l hl => Same.new hl
      refine ⟨_, rfl, (by show 3 ≤ sizeLine; decide), fun l hl2 => ⟨_, rfl, l, _, _, V.int z, rfl, rfl, SqL.of upd_same, hza, _, _, rfl, rfl, ⟨z0, by omega⟩, _, _, rfl, rfl, (by show (0 : Int) < 5; decide), ?_⟩⟩
      have e2 := e.trans (sl l hl2)
      have hd2 := sl l hl2 _ _ hd'
      have hk2 := sl l hl2 _ _ hkl'
      have m0 : 0 ≤ c / z % 5 := Int.emod_nonneg _ (by decide)
      have m1 : c / z % 5 < 5 := Int.emod_lt_of_pos _ (by decide)
      dsimp only [gName]
      generalize c / z % 5 = m at m0 m1 ⊢
      generalize upd H' l (.lst [V.int 1, .int 5, .int 25]) = H2 at e2 hd2 hk2 ⊢
      refine ⟨_, rfl, _, _, rfl, rfl, _, rfl, ite2 (fun em => ?_) fun _ => ⟨as, _, _, rfl, hok, by omega, hd2, e2⟩⟩
      have em : 0 < m := by simpa using em
      have za := atoms_len hok
      have zk := okK_l3 hk
      have zm := figs_len (n := m) (by omega) (by omega)
      have hI : IntD (cntF 1 [] (at0 as)) := cnt_int 1 _ _ fun p hp => by cases hp
      have hkl := cnt_len 1 (at0 as) []
      have hal : (at0 as).length = as.length := by unfold at0; rw [List.length_map]
      rw [List.length_nil] at hkl
      refine ⟨_, rfl, d, rfl, .inl ⟨_, .inl hd2⟩, _, rfl, _, rfl, kl, _, _, _, rfl, rfl, SqL.of hk2, hka, _, DGet.k (k := Sum.inr ⟨k.toArray⟩) hd2, _, rfl, _, _, hI.at _, rfl, _, rfl, _, rfl, _, rfl, kl, _, _, _, rfl, rfl, SqL.of hk2, hka, d, _, rfl, DPut.k (k := Sum.inr ⟨k.toArray⟩) hd2 (by omega), ?_⟩
      have nkd : kl ≠ d := ne_of_none hkl0 hd
      have hk3 : (upd H2 d (.dK (putK (cntF 1 [] (at0 as)) (Sum.inr ⟨k.toArray⟩) (.int (zAt (cntF 1 [] (at0 as)) (Sum.inr ⟨k.toArray⟩) + m))))) kl = some (.lst [.str ⟨k0.toArray⟩, .str ⟨k1.toArray⟩, .str ⟨k2.toArray⟩]) := by rw [upd_ne nkd]; exact hk2
      refine ⟨_, rfl, _, rfl, _, rfl, kl, _, _, _, rfl, rfl, SqL.of hk3, hka, _, _, rfl, rfl, by rw [len_arr, len_arr]; omega, _, rfl, m, rfl, by omega, by omega, _, _, rfl, rfl, by rw [str_app_len, len_arr, len_arr]; omega, ?_⟩
      refine ⟨as ++ [(k, m)], some (.int (0 + (i : Int))), some (.int m), ?_, ?_, ?_, ?_, ?_⟩
      · have ex : (⟨(as.flatMap fun a => a.1 ++ figL a.2).toArray⟩ : Str) ++ ⟨k.toArray⟩ ++ figs m = ⟨((as ++ [(k, m)]).flatMap fun a => a.1 ++ figL a.2).toArray⟩ := by
          rw [figs_arr, app_arr, app_arr, List.flatMap_append, List.flatMap_cons, List.flatMap_nil, List.append_nil, List.append_assoc]
        rw [← ex]
        rfl
      · intro a ha
        rcases List.mem_append.mp ha with ha | ha
        · exact hok a ha
        · have ea : a = (k, m) := by simpa using ha
          subst ea
          exact ⟨hk, by omega, by omega⟩
      · rw [List.length_append]
        show as.length + 1 ≤ i + 1
        omega
      · rw [upd_same]
        have ec : cntF 1 [] (at0 (as ++ [(k, m)])) = addC (cntF 1 [] (at0 as)) (Sum.inr ⟨k.toArray⟩) (m * 1) := by
          unfold at0 cntF
          rw [List.map_append, List.foldl_append]
          rfl
        rw [ec, Int.mul_one]
        rfl
      · intro b o z
        rw [upd_ne (ne_of_none z hd)]
        exact e2 _ _ z
    · rintro σ H' ⟨as, v3, v4, rfl, hok, hl, hd', e⟩
      have l3 : as.length ≤ 3 := hl
      have hkl := e _ _ hkl0
      have za := atoms_len hok
      have d0 : 0 ≤ c / 125 % 6 := Int.emod_nonneg _ (by decide)
      have d1 : c / 125 % 6 < 6 := Int.emod_lt_of_pos _ (by decide)
      obtain ⟨v, hv, hat⟩ := atI_in (xs := [V.int 0, V.int 0, V.int 1, V.int (-1), V.int 2, V.int (-14)]) d0 d1
      have hc : ∃ n, v = V.int n ∧ -99 ≤ n ∧ n ≤ 99 := by
        simp only [List.mem_cons, List.not_mem_nil, or_false] at hv
        rcases hv with rfl | rfl | rfl | rfl | rfl | rfl <;> exact ⟨_, rfl, by decide, by decide⟩
      obtain ⟨n, rfl, n1, n2⟩ := hc
      refine ⟨1, rfl, 14, rfl, (by show 6 ≤ sizeLine; decide), fun l hl2 => ⟨_, rfl, _, _, rfl, rfl, ⟨by decide, by decide⟩, _, _, rfl, rfl, (by show (0 : Int) < 6; decide), l, _, _, V.int n, rfl, rfl, SqL.of upd_same, hat, ?_⟩⟩
      have sl := Same.new (o := .lst [V.int 0, V.int 0, V.int 1, V.int (-1), V.int 2, V.int (-14)]) hl2
      have e1 := e.trans sl
      have hd1 := sl _ _ hd'
      have hk1 := sl _ _ hkl
      dsimp only [gName]
      generalize upd H' l (.lst [V.int 0, V.int 0, V.int 1, V.int (-1), V.int 2, V.int (-14)]) = H1 at e1 hd1 hk1 ⊢
      refine ⟨_, rfl, rfl, _, rfl, ite2 (fun et => ?_) fun et => ?_⟩
      · refine fun d3 hd3 => ⟨1, rfl, (by show 3 ≤ sizeLine; decide), fun t ht => ?_⟩
        have e0 : ("e^-" : Str) = ⟨(fL ([], -1)).toArray⟩ := by decide +kernel
        refine q t ([], -1) _ ⟨rfl, (by show 3 ≤ 33; decide), (by show 0 ≤ 7; decide)⟩ ⟨d3, ?_, ?_⟩ (e1.trans ((Same.new hd3).trans (Same.new ht)))
        · rw [upd_same, ← e0]
        · rw [upd_ne (ne_of_none upd_same ht), upd_same]
          rfl
      have l1 : 1 ≤ as.length := by
        cases as with
        | nil => exact absurd (by rw [e_nil]; decide) et
        | cons a r => rw [List.length_cons]; omega
      dsimp only [tNext]
      refine join_if (fun σ' H' => ∃ (ts : List Tr) (d' : Addr), σ' = [some (.int c), some (.ref kl), some (.ref d'), some (.str ⟨(ts.flatMap (ttx 1)).toArray⟩), v3, v4, some (.int n)] ∧ okTs ts ∧ H d' = none ∧ H' d' = some (.dK (cW 1 [(1, ts)])) ∧ Same H H') (fun N hN => ?_) ?_
      · refine ⟨_, rfl, _, _, rfl, rfl, ⟨by decide, by decide⟩, _, _, rfl, rfl, (by show (0 : Int) < 4; decide), rfl, _, rfl, ite2 (fun _ => ?_) fun _ => ?_⟩
        · have l40 : ("(" : Str).length = 1 := by decide +kernel
          have l41 : (")3" : Str).length = 2 := by decide +kernel
          refine ⟨_, rfl, _, _, rfl, rfl, by rw [l40, len_arr]; omega, _, _, rfl, rfl, by rw [str_app_len, l40, l41, len_arr]; omega, ?_⟩
          refine ⟨_, rfl, d, _, rfl, hd1, fun o nf D2 hD2 => ?_⟩
          have hI : IntD (cntF 1 [] (at0 as)) := cnt_int 1 _ _ fun p hp => by cases hp
          have hn : ((cntF 1 [] (at0 as)).map (·.1)).Nodup := cnt_nd 1 _ _ List.nodup_nil
          have hkl := cnt_len 1 (at0 as) []
          have hal : (at0 as).length = as.length := by unfold at0; rw [List.length_map]
          rw [List.length_nil] at hkl
          generalize hK : cntF 1 [] (at0 as) = KV at hd1 hI hn hkl
          have nDd : D2 ≠ d := fun z => by rw [z, upd_same] at hD2; cases hD2
          have hD7 : H1 D2 = none := by rwa [upd_ne nDd] at hD2
          have gen : ∀ i σ H', PvM o KV d D2 H1 i σ H' → H' d = some (.frz o (.dK KV)) := fun i σ H' ⟨_, _, _, z, _⟩ => z
          refine comp_dict (a := d) (D := D2) (kvs := KV) (PvM o KV d D2 H1) ?_ gen ?_ ?_
          · exact ⟨none, [], rfl, by rw [upd_ne (Ne.symm nDd), upd_same], upd_same, (fun p hp => by cases hp), rfl, fun b o' z hb => by rw [upd_ne (ne_of_none z hD7), upd_ne hb]; exact z⟩
          · rintro i k v σ H' hi ⟨v', ps, rfl, f1, f2, f3, f4, f5⟩ N hN
            have hv := hI.val_mem (List.mem_of_getElem? hi)
            have hpl : ps.length ≤ 3 := by
              have := congrArg List.length f4
              rw [List.length_map, List.length_map, List.length_take] at this
              omega
            refine ⟨_, rfl, _, rfl, _, rfl, d, V.int (zAt KV k), rfl, .inl ⟨_, k, .inr ⟨o, f1⟩, rfl, hv.symm⟩, _, _, rfl, rfl, .inl ⟨by decide, by decide⟩, (by show 2 ≤ sizeLine; decide), fun t ht => ?_⟩
            have nDt : D2 ≠ t := ne_of_none f2 ht
            have ndt : d ≠ t := ne_of_none f1 ht
            refine ⟨_, by rw [upd_ne nDt]; exact f2, by rw [List.length_map]; omega, hN _ _ ⟨_, ps ++ [(t, k, V.int (3 * zAt KV k))], rfl, ?_, ?_, ?_, ?_, ?_⟩⟩
            · rw [upd_ne (Ne.symm nDd), upd_ne ndt]; exact f1
            · rw [upd_same, List.map_append]; rfl
            · intro p hp
              rcases List.mem_append.mp hp with hp | hp
              · have p1 := f3 p hp
                rw [upd_ne (ne_of p1 f2 (by intro z; cases z)), upd_ne (ne_of_none p1 ht)]
                exact p1
              · have e' : p = (t, k, V.int (3 * zAt KV k)) := by simpa using hp
                subst e'
                rw [upd_ne (Ne.symm nDt)]; exact upd_same
            · rw [List.map_append, f4, take_snoc hi, List.map_append]
              rfl
            · intro b o' e' hb
              rw [upd_ne (ne_of_none e' hD7), upd_ne (ne_of_none (f5 b o' e' hb) ht)]
              exact f5 b o' e' hb
          rintro σ H' ⟨v', ps, rfl, f1, f2, f3, f4, f5⟩
          rw [List.take_length] at f4
          refine ⟨d, o, KV, f1, nf, D2, ps, rfl, by rw [upd_ne nDd]; exact f2, fun p hp => by rw [upd_ne (ne_of (f3 p hp) f1 (by intro z; cases z))]; exact f3 p hp, fun w hw => ?_⟩
          have e8 : mergeK [] (ps.map (·.2)) = scale 3 KV := by
            rw [f4, merge_nd _ [] (by rw [List.nil_append, List.map_map]; exact hn), List.nil_append, scale_all hI hn]
          have s8' : Same H1 (upd H' d (.dK KV)) := fun b o' e => by
            by_cases z : b = d
            · subst z
              rw [upd_same]
              exact hd1.symm.trans e
            · rw [upd_ne z]; exact f5 b o' e z
          have s8 : Same H1 (upd (upd H' d (.dK KV)) w (.dK (mergeK [] (ps.map (·.2))))) := s8'.trans (Same.new hw)
          refine hN _ _ ⟨[.gr (as.map aT) 3], w, ?_, ts2_ok hok l1 l3 (by decide) (by decide), none_back (e1.trans s8') hw, ?_, e1.trans s8⟩
          · have ex : ("(" : Str) ++ (⟨(as.flatMap fun a => a.1 ++ figL a.2).toArray⟩ : Str) ++ ")3" = ⟨([Tr.gr (as.map aT) 3].flatMap (ttx 1)).toArray⟩ := by
              rw [ts2_x, fig3, e40, e413, show (⟨#[40]⟩ : Str) = ⟨[40].toArray⟩ from rfl, app_arr, app_arr]
              simp
            rw [← ex]
            rfl
          · rw [upd_same, ts2_c, hK, e8]
        · refine hN _ _ ⟨as.map aT, d, by rw [ttx_atoms]; rfl, ts1_ok hok l1 l3, hd, by rw [ts1_c]; exact hd1, e1⟩
      rintro σ' H4 ⟨ts, d4, rfl, okts, hd40, hd4, e4⟩
      have hk4 := e4 _ _ hkl0
      have z1 := okts.2.2.1
      refine join_if (fun σ' H' => ∃ xs : List PTr, σ' = [some (.int c), some (.ref kl), some (.ref d4), some (.str ⟨(wL 1 xs 0).toArray⟩), v3, v4, some (.int n)] ∧ okB xs ∧ H' d4 = some (.dK (cW 1 xs)) ∧ Same H H') (fun N hN => ?_) ?_
      · refine ⟨_, rfl, _, _, rfl, rfl, ⟨by decide, by decide⟩, _, _, rfl, rfl, (by show (0 : Int) < 4; decide), rfl, _, rfl, ite2 (fun _ => ?_) fun _ => ?_⟩
        · have l12 : (".12" : Str).length = 3 := by decide +kernel
          have zk := okK_l3 okk0
          have hI := cW_int [(1, ts)]
          have hl := cW_len (b1_ok okts).2.2.2
          have ha0 : atI [V.str ⟨k0.toArray⟩, .str ⟨k1.toArray⟩, .str ⟨k2.toArray⟩] 0 = some (V.str ⟨k0.toArray⟩) := rfl
          refine ⟨_, rfl, _, _, rfl, rfl, by rw [l12, len_arr]; omega, _, rfl, kl, _, _, _, rfl, rfl, SqL.of hk4, ha0, _, _, rfl, rfl, by rw [str_app_len, l12, len_arr, len_arr]; omega, ?_⟩
          refine ⟨_, rfl, d4, rfl, .inl ⟨_, .inl hd4⟩, _, rfl, kl, _, _, _, rfl, rfl, SqL.of hk4, ha0, _, DGet.k (k := Sum.inr ⟨k0.toArray⟩) hd4, _, _, hI.at _, rfl, _, rfl, _, rfl, kl, _, _, _, rfl, rfl, SqL.of hk4, ha0, d4, _, rfl, DPut.k (k := Sum.inr ⟨k0.toArray⟩) hd4 (by omega), ?_⟩
          refine hN _ _ ⟨[(1, ts), (12, [.one k0 1])], ?_, b3_ok okts okk0, ?_, fun b o z => ?_⟩
          · have ex : (⟨(ts.flatMap (ttx 1)).toArray⟩ : Str) ++ ".12" ++ ⟨k0.toArray⟩ = ⟨(wL 1 [(1, ts), (12, [.one k0 1])] 0).toArray⟩ := by
              rw [b3_x, e12, app_arr, app_arr]
              simp
            rw [← ex]
            rfl
          · rw [upd_same, b3_c]
            rfl
          · rw [upd_ne (ne_of_none z hd40)]
            exact e4 _ _ z
        · exact hN _ _ ⟨[(1, ts)], by rw [b1_x], b1_ok okts, hd4, e4⟩
      rintro σ' H5 ⟨xs, rfl, okb, hd5, e5⟩
      have zb := okb.2.2.1
      refine join_if (fun σ' H' => σ' = [some (.int c), some (.ref kl), some (.ref d4), some (.str ⟨(wL 1 xs n).toArray⟩), v3, v4, some (.int n)] ∧ H' d4 = some (.dK (cW 1 xs)) ∧ Same H H') (fun N hN => ?_) ?_
      · refine ⟨_, rfl, rfl, _, rfl, ite2 (fun e => ?_) fun e => ?_⟩
        · have e : ¬ n = 0 := by simpa using e
          have a1 : 1 ≤ (if n < 0 then -n else n) := by split <;> omega
          have a2 : (if n < 0 then -n else n) ≤ 999 := by split <;> omega
          have z := figs_len a1 a2
          have g1 : ("^" : Str).length = 1 := by decide +kernel
          have g2 : (if 0 < n then ("+" : Str) else ("-" : Str)).length = 1 := by split <;> decide +kernel
          refine ⟨_, rfl, _, _, rfl, rfl, by rw [g1, len_arr]; omega, _, rfl, n, rfl, _, rfl, a1, a2, _, _, rfl, rfl, by rw [str_app_len, g1, len_arr]; omega, (by show 2 ≤ sizeLine; decide), fun y hy => ⟨_, rfl, _, _, rfl, rfl, .inr ⟨_, rfl, y, _, _, V.str _, rfl, rfl, SqL.of upd_same, sgn_at n, _, _, rfl, rfl, ?_, hN _ _ ⟨?_, ?_, e5.trans (Same.new hy)⟩⟩⟩⟩
          · rw [str_app_len, str_app_len, len_arr, g1, g2]
            omega
          · have ex : (⟨(wL 1 xs 0).toArray⟩ : Str) ++ "^" ++ figs (if n < 0 then -n else n) ++ (if 0 < n then ("+" : Str) else ("-" : Str)) = ⟨(wL 1 xs n).toArray⟩ := by
              rw [w_ch okb.1 n, ← app_arr, ch_text e, ← str_assoc, ← str_assoc]
            rw [← ex]
            rfl
          · rw [upd_ne (ne_of_none hd5 hy)]
            exact hd5
        · have e : n = 0 := by simpa using e
          subst e
          exact hN _ _ ⟨rfl, hd5, e5⟩
      rintro σ' H6 ⟨rfl, hd6, e6⟩
      exact ⟨_, rfl, _, rfl, _, rfl, (by show 3 ≤ sizeLine; decide), fun t ht => q t (xs, n) _ (fm_ok okb n1 n2) ⟨d4, upd_same, by rw [upd_ne (ne_of_none hd6 ht)]; exact hd6⟩ (e6.trans (Same.new ht))⟩
variable {uC uP uI uD uL uT : Tok} {St : Addr}
theorem flat_bnd : ∀ (d : Nat) (m : Int) (t : Tr), okT d t → 0 ≤ m → ∀ p ∈ flatT d m t, 0 ≤ p.2 ∧ p.2 ≤ 999 * (999 ^ d * m)
  | d, m, .one k n, h, hm, p, hp => by
    have e : flatT d m (.one k n) = [(⟨k.toArray⟩, n * m)] := by cases d <;> rfl
    rw [e] at hp
    have h : okK k ∧ 1 ≤ n ∧ n ≤ 999 := by cases d <;> exact h
    have ep : p = (⟨k.toArray⟩, n * m) := by simpa using hp
    rw [ep]
    have p1 : (1 : Int) ≤ 999 ^ d := Int.pow_pos (by decide)
    have p2 : m ≤ 999 ^ d * m := by
      have := Int.mul_le_mul_of_nonneg_right p1 hm
      rwa [Int.one_mul] at this
    refine ⟨Int.mul_nonneg (by omega) hm, ?_⟩
    exact Int.le_trans (Int.mul_le_mul_of_nonneg_right h.2.2 hm) (Int.mul_le_mul_of_nonneg_left p2 (by decide))
  | 0, _, .gr _ _, h, _, _, _ => h.elim
  | d + 1, m, .gr ts n, h, hm, p, hp => by
    obtain ⟨t, ht, hp⟩ := List.mem_flatMap.mp hp
    obtain ⟨_, h1, n1, n2⟩ := h
    have nm : 0 ≤ n * m := Int.mul_nonneg (by omega) hm
    obtain ⟨q1, q2⟩ := flat_bnd d (n * m) t (h1 t ht) nm p hp
    refine ⟨q1, Int.le_trans q2 ?_⟩
    have p0 : (0 : Int) ≤ 999 ^ d := Int.le_of_lt (Int.pow_pos (by decide))
    have e : (999 : Int) ^ (d + 1) * m = 999 ^ d * (999 * m) := by rw [Int.pow_succ, Int.mul_assoc]
    rw [e]
    exact Int.mul_le_mul_of_nonneg_left (Int.mul_le_mul_of_nonneg_left (Int.mul_le_mul_of_nonneg_right n2 hm) p0) (by decide)
theorem flat_kind : ∀ (d : Nat) (m : Int) (t : Tr), okT d t → ∀ p ∈ flatT d m t, ∃ k, okK k ∧ p.1 = ⟨k.toArray⟩
  | d, m, .one k n, h, p, hp => by
    have e : flatT d m (.one k n) = [(⟨k.toArray⟩, n * m)] := by cases d <;> rfl
    rw [e] at hp
    have h : okK k ∧ 1 ≤ n ∧ n ≤ 999 := by cases d <;> exact h
    have ep : p = (⟨k.toArray⟩, n * m) := by simpa using hp
    exact ⟨k, h.1, by rw [ep]⟩
  | 0, _, .gr _ _, h, _, _ => h.elim
  | d + 1, m, .gr ts n, h, p, hp => by
    obtain ⟨t, ht, hp⟩ := List.mem_flatMap.mp hp
    exact flat_kind d (n * m) t (h.2.1 t ht) p hp
theorem okK_plus {k : List Nat} (h : okK k) : (⟨k.toArray⟩ : Str) ≠ "+" := by
  obtain ⟨c, rr, rfl, hc, _⟩ := h
  rw [e43]
  intro z'
  have := congrArg (fun s : Str => s.cps.toList) z'
  have e2 : c = 43 := by
    have h3 : (c :: rr) = [43] := by simpa using this
    exact (List.cons.inj h3).1
  subst e2
  simp [isG] at hc
theorem one_ok {k : List Nat} (hk : okK k) {n : Int} (n1 : 1 ≤ n) (n2 : n ≤ 999) : okTs [.one k n] := by
  refine ⟨by simp, fun t ht => ?_, ?_, (by show 1 ≤ 5; decide)⟩
  · have e : t = .one k n := by simpa using ht
    subst e
    exact ⟨hk, n1, n2⟩
  · have h1 := okK_l3 hk
    have h2 := figL_len n1 n2
    show ((k ++ figL n) ++ []).length ≤ 23
    rw [List.append_nil, List.length_append]
    omega
theorem fOne_ok {k : List Nat} (hk : okK k) : okFm ([(1, [.one k 1])], 0) := fm_ok (b1_ok (one_ok hk (by decide) (by decide))) (by decide) (by decide)
theorem fOne_x (k : List Nat) : fL ([(1, [.one k 1])], 0) = k := by
  show (k ++ figL 1 ++ []) ++ ([] ++ chL 0) = _
  rw [fig1, show chL 0 = [] from rfl]
  simp
theorem fE_ok : okFm ([], -1) := ⟨rfl, (by show 3 ≤ 33; decide), (by show 0 ≤ 7; decide)⟩
theorem fE_x : (⟨(fL ([], -1)).toArray⟩ : Str) = "e^-" := by decide +kernel
theorem put_mem {kvs : List (Key × V)} {k : Key} {v : V} {q : Key × V} (h : q ∈ putK kvs k v) : q ∈ kvs ∨ q = (k, v) := by
  unfold putK at h
  split at h
  · obtain ⟨r, hr, e⟩ := List.mem_map.mp h
    subst e
    split
    · rename_i e
      exact .inr (by rw [e])
    · exact .inl hr
  · rcases List.mem_append.mp h with h | h
    · exact .inl h
    · exact .inr (by simpa using h)
theorem cnt_key {Pk : Key → Prop} (t : Int) : ∀ (as : List (Str × Int)) (acc : List (Key × V)), (∀ q ∈ acc, Pk q.1) → (∀ p ∈ as, Pk (Sum.inr p.1)) → ∀ q ∈ cntF t acc as, Pk q.1
  | [], _, h, _, q, hq => h q hq
  | p :: r, acc, h, h', q, hq => by
    refine cnt_key t r (addC acc (Sum.inr p.1) (p.2 * t)) (fun q hq => ?_) (fun p hp => h' p (List.mem_cons_of_mem _ hp)) q hq
    rcases put_mem hq with hq | hq
    · exact h q hq
    · rw [hq]
      exact h' p (List.mem_cons_self ..)
theorem cW_key {x : Fm} (h : okFm x) : ∀ q ∈ cW 1 x.1, ∃ k, okK k ∧ q.1 = Sum.inr (⟨k.toArray⟩ : Str) := by
  refine cnt_key (Pk := fun j => ∃ k, okK k ∧ j = Sum.inr (⟨k.toArray⟩ : Str)) 1 _ [] (fun q hq => by cases hq) fun p hp => ?_
  obtain ⟨y, hy, hp⟩ := List.mem_flatMap.mp hp
  have oky := okW_okX h.1 y hy
  obtain ⟨t, ht, hp⟩ := List.mem_flatMap.mp hp
  obtain ⟨k, hk, e⟩ := flat_kind 1 y.1 t (oky.2.1 t ht) p hp
  exact ⟨k, hk, by rw [e]⟩
theorem cW_bnd {x : Fm} (h : okFm x) : Bnd (2 ^ 50) (cW 1 x.1) := by
  have hb := cnt_bnd (t := 1) (b := 1000000000000) (by decide) (x.1.flatMap (flatP 1)) [] 0 (Int.le_refl _) (fun p hp => by cases hp) fun p hp => by
    obtain ⟨y, hy, hp⟩ := List.mem_flatMap.mp hp
    obtain ⟨_, h1, n1, n2⟩ := okW_okX h.1 y hy
    obtain ⟨t, ht, hp⟩ := List.mem_flatMap.mp hp
    obtain ⟨q1, q2⟩ := flat_bnd 1 y.1 t (h1 t ht) (by omega) p hp
    rw [Int.mul_one]
    refine ⟨q1, ?_⟩
    have : (999 : Int) ^ 1 * y.1 ≤ 999 * 999 := by
      rw [show (999 : Int) ^ 1 = 999 from rfl]
      exact Int.mul_le_mul_of_nonneg_left n2 (by decide)
    omega
  intro p hp
  obtain ⟨i, e, b0, b1⟩ := hb p hp
  refine ⟨i, e, b0, ?_⟩
  have := h.2.2
  have : (2 : Int) ^ 50 = 1125899906842624 := by decide
  have e7 : ((x.1.flatMap (flatP 1)).length : Int) * 1000000000000 ≤ 7 * 1000000000000 := Int.mul_le_mul_of_nonneg_right (by omega) (by decide)
  omega
theorem cW_nd (x : Fm) : ((cW 1 x.1).map (·.1)).Nodup := cnt_nd1 _
theorem sum_pick (f : Key → Int) (j : Key) : ∀ {l : List (Key × V)}, (l.map (·.1)).Nodup → (l.map fun p => f p.1 * (if p.1 = j then 1 else 0)).sum = if j ∈ l.map (·.1) then f j else 0
  | [], _ => rfl
  | p :: r, hn => by
    rw [List.map_cons, List.nodup_cons] at hn
    rw [List.map_cons, List.sum_cons, sum_pick f j hn.2, List.map_cons]
    by_cases e : p.1 = j
    · subst e
      rw [if_pos rfl, if_neg hn.1, if_pos (List.mem_cons_self ..), Int.mul_one, Int.add_zero]
    · rw [if_neg e, Int.mul_zero, Int.zero_add]
      by_cases m : j ∈ r.map (·.1)
      · rw [if_pos m, if_pos (List.mem_cons_of_mem _ m)]
      · rw [if_neg m, if_neg (fun z => by rcases List.mem_cons.mp z with z | z; exact e z.symm; exact m z)]
theorem zAt_one (k : Str) (k' : Key) : zAt [(Sum.inr k, .int 1)] k' = if k' = Sum.inr k then 1 else 0 := zAt_put [] (Sum.inr k) k' 1
theorem wsm_one {D : List (Key × V)} (hn : (D.map (·.1)).Nodup) (k : Str) : wsm D [(Sum.inr k, .int 1)] D = zAt D (Sum.inr k) := by
  have h := sum_pick (zAt D) (Sum.inr k) hn
  unfold wsm
  have e : (D.map fun p => zAt D p.1 * zAt [(Sum.inr k, V.int 1)] p.1) = D.map fun p => zAt D p.1 * (if p.1 = Sum.inr k then 1 else 0) := List.map_congr_left fun p _ => by rw [zAt_one]
  rw [e, h]
  split
  · rfl
  · rename_i m
    rw [zAt_none (out_none m)]
theorem no_plus {x : Fm} (h : okFm x) : ¬ (Sum.inr "+" : Key) ∈ (cW 1 x.1).map (·.1) := fun m => by
  obtain ⟨q, hq, e⟩ := List.mem_map.mp m
  obtain ⟨k, hk, e'⟩ := cW_key h q hq
  rw [e] at e'
  injection e' with e'
  exact okK_plus hk e'.symm
/-- what a formula tells of a kind, or of the charge -/
def kD (x : Fm) : List (Key × V) := putK (cW 1 x.1) (Sum.inr "+") (.int x.2)
theorem wOne_k {x : Fm} (h : okFm x) (k : Str) : wOne x k = zAt (kD x) (Sum.inr k) := by
  unfold wOne kD
  rw [wsm_one (cW_nd x), zAt_put, zAt_one]
  by_cases e : k = "+"
  · subst e
    rw [if_pos rfl, if_pos rfl, zAt_none (out_none (no_plus h)), Int.zero_add, Int.mul_one]
  · rw [if_neg (fun z => e (by injection z with z; exact z.symm)), if_neg (fun z => e (by injection z)), Int.mul_zero, Int.add_zero]
theorem wOne_b {x : Fm} (h : okFm x) (k : Str) : -(2 ^ 60) < wOne x k ∧ wOne x k < 2 ^ 60 := by
  rw [wOne_k h]
  unfold kD
  rw [zAt_put]
  split
  · have := okW_ch h.1
    omega
  · have := (cW_bnd h).z_at (by decide) (Sum.inr k)
    omega
theorem key_fm {x : Fm} (h : okFm x) (v : V) : KeyFm (Sum.inr (⟨(fL x).toArray⟩ : Str), v) x := ⟨rfl, h, fit_bnd fun p hp => by
  obtain ⟨i, e, b0, b1⟩ := cW_bnd h p hp
  have : (2 : Int) ^ 50 ≤ 2 ^ 127 := by decide
  exact ⟨i, e, b0, by omega⟩, wOne_b h⟩
/-- the texts that the law tells of: of the world's formulas, of their kinds, and of the electron -/
def Told (ws : List Fm) (s : Str) : Prop := s = "e^-" ∨ (∃ w ∈ ws, s = ⟨(fL w).toArray⟩) ∨ ∃ w ∈ ws, (Sum.inr s : Key) ∈ (cW 1 w.1).map (·.1)
theorem told_good {ws : List Fm} (h : ∀ w ∈ ws, okFm w) {s : Str} (t : Told ws s) : GoodX s := by
  rcases t with rfl | ⟨w, hw, rfl⟩ | ⟨w, hw, hs⟩
  · exact ⟨_, fE_ok, fE_x.symm⟩
  · exact ⟨w, h w hw, rfl⟩
  · obtain ⟨q, hq, e⟩ := List.mem_map.mp hs
    obtain ⟨k, hk, e'⟩ := cW_key (h w hw) q hq
    rw [e] at e'
    injection e' with e'
    exact ⟨_, fOne_ok hk, by rw [fOne_x, e']⟩
theorem zzz_good : GoodX "Zzz9" := ⟨([(1, [.one [90, 122, 122] 9])], 0), fm_ok (b1_ok (one_ok (k := [90, 122, 122]) ⟨90, [122, 122], rfl, by decide, by decide, by decide⟩ (by decide) (by decide))) (by decide) (by decide), by decide +kernel⟩
variable {uC uP uI uD uL uT : Tok} {St : Addr}
theorem FmAt.but {D : Addr} {H H' : Hp} (e : ∀ b o, H b = some o → b ≠ D → H' b = some o) {t : Addr} {x : Fm} (ht : t ≠ D) {d : Addr} (hd : d ≠ D) (h1 : H t = some (.tup [.str ⟨(fL x).toArray⟩, .ref d, .int x.2])) (h2 : H d = some (.dK (cW 1 x.1))) : FmAt H' t x := ⟨d, e _ _ h1 ht, e _ _ h2 hd⟩
def WorldAt (H : Hp) (l : Addr) (ws : List Fm) : Prop := ∃ ts : List Addr, H l = some (.lst (ts.map V.ref)) ∧ Paired (FmAt H) ts ws
theorem WorldAt.same {H H' : Hp} {l : Addr} {ws : List Fm} (h : WorldAt H l ws) (e : Same H H') : WorldAt H' l ws := let ⟨ts, h1, h2⟩ := h; ⟨ts, e _ _ h1, paired_imp (fun _ _ z => z.same e) h2⟩
def spWorld (K : PySem.W.Frag) : Sp := fun vs H Q _ => ∃ (a : Addr) (ns : List Int), vs = [.ref a] ∧ SqL K H a (ns.map V.int) ∧ ns.length ≤ 63 ∧ ∀ (l : Addr) (ws : List Fm) H', WorldAt H' l ws → (∀ w ∈ ws, okFm w) → ws.length = 3 → Same H H' → Q (.ref l) H'
theorem scWorld : FnScope ["_law_script", "_law_kinds"] ["_law_script"] (defScope sWorld) := ⟨rfl, rfl, rfl, by decide +kernel, rfl, by decide +kernel, by decide +kernel⟩
theorem ok_world (D : Def K mg "_law_world" "_law_world" sWorld ["_law_script"]) (T : TxtS K mg C R G Pc Fo St uK uN uB uE uM uC uP uI uD uL uT) (c1 : CalE P w K mg base 1 "_law_cell_at" ["_law_script", "_law_k"] (spCellAt K)) (c2 : CalE P w K mg base 1 "_law_mixed" ["_law_cell", "_law_prime"] spMix) (c3 : CalE P w K mg base 1 "_law_kind" ["_law_number"] spKindK) (c4 : CalE P w K mg base 2 "_law_matter" ["_law_cell", "_law_kinds"] spMatter) :
    CalE P w K mg base 3 "_law_world" ["_law_script"] (spWorld K) := by
  obtain ⟨_, _, c_l_cell_at⟩ := c1
  obtain ⟨_, _, c_l_mixed⟩ := c2
  obtain ⟨_, _, c_l_kind⟩ := c3
  obtain ⟨_, _, c_l_matter⟩ := c4
  refine D.cal scWorld (fun vs H Q E h => ?_) (fun f cdv A outer s H vs Q E hr h => ?_)
  · obtain ⟨a, ns, rfl, _⟩ := h
    rfl
  · obtain ⟨a, ns, rfl, hS, hlen, q⟩ := h
    have hu := hu_of hr
    have hu0 := hr.units0
    have big : (2000 : Nat) ≤ sizeLine := by decide
    refine ⟨_, (pss_cons
          (ps_set (i := 1) scWorld.nd rfl (Or.inr rfl) (pe_comp (sc := (defScope sWorld)) (NX := ["_law_script", "_law_kinds"]) (N := ["_law_k", "_law_script"]) (fr := [none, some 0]) ⟨by rfl, by rfl, by decide +kernel, by decide +kernel, by decide +kernel, by rfl, by decide +kernel⟩ rfl rfl rfl (pi_range1 rfl T.n_range (pa_cons pe_int pa_nil)) (fun _ _ _ _ => (pg_name (i := 0) (show (["_law_k", "_law_script"] : List Str).Nodup by decide +kernel) rfl (Or.inl rfl) (Or.inr rfl))) (fun _ _ _ _ => pts_nil) (fun _ _ _ _ => (pe_call c_l_kind.ok (hr.mono (by decide)) rfl c_l_kind.g c_l_kind.kp c_l_kind.b .nil pass0 (pa_cons (pe_call c_l_mixed.ok (hr.mono (by decide)) rfl c_l_mixed.g c_l_mixed.kp c_l_mixed.b .nil pass0 (pa_cons (pe_call c_l_cell_at.ok (hr.mono (by decide)) rfl c_l_cell_at.g c_l_cell_at.kp c_l_cell_at.b .nil pass0 (pa_cons (pv 1) (pa_cons (pv 0) pa_nil))) (pa_cons pe_int pa_nil))) pa_nil)))))
        (pss_one
          (ps_ret (pe_comp (sc := (defScope sWorld)) (NX := ["_law_script", "_law_kinds"]) (N := ["_law_k", "_law_kinds", "_law_script"]) (fr := [none, some 1, some 0]) ⟨by rfl, by rfl, by decide +kernel, by decide +kernel, by decide +kernel, by rfl, by decide +kernel⟩ rfl rfl rfl (pi_range1 rfl T.n_range (pa_cons pe_int pa_nil)) (fun _ _ _ _ => (pg_name (i := 0) (show (["_law_k", "_law_kinds", "_law_script"] : List Str).Nodup by decide +kernel) rfl (Or.inl rfl) (Or.inr rfl))) (fun _ _ _ _ => pts_nil) (fun _ _ _ _ => (pe_call c_l_matter.ok (hr.mono (by decide)) rfl c_l_matter.g c_l_matter.kp c_l_matter.b .nil pass0 (pa_cons (pe_call c_l_mixed.ok (hr.mono (by decide)) rfl c_l_mixed.g c_l_mixed.kp c_l_mixed.b .nil pass0 (pa_cons (pe_call c_l_cell_at.ok (hr.mono (by decide)) rfl c_l_cell_at.g c_l_cell_at.kp c_l_cell_at.b .nil pass0 (pa_cons (pv 2) (pa_cons (pe_op op_add pe_int (pv 0)) pa_nil))) (pa_cons pe_int pa_nil))) (pa_cons (pv 1) pa_nil)))))))), ?_⟩
    refine ⟨_, rfl, by decide, by decide, fun L hL => comp_rng (L := L) H (fun σ => ∃ v : Option V, σ = [v, some (.ref a)]) (fun i ys => ∃ ks : List (List Nat), ys = ks.map (fun k => V.str ⟨k.toArray⟩) ∧ ks.length = i ∧ ∀ k ∈ ks, okK k) hL ⟨none, rfl⟩ (Same.new hL) upd_same ⟨[], rfl, rfl, fun k hk => by cases hk⟩ (by decide) ?_ ?_ ?_⟩
    · rintro i ys ⟨ks, rfl, e, _⟩
      rw [List.length_map, e]; exact Nat.le_refl _
    · rintro i σ H2 ys hi ⟨v, rfl⟩ e2 hL2 ⟨ks, rfl, hkl, hks⟩ N M hN
      refine ⟨_, rfl, _, rfl, a, ns, i, by rw [Int.zero_add]; rfl, e2.seq hS, hlen, fun n => ⟨n, 1000003, rfl, by decide, by decide, fun n2 => ⟨n2, rfl, fun k H3 hk e3 => ?_⟩⟩⟩
      refine hN _ _ _ ⟨_, rfl⟩ (e2.trans e3) (e3 _ _ hL2) ⟨ks ++ [k], by rw [List.map_append]; rfl, by rw [List.length_append, hkl]; rfl, fun k' hk' => ?_⟩
      rcases List.mem_append.mp hk' with z | z
      · exact hks k' z
      · have : k' = k := by simpa using z
        rw [this]; exact hk
    rintro H2 ys e2 hL2 ⟨ks, rfl, hkl, hks⟩
    obtain ⟨k0, k1, k2, rfl⟩ : ∃ k0 k1 k2, ks = [k0, k1, k2] := by
      match ks, hkl with
      | [k0, k1, k2], _ => exact ⟨k0, k1, k2, rfl⟩
    have hk0 := hks k0 (by simp)
    have hk1 := hks k1 (by simp)
    have hk2 := hks k2 (by simp)
    refine ⟨_, rfl, by decide, by decide, fun L3 hL3 => comp_rngH (L := L3) H2 (fun σ => ∃ v : Option V, σ = [v, some (.ref L), some (.ref a)]) (fun i ys H' => ∃ (ts ds : List Addr) (ws : List Fm), ys = ts.map V.ref ∧ ts.length = i ∧ (∀ w ∈ ws, okFm w) ∧ Paired (fun t x => t ≠ L3 ∧ ∃ d, d ≠ L3 ∧ H' t = some (.tup [.str ⟨(fL x).toArray⟩, .ref d, .int x.2]) ∧ H' d = some (.dK (cW 1 x.1))) ts ws) ?_ hL3 ⟨none, rfl⟩ (Same.new hL3) upd_same ⟨[], [], [], rfl, rfl, (fun k hk => by cases hk), .nil⟩ (by decide) ?_ ?_ ?_⟩
    · rintro i ys Ha Hb hb ⟨ts, ds, ws, h1, h2, h3, h4⟩
      exact ⟨ts, ds, ws, h1, h2, h3, paired_imp (fun t x ⟨n1, d, n2, z1, z2⟩ => ⟨n1, d, n2, hb _ _ z1 n1, hb _ _ z2 n2⟩) h4⟩
    · rintro i ys H' ⟨ts, ds, ws, rfl, h2, _⟩
      rw [List.length_map, h2]; exact Nat.le_refl _
    · rintro i σ H5 ys hi ⟨v, rfl⟩ e5 hL5 ⟨ts, ds, ws, rfl, htl, hok, hP⟩ N M hN
      have ek : (3 : Int) + (0 + (i : Int)) = ((3 + i : Nat) : Int) := by omega
      refine ⟨_, rfl, _, rfl, _, _, rfl, rfl, a, ns, 3 + i, by rw [← ek]; rfl, e5.seq (e2.seq hS), hlen, fun n => ⟨n, 1000033, rfl, by decide, by decide, fun n2 => ⟨_, rfl, n2, L, k0, k1, k2, rfl, e5 _ _ hL2, hk0, hk1, hk2, fun t x H6 okx hF e6 => ?_⟩⟩⟩
      obtain ⟨d, h1, h2⟩ := hF
      have hL6 := e6 _ _ hL5
      refine hN _ _ _ ⟨_, rfl⟩ (e5.trans e6) hL6 ⟨ts ++ [t], ds, ws ++ [x], by rw [List.map_append]; rfl, by rw [List.length_append, htl]; rfl, fun w hw => ?_, ?_⟩
      · rcases List.mem_append.mp hw with z | z
        · exact hok w z
        · have : w = x := by simpa using z
          rw [this]; exact okx
      · exact paired_snoc ⟨ne_of h1 hL6 (by intro z; cases z), d, ne_of h2 hL6 (by intro z; cases z), h1, h2⟩ (paired_imp (fun t x ⟨n1, d, n2, z1, z2⟩ => ⟨n1, d, n2, e6 _ _ z1, e6 _ _ z2⟩) hP)
    · rintro H5 ys e5 hL5 ⟨ts, ds, ws, rfl, htl, hok, hP⟩
      refine q L3 ws H5 ⟨ts, hL5, paired_imp (fun t x ⟨n1, d, n2, z1, z2⟩ => ⟨d, z1, z2⟩) hP⟩ hok ?_ (e2.trans e5)
      rw [← Paired.length hP, htl]; rfl
def spTexts : Sp := fun vs H Q _ => ∃ (l : Addr) (ws : List Fm), vs = [.ref l] ∧ WorldAt H l ws ∧ (∀ w ∈ ws, okFm w) ∧ ws.length = 3 ∧ ∀ (e : Addr) (xs : List Str) H', H' e = some (.lst (xs.map V.str)) → (∀ x ∈ xs, Told ws x) → 1 ≤ xs.length → xs.length ≤ 30 → Same H H' → Q (.ref e) H'
theorem scTexts : FnScope ["_law_world_here", "_law_found", "_law_text_here", "_law_counts", "_law_charge", "_law_kind_here"] ["_law_world_here"] (defScope sTexts) := ⟨rfl, rfl, rfl, by decide +kernel, rfl, by decide +kernel, by decide +kernel⟩
/-- keys that the law tells of -/
def KeysT (ws : List Fm) (kvs : List (Key × V)) : Prop := ∀ q ∈ kvs, ∃ s, q.1 = Sum.inr s ∧ Told ws s
theorem KeysT.put {ws : List Fm} {kvs : List (Key × V)} (h : KeysT ws kvs) {s : Str} (hs : Told ws s) (v : V) : KeysT ws (putK kvs (Sum.inr s) v) := fun q hq => by
  rcases put_mem hq with hq | hq
  · exact h q hq
  · exact ⟨s, by rw [hq], hs⟩
theorem putK_ge (kvs : List (Key × V)) (k : Key) (v : V) : kvs.length ≤ (putK kvs k v).length := by
  unfold putK
  split
  · rw [List.length_map]; exact Nat.le_refl _
  · rw [List.length_append]; exact Nat.le_add_right _ _
theorem keysT_str {ws : List Fm} : ∀ {kvs : List (Key × V)}, KeysT ws kvs → ∃ xs : List Str, (kvs.map fun q => kV q.1) = xs.map V.str ∧ (∀ x ∈ xs, Told ws x) ∧ xs.length = kvs.length
  | [], _ => ⟨[], rfl, (fun x hx => by cases hx), rfl⟩
  | p :: r, h => by
    obtain ⟨xs, e, h1, h2⟩ := keysT_str (kvs := r) fun q hq => h q (List.mem_cons_of_mem _ hq)
    obtain ⟨s, es, hs⟩ := h p (List.mem_cons_self ..)
    refine ⟨s :: xs, ?_, fun x hx => ?_, by rw [List.length_cons, List.length_cons, h2]⟩
    · rw [List.map_cons, List.map_cons, e, es]
      rfl
    · rcases List.mem_cons.mp hx with z | z
      · rw [z]; exact hs
      · exact h1 x z
theorem ok_texts (D : Def K mg "_law_texts" "_law_texts" sTexts ["_law_world_here"]) (T : TxtS K mg C R G Pc Fo St uK uN uB uE uM uC uP uI uD uL uT) : CalE P w K mg base 1 "_law_texts" ["_law_world_here"] spTexts := by
  refine D.cal scTexts (fun vs H Q E h => ?_) (fun f cdv A outer s H vs Q E hr h => ?_)
  · obtain ⟨l, ws, rfl, _⟩ := h
    rfl
  · obtain ⟨l, ws, rfl, ⟨ts, hl, hP⟩, hok, h3, q⟩ := h
    have hu := hu_of hr
    have hu0 := hr.units0
    have big : (2000 : Nat) ≤ sizeLine := by decide
    have hpl := Paired.length hP
    refine ⟨_, (pss_cons
          (ps_set (i := 1) scTexts.nd rfl (Or.inl rfl) (pe_disp (pps_cons pe_str pe_bl pps_nil) rfl rfl (by intro z; cases z) (by decide)))
        (pss_cons
          (ps_for PassesOwn.never rfl (pi_list (pv 0)) (pg_tup rfl (pgs_cons (pg_name (i := 2) scTexts.nd rfl (Or.inl rfl)) (pgs_cons (pg_name (i := 3) scTexts.nd rfl (Or.inl rfl)) (pgs_cons (pg_name (i := 4) scTexts.nd rfl (Or.inl rfl)) pgs_nil))))
            (pss_cons
              (ps_dput hu (pv 1) (pv 2) pe_bl rfl)
            (pss_one
              (ps_thaw (ps_for PassesOwn.never rfl (pi_dict (pv 3)) (pg_name (i := 5) scTexts.nd rfl (Or.inl rfl))
                (pss_one
                  (ps_dput hu (pv 1) (pv 5) pe_bl rfl)))))))
        (pss_one
          (ps_ret (pe_callTy (call_list_dict rfl) rfl T.n_list bt_list (pa_cons (pv 1) pa_nil)))))), ?_⟩
    refine fun d hd => ?_
    refine ⟨upd_same, [(Sum.inr "e^-", .bl true)], rfl, (by show 1 ≤ 15; decide), ?_⟩
    have hd0 : (upd (upd H d (.dK [])) d (.dK (mergeK [] [(Sum.inr "e^-", V.bl true)]))) d = some (.dK [(Sum.inr "e^-", .bl true)]) := upd_same
    have s0 : Same H (upd (upd H d (.dK [])) d (.dK (mergeK [] [(Sum.inr "e^-", V.bl true)]))) := fun b o z => by
      rw [upd_ne (ne_of_none z hd), upd_ne (ne_of_none z hd)]
      exact z
    generalize upd (upd H d (.dK [])) d (.dK (mergeK [] [(Sum.inr "e^-", V.bl true)])) = H0 at hd0 s0 ⊢
    refine ⟨_, rfl, l, rfl, ⟨_, SqL.of (s0 _ _ hl)⟩, for_list (K := K) (a := l) (xs := ts.map V.ref) (fun i σ H' => ∃ (kvs : List (Key × V)) (v2 v3 v4 v5 : Option V), σ = [some (.ref l), some (.ref d), v2, v3, v4, v5] ∧ H' d = some (.dK kvs) ∧ KeysT ws kvs ∧ 1 ≤ kvs.length ∧ kvs.length ≤ 1 + 8 * i ∧ Same H H') ?_ (fun i σ H' _ ⟨_, _, _, _, _, _, _, _, _, _, z⟩ => SqL.of (z _ _ hl)) ?_ ?_⟩
    · refine ⟨_, none, none, none, none, rfl, hd0, fun q hq => ?_, Nat.le_refl _, Nat.le_refl _, s0⟩
      have e : q = ((Sum.inr ("e^-" : Str), V.bl true) : Key × V) := by simpa using hq
      exact ⟨"e^-", by rw [e], .inl rfl⟩
    · rintro i v σ H' hi ⟨kvs, v2, v3, v4, v5, rfl, hd', hT, hk1, hk2, e⟩
      rw [List.getElem?_map] at hi
      obtain ⟨t, ht, rfl⟩ : ∃ p, ts[i]? = some p ∧ v = V.ref p := by
        cases hh : ts[i]? with
        | none => rw [hh] at hi; cases hi
        | some p => rw [hh] at hi; exact ⟨p, rfl, (Option.some.inj hi).symm⟩
      obtain ⟨x, hx, cd, h1, h2⟩ := paired_get hP ht
      have hxm := List.mem_of_getElem? hx
      have okx := hok x hxm
      have hil : i < 3 := by have := (List.getElem?_eq_some_iff.mp hx).1; omega
      have hcl : (cW 1 x.1).length ≤ 7 := cW_len okx.2.2
      have ncd : cd ≠ d := ne_of_none h2 hd
      refine ⟨t, _, rfl, SqT.of (e _ _ h1), rfl, _, _, rfl, _, _, rfl, _, _, rfl, rfl, ?_⟩
      refine ⟨_, rfl, _, rfl, d, _, rfl, DPut.k (k := Sum.inr ⟨(fL x).toArray⟩) hd' (by omega), ?_⟩
      have hT1 := hT.put (.inr (.inl ⟨x, hxm, rfl⟩)) (V.bl true)
      have hl1 : (putK kvs (Sum.inr (⟨(fL x).toArray⟩ : Str)) (V.bl true)).length ≤ kvs.length + 1 := length_putK _ _ _
      have hg1 : kvs.length ≤ (putK kvs (Sum.inr (⟨(fL x).toArray⟩ : Str)) (V.bl true)).length := putK_ge _ _ _
      generalize putK kvs (Sum.inr (⟨(fL x).toArray⟩ : Str)) (V.bl true) = kv1 at hT1 hl1 hg1 ⊢
      have e1 : Same H (upd H' d (.dK kv1)) := fun b o z => by rw [upd_ne (ne_of_none z hd)]; exact e _ _ z
      have hd1 : (upd H' d (.dK kv1)) d = some (.dK kv1) := upd_same
      generalize upd H' d (.dK kv1) = H1 at e1 hd1 ⊢
      dsimp only [gName]
      refine ⟨_, rfl, cd, cW 1 x.1, rfl, e1 _ _ h2, fun o nf => for_dict nf (fun j σ H3 => ∃ (w : Option V) (kv3 : List (Key × V)), σ = [some (.ref l), some (.ref d), some (.str ⟨(fL x).toArray⟩), some (.ref cd), some (.int x.2), w] ∧ H3 d = some (.dK kv3) ∧ KeysT ws kv3 ∧ 1 ≤ kv3.length ∧ kv3.length ≤ 2 + 8 * i + j ∧ Same H H3) ?_ (fun j σ H3 ⟨_, _, _, _, _, _, _, z⟩ => z _ _ h2) ?_ ?_⟩
      · exact ⟨v5, kv1, rfl, hd1, hT1, by omega, by omega, e1⟩
      · rintro j k v σ H3 hj ⟨w, kv3, rfl, hd3, hT3, hk3, hl3, e3⟩
        obtain ⟨kk, hkk, ek⟩ := cW_key okx _ (List.mem_of_getElem? hj)
        have ek : k = Sum.inr (⟨kk.toArray⟩ : Str) := ek
        subst ek
        have hjl : j < (cW 1 x.1).length := (List.getElem?_eq_some_iff.mp hj).1
        have hd4 : (upd H3 cd (.frz o (.dK (cW 1 x.1)))) d = some (.dK kv3) := by rw [upd_ne (Ne.symm ncd)]; exact hd3
        refine ⟨_, rfl, _, rfl, d, _, rfl, DPut.k (k := Sum.inr ⟨kk.toArray⟩) hd4 (by omega), ?_⟩
        have hT4 := hT3.put (.inr (.inr ⟨x, hxm, List.mem_map_of_mem (f := (·.1)) (List.mem_of_getElem? hj)⟩)) (V.bl true)
        have hl4 : (putK kv3 (Sum.inr (⟨kk.toArray⟩ : Str)) (V.bl true)).length ≤ kv3.length + 1 := length_putK _ _ _
        have hg4 : kv3.length ≤ (putK kv3 (Sum.inr (⟨kk.toArray⟩ : Str)) (V.bl true)).length := putK_ge _ _ _
        refine ⟨by rw [upd_ne ncd]; exact upd_same, _, _, rfl, by rw [upd_ne (Ne.symm ncd), upd_same], hT4, by omega, by omega, fun b o' z => ?_⟩
        by_cases bc : b = cd
        · subst bc
          rw [upd_same]
          rw [h2] at z
          exact z
        · rw [upd_ne bc, upd_ne (ne_of_none z hd), upd_ne bc]
          exact e3 _ _ z
      · rintro σ H3 ⟨w, kv3, rfl, hd3, hT3, hk3, hl3, e3⟩
        exact ⟨kv3, _, _, _, _, rfl, hd3, hT3, hk3, by omega, e3⟩
    · rintro σ H' ⟨kvs, v2, v3, v4, v5, rfl, hd', hT, hk1, hk2, e⟩
      rw [List.length_map, hpl, h3] at hk2
      refine ⟨_, rfl, d, kvs, rfl, .inl hd', fun l2 hl2 => ?_⟩
      have ex : ∃ xs : List Str, (kvs.map fun q => kV q.1) = xs.map V.str ∧ (∀ x ∈ xs, Told ws x) ∧ xs.length = kvs.length := keysT_str hT
      obtain ⟨xs, ex, hxs, hxl⟩ := ex
      exact q l2 xs _ (by rw [upd_same, ex]) hxs (by omega) (by omega) (e.trans (Same.new hl2))
variable {uC uP uI uD uL uT : Tok} {St : Addr}
def spMany : Sp := fun vs H Q _ => ∃ c : Int, vs = [.int c] ∧ ∀ n, Q (.int n) H
theorem scMany : FnScope ["_law_cell"] ["_law_cell"] (defScope sMany) := ⟨rfl, rfl, rfl, by decide +kernel, rfl, by decide +kernel, by decide +kernel⟩
theorem ok_many (D : Def K mg "_law_many" "_law_many" sMany ["_law_cell"]) : CalE P w K mg base 1 "_law_many" ["_law_cell"] spMany := by
  refine D.cal scMany (fun vs H Q E h => ?_) (fun f cdv A outer s H vs Q E hr h => ?_)
  · obtain ⟨c, rfl, _⟩ := h
    rfl
  · obtain ⟨c, rfl, q⟩ := h
    refine ⟨_, (pss_cons
          (ps_if (pt_cmpR op_eq (pe_op op_mod (pv 0) pe_int) pe_int (nomark _))
            (pss_one
              (ps_ret (pe_op op_mod (pe_op op_fdiv (pv 0) pe_int) (pe_op op_pow pe_int pe_int))))
            pss_nil)
        (pss_one
          (ps_ret (pe_op op_mod (pe_op op_fdiv (pv 0) pe_int) pe_int)))), ?_⟩
    refine ⟨_, rfl, _, _, rfl, rfl, (by show (0 : Int) < 3; decide), rfl, _, rfl, ite2 (fun _ => ?_) fun _ => ?_⟩
    · exact ⟨_, rfl, _, _, rfl, rfl, ⟨by decide, by decide⟩, _, _, rfl, rfl, ⟨by decide, by decide, by decide⟩, _, _, rfl, rfl, (by show (0 : Int) < 10 ^ 60; decide), q _⟩
    · exact ⟨_, rfl, _, _, rfl, rfl, ⟨by decide, by decide⟩, _, _, rfl, rfl, (by show (0 : Int) < 31; decide), q _⟩
def spAmts : Sp := fun vs H Q _ => ∃ (e d : Addr) (kvs : List (Key × V)), vs = [.ref e, .ref d] ∧ H e = some (.dK (posD kvs)) ∧ H d = some (.dK kvs) ∧ e ≠ d ∧ IntD kvs ∧ (kvs.map (·.1)).Nodup ∧ kvs.length ≤ 900 ∧ ∀ H', Same H H' → Q (.bl true) H'
theorem scAmountsL : FnScope ["_law_found", "_law_due", "_law_text_here"] ["_law_found", "_law_due"] (defScope sAmountsL) := ⟨rfl, rfl, rfl, by decide +kernel, rfl, by decide +kernel, by decide +kernel⟩
theorem pos_nd {kvs : List (Key × V)} (hn : (kvs.map (·.1)).Nodup) : ((posD kvs).map (·.1)).Nodup := (List.filter_sublist.map _).nodup hn
theorem ok_amts (D : Def K mg "_law_amounts" "_law_amounts" sAmountsL ["_law_found", "_law_due"]) (T : TxtS K mg C R G Pc Fo St uK uN uB uE uM uC uP uI uD uL uT) (c1 : CalE P w K mg base 1 "_law_whole" ["_law_found"] spWhole) : CalE P w K mg base 2 "_law_amounts" ["_law_found", "_law_due"] spAmts := by
  obtain ⟨_, _, c_l_whole⟩ := c1
  refine D.cal scAmountsL (fun vs H Q E h => ?_) (fun f cdv A outer s H vs Q E hr h => ?_)
  · obtain ⟨e, d, kvs, rfl, _⟩ := h
    rfl
  · obtain ⟨e, d, kvs, rfl, he, hd, ned, hI, hn, hl, q⟩ := h
    have hu := hu_of hr
    have hu0 := hr.units0
    have big : (2000 : Nat) ≤ sizeLine := by decide
    refine ⟨_, (pss_cons
          (ps_if (pt_not (pt_val (pe_callB call_isinst rfl T.n_isinstance bt_isinstance (pa_cons (pv 0) (pa_cons (pe_bltn (v := .ty "dict") rfl T.n_dict bt_dict rfl) pa_nil)))))
            (pss_one
              (ps_ret pe_bl))
            pss_nil)
        (pss_cons
          (ps_thaw (ps_for PassesOwn.never rfl (pi_dict (pv 0)) (pg_name (i := 2) scAmountsL.nd rfl (Or.inl rfl))
            (pss_one
              (ps_if (PW.pt (pw_or (pt_not (pt_val (pe_call c_l_whole.ok (hr.mono (by decide)) rfl c_l_whole.g c_l_whole.kp c_l_whole.b .nil pass0 (pa_cons (pe_dget hu (pv 0) (pv 2) (fun _ _ => rfl)) pa_nil)))) (pw_or (pt_cmpR op_ne (pe_dget hu (pv 0) (pv 2) (fun _ _ => rfl)) (pe_dget2 hu (pv 1) (pv 2) pe_int ⟨rfl, rfl, rfl, rfl⟩) (nomark _)) (pw_or1 (pt_cmpR op_lt (pe_dget hu (pv 0) (pv 2) (fun _ _ => rfl)) pe_int (nomark _))))))
                (pss_one
                  (ps_ret pe_bl))
                pss_nil))))
        (pss_one
          (ps_ret (pe_cmpR op_eq (pe_callB call_lenDR rfl T.n_len bt_len (pa_cons (pv 0) pa_nil)) (pe_callB call_len_seq rfl T.n_len bt_len (pa_cons (pe_thaw (pe_comp (sc := (defScope sAmountsL)) (NX := ["_law_found", "_law_due", "_law_text_here"]) (N := ["_law_text_here", "_law_due"]) (fr := [none, some 1]) ⟨by rfl, by rfl, by decide +kernel, by decide +kernel, by decide +kernel, by rfl, by decide +kernel⟩ rfl rfl rfl (pi_dict (pv 1)) (fun _ _ _ _ => (pg_name (i := 0) (show (["_law_text_here", "_law_due"] : List Str).Nodup by decide +kernel) rfl (Or.inl rfl) (Or.inr rfl))) (fun _ _ _ _ => (pts_one (pt_cmpR op_gt (pe_dget hu (pv 1) (pv 0) (fun _ _ => rfl)) pe_int (nomark _)))) (fun _ _ _ _ => (pv 0)))) pa_nil)) (nomark _)))))), ?_⟩
    refine ⟨_, rfl, _, _, _, _, _, rfl, rfl, .dK he, T.k3, _, rfl, iteF ?_⟩
    have hIp : IntD (posD kvs) := fun p hp => hI p ((List.mem_filter.mp hp).1)
    refine ⟨_, rfl, e, posD kvs, rfl, he, fun o nf => for_dict nf (fun i σ H' => ∃ v : Option V, σ = [some (.ref e), some (.ref d), v] ∧ H' = H) ⟨none, rfl, rfl⟩ (fun i σ H' ⟨_, _, z⟩ => by rw [z]; exact he) ?_ ?_⟩
    · rintro i k v σ H' hi ⟨v2, rfl, rfl⟩
      have hm := List.mem_of_getElem? hi
      obtain ⟨z, ez⟩ := hIp _ hm
      have ez : v = V.int z := ez
      subst ez
      have hz0 : 0 < z := by
        have := (List.mem_filter.mp hm).2
        exact of_decide_eq_true this
      have hzk : zAt kvs k = z := zat_mem hn ((List.mem_filter.mp hm).1)
      have hv : valV (posD kvs) k = some (V.int z) := valV_mem (pos_nd hn) hm
      have hd' : (upd H' e (.frz o (.dK (posD kvs)))) d = some (.dK kvs) := by rw [upd_ne (Ne.symm ned)]; exact hd
      have hg := hI.at k
      rw [hzk] at hg
      refine ⟨_, rfl, _, rfl, e, V.int z, rfl, .inl ⟨_, k, .inr ⟨o, upd_same⟩, rfl, hv.symm⟩, z, rfl, _, rfl, iteF ?_⟩
      refine ⟨_, rfl, _, rfl, e, V.int z, rfl, .inl ⟨_, k, .inr ⟨o, upd_same⟩, rfl, hv.symm⟩, _, rfl, d, rfl, .inl ⟨_, .inl hd'⟩, _, rfl, _, DGet.k (k := k) hd', ?_⟩
      rw [hg]
      refine ⟨rfl, _, rfl, iteNS rfl ⟨_, rfl, _, rfl, e, V.int z, rfl, .inl ⟨_, k, .inr ⟨o, upd_same⟩, rfl, hv.symm⟩, _, _, rfl, rfl, _, rfl, ite2 (fun ec => ?_) fun _ => ?_⟩⟩
      · have ec : z < 1 := by simpa using ec
        omega
      · exact ⟨upd_same, some (kV k), rfl, by rw [upd_upd, upd_back he]⟩
    · rintro σ H' ⟨v, rfl, rfl⟩
      refine ⟨_, rfl, e, posD kvs, rfl, .inl he, _, rfl, d, kvs, rfl, hd, fun o nf L hL => ?_⟩
      have nLd : L ≠ d := fun z => by rw [z, upd_same] at hL; cases hL
      have hL0 : H' L = none := by rwa [upd_ne nLd] at hL
      refine comp_dict (a := d) (D := L) (kvs := kvs) (fun i σ H2 => ∃ (v : Option V) (ys : List V), σ = [v, some (.ref d)] ∧ H2 d = some (.frz o (.dK kvs)) ∧ H2 L = some (.lst ys) ∧ ys.length = (posD (kvs.take i)).length ∧ ∀ b o', H' b = some o' → b ≠ d → H2 b = some o') ?_ (fun i σ H2 ⟨_, _, _, z, _⟩ => z) ?_ ?_
      · exact ⟨none, [], rfl, by rw [upd_ne (Ne.symm nLd), upd_same], upd_same, rfl, fun b o' z hb => by rw [upd_ne (ne_of_none z hL0), upd_ne hb]; exact z⟩
      · rintro i k v σ H2 hi ⟨v', ys, rfl, f1, f2, f4, f5⟩ N hN
        have hm := List.mem_of_getElem? hi
        obtain ⟨z, ez⟩ := hI _ hm
        have ez : v = V.int z := ez
        subst ez
        have hv : valV kvs k = some (V.int z) := valV_mem hn hm
        have hil := (List.getElem?_eq_some_iff.mp hi).1
        have hyl := pos_len (kvs.take i)
        rw [List.length_take] at hyl
        refine ⟨_, rfl, _, rfl, d, V.int z, rfl, .inl ⟨_, k, .inr ⟨o, f1⟩, rfl, hv.symm⟩, _, _, rfl, rfl, _, rfl, ite2 (fun ec => ?_) fun ec => ?_⟩
        · have ec : 0 < z := by simpa using ec
          refine ⟨_, rfl, _, f2, by omega, hN _ _ ⟨_, ys ++ [kV k], rfl, by rw [upd_ne (Ne.symm nLd)]; exact f1, upd_same, ?_, fun b o' z' hb => by rw [upd_ne (ne_of_none z' hL0)]; exact f5 b o' z' hb⟩⟩
          unfold posD at f4 ⊢
          rw [List.length_append, f4, take_snoc hi, List.filter_append, show [(k, V.int z)].filter (fun q => decide (0 < zv q.2)) = [(k, V.int z)] by simp [zv, ec], List.length_append]
          rfl
        · have ec : ¬ 0 < z := by simpa using ec
          refine hN _ _ ⟨_, ys, rfl, f1, f2, ?_, f5⟩
          unfold posD at f4 ⊢
          rw [f4, take_snoc hi, List.filter_append, show [(k, V.int z)].filter (fun q => decide (0 < zv q.2)) = [] by simp [zv, ec], List.append_nil]
      · rintro σ H2 ⟨v', ys, rfl, f1, f2, f4, f5⟩
        rw [List.take_length] at f4
        refine ⟨d, o, kvs, f1, nf, L, ys, rfl, .inl (SqL.of (by rw [upd_ne nLd]; exact f2)), rfl, ?_⟩
        rw [f4, decide_eq_true rfl]
        refine q _ fun b o' z' => ?_
        by_cases bd : b = d
        · subst bd
          rw [upd_same]
          rw [hd] at z'
          exact z'
        · rw [upd_ne bd]
          exact f5 _ _ z' bd
variable {uC uP uI uD uL uT : Tok} {St : Addr}
theorem put_in (kvs : List (Key × V)) (k : Key) (v : V) : k ∈ (putK kvs k v).map (·.1) := by
  unfold putK
  split
  · rename_i h
    obtain ⟨q, hq, e⟩ := List.any_eq_true.mp h
    have e : q.1 = k := by simpa using e
    exact List.mem_map.mpr ⟨(q.1, v), List.mem_map.mpr ⟨q, hq, by rw [if_pos e]⟩, e⟩
  · rw [List.map_append]
    exact List.mem_append_right _ (by simp)
theorem put_old {kvs : List (Key × V)} {k j : Key} {v : V} (h : j ∈ kvs.map (·.1)) : j ∈ (putK kvs k v).map (·.1) := by
  obtain ⟨q, hq, rfl⟩ := List.mem_map.mp h
  unfold putK
  split
  · refine List.mem_map.mpr ⟨if q.1 = k then (q.1, v) else q, List.mem_map.mpr ⟨q, hq, rfl⟩, ?_⟩
    split <;> rfl
  · rw [List.map_append]
    exact List.mem_append_left _ (List.mem_map_of_mem hq)
theorem kD_int (x : Fm) : IntD (kD x) := fun p hp => by
  rcases put_mem hp with hp | hp
  · exact cW_int _ p hp
  · exact ⟨x.2, by rw [hp]⟩
/-- what the law keeps of a formula -/
def KnAt (H0 H : Hp) (kn : Addr) (q : Key × V) : Prop := ∃ (x : Fm) (p : Addr), q = (Sum.inr (⟨(fL x).toArray⟩ : Str), .ref p) ∧ okFm x ∧ H p = some (.dK (kD x)) ∧ H0 p = none ∧ p ≠ kn
theorem KnAt.to {H0 H H' : Hp} {kn : Addr} {q : Key × V} (h : KnAt H0 H kn q) (e : ∀ b o, H b = some o → H0 b = none → b ≠ kn → H' b = some o) : KnAt H0 H' kn q := let ⟨x, p, h1, h2, h3, h4, h5⟩ := h; ⟨x, p, h1, h2, e _ _ h3 h4 h5, h4, h5⟩
def TB (w : Fm) (s : Str) : Prop := s = ⟨(fL w).toArray⟩ ∨ (Sum.inr s : Key) ∈ (cW 1 w.1).map (·.1)
def KnAll (H0 H : Hp) (kn : Addr) (kk : List (Key × V)) : Prop := H kn = some (.dK kk) ∧ ∀ q ∈ kk, KnAt H0 H kn q
theorem KnAll.put {H0 H H' : Hp} {kn : Addr} {kk : List (Key × V)} (h : KnAll H0 H kn kk) {x : Fm} {p : Addr} (okx : okFm x) (hk : H' kn = some (.dK (putK kk (Sum.inr (⟨(fL x).toArray⟩ : Str)) (.ref p)))) (hp : H' p = some (.dK (kD x))) (h0 : H0 p = none) (np : p ≠ kn) (e : ∀ b o, H b = some o → H0 b = none → b ≠ kn → H' b = some o) : KnAll H0 H' kn (putK kk (Sum.inr (⟨(fL x).toArray⟩ : Str)) (.ref p)) := by
  refine ⟨hk, fun q hq => ?_⟩
  rcases put_mem hq with hq | hq
  · exact (h.2 q hq).to e
  · exact ⟨x, p, hq, okx, hp, h0, np⟩
theorem paired_ch {α β : Type} {Rl : α → β → Prop} : ∀ {as : List α}, (∀ a ∈ as, ∃ b, Rl a b) → ∃ bs, Paired Rl as bs
  | [], _ => ⟨[], .nil⟩
  | a :: r, h => by
    obtain ⟨b, hb⟩ := h a (List.mem_cons_self ..)
    obtain ⟨bs, hbs⟩ := paired_ch (as := r) fun a ha => h a (List.mem_cons_of_mem _ ha)
    exact ⟨b :: bs, .cons hb hbs⟩
theorem val_key {kk : List (Key × V)} {j : Key} (h : j ∈ kk.map (·.1)) : ∃ v, valV kk j = some v ∧ (j, v) ∈ kk := by
  cases e : valV kk j with
  | none => exact absurd h (valV_not e)
  | some v => exact ⟨v, rfl, valV_mem' e⟩
def spTotalL (St : Addr) : Sp := fun vs H Q _ => ∃ (st d g l am : Addr) (k : Str) (kvs : List (Key × V)) (ws : List Fm), vs = [.ref st, .ref l, .ref am, .str k] ∧ StoAt St H st d g ∧ H d = some (.dK kvs) ∧ H am = some (.dK kvs) ∧ IntD kvs ∧ (kvs.map (·.1)).Nodup ∧ KeysT ws kvs ∧ kvs.length ≤ 900 ∧ WorldAt H l ws ∧ (∀ w ∈ ws, okFm w) ∧ ws.length = 3 ∧ ∀ H', Same H H' → Q (.bl true) H'
theorem scTotalL : FnScope ["_law_store", "_law_world_here", "_law_amounts_here", "_law_kind_here", "_law_due", "_law_known", "_law_text_here", "_law_counts", "_law_charge", "_law_one", "_law_found"] ["_law_store", "_law_world_here", "_law_amounts_here", "_law_kind_here"] (defScope sTotalL) := ⟨rfl, rfl, rfl, by decide +kernel, rfl, by decide +kernel, by decide +kernel⟩
theorem ok_totalL (D : Def K mg "_law_total" "_law_total" sTotalL ["_law_store", "_law_world_here", "_law_amounts_here", "_law_kind_here"]) (T : TxtS K mg C R G Pc Fo St uK uN uB uE uM uC uP uI uD uL uT) (c1 : CalME P w K mg base 12 St "total" ["self", "kind"] (spTotal St)) (c2 : CalE P w K mg base 1 "_law_whole" ["_law_found"] spWhole) : CalE P w K mg base 13 "_law_total" ["_law_store", "_law_world_here", "_law_amounts_here", "_law_kind_here"] (spTotalL St) := by
  obtain ⟨_, _, c_Store_total⟩ := c1
  obtain ⟨_, _, c_l_whole⟩ := c2
  refine D.cal scTotalL (fun vs H Q E h => ?_) (fun f cdv A outer s H vs Q E hr h => ?_)
  · obtain ⟨st, d, g, l, am, k, kvs, ws, rfl, _⟩ := h
    rfl
  · obtain ⟨st, d, g, l, am, k, kvs, ws, rfl, ⟨dx, hst⟩, hd, ham, hI, hn, hT, hlen, ⟨ts, hl, hP⟩, hok, h3, q⟩ := h
    have hu := hu_of hr
    have hu0 := hr.units0
    have big : (2000 : Nat) ≤ sizeLine := by decide
    have hpl := Paired.length hP
    refine ⟨_, (pss_cons
          (ps_set (i := 4) scTotalL.nd rfl (Or.inl rfl) pe_int)
        (pss_cons
          (ps_set (i := 5) scTotalL.nd rfl (Or.inl rfl) pe_dnewK)
        (pss_cons
          (ps_for PassesOwn.never rfl (pi_list (pv 1)) (pg_tup rfl (pgs_cons (pg_name (i := 6) scTotalL.nd rfl (Or.inl rfl)) (pgs_cons (pg_name (i := 7) scTotalL.nd rfl (Or.inl rfl)) (pgs_cons (pg_name (i := 8) scTotalL.nd rfl (Or.inl rfl)) pgs_nil))))
            (pss_cons
              (ps_dput hu (pv 5) (pv 6) (pe_callTy call_dictD rfl T.n_dict bt_dict (pa_cons (pv 7) pa_nil)) rfl)
            (pss_cons
              (ps_dput hu (pe_dget hu (pv 5) (pv 6) (fun _ _ => rfl)) pe_str (pv 8) rfl)
            (pss_one
              (ps_thaw (ps_for PassesOwn.never rfl (pi_dict (pv 7)) (pg_name (i := 9) scTotalL.nd rfl (Or.inl rfl))
                (pss_one
                  (ps_dput hu (pv 5) (pv 9) (pe_disp (pps_cons (pv 9) pe_int (pps_cons pe_str pe_int pps_nil)) rfl rfl (by intro z; cases z) (by decide)) rfl))))))))
        (pss_cons
          (ps_dput hu (pv 5) pe_str (pe_disp (pps_cons pe_str (pe_un un_neg pe_int) pps_nil) rfl rfl (by intro z; cases z) (by decide)) rfl)
        (pss_cons
          (ps_thaw (ps_for PassesOwn.never rfl (pi_dict (pv 2)) (pg_name (i := 6) scTotalL.nd rfl (Or.inl rfl))
            (pss_one
              (ps_set (i := 4) scTotalL.nd rfl (Or.inl rfl) (pe_op op_add (pv 4) (pe_op op_mul (pe_dget hu (pv 2) (pv 6) (fun _ _ => rfl)) (pe_dget2 hu (pe_dget hu (pv 5) (pv 6) (fun _ _ => rfl)) (pv 3) pe_int ⟨rfl, rfl, rfl, rfl⟩)))))))
        (pss_cons
          (ps_set (i := 10) scTotalL.nd rfl (Or.inl rfl) (pe_meth (pv 0) T.c_Store c_Store_total.m c_Store_total.ok (hr.mono (by decide)) c_Store_total.b .nil pass0 (pa_cons (pv 3) pa_nil)))
        (pss_one
          (ps_ret (pe_and (pe_call c_l_whole.ok (hr.mono (by decide)) rfl c_l_whole.g c_l_whole.kp c_l_whole.b .nil pass0 (pa_cons (pv 10) pa_nil)) (pe_one (pe_cmpR op_eq (pv 10) (pv 4) (nomark _)))))))))))), ?_⟩
    refine fun kn hkn => ?_
    have s0 := Same.new (o := .dK []) hkn
    refine ⟨_, rfl, l, rfl, ⟨_, SqL.of (s0 _ _ hl)⟩, for_list (K := K) (a := l) (xs := ts.map V.ref) (fun i σ H' => ∃ (kk : List (Key × V)) (v2 v3 v4 v5 : Option V), σ = [some (.ref st), some (.ref l), some (.ref am), some (.str k), some (.int 0), some (.ref kn), v2, v3, v4, v5, none] ∧ KnAll H H' kn kk ∧ (∀ w ∈ ws.take i, ∀ s, TB w s → (Sum.inr s : Key) ∈ kk.map (·.1)) ∧ kk.length ≤ 8 * i ∧ Same H H') ?_ (fun i σ H' _ ⟨_, _, _, _, _, _, _, _, _, z⟩ => SqL.of (z _ _ hl)) ?_ ?_⟩
    · exact ⟨[], none, none, none, none, rfl, ⟨upd_same, fun q hq => by cases hq⟩, (fun w hw => by rw [List.take_zero] at hw; cases hw), Nat.le_refl _, s0⟩
    · rintro i v σ H' hi ⟨kk, v2, v3, v4, v5, rfl, hK, hcov, hkl, e⟩
      rw [List.getElem?_map] at hi
      obtain ⟨t, ht, rfl⟩ : ∃ p, ts[i]? = some p ∧ v = V.ref p := by
        cases hh : ts[i]? with
        | none => rw [hh] at hi; cases hi
        | some p => rw [hh] at hi; exact ⟨p, rfl, (Option.some.inj hi).symm⟩
      obtain ⟨x, hx, cd, h1, h2⟩ := paired_get hP ht
      have hxm := List.mem_of_getElem? hx
      have okx := hok x hxm
      have hil : i < 3 := by have := (List.getElem?_eq_some_iff.mp hx).1; omega
      have hcl : (cW 1 x.1).length ≤ 7 := cW_len okx.2.2
      have ncn : cd ≠ kn := ne_of_none h2 hkn
      refine ⟨t, _, rfl, SqT.of (e _ _ h1), rfl, _, _, rfl, _, _, rfl, _, _, rfl, rfl, ?_⟩
      refine ⟨_, rfl, cd, _, rfl, .inl (e _ _ h2), fun p hp => ?_⟩
      have npk : p ≠ kn := fun z => by rw [z, hK.1] at hp; cases hp
      have hp0 : H p = none := none_back e hp
      have hk1 : (upd H' p (.dK (cW 1 x.1))) kn = some (.dK kk) := by rw [upd_ne (Ne.symm npk)]; exact hK.1
      refine ⟨_, rfl, _, rfl, kn, _, rfl, DPut.k (k := Sum.inr ⟨(fL x).toArray⟩) hk1 (by omega), ?_⟩
      have hv : valV (putK kk (Sum.inr (⟨(fL x).toArray⟩ : Str)) (.ref p)) (Sum.inr ⟨(fL x).toArray⟩) = some (.ref p) := by rw [valV_put, if_pos rfl]
      have hp2 : (upd (upd H' p (.dK (cW 1 x.1))) kn (.dK (putK kk (Sum.inr (⟨(fL x).toArray⟩ : Str)) (.ref p)))) p = some (.dK (cW 1 x.1)) := by rw [upd_ne npk, upd_same]
      refine ⟨_, rfl, _, rfl, _, rfl, kn, .ref p, rfl, .inl ⟨_, Sum.inr ⟨(fL x).toArray⟩, .inl upd_same, rfl, hv.symm⟩, p, _, rfl, DPut.k (k := Sum.inr "+") hp2 (by omega), ?_⟩
      have hK1 : KnAll H (upd (upd (upd H' p (.dK (cW 1 x.1))) kn (.dK (putK kk (Sum.inr (⟨(fL x).toArray⟩ : Str)) (.ref p)))) p (.dK (putK (cW 1 x.1) (Sum.inr "+") (.int x.2)))) kn (putK kk (Sum.inr (⟨(fL x).toArray⟩ : Str)) (.ref p)) :=
        hK.put okx (by rw [upd_ne (Ne.symm npk), upd_same]) upd_same hp0 npk fun b o z _ nb => by
          rw [upd_ne (ne_of_none z hp), upd_ne nb, upd_ne (ne_of_none z hp)]
          exact z
      have e1 : Same H (upd (upd (upd H' p (.dK (cW 1 x.1))) kn (.dK (putK kk (Sum.inr (⟨(fL x).toArray⟩ : Str)) (.ref p)))) p (.dK (putK (cW 1 x.1) (Sum.inr "+") (.int x.2)))) := fun b o z => by
        rw [upd_ne (ne_of_none z hp0), upd_ne (ne_of_none z hkn), upd_ne (ne_of_none z hp0)]
        exact e _ _ z
      generalize upd (upd (upd H' p (.dK (cW 1 x.1))) kn (.dK (putK kk (Sum.inr (⟨(fL x).toArray⟩ : Str)) (.ref p)))) p (.dK (putK (cW 1 x.1) (Sum.inr "+") (.int x.2))) = H1 at hK1 e1 ⊢
      have hl1 : (putK kk (Sum.inr (⟨(fL x).toArray⟩ : Str)) (.ref p)).length ≤ kk.length + 1 := length_putK _ _ _
      dsimp only [gName]
      refine ⟨_, rfl, cd, cW 1 x.1, rfl, e1 _ _ h2, fun o nf => for_dict nf (fun j σ H3 => ∃ (w : Option V) (kk3 : List (Key × V)), σ = [some (.ref st), some (.ref l), some (.ref am), some (.str k), some (.int 0), some (.ref kn), some (.str ⟨(fL x).toArray⟩), some (.ref cd), some (.int x.2), w, none] ∧ KnAll H H3 kn kk3 ∧ (∀ w ∈ ws.take i, ∀ s, TB w s → (Sum.inr s : Key) ∈ kk3.map (·.1)) ∧ (Sum.inr (⟨(fL x).toArray⟩ : Str) : Key) ∈ kk3.map (·.1) ∧ (∀ q ∈ (cW 1 x.1).take j, q.1 ∈ kk3.map (·.1)) ∧ kk3.length ≤ 8 * i + 1 + j ∧ Same H H3) ?_ (fun j σ H3 ⟨_, _, _, _, _, _, _, _, z⟩ => z _ _ h2) ?_ ?_⟩
      · exact ⟨v5, _, rfl, hK1, fun w hw s hs => put_old (hcov w hw s hs), put_in _ _ _, (fun q hq => by rw [List.take_zero] at hq; cases hq), by omega, e1⟩
      · rintro j kx vx σ H3 hj ⟨w, kk3, rfl, hK3, hc3, hx3, ht3, hl3, e3⟩
        obtain ⟨ko, hko, ek⟩ := cW_key okx _ (List.mem_of_getElem? hj)
        have ek : kx = Sum.inr (⟨ko.toArray⟩ : Str) := ek
        subst ek
        have hjl : j < (cW 1 x.1).length := (List.getElem?_eq_some_iff.mp hj).1
        refine fun p2 hp2' => ⟨_, rfl, upd_same, [(Sum.inr ⟨ko.toArray⟩, .int 1), (Sum.inr "+", .int 0)], rfl, (by show 2 ≤ 15; decide), ?_⟩
        have np2c : p2 ≠ cd := fun z => by rw [z, upd_same] at hp2'; cases hp2'
        have hp23 : H3 p2 = none := by rwa [upd_ne np2c] at hp2'
        have hp20 : H p2 = none := none_back e3 hp23
        have np2k : p2 ≠ kn := fun z => by rw [z, hK3.1] at hp23; cases hp23
        have hk4 : (upd (upd (upd H3 cd (.frz o (.dK (cW 1 x.1)))) p2 (.dK [])) p2 (.dK (mergeK [] [(Sum.inr ⟨ko.toArray⟩, .int 1), (Sum.inr "+", .int 0)]))) kn = some (.dK kk3) := by
          rw [upd_ne (Ne.symm np2k), upd_ne (Ne.symm np2k), upd_ne (Ne.symm ncn)]
          exact hK3.1
        refine ⟨_, rfl, _, rfl, kn, _, rfl, DPut.k (k := Sum.inr ⟨ko.toArray⟩) hk4 (by omega), ?_⟩
        have hfx : (⟨(fL ([(1, [.one ko 1])], 0)).toArray⟩ : Str) = ⟨ko.toArray⟩ := by rw [fOne_x]
        have hl4 : (putK kk3 (Sum.inr (⟨ko.toArray⟩ : Str)) (.ref p2)).length ≤ kk3.length + 1 := length_putK _ _ _
        refine ⟨by rw [upd_ne ncn, upd_ne (Ne.symm np2c), upd_ne (Ne.symm np2c), upd_same], some (.str ⟨ko.toArray⟩), putK kk3 (Sum.inr (⟨ko.toArray⟩ : Str)) (.ref p2), rfl, ?_, fun w hw s hs => put_old (hc3 w hw s hs), put_old hx3, fun q hq => ?_, by omega, fun b o' z => ?_⟩
        · have key := hK3.put (H' := upd (upd (upd (upd (upd H3 cd (.frz o (.dK (cW 1 x.1)))) p2 (.dK [])) p2 (.dK (mergeK [] [(Sum.inr ⟨ko.toArray⟩, .int 1), (Sum.inr "+", .int 0)]))) kn (.dK (putK kk3 (Sum.inr (⟨ko.toArray⟩ : Str)) (.ref p2)))) cd (.dK (cW 1 x.1))) (x := ([(1, [.one ko 1])], 0)) (p := p2) (fOne_ok hko)
            (by rw [hfx, upd_ne (Ne.symm ncn), upd_same]) (by rw [upd_ne np2c, upd_ne np2k, upd_same]; rfl) hp20 np2k fun b o' z z0 nb => by
              have nbc : b ≠ cd := fun y => by rw [y, h2] at z0; cases z0
              rw [upd_ne nbc, upd_ne nb, upd_ne (ne_of_none z hp23), upd_ne (ne_of_none z hp23), upd_ne nbc]
              exact z
          rw [hfx] at key
          exact key
        · rw [take_snoc hj] at hq
          rcases List.mem_append.mp hq with hq | hq
          · exact put_old (ht3 q hq)
          · have eq' : q = (Sum.inr (⟨ko.toArray⟩ : Str), vx) := by simpa using hq
            rw [eq']
            exact put_in _ _ _
        · by_cases bc : b = cd
          · subst bc
            rw [upd_same]
            rw [h2] at z
            exact z
          · rw [upd_ne bc, upd_ne (ne_of_none z hkn), upd_ne (ne_of_none z hp20), upd_ne (ne_of_none z hp20), upd_ne bc]
            exact e3 _ _ z
      · rintro σ H3 ⟨w, kk3, rfl, hK3, hc3, hx3, ht3, hl3, e3⟩
        rw [List.take_length] at ht3
        refine ⟨kk3, _, _, _, _, rfl, hK3, fun w hw s hs => ?_, by omega, e3⟩
        rw [take_snoc hx] at hw
        rcases List.mem_append.mp hw with hw | hw
        · exact hc3 w hw s hs
        · have ew : w = x := by simpa using hw
          subst ew
          rcases hs with rfl | hs
          · exact hx3
          · obtain ⟨q, hq, eq'⟩ := List.mem_map.mp hs
            rw [← eq']
            exact ht3 q hq
    · rintro σ H' ⟨kk, v2, v3, v4, v5, rfl, hK, hcov, hkl, e⟩
      rw [List.length_map, hpl] at hcov hkl
      rw [List.take_length] at hcov
      rw [h3] at hkl
      refine fun p hp => ⟨1, rfl, upd_same, [(Sum.inr "+", .int (-1))], rfl, (by show 1 ≤ 15; decide), ?_⟩
      have hp0 : H p = none := none_back e hp
      have npk : p ≠ kn := fun z => by rw [z, hK.1] at hp; cases hp
      have hk1 : (upd (upd H' p (.dK [])) p (.dK (mergeK [] [(Sum.inr "+", .int (-1))]))) kn = some (.dK kk) := by rw [upd_ne (Ne.symm npk), upd_ne (Ne.symm npk)]; exact hK.1
      refine ⟨_, rfl, kn, _, rfl, DPut.k (k := Sum.inr "e^-") hk1 (by omega), ?_⟩
      have hKE : KnAll H (upd (upd (upd H' p (.dK [])) p (.dK (mergeK [] [(Sum.inr "+", .int (-1))]))) kn (.dK (putK kk (Sum.inr "e^-") (.ref p)))) kn (putK kk (Sum.inr "e^-") (.ref p)) := by
        have key := hK.put (H' := upd (upd (upd H' p (.dK [])) p (.dK (mergeK [] [(Sum.inr "+", .int (-1))]))) kn (.dK (putK kk (Sum.inr "e^-") (.ref p)))) (x := ([], -1)) (p := p) fE_ok
          (by rw [fE_x, upd_same]) (by rw [upd_ne npk, upd_same]; rfl) hp0 npk fun b o' z z0 nb => by
            rw [upd_ne nb, upd_ne (ne_of_none z hp), upd_ne (ne_of_none z hp)]
            exact z
        rw [fE_x] at key
        exact key
      have e1 : Same H (upd (upd (upd H' p (.dK [])) p (.dK (mergeK [] [(Sum.inr "+", .int (-1))]))) kn (.dK (putK kk (Sum.inr "e^-") (.ref p)))) := fun b o z => by
        rw [upd_ne (ne_of_none z hkn), upd_ne (ne_of_none z hp0), upd_ne (ne_of_none z hp0)]
        exact e _ _ z
      have hcE : ∀ s, Told ws s → (Sum.inr s : Key) ∈ (putK kk (Sum.inr "e^-") (V.ref p)).map (·.1) := fun s hs => by
        rcases hs with rfl | ⟨w, hw, rfl⟩ | ⟨w, hw, hs⟩
        · exact put_in _ _ _
        · exact put_old (hcov w hw _ (.inl rfl))
        · exact put_old (hcov w hw _ (.inr hs))
      generalize upd (upd (upd H' p (.dK [])) p (.dK (mergeK [] [(Sum.inr "+", .int (-1))]))) kn (.dK (putK kk (Sum.inr "e^-") (.ref p))) = H1 at hKE e1 ⊢
      generalize putK kk (Sum.inr "e^-") (V.ref p) = kE at hKE hcE
      obtain ⟨fs, hfs⟩ := paired_ch (as := kvs) (Rl := fun q x => KeyFm q x ∧ okFm x ∧ ∃ pp, valV kE q.1 = some (.ref pp) ∧ H1 pp = some (.dK (kD x)) ∧ H pp = none) fun q hq => by
        obtain ⟨s, es, hs⟩ := hT q hq
        obtain ⟨v, hv, hm⟩ := val_key (hcE s hs)
        obtain ⟨x, pp, eq', okx, hpp, hp00, _⟩ := hKE.2 _ hm
        injection eq' with e3 e4
        refine ⟨x, ?_, okx, pp, by rw [es, hv, e4], hpp, hp00⟩
        have hq' : q = (Sum.inr (⟨(fL x).toArray⟩ : Str), q.2) := by rw [← e3, ← es]
        rw [hq']
        exact key_fm okx q.2
      have hP2 : Paired KeyFm kvs fs := paired_imp (fun _ _ z => z.1) hfs
      have hfl := Paired.length hfs
      have ham1 := e1 _ _ ham
      refine ⟨_, rfl, am, kvs, rfl, ham1, fun o nf => for_dict nf (fun i σ H' => ∃ v : Option V, σ = [some (.ref st), some (.ref l), some (.ref am), some (.str k), some (.int ((totL kvs fs k).take i).sum), some (.ref kn), v, v3, v4, v5, none] ∧ H' = H1) ⟨v2, rfl, rfl⟩ (fun i σ H' ⟨_, _, z⟩ => by rw [z]; exact ham1) ?_ ?_⟩
      · rintro i kx vx σ H' hi ⟨v, rfl, rfl⟩
        have hm := List.mem_of_getElem? hi
        obtain ⟨z, ez⟩ := hI _ hm
        have ez : vx = V.int z := ez
        subst ez
        obtain ⟨x, hx, hkf, okx, pp, hvp, hpp, hp00⟩ := paired_get hfs hi
        have hvp : valV kE kx = some (.ref pp) := hvp
        have hv : valV kvs kx = some (V.int z) := valV_mem hn hm
        have nka : kn ≠ am := Ne.symm (ne_of_none ham hkn)
        have npa : pp ≠ am := Ne.symm (ne_of_none ham hp00)
        have hk2 : (upd H' am (.frz o (.dK kvs))) kn = some (.dK kE) := by rw [upd_ne nka]; exact hKE.1
        have hp2 : (upd H' am (.frz o (.dK kvs))) pp = some (.dK (kD x)) := by rw [upd_ne npa]; exact hpp
        have hg := (kD_int x).at (Sum.inr k)
        rw [← wOne_k okx] at hg
        have hb := wOne_b okx k
        refine ⟨_, rfl, _, rfl, _, rfl, am, V.int z, rfl, .inl ⟨_, kx, .inr ⟨o, upd_same⟩, rfl, hv.symm⟩, _, rfl, _, rfl, kn, .ref pp, rfl, .inl ⟨_, kx, .inl hk2, rfl, hvp.symm⟩, pp, rfl, .inl ⟨_, .inl hp2⟩, _, rfl, _, DGet.k (k := Sum.inr k) hp2, ?_⟩
        rw [hg]
        refine ⟨_, _, rfl, rfl, .inr ⟨by omega, by omega⟩, _, _, rfl, rfl, ?_⟩
        refine ⟨upd_same, some (kV kx), ?_, by rw [upd_upd, upd_back ham1]⟩
        have hzw : (totL kvs fs k)[i]? = some (z * wOne x k) := by unfold totL; rw [List.getElem?_zipWith, hi, hx]; rfl
        rw [snoc_take hzw, List.sum_append]
        simp
      · rintro σ H' ⟨v, rfl, rfl⟩
        have htl : (totL kvs fs k).length ≤ kvs.length := by unfold totL; rw [List.length_zipWith]; omega
        rw [List.take_of_length_le htl]
        refine ⟨_, rfl, st, dx, _, rfl, e1 _ _ hst, sfl_no _ _ (by decide +kernel) (by decide +kernel), _, rfl, st, d, g, k, kvs, fs, rfl, ⟨dx, e1 _ _ hst⟩, e1 _ _ hd, hI, hlen, hP2, fun H2 e2 => ?_⟩
        refine ⟨_, rfl, _, rfl, _, rfl, iteT ⟨_, rfl, _, rfl, rfl, ?_⟩⟩
        rw [decide_eq_true rfl]
        exact q _ (e1.trans e2)
variable {uC uP uI uD uL uT : Tok} {St : Addr}
def spToldL (St : Addr) : Sp := fun vs H Q _ => ∃ (st d g l am : Addr) (tn : Bool) (kvs : List (Key × V)) (ws : List Fm), vs = [.ref st, .ref l, .ref am, .bl tn] ∧ StoAt St H st d g ∧ H d = some (.dK kvs) ∧ H g = some (.lst []) ∧ H am = some (.dK kvs) ∧ IntD kvs ∧ (kvs.map (·.1)).Nodup ∧ KeysT ws kvs ∧ kvs.length ≤ 900 ∧ WorldAt H l ws ∧ (∀ w ∈ ws, okFm w) ∧ ws.length = 3 ∧ ∀ H', Same H H' → Q (.bl true) H'
theorem scTold : FnScope ["_law_store", "_law_world_here", "_law_amounts_here", "_law_turned", "_law_texts_here", "_law_text_here", "_law_found", "_law_told_here", "_law_counts", "_law_charge", "_law_kind_here"] ["_law_store", "_law_world_here", "_law_amounts_here", "_law_turned"] (defScope sTold) := ⟨rfl, rfl, rfl, by decide +kernel, rfl, by decide +kernel, by decide +kernel⟩
theorem ok_told (D : Def K mg "_law_told" "_law_told" sTold ["_law_store", "_law_world_here", "_law_amounts_here", "_law_turned"]) (T : TxtS K mg C R G Pc Fo St uK uN uB uE uM uC uP uI uD uL uT) (c1 : CalE P w K mg base 1 "_law_texts" ["_law_world_here"] spTexts) (c2 : CalME P w K mg base 12 St "have" ["self", "text"] (spHave St)) (c3 : CalE P w K mg base 1 "_law_whole" ["_law_found"] spWhole) (c4 : CalME P w K mg base 1 St "stocks" ["self"] (spStocks St)) (c5 : CalE P w K mg base 2 "_law_amounts" ["_law_found", "_law_due"] spAmts) (c6 : CalE P w K mg base 13 "_law_total" ["_law_store", "_law_world_here", "_law_amounts_here", "_law_kind_here"] (spTotalL St)) (c7 : CalME P w K mg base 1 St "went" ["self"] (spWent K St)) : CalE P w K mg base 14 "_law_told" ["_law_store", "_law_world_here", "_law_amounts_here", "_law_turned"] (spToldL St) := by
  obtain ⟨_, _, c_l_texts⟩ := c1
  obtain ⟨_, _, c_Store_have⟩ := c2
  obtain ⟨_, _, c_l_whole⟩ := c3
  obtain ⟨_, _, c_Store_stocks⟩ := c4
  obtain ⟨_, _, c_l_amounts⟩ := c5
  obtain ⟨_, _, c_l_total⟩ := c6
  obtain ⟨_, _, c_Store_went⟩ := c7
  refine D.cal scTold (fun vs H Q E h => ?_) (fun f cdv A outer s H vs Q E hr h => ?_)
  · obtain ⟨st, d, g, l, am, tn, kvs, ws, rfl, _⟩ := h
    rfl
  · obtain ⟨st, d, g, l, am, tn, kvs, ws, rfl, ⟨dx, hst⟩, hd, hg, ham, hI, hn, hT, hlen, hW, hok, h3, q⟩ := h
    have hu := hu_of hr
    have hu0 := hr.units0
    have hu64 := hr.units
    have big : (2000 : Nat) ≤ sizeLine := by decide
    refine ⟨_, (pss_cons
          (ps_set (i := 4) scTold.nd rfl (Or.inl rfl) (pe_call c_l_texts.ok (hr.mono (by decide)) rfl c_l_texts.g c_l_texts.kp c_l_texts.b .nil pass0 (pa_cons (pv 1) pa_nil)))
        (pss_cons
          (ps_if (pt_val (pv 3))
            (pss_one
              (ps_set (i := 4) scTold.nd rfl (Or.inl rfl) (pe_rev (pv 4) (pe_un un_neg pe_int))))
            pss_nil)
        (pss_cons
          (ps_for PassesOwn.never rfl (pi_list (pe_op op_cat (pv 4) (pe_lst (pa_cons pe_str pa_nil)))) (pg_name (i := 5) scTold.nd rfl (Or.inl rfl))
            (pss_cons
              (ps_set (i := 6) scTold.nd rfl (Or.inl rfl) (pe_meth (pv 0) T.c_Store c_Store_have.m c_Store_have.ok (hr.mono (by decide)) c_Store_have.b .nil pass0 (pa_cons (pv 5) pa_nil)))
            (pss_one
              (ps_if (PW.pt (pw_or (pt_not (pt_val (pe_call c_l_whole.ok (hr.mono (by decide)) rfl c_l_whole.g c_l_whole.kp c_l_whole.b .nil pass0 (pa_cons (pv 6) pa_nil)))) (pw_or1 (pt_cmpR op_ne (pv 6) (pe_dget2 hu (pv 2) (pv 5) pe_int ⟨rfl, rfl, rfl, rfl⟩) (nomark _)))))
                (pss_one
                  (ps_ret pe_bl))
                pss_nil))))
        (pss_cons
          (ps_set (i := 7) scTold.nd rfl (Or.inl rfl) (pe_meth0 (pv 0) T.c_Store c_Store_stocks.m c_Store_stocks.ok (hr.mono (by decide)) c_Store_stocks.b .nil pass0))
        (pss_cons
          (ps_if (pt_not (pt_val (pe_call c_l_amounts.ok (hr.mono (by decide)) rfl c_l_amounts.g c_l_amounts.kp c_l_amounts.b .nil pass0 (pa_cons (pv 7) (pa_cons (pv 2) pa_nil)))))
            (pss_one
              (ps_ret pe_bl))
            pss_nil)
        (pss_cons
          (ps_dput hu (pv 7) pe_str pe_int rfl)
        (pss_cons
          (ps_for PassesOwn.never rfl (pi_list (pv 1)) (pg_tup rfl (pgs_cons (pg_name (i := 5) scTold.nd rfl (Or.inl rfl)) (pgs_cons (pg_name (i := 8) scTold.nd rfl (Or.inl rfl)) (pgs_cons (pg_name (i := 9) scTold.nd rfl (Or.inl rfl)) pgs_nil))))
            (pss_one
              (ps_for PassesOwn.never rfl (pi_list (pe_op op_cat (pe_callTy (call_list_dict rfl) rfl T.n_list bt_list (pa_cons (pv 8) pa_nil)) (pe_lst (pa_cons pe_str (pa_cons pe_str pa_nil))))) (pg_name (i := 10) scTold.nd rfl (Or.inl rfl))
                (pss_one
                  (ps_if (pt_not (pt_val (pe_call c_l_total.ok (hr.mono (by decide)) rfl c_l_total.g c_l_total.kp c_l_total.b .nil pass0 (pa_cons (pv 0) (pa_cons (pv 1) (pa_cons (pv 2) (pa_cons (pv 10) pa_nil)))))))
                    (pss_one
                      (ps_ret pe_bl))
                    pss_nil)))))
        (pss_one
          (ps_ret (pe_and (pe_call c_l_amounts.ok (hr.mono (by decide)) rfl c_l_amounts.g c_l_amounts.kp c_l_amounts.b .nil pass0 (pa_cons (pe_meth0 (pv 0) T.c_Store c_Store_stocks.m c_Store_stocks.ok (hr.mono (by decide)) c_Store_stocks.b .nil pass0) (pa_cons (pv 2) pa_nil))) (pe_one (pe_cmpR (op_eqR hu64) (pe_meth0 (pv 0) T.c_Store c_Store_went.m c_Store_went.ok (hr.mono (by decide)) c_Store_went.b .nil pass0) (pe_lst pa_nil) (nomark _))))))))))))), ?_⟩
    refine ⟨_, rfl, l, ws, rfl, hW, hok, h3, fun tl xs H1 htl hxs hx1 hx2 e1 => ?_⟩
    dsimp only [gName]
    refine join_if (fun σ' H' => ∃ (tl : Addr) (xs : List Str), σ' = [some (.ref st), some (.ref l), some (.ref am), some (.bl tn), some (.ref tl), none, none, none, none, none, none] ∧ H' tl = some (.lst (xs.map V.str)) ∧ (∀ x ∈ xs, Told ws x) ∧ xs.length ≤ 30 ∧ Same H H') (fun N hN => ?_) ?_
    · refine ⟨_, rfl, _, rfl, ite2 (fun _ => ?_) fun _ => hN _ _ ⟨tl, xs, rfl, htl, hxs, hx2, e1⟩⟩
      refine ⟨_, rfl, 1, rfl, rfl, tl, _, rfl, SqL.of htl, fun l2 hl2 => hN _ _ ⟨l2, xs.reverse, rfl, by rw [upd_same, List.map_reverse], fun x hx => hxs x (List.mem_reverse.mp hx), by rw [List.length_reverse]; exact hx2, e1.trans (Same.new hl2)⟩⟩
    clear htl hxs hx1 hx2 e1
    rintro σ' H1 ⟨tl, xs, rfl, htl, hxs, hx2, e1⟩
    refine ⟨_, rfl, (by show 1 ≤ sizeLine; decide), fun z hz => ?_⟩
    have htl1 : (upd H1 z (.lst [V.str "Zzz9"])) tl = some (.lst (xs.map V.str)) := by rw [upd_ne (ne_of_none htl hz)]; exact htl
    refine ⟨tl, z, _, _, rfl, rfl, htl1, upd_same, by rw [List.length_map]; show _ + 1 ≤ sizeLine; omega, fun L hL => ?_⟩
    have ex : (xs.map V.str ++ [V.str "Zzz9"]) = (xs ++ [("Zzz9" : Str)]).map V.str := by rw [List.map_append]; rfl
    rw [ex]
    have hgx : ∀ x ∈ xs ++ [("Zzz9" : Str)], GoodX x := fun x hx => by
      rcases List.mem_append.mp hx with hx | hx
      · exact told_good hok (hxs x hx)
      · have : x = "Zzz9" := by simpa using hx
        rw [this]; exact zzz_good
    generalize xs ++ [("Zzz9" : Str)] = ys at hgx ⊢
    have e2 : Same H (upd (upd H1 z (.lst [V.str "Zzz9"])) L (.lst (ys.map V.str))) := (e1.trans (Same.new hz)).trans (Same.new hL)
    have hL2 : (upd (upd H1 z (.lst [V.str "Zzz9"])) L (.lst (ys.map V.str))) L = some (.lst (ys.map V.str)) := upd_same
    generalize upd (upd H1 z (.lst [V.str "Zzz9"])) L (.lst (ys.map V.str)) = H2 at e2 hL2 ⊢
    refine ⟨L, rfl, ⟨_, SqL.of hL2⟩, for_list (K := K) (a := L) (xs := ys.map V.str) (fun i σ H' => ∃ v5 v6 : Option V, σ = [some (.ref st), some (.ref l), some (.ref am), some (.bl tn), some (.ref tl), v5, v6, none, none, none, none] ∧ Same H2 H') ⟨none, none, rfl, Same.refl _⟩ (fun i σ H' _ ⟨_, _, _, z⟩ => SqL.of (z _ _ hL2)) ?_ ?_⟩
    · rintro i v σ H' hi ⟨v5, v6, rfl, e3⟩
      rw [List.getElem?_map] at hi
      obtain ⟨y, hy, rfl⟩ : ∃ p, ys[i]? = some p ∧ v = V.str p := by
        cases hh : ys[i]? with
        | none => rw [hh] at hi; cases hi
        | some p => rw [hh] at hi; exact ⟨p, rfl, (Option.some.inj hi).symm⟩
      have gy := hgx y (List.mem_of_getElem? hy)
      have e4 := e2.trans e3
      refine ⟨_, rfl, st, dx, _, rfl, e4 _ _ hst, sfl_no _ _ (by decide +kernel) (by decide +kernel), _, rfl, st, d, g, y, kvs, rfl, ⟨dx, e4 _ _ hst⟩, e4 _ _ hd, hI, gy, fun H5 e5 => ?_⟩
      have ham5 := e5 _ _ (e4 _ _ ham)
      have hg5 := hI.at (Sum.inr y)
      refine ⟨_, rfl, _, rfl, _, rfl, iteF ⟨_, rfl, _, rfl, am, rfl, .inl ⟨_, .inl ham5⟩, _, rfl, _, DGet.k (k := Sum.inr y) ham5, ?_⟩⟩
      rw [hg5]
      exact ⟨rfl, _, rfl, iteNS rfl ⟨_, _, rfl, e3.trans e5⟩⟩
    rintro σ H3 ⟨v5, v6, rfl, e3⟩
    have e03 := e2.trans e3
    refine ⟨_, rfl, st, dx, _, rfl, e03 _ _ hst, sfl_no _ _ (by decide +kernel) (by decide +kernel), st, d, g, kvs, rfl, ⟨dx, e03 _ _ hst⟩, e03 _ _ hd, hI, hn, hlen, fun te H4 nte hte e4 => ?_⟩
    have e04 := e03.trans e4
    have hteH : H te = none := none_back e03 nte
    refine ⟨_, rfl, _, rfl, te, am, kvs, rfl, hte, e04 _ _ ham, Ne.symm (ne_of_none ham hteH), hI, hn, hlen, fun H5 e5 => ⟨_, rfl, iteF ?_⟩⟩
    have e05 := e04.trans e5
    have hpl := pos_len kvs
    refine ⟨_, rfl, te, _, rfl, DPut.k (k := Sum.inr "Q") (e5 _ _ hte) (by omega), ?_⟩
    have e06 : Same H (upd H5 te (.dK (putK (posD kvs) (Sum.inr "Q") (.int 7)))) := fun b o z => by
      rw [upd_ne (ne_of_none z hteH)]
      exact e05 _ _ z
    generalize upd H5 te (.dK (putK (posD kvs) (Sum.inr "Q") (.int 7))) = H6 at e06 ⊢
    obtain ⟨ts, hl, hP⟩ := id hW
    dsimp only [gName]
    refine ⟨_, rfl, l, rfl, ⟨_, SqL.of (e06 _ _ hl)⟩, for_list (K := K) (a := l) (xs := ts.map V.ref) (fun i σ H' => ∃ v5 v8 v9 v10 : Option V, σ = [some (.ref st), some (.ref l), some (.ref am), some (.bl tn), some (.ref tl), v5, v6, some (.ref te), v8, v9, v10] ∧ Same H H') ⟨v5, none, none, none, rfl, e06⟩ (fun i σ H' _ ⟨_, _, _, _, _, z⟩ => SqL.of (z _ _ hl)) ?_ ?_⟩
    · rintro i v σ H' hi ⟨u5, u8, u9, u10, rfl, e7⟩
      rw [List.getElem?_map] at hi
      obtain ⟨t, ht, rfl⟩ : ∃ p, ts[i]? = some p ∧ v = V.ref p := by
        cases hh : ts[i]? with
        | none => rw [hh] at hi; cases hi
        | some p => rw [hh] at hi; exact ⟨p, rfl, (Option.some.inj hi).symm⟩
      obtain ⟨x, hx, cd, h1, h2⟩ := paired_get hP ht
      have okx := hok x (List.mem_of_getElem? hx)
      have hcl : (cW 1 x.1).length ≤ 7 := cW_len okx.2.2
      refine ⟨t, _, rfl, SqT.of (e7 _ _ h1), rfl, _, _, rfl, _, _, rfl, _, _, rfl, rfl, ?_⟩
      refine ⟨_, rfl, cd, _, rfl, .inl (e7 _ _ h2), fun la hla => ⟨(by show 2 ≤ sizeLine; decide), fun lb hlb => ?_⟩⟩
      have ek : ∃ ks : List Str, ((cW 1 x.1).map fun q => kV q.1) = ks.map V.str := by
        refine ⟨(cW 1 x.1).map fun q => match q.1 with | .inr s => s | .inl _ => "", ?_⟩
        rw [List.map_map]
        refine List.map_congr_left fun q hq => ?_
        obtain ⟨k, _, e⟩ := cW_key okx q hq
        rw [Function.comp, e]
        rfl
      obtain ⟨ks, ek⟩ := ek
      rw [ek] at hlb ⊢
      have hkl : ks.length ≤ 7 := by
        have := congrArg List.length ek
        rw [List.length_map, List.length_map] at this
        omega
      refine ⟨la, lb, _, _, rfl, rfl, by rw [upd_ne (fun z => by rw [z, upd_same] at hlb; cases hlb), upd_same], upd_same, by rw [List.length_map]; show _ + 2 ≤ sizeLine; omega, fun L hL => ?_⟩
      have ex : (ks.map V.str ++ [V.str "+", V.str "Zzz"]) = (ks ++ [("+" : Str), "Zzz"]).map V.str := by rw [List.map_append]; rfl
      rw [ex]
      generalize ks ++ [("+" : Str), "Zzz"] = ms
      have e8 : Same H (upd (upd (upd H' la (.lst (ks.map V.str))) lb (.lst [V.str "+", V.str "Zzz"])) L (.lst (ms.map V.str))) := ((e7.trans (Same.new hla)).trans (Same.new hlb)).trans (Same.new hL)
      have hL2 : (upd (upd (upd H' la (.lst (ks.map V.str))) lb (.lst [V.str "+", V.str "Zzz"])) L (.lst (ms.map V.str))) L = some (.lst (ms.map V.str)) := upd_same
      generalize upd (upd (upd H' la (.lst (ks.map V.str))) lb (.lst [V.str "+", V.str "Zzz"])) L (.lst (ms.map V.str)) = H8 at e8 hL2 ⊢
      refine ⟨L, rfl, ⟨_, SqL.of hL2⟩, for_list (K := K) (a := L) (xs := ms.map V.str) (fun i σ H' => ∃ v10 : Option V, σ = [some (.ref st), some (.ref l), some (.ref am), some (.bl tn), some (.ref tl), some (.str ⟨(fL x).toArray⟩), v6, some (.ref te), some (.ref cd), some (.int x.2), v10] ∧ Same H8 H') ?_ (fun i σ H' _ ⟨_, _, z⟩ => SqL.of (z _ _ hL2)) ?_ ?_⟩
      · exact ⟨u10, rfl, Same.refl _⟩
      · rintro j v σ H9 hj ⟨w10, rfl, e9⟩
        rw [List.getElem?_map] at hj
        obtain ⟨y, hy, rfl⟩ : ∃ p, ms[j]? = some p ∧ v = V.str p := by
          cases hh : ms[j]? with
          | none => rw [hh] at hj; cases hj
          | some p => rw [hh] at hj; exact ⟨p, rfl, (Option.some.inj hj).symm⟩
        have e09 := e8.trans e9
        exact ⟨_, rfl, _, rfl, _, rfl, _, rfl, st, d, g, l, am, y, kvs, ws, rfl, ⟨dx, e09 _ _ hst⟩, e09 _ _ hd, e09 _ _ ham, hI, hn, hT, hlen, hW.same e09, hok, h3, fun H10 e10 => ⟨_, rfl, iteF ⟨_, rfl, e9.trans e10⟩⟩⟩
      · rintro σ H9 ⟨w10, rfl, e9⟩
        exact ⟨_, _, _, _, rfl, e8.trans e9⟩
    · rintro σ H7 ⟨u5, u8, u9, u10, rfl, e7⟩
      refine ⟨_, rfl, st, dx, _, rfl, e7 _ _ hst, sfl_no _ _ (by decide +kernel) (by decide +kernel), st, d, g, kvs, rfl, ⟨dx, e7 _ _ hst⟩, e7 _ _ hd, hI, hn, hlen, fun ue H8 nue hue e8 => ?_⟩
      have e08 := e7.trans e8
      have hueH : H ue = none := none_back e7 nue
      refine ⟨_, rfl, ue, am, kvs, rfl, hue, e08 _ _ ham, Ne.symm (ne_of_none ham hueH), hI, hn, hlen, fun H9 e9 => ⟨_, rfl, iteT ?_⟩⟩
      have e09 := e08.trans e9
      refine ⟨_, rfl, st, dx, _, rfl, e09 _ _ hst, sfl_no _ _ (by decide +kernel) (by decide +kernel), st, d, g, rfl, ⟨dx, e09 _ _ hst⟩, e09 _ _ hg, fun lw H10 nlw hlw e10 => ⟨(by show 0 ≤ sizeLine; decide), fun lz hlz => ?_⟩⟩
      refine ⟨.list [], .list [], .lst (SqL.of (by rw [upd_ne (ne_of_none hlw hlz)]; exact hlw)) .nil, .lst (SqL.of upd_same) .nil, by decide, by decide, ?_⟩
      exact q _ ((e09.trans e10).trans (Same.new hlz))
variable {uC uP uI uD uL uT : Tok} {St : Addr}
def spLaw (K : PySem.W.Frag) : Sp := fun vs H Q _ => ∃ (a : Addr) (ns : List Int), vs = [.ref a] ∧ SqL K H a (ns.map V.int) ∧ ns.length ≤ 63 ∧ ∀ H', Q (.bl true) H'
theorem scLaw : FnScope ["_law_script", "_law_world_here", "_law_texts_here", "_law_amounts_here", "_law_store", "_law_k", "_law_cell", "_law_handed", "_law_text_here", "_law_many_here"] ["_law_script"] (defScope sLaw) := ⟨rfl, rfl, rfl, by decide +kernel, rfl, by decide +kernel, by decide +kernel⟩
theorem made_same {H H' : Hp} {st dx St : Addr} (s : Same H H') (h1 : H' st = none) (h2 : H' dx = none) : Same H (upd (upd H' dx (.own st)) st (.ins St dx [])) := fun b o z => by
  rw [upd_ne (ne_of_none (s _ _ z) h1), upd_ne (ne_of_none (s _ _ z) h2)]
  exact s _ _ z
theorem ok_law {f : Addr} {fd : FuncData} (F : Fun K "law" "law" sLaw f fd) (T : TxtS K mg C R G Pc Fo St uK uN uB uE uM uC uP uI uD uL uT)
    (c1 : CalE P w K mg base 3 "_law_world" ["_law_script"] (spWorld K)) (c2 : CalE P w K mg base 1 "_law_texts" ["_law_world_here"] spTexts) (c3 : CalE P w K mg base 1 "_law_cell_at" ["_law_script", "_law_k"] (spCellAt K)) (c4 : CalE P w K mg base 1 "_law_many" ["_law_cell"] spMany) (c5 : CalNE P w K mg base CX0 14 St ["self", "amounts"] (spSInit St)) (c6 : CalE P w K mg base 14 "_law_told" ["_law_store", "_law_world_here", "_law_amounts_here", "_law_turned"] (spToldL St)) (c7 : CalME P w K mg base 13 St "put" ["self", "text", "many"] (spPut St)) (c8 : CalME P w K mg base 12 St "have" ["self", "text"] (spHave St)) :
    FnOk P w K mg base CX0 16 f fd ["_law_script"] (spLaw K) := by
  obtain ⟨_, _, c_l_world⟩ := c1
  obtain ⟨_, _, c_l_texts⟩ := c2
  obtain ⟨_, _, c_l_cell_at⟩ := c3
  obtain ⟨_, _, c_l_many⟩ := c4
  obtain ⟨_, _, c_Store⟩ := c5
  obtain ⟨_, _, c_l_told⟩ := c6
  obtain ⟨_, _, c_Store_put⟩ := c7
  obtain ⟨_, _, c_Store_have⟩ := c8
  have b_Store_0 := c_Store.b0
  have b_Store_1 := c_Store.b1
  have v_Store_0 : Vals [] [] := .nil
  have v_Store_1 := vn_1
  refine F.ok scLaw (fun vs H Q E h => ?_) (fun cdv A outer s H vs Q E hr h => ?_)
  · obtain ⟨a, ns, rfl, _⟩ := h
    rfl
  · obtain ⟨a, ns, rfl, hS, hlen, q⟩ := h
    have hu := hu_of hr
    have hu0 := hr.units0
    have hu64 := hr.units
    have big : (2000 : Nat) ≤ sizeLine := by decide
    refine ⟨_, (pss_cons
          (ps_set (i := 1) scLaw.nd rfl (Or.inl rfl) (pe_call c_l_world.ok (hr.mono (by decide)) rfl c_l_world.g c_l_world.kp c_l_world.b .nil pass0 (pa_cons (pv 0) pa_nil)))
        (pss_cons
          (ps_set (i := 2) scLaw.nd rfl (Or.inl rfl) (pe_call c_l_texts.ok (hr.mono (by decide)) rfl c_l_texts.g c_l_texts.kp c_l_texts.b .nil pass0 (pa_cons (pv 1) pa_nil)))
        (pss_cons
          (ps_set (i := 3) scLaw.nd rfl (Or.inl rfl) pe_dnewK)
        (pss_cons
          (ps_if (pt_cmpR op_eq (pe_op op_mod (pe_call c_l_cell_at.ok (hr.mono (by decide)) rfl c_l_cell_at.g c_l_cell_at.kp c_l_cell_at.b .nil pass0 (pa_cons (pv 0) (pa_cons pe_int pa_nil))) pe_int) pe_int (nomark _))
            (pss_one
              (ps_set (i := 4) scLaw.nd rfl (Or.inl rfl) (pe_make0 c_Store.m c_Store.ok (hr.mono (by decide)) rfl T.g_Store b_Store_1 v_Store_1 pass0)))
            (pss_cons
              (ps_for PassesOwn.never rfl (pi_range1 rfl T.n_range (pa_cons (pe_callB call_len_seq rfl T.n_len bt_len (pa_cons (pv 2) pa_nil)) pa_nil)) (pg_name (i := 5) scLaw.nd rfl (Or.inl rfl))
                (pss_cons
                  (ps_set (i := 6) scLaw.nd rfl (Or.inl rfl) (pe_call c_l_cell_at.ok (hr.mono (by decide)) rfl c_l_cell_at.g c_l_cell_at.kp c_l_cell_at.b .nil pass0 (pa_cons (pv 0) (pa_cons (pe_op op_add pe_int (pv 5)) pa_nil))))
                (pss_one
                  (ps_if (pt_cmpR op_ne (pe_op op_mod (pv 6) pe_int) pe_int (nomark _))
                    (pss_one
                      (ps_dput hu (pv 3) (pe_ix ix_list (pv 2) (pv 5) (fun _ _ => rfl)) (pe_call c_l_many.ok (hr.mono (by decide)) rfl c_l_many.g c_l_many.kp c_l_many.b .nil pass0 (pa_cons (pe_op op_fdiv (pv 6) pe_int) pa_nil)) rfl))
                    pss_nil))))
            (pss_cons
              (ps_set (i := 7) scLaw.nd rfl (Or.inl rfl) (pe_callTy call_dictD rfl T.n_dict bt_dict (pa_cons (pv 3) pa_nil)))
            (pss_cons
              (ps_set (i := 4) scLaw.nd rfl (Or.inl rfl) (pe_make c_Store.m c_Store.ok (hr.mono (by decide)) rfl T.g_Store b_Store_0 v_Store_0 pass0 (pa_cons (pv 7) pa_nil)))
            (pss_cons
              (ps_if (pt_cmpR (op_neD hu0) (pv 7) (pv 3) (nomark _))
                (pss_one
                  (ps_ret pe_bl))
                pss_nil)
            (pss_cons
              (ps_dput hu (pv 7) pe_str (pe_op op_add (pe_dget2 hu (pv 7) pe_str pe_int ⟨rfl, rfl, rfl, rfl⟩) pe_int) rfl)
            (pss_one
              (ps_dput hu (pv 7) pe_str pe_int rfl))))))))
        (pss_cons
          (ps_if (pt_not (pt_val (pe_call c_l_told.ok (hr.mono (by decide)) rfl c_l_told.g c_l_told.kp c_l_told.b .nil pass0 (pa_cons (pv 4) (pa_cons (pv 1) (pa_cons (pv 3) (pa_cons pe_bl pa_nil)))))))
            (pss_one
              (ps_ret pe_bl))
            pss_nil)
        (pss_cons
          (ps_for PassesOwn.never rfl (pi_list (pe_slice sl_list (pv 0) (po_some pe_int) (po_some pe_int))) (pg_name (i := 6) scLaw.nd rfl (Or.inl rfl))
            (pss_cons
              (ps_set (i := 8) scLaw.nd rfl (Or.inl rfl) (pe_ix ix_list (pv 2) (pe_op op_mod (pe_op op_mod (pv 6) pe_int) (pe_callB call_len_seq rfl T.n_len bt_len (pa_cons (pv 2) pa_nil))) (fun _ _ => rfl)))
            (pss_cons
              (ps_set (i := 9) scLaw.nd rfl (Or.inl rfl) (pe_call c_l_many.ok (hr.mono (by decide)) rfl c_l_many.g c_l_many.kp c_l_many.b .nil pass0 (pa_cons (pe_op op_fdiv (pv 6) pe_int) pa_nil)))
            (pss_cons
              (ps_if (pt_cmp (pc_notN (pe_meth (pv 4) T.c_Store c_Store_put.m c_Store_put.ok (hr.mono (by decide)) c_Store_put.b .nil pass0 (pa_cons (pv 8) (pa_cons (pv 9) pa_nil)))))
                (pss_one
                  (ps_ret pe_bl))
                pss_nil)
            (pss_cons
              (ps_dput hu (pv 3) (pv 8) (pe_op op_add (pe_dget2 hu (pv 3) (pv 8) pe_int ⟨rfl, rfl, rfl, rfl⟩) (pv 9)) rfl)
            (pss_one
              (ps_if (pt_cmpR op_ne (pe_meth (pv 4) T.c_Store c_Store_have.m c_Store_have.ok (hr.mono (by decide)) c_Store_have.b .nil pass0 (pa_cons (pv 8) pa_nil)) (pe_dget hu (pv 3) (pv 8) (fun _ _ => rfl)) (nomark _))
                (pss_one
                  (ps_ret pe_bl))
                pss_nil)))))))
        (pss_one
          (ps_ret (pe_call c_l_told.ok (hr.mono (by decide)) rfl c_l_told.g c_l_told.kp c_l_told.b .nil pass0 (pa_cons (pv 4) (pa_cons (pv 1) (pa_cons (pv 3) (pa_cons pe_bl pa_nil))))))))))))), ?_⟩
    refine ⟨_, rfl, a, ns, rfl, hS, hlen, fun l ws H1 hW hok h3 e1 => ?_⟩
    refine ⟨_, rfl, l, ws, rfl, hW, hok, h3, fun tl xs H2 htl hxs hx1 hx2 e2 => ?_⟩
    refine fun am ham => ?_
    have hW2 := hW.same e2
    have hS2 := (e1.trans e2).seq hS
    clear hW hS e1 e2
    have s3 := Same.new (o := .dK []) ham
    dsimp only [gName]
    refine join_if (fun σ' H' => ∃ (st d g : Addr) (kvs : List (Key × V)) (v5 v6 v7 : Option V), σ' = [some (.ref a), some (.ref l), some (.ref tl), some (.ref am), some (.ref st), v5, v6, v7, none, none] ∧ StoAt St H' st d g ∧ H' d = some (.dK kvs) ∧ H' g = some (.lst []) ∧ H' am = some (.dK kvs) ∧ IntD kvs ∧ (kvs.map (·.1)).Nodup ∧ KeysT ws kvs ∧ kvs.length ≤ 100 ∧ d ≠ am ∧ H2 d = none ∧ Same H2 H') (fun N hN => ?_) ?_
    · refine ⟨_, rfl, a, ns, 6, rfl, s3.seq hS2, hlen, fun n => ⟨_, _, rfl, rfl, (by show (0 : Int) < 4; decide), rfl, _, rfl, ite2 (fun _ => ?_) fun _ => ?_⟩⟩
      · refine fun st dx nst ndx nds => ?_
        refine ⟨st, dx, .non, [], rfl, upd_same, .inl ⟨rfl, rfl⟩, (fun p hp => by cases hp), List.nodup_nil, (fun p hp => by cases hp), Nat.zero_le _, fun d g H' nd ng ndg hSt hd hg e => ⟨rfl, ?_⟩⟩
        have nas : am ≠ st := ne_of_none upd_same nst
        have nad : am ≠ dx := ne_of_none upd_same ndx
        have ham' : (upd (upd (upd H2 am (.dK [])) dx (.own st)) st (.ins St dx [])) am = some (.dK []) := by rw [upd_ne nas, upd_ne nad, upd_same]
        have s5 : Same H2 (upd (upd (upd H2 am (.dK [])) dx (.own st)) st (.ins St dx [])) := made_same s3 nst ndx
        exact hN _ _ ⟨st, d, g, [], none, none, none, rfl, hSt, hd, hg, e _ _ ham' nas, (fun p hp => by cases hp), List.nodup_nil, (fun p hp => by cases hp), Nat.zero_le _, (fun z => by rw [z, ham'] at nd; cases nd), none_back s5 nd, fun b o z => e _ _ (s5 _ _ z) (ne_of_none (s3 _ _ z) nst)⟩
      · refine ⟨_, rfl, tl, _, rfl, .inl (SqL.of (s3 _ _ htl)), _, rfl, by omega, by rw [List.length_map]; omega, for_range (fun i σ H' => ∃ (kvs : List (Key × V)) (v5 v6 : Option V), σ = [some (.ref a), some (.ref l), some (.ref tl), some (.ref am), none, v5, v6, none, none, none] ∧ H' am = some (.dK kvs) ∧ IntD kvs ∧ (kvs.map (·.1)).Nodup ∧ KeysT ws kvs ∧ kvs.length ≤ i ∧ Same H2 H') ?_ ?_ ?_⟩
        · exact ⟨[], none, none, rfl, upd_same, (fun p hp => by cases hp), List.nodup_nil, (fun p hp => by cases hp), Nat.le_refl _, s3⟩
        · rintro i σ H' hi ⟨kvs, v5, v6, rfl, ham', hI, hn, hT, hl, e⟩
          have hix : i < xs.length := by
            have := hi
            rw [List.length_map] at this
            omega
          have ek : (7 : Int) + (0 + (i : Int)) = ((7 + i : Nat) : Int) := by omega
          refine ⟨_, rfl, _, rfl, _, _, rfl, rfl, a, ns, 7 + i, by rw [← ek]; rfl, e.seq hS2, hlen, fun n2 => ?_⟩
          refine ⟨_, rfl, _, _, rfl, rfl, (by show (0 : Int) < 4; decide), rfl, _, rfl, ite2 (fun _ => ?_) fun _ => ⟨kvs, _, _, rfl, ham', hI, hn, hT, by omega, e⟩⟩
          have hat : atI (xs.map V.str) (0 + (i : Int)) = some (V.str xs[i]) := by
            rw [Int.zero_add]
            exact atI_nat (by rw [List.getElem?_map, List.getElem?_eq_getElem hix]; rfl)
          have hTx := hxs _ (List.getElem_mem hix)
          refine ⟨_, rfl, _, _, rfl, rfl, ⟨by decide, by decide⟩, _, rfl, fun m => ⟨_, rfl, _, rfl, _, rfl, tl, _, _, _, rfl, rfl, SqL.of (e _ _ htl), hat, am, _, rfl, DPut.k (k := Sum.inr xs[i]) ham' (by omega), ?_⟩⟩
          have hl2 : (putK kvs (Sum.inr xs[i]) (V.int m)).length ≤ kvs.length + 1 := length_putK _ _ _
          refine ⟨_, _, _, rfl, upd_same, fun p hp => ?_, nd_put hn, hT.put hTx _, by omega, fun b o z => ?_⟩
          · rcases put_mem hp with hp | hp
            · exact hI p hp
            · exact ⟨m, by rw [hp]⟩
          · rw [upd_ne (ne_of_none z ham)]
            exact e _ _ z
        · rintro σ H' ⟨kvs, v5, v6, rfl, ham', hI, hn, hT, hl, e⟩
          have hl : kvs.length ≤ 30 := by
            have := hl
            rw [List.length_map] at this
            omega
          have fl : flatD kvs := fun p' hp' => by obtain ⟨i, e⟩ := hI p' hp'; rw [e]; rfl
          refine ⟨_, rfl, am, _, rfl, .inl ham', fun hn' hnn => ?_⟩
          have e5 := e.trans (Same.new (o := .dK kvs) hnn)
          have nah : am ≠ hn' := ne_of_none ham' hnn
          refine ⟨_, rfl, fun st dx nst ndx nds => ?_⟩
          have nas : am ≠ st := ne_of_none (Same.new (o := .dK kvs) hnn _ _ ham') nst
          have nad : am ≠ dx := ne_of_none (Same.new (o := .dK kvs) hnn _ _ ham') ndx
          have nhs : hn' ≠ st := ne_of_none upd_same nst
          have nhd : hn' ≠ dx := ne_of_none upd_same ndx
          have s6 : Same (upd H' hn' (.dK kvs)) (upd (upd (upd H' hn' (.dK kvs)) dx (.own st)) st (.ins St dx [])) := made_same (Same.refl _) nst ndx
          have ham6 := s6 _ _ (Same.new (o := .dK kvs) hnn _ _ ham')
          have hh6 := s6 _ _ (upd_same (H := H') (a := hn') (o := .dK kvs))
          refine ⟨st, dx, .ref hn', kvs, rfl, upd_same, .inr ⟨hn', rfl, hh6⟩, hI, hn, fun q hq => ?_, by omega, fun d g H7 nd ng ndg hSt hd hg e7 => ⟨rfl, ?_⟩⟩
          · obtain ⟨s, es, hs⟩ := hT q hq
            exact ⟨s, es, told_good hok hs⟩
          have ham7 := e7 _ _ ham6 nas
          have hh7 := e7 _ _ hh6 nhs
          refine ⟨_, rfl, _, rfl, hn', am, kvs, kvs, rfl, rfl, .inl hh7, .inl ham7, fl, fl, fun _ _ => ?_⟩
          rw [eqD_self hn fl]
          refine ⟨_, rfl, iteF ?_⟩
          have nhd2 : hn' ≠ d := fun z => by rw [← z, hh6] at nd; cases nd
          have nas2 : am ≠ d := fun z => by rw [← z, ham6] at nd; cases nd
          have hl2 : (putK kvs (Sum.inr "H") (V.int (zAt kvs (Sum.inr "H") + 5))).length ≤ kvs.length + 1 := length_putK _ _ _
          refine ⟨_, rfl, hn', rfl, .inl ⟨_, .inl hh7⟩, _, DGet.k (k := Sum.inr "H") hh7, _, _, hI.at _, rfl, _, rfl, hn', _, rfl, DPut.k (k := Sum.inr "H") hh7 (by omega), ?_⟩
          refine ⟨_, rfl, hn', _, rfl, DPut.k (k := Sum.inr "Q") upd_same (Nat.lt_of_le_of_lt hl2 (by omega)), ?_⟩
          obtain ⟨dx', hst7⟩ := id hSt
          have nhs7 : st ≠ hn' := Ne.symm nhs
          have ngh : g ≠ hn' := ne_of hg hh7 (by intro z; cases z)
          refine hN _ _ ⟨st, d, g, kvs, _, _, _, rfl, ⟨dx', by rw [upd_ne nhs7, upd_ne nhs7]; exact hst7⟩, by rw [upd_ne (Ne.symm nhd2), upd_ne (Ne.symm nhd2)]; exact hd, by rw [upd_ne ngh, upd_ne ngh]; exact hg, by rw [upd_ne nah, upd_ne nah]; exact ham7, hI, hn, hT, by omega, Ne.symm nas2, none_back (e5.trans s6) nd, fun b o z => ?_⟩
          have nbh : b ≠ hn' := ne_of_none (e _ _ z) hnn
          rw [upd_ne nbh, upd_ne nbh]
          exact e7 _ _ ((e5.trans s6) _ _ z) (ne_of_none (e5 _ _ z) nst)
    rintro σ' H4 ⟨st, d, g, kvs, v5, v6, v7, rfl, hSt, hd, hg, ham4, hI, hn, hT, hl, nda, hd2, e4⟩
    have hWs : ∀ H', Same H2 H' → WorldAt H' l ws := fun _ e => hW2.same e
    refine ⟨_, rfl, _, rfl, _, rfl, st, d, g, l, am, false, kvs, ws, rfl, hSt, hd, hg, ham4, hI, hn, hT, by omega, hWs _ e4, hok, h3, fun H5 e5 => ⟨_, rfl, iteF ?_⟩⟩
    refine ⟨_, rfl, 7, rfl, 47, rfl, a, _, rfl, (e4.trans e5).seq hS2, fun sl hsl => ?_⟩
    obtain ⟨ms, hms, hml⟩ : ∃ ms : List Int, cutV (ns.map V.int) (some 7) (some 47) = ms.map V.int ∧ ms.length ≤ 63 := by
      unfold cutV
      rw [← List.map_drop, ← List.map_take]
      refine ⟨_, rfl, ?_⟩
      rw [List.length_take, List.length_drop]
      omega
    rw [hms]
    have s6 := Same.new (o := .lst (ms.map V.int)) hsl
    have e46 := (e4.trans e5).trans s6
    have e56 := e5.trans s6
    obtain ⟨dx, hst⟩ := id hSt
    have nsd : st ≠ d := ne_of hst hd (by intro z; cases z)
    have nsa : st ≠ am := ne_of hst ham4 (by intro z; cases z)
    have ngd : g ≠ d := ne_of hg hd (by intro z; cases z)
    have nga : g ≠ am := ne_of hg ham4 (by intro z; cases z)
    have hst6 := e56 _ _ hst
    have hd6 := e56 _ _ hd
    have hg6 := e56 _ _ hg
    have ham6 := e56 _ _ ham4
    have hsl6 : (upd H5 sl (.lst (ms.map V.int))) sl = some (.lst (ms.map V.int)) := upd_same
    have nld : sl ≠ d := ne_of hsl6 hd6 (by intro z; cases z)
    have nla : sl ≠ am := ne_of hsl6 ham6 (by intro z; cases z)
    generalize upd H5 sl (.lst (ms.map V.int)) = H6 at e46 hst6 hd6 hg6 ham6 hsl6 ⊢
    refine ⟨sl, rfl, ⟨_, SqL.of hsl6⟩, for_list (K := K) (a := sl) (xs := ms.map V.int) (fun i σ H' => ∃ (kvs : List (Key × V)) (v6 v8 v9 : Option V), σ = [some (.ref a), some (.ref l), some (.ref tl), some (.ref am), some (.ref st), v5, v6, v7, v8, v9] ∧ H' st = some (.ins St dx (sfl d g)) ∧ H' d = some (.dK kvs) ∧ H' g = some (.lst []) ∧ H' am = some (.dK kvs) ∧ H' sl = some (.lst (ms.map V.int)) ∧ IntD kvs ∧ (kvs.map (·.1)).Nodup ∧ KeysT ws kvs ∧ kvs.length ≤ 100 + i ∧ Same H2 H') ⟨kvs, _, _, _, rfl, hst6, hd6, hg6, ham6, hsl6, hI, hn, hT, by omega, e46⟩ (fun i σ H' _ ⟨_, _, _, _, _, _, _, _, _, z, _⟩ => SqL.of z) ?_ ?_⟩
    · clear hst6 hd6 hg6 ham6 hsl6 hI hn hT hl hSt hd hg ham4 hst kvs
      rintro i v σ H' hi ⟨kvs, w6, w8, w9, rfl, hst, hd, hg, ham', hsl', hI, hn, hT, hl, e⟩
      rw [List.getElem?_map] at hi
      obtain ⟨c, hc, rfl⟩ : ∃ p, ms[i]? = some p ∧ v = V.int p := by
        cases hh : ms[i]? with
        | none => rw [hh] at hi; cases hi
        | some p => rw [hh] at hi; exact ⟨p, rfl, (Option.some.inj hi).symm⟩
      have hil : i < ms.length := (List.getElem?_eq_some_iff.mp hc).1
      have b0 : 0 ≤ c % 64 % ((xs.map V.str).length : Int) := Int.emod_nonneg _ (by rw [List.length_map]; omega)
      have b1 : c % 64 % ((xs.map V.str).length : Int) < ((xs.map V.str).length : Int) := Int.emod_lt_of_pos _ (by rw [List.length_map]; omega)
      obtain ⟨v, hv, hat⟩ := atI_in (xs := xs.map V.str) b0 b1
      obtain ⟨y, hy, rfl⟩ := List.mem_map.mp hv
      have hTy := hxs y hy
      have gy := told_good hok hTy
      have htl' := e _ _ htl
      refine ⟨_, rfl, _, rfl, _, _, rfl, rfl, (by show (0 : Int) < 64; decide), _, rfl, tl, _, rfl, .inl (SqL.of htl'), _, _, rfl, rfl, (by rw [List.length_map]; omega), tl, _, _, _, rfl, rfl, SqL.of htl', hat, ?_⟩
      refine ⟨_, rfl, _, _, rfl, rfl, ⟨by decide, by decide⟩, _, rfl, fun m => ?_⟩
      refine ⟨_, rfl, st, dx, _, rfl, hst, sfl_no _ _ (by decide +kernel) (by decide +kernel), _, rfl, _, rfl, st, d, g, y, m, kvs, rfl, ⟨dx, hst⟩, hd, hI, by omega, gy, fun H7 kp hd7 => ?_⟩
      have ham7 := kp _ _ ham' (Ne.symm nda)
      have hst7 := kp _ _ hst nsd
      have hI7 := hI.add (Sum.inr y) m
      have hla : (addC kvs (Sum.inr y) m).length ≤ kvs.length + 1 := length_putK _ _ _
      have hvy : valV (addC kvs (Sum.inr y) m) (Sum.inr y) = some (.int (zAt kvs (Sum.inr y) + m)) := by unfold addC; rw [valV_put, if_pos rfl]
      refine ⟨_, rfl, iteF ?_⟩
      refine ⟨_, rfl, am, rfl, .inl ⟨_, .inl ham7⟩, _, rfl, _, DGet.k (k := Sum.inr y) ham7, _, rfl, _, _, hI.at _, rfl, _, rfl, _, rfl, am, _, rfl, DPut.k (k := Sum.inr y) ham7 (by omega), ?_⟩
      have ham8 : (upd H7 am (.dK (addC kvs (Sum.inr y) m))) am = some (.dK (addC kvs (Sum.inr y) m)) := upd_same
      have hd8 : (upd H7 am (.dK (addC kvs (Sum.inr y) m))) d = some (.dK (addC kvs (Sum.inr y) m)) := by rw [upd_ne nda]; exact hd7
      have hst8 : (upd H7 am (.dK (addC kvs (Sum.inr y) m))) st = some (.ins St dx (sfl d g)) := by rw [upd_ne nsa]; exact hst7
      have hg8 : (upd H7 am (.dK (addC kvs (Sum.inr y) m))) g = some (.lst []) := by rw [upd_ne nga]; exact kp _ _ hg ngd
      have hsl8 : (upd H7 am (.dK (addC kvs (Sum.inr y) m))) sl = some (.lst (ms.map V.int)) := by rw [upd_ne nla]; exact kp _ _ hsl' nld
      have e8 : Same H2 (upd H7 am (.dK (addC kvs (Sum.inr y) m))) := fun b o z => by
        rw [upd_ne (ne_of_none z ham)]
        exact kp _ _ (e _ _ z) (ne_of_none z hd2)
      refine ⟨_, rfl, st, dx, _, rfl, hst8, sfl_no _ _ (by decide +kernel) (by decide +kernel), _, rfl, st, d, g, y, _, rfl, ⟨dx, hst8⟩, hd8, hI7, gy, fun H9 e9 => ?_⟩
      rw [zAt_some hvy]
      refine ⟨_, rfl, _, rfl, am, _, rfl, .inl ⟨_, Sum.inr y, .inl (e9 _ _ ham8), rfl, hvy.symm⟩, rfl, _, rfl, iteNS rfl ?_⟩
      exact ⟨_, _, _, _, rfl, e9 _ _ hst8, e9 _ _ hd8, e9 _ _ hg8, e9 _ _ ham8, e9 _ _ hsl8, hI7, nd_put hn, hT.put hTy _, by omega, e8.trans e9⟩
    · rintro σ H' ⟨kv9, w6, w8, w9, rfl, hst, hd, hg, ham', hsl', hI, hn, hT, hl, e⟩
      rw [List.length_map] at hl
      exact ⟨_, rfl, _, rfl, _, rfl, st, d, g, l, am, true, kv9, ws, rfl, ⟨dx, hst⟩, hd, hg, ham', hI, hn, hT, by omega, hWs _ e, hok, h3, fun H9 _ => q H9⟩
end
theorem all_mk {l : PySem.W.OpenLaw} {w : World} {K : PySem.W.Frag} {h : Heap} {mg : Str → Option Value} {fa C Gr Pc Fo Rd St fxig fxis fxif fxini fxgi fxpi fxtl fxfi fxri fxrs fxrt fxra fxre fxrw fxrl fxrps fxrp fxrg fxrat fxrc fxrn fxrch fxrf fxpc fxco fxgc fxpC fxfC fxcw fxfW fxsi fxsh fxsp fxst fxss fxsw fxca fxmi fxwh fxki fxfg fxlm fxlw fxlx fxla fxly fxlt fxld flaw : Addr} (X : K.In h) (G : h.Ns mainGlobals mg) (hfa : mg "law" = some (.ref fa))
    {odxig anxig odxis anxis odxif anxif odxini anxini odxgi anxgi odxpi anxpi odxtl anxtl odxfi anxfi odxri anxri odxrs anxrs odxrt anxrt odxra anxra odxre anxre odxrw anxrw odxrl anxrl odxrps anxrps odxrp anxrp odxrg anxrg odxrat anxrat odxrc anxrc odxrn anxrn odxrch anxrch odxrf anxrf odxpc anxpc odxco anxco odxgc anxgc odxpC anxpC odxfC anxfC odxcw anxcw odxfW anxfW odxsi anxsi odxsh anxsh odxsp anxsp odxst anxst odxss anxss odxsw anxsw odxca anxca odxmi anxmi odxwh anxwh odxki anxki odxfg anxfg odxlm anxlm odxlw anxlw odxlx anxlx odxla anxla odxly anxly odxlt anxlt odxld anxld odlaw anlaw : Option Addr} {slxig slxis slxif slxini slxgi slxpi slxtl slxfi slxri slxrs slxrt slxra slxre slxrw slxrl slxrps slxrp slxrg slxrat slxrc slxrn slxrch slxrf slxpc slxco slxgc slxpC slxfC slxcw slxfW slxsi slxsh slxsp slxst slxss slxsw slxca slxmi slxwh slxki slxfg slxlm slxlw slxlx slxla slxly slxlt slxld sllaw : Array (Option Value)} {ocxig kVxig dcxig pmxig cdxig ctxig ocxis kVxis dcxis pmxis cdxis ctxis ocxif kVxif dcxif pmxif cdxif ctxif ocxini kVxini dcxini pmxini cdxini ctxini ocxgi kVxgi dcxgi pmxgi cdxgi ctxgi ocxpi kVxpi dcxpi pmxpi cdxpi ctxpi ocxtl kVxtl dcxtl pmxtl cdxtl ctxtl ocxfi kVxfi dcxfi pmxfi cdxfi ctxfi ocxri kVxri dcxri pmxri cdxri ctxri ocxrs kVxrs dcxrs pmxrs cdxrs ctxrs ocxrt kVxrt dcxrt pmxrt cdxrt ctxrt ocxra kVxra dcxra pmxra cdxra ctxra ocxre kVxre dcxre pmxre cdxre ctxre ocxrw kVxrw dcxrw pmxrw cdxrw ctxrw ocxrl kVxrl dcxrl pmxrl cdxrl ctxrl ocxrps kVxrps dcxrps pmxrps cdxrps ctxrps ocxrp kVxrp dcxrp pmxrp cdxrp ctxrp ocxrg kVxrg dcxrg pmxrg cdxrg ctxrg ocxrat kVxrat dcxrat pmxrat cdxrat ctxrat ocxrc kVxrc dcxrc pmxrc cdxrc ctxrc ocxrn kVxrn dcxrn pmxrn cdxrn ctxrn ocxrch kVxrch dcxrch pmxrch cdxrch ctxrch ocxrf kVxrf dcxrf pmxrf cdxrf ctxrf ocxpc kVxpc dcxpc pmxpc cdxpc ctxpc ocxco kVxco dcxco pmxco cdxco ctxco ocxgc kVxgc dcxgc pmxgc cdxgc ctxgc ocxpC kVxpC dcxpC pmxpC cdxpC ctxpC ocxfC kVxfC dcxfC pmxfC cdxfC ctxfC ocxcw kVxcw dcxcw pmxcw cdxcw ctxcw ocxfW kVxfW dcxfW pmxfW cdxfW ctxfW ocxsi kVxsi dcxsi pmxsi cdxsi ctxsi ocxsh kVxsh dcxsh pmxsh cdxsh ctxsh ocxsp kVxsp dcxsp pmxsp cdxsp ctxsp ocxst kVxst dcxst pmxst cdxst ctxst ocxss kVxss dcxss pmxss cdxss ctxss ocxsw kVxsw dcxsw pmxsw cdxsw ctxsw ocxca kVxca dcxca pmxca cdxca ctxca ocxmi kVxmi dcxmi pmxmi cdxmi ctxmi ocxwh kVxwh dcxwh pmxwh cdxwh ctxwh ocxki kVxki dcxki pmxki cdxki ctxki ocxfg kVxfg dcxfg pmxfg cdxfg ctxfg ocxlm kVxlm dcxlm pmxlm cdxlm ctxlm ocxlw kVxlw dcxlw pmxlw cdxlw ctxlw ocxlx kVxlx dcxlx pmxlx cdxlx ctxlx ocxla kVxla dcxla pmxla cdxla ctxla ocxly kVxly dcxly pmxly cdxly ctxly ocxlt kVxlt dcxlt pmxlt cdxlt ctxlt ocxld kVxld dcxld pmxld cdxld ctxld oclaw kVlaw dclaw pmlaw cdlaw ctlaw : Value}
    {tdxini : Addr} {otcxini : Value} {otdxini : Option Addr} {otsxini : Array (Option Value)} {tnxini : Nat} {tkxini : Tok}
    {tdxgi : Addr} {otcxgi : Value} {otdxgi : Option Addr} {otsxgi : Array (Option Value)} {tnxgi : Nat} {tkxgi : Tok}
    {tdxpi : Addr} {otcxpi : Value} {otdxpi : Option Addr} {otsxpi : Array (Option Value)} {tnxpi : Nat} {tkxpi : Tok}
    {tdxfi : Addr} {otcxfi : Value} {otdxfi : Option Addr} {otsxfi : Array (Option Value)} {tnxfi : Nat} {tkxfi : Tok}
    {tdxsi : Addr} {otcxsi : Value} {otdxsi : Option Addr} {otsxsi : Array (Option Value)} {tnxsi : Nat}
    {uK uN uB uE uM uC uP uI uD uL uT : Tok}
    (aC : PySem.W.nsIn K mainGlobals "Atom" = some (some (.ref C)))
    (aGr : PySem.W.nsIn K mainGlobals "Group" = some (some (.ref Gr)))
    (aPc : PySem.W.nsIn K mainGlobals "Piece" = some (some (.ref Pc)))
    (aFo : PySem.W.nsIn K mainGlobals "Formula" = some (some (.ref Fo)))
    (aRd : PySem.W.nsIn K mainGlobals "Reader" = some (some (.ref Rd)))
    (aSt : PySem.W.nsIn K mainGlobals "Store" = some (some (.ref St)))
    (axig : PySem.W.nsIn K mainGlobals "is_great" = some (some (.ref fxig)))
    (lxig : K.lookup fxig = some ⟨ocxig, odxig, .func (PySem.W.fnOf "is_great" "is_great" (defArgs sGreat) (defBody sGreat) (defScope sGreat) .none kVxig dcxig pmxig anxig cdxig ctxig), slxig⟩)
    (cxig : PySem.W.codeIn K cdxig "is_great" = true)
    (kxig : PySem.W.keepIn K (.ref fxig) = true)
    (axis : PySem.W.nsIn K mainGlobals "is_small" = some (some (.ref fxis)))
    (lxis : K.lookup fxis = some ⟨ocxis, odxis, .func (PySem.W.fnOf "is_small" "is_small" (defArgs sSmall) (defBody sSmall) (defScope sSmall) .none kVxis dcxis pmxis anxis cdxis ctxis), slxis⟩)
    (cxis : PySem.W.codeIn K cdxis "is_small" = true)
    (kxis : PySem.W.keepIn K (.ref fxis) = true)
    (axif : PySem.W.nsIn K mainGlobals "is_figure" = some (some (.ref fxif)))
    (lxif : K.lookup fxif = some ⟨ocxif, odxif, .func (PySem.W.fnOf "is_figure" "is_figure" (defArgs sFigure) (defBody sFigure) (defScope sFigure) .none kVxif dcxif pmxif anxif cdxif ctxif), slxif⟩)
    (cxif : PySem.W.codeIn K cdxif "is_figure" = true)
    (kxif : PySem.W.keepIn K (.ref fxif) = true)
    (axini : PySem.W.findIn K (.ref C) "__init__" = some (some (.ref fxini)))
    (ixini : PySem.W.isFn K (.ref fxini) = true)
    (lxini : K.lookup fxini = some ⟨ocxini, odxini, .func (PySem.W.fnOf "__init__" "Atom.__init__" (defArgs sInit) (defBody sInit) (defScope sInit) (.ref tdxini) kVxini dcxini pmxini anxini cdxini ctxini), slxini⟩)
    (txini : K.lookup tdxini = some ⟨otcxini, otdxini, .seq #[.int 1 tkxini] tnxini, otsxini⟩)
    (cxini : PySem.W.codeIn K cdxini "Atom.__init__" = true)
    (kxini : PySem.W.keepIn K (.ref fxini) = true)
    (axgi : PySem.W.findIn K (.ref Gr) "__init__" = some (some (.ref fxgi)))
    (ixgi : PySem.W.isFn K (.ref fxgi) = true)
    (lxgi : K.lookup fxgi = some ⟨ocxgi, odxgi, .func (PySem.W.fnOf "__init__" "Group.__init__" (defArgs sGInit) (defBody sGInit) (defScope sGInit) (.ref tdxgi) kVxgi dcxgi pmxgi anxgi cdxgi ctxgi), slxgi⟩)
    (txgi : K.lookup tdxgi = some ⟨otcxgi, otdxgi, .seq #[.int 1 tkxgi] tnxgi, otsxgi⟩)
    (cxgi : PySem.W.codeIn K cdxgi "Group.__init__" = true)
    (kxgi : PySem.W.keepIn K (.ref fxgi) = true)
    (axpi : PySem.W.findIn K (.ref Pc) "__init__" = some (some (.ref fxpi)))
    (ixpi : PySem.W.isFn K (.ref fxpi) = true)
    (lxpi : K.lookup fxpi = some ⟨ocxpi, odxpi, .func (PySem.W.fnOf "__init__" "Piece.__init__" (defArgs sPInit) (defBody sPInit) (defScope sPInit) (.ref tdxpi) kVxpi dcxpi pmxpi anxpi cdxpi ctxpi), slxpi⟩)
    (txpi : K.lookup tdxpi = some ⟨otcxpi, otdxpi, .seq #[.int 1 tkxpi] tnxpi, otsxpi⟩)
    (cxpi : PySem.W.codeIn K cdxpi "Piece.__init__" = true)
    (kxpi : PySem.W.keepIn K (.ref fxpi) = true)
    (axtl : PySem.W.nsIn K mainGlobals "refuse_too_long" = some (some (.ref fxtl)))
    (lxtl : K.lookup fxtl = some ⟨ocxtl, odxtl, .func (PySem.W.fnOf "refuse_too_long" "refuse_too_long" (defArgs sTooLong) (defBody sTooLong) (defScope sTooLong) .none kVxtl dcxtl pmxtl anxtl cdxtl ctxtl), slxtl⟩)
    (cxtl : PySem.W.codeIn K cdxtl "refuse_too_long" = true)
    (kxtl : PySem.W.keepIn K (.ref fxtl) = true)
    (axfi : PySem.W.findIn K (.ref Fo) "__init__" = some (some (.ref fxfi)))
    (ixfi : PySem.W.isFn K (.ref fxfi) = true)
    (lxfi : K.lookup fxfi = some ⟨ocxfi, odxfi, .func (PySem.W.fnOf "__init__" "Formula.__init__" (defArgs sFInit) (defBody sFInit) (defScope sFInit) (.ref tdxfi) kVxfi dcxfi pmxfi anxfi cdxfi ctxfi), slxfi⟩)
    (txfi : K.lookup tdxfi = some ⟨otcxfi, otdxfi, .seq #[.int 0 tkxfi] tnxfi, otsxfi⟩)
    (cxfi : PySem.W.codeIn K cdxfi "Formula.__init__" = true)
    (kxfi : PySem.W.keepIn K (.ref fxfi) = true)
    (axri : PySem.W.findIn K (.ref Rd) "__init__" = some (some (.ref fxri)))
    (ixri : PySem.W.isFn K (.ref fxri) = true)
    (lxri : K.lookup fxri = some ⟨ocxri, odxri, .func (PySem.W.fnOf "__init__" "Reader.__init__" (defArgs sRInit) (defBody sRInit) (defScope sRInit) .none kVxri dcxri pmxri anxri cdxri ctxri), slxri⟩)
    (cxri : PySem.W.codeIn K cdxri "Reader.__init__" = true)
    (kxri : PySem.W.keepIn K (.ref fxri) = true)
    (axrs : PySem.W.findIn K (.ref Rd) "sign" = some (some (.ref fxrs)))
    (ixrs : PySem.W.isFn K (.ref fxrs) = true)
    (lxrs : K.lookup fxrs = some ⟨ocxrs, odxrs, .func (PySem.W.fnOf "sign" "Reader.sign" (defArgs sSign) (defBody sSign) (defScope sSign) .none kVxrs dcxrs pmxrs anxrs cdxrs ctxrs), slxrs⟩)
    (cxrs : PySem.W.codeIn K cdxrs "Reader.sign" = true)
    (kxrs : PySem.W.keepIn K (.ref fxrs) = true)
    (axrt : PySem.W.findIn K (.ref Rd) "take" = some (some (.ref fxrt)))
    (ixrt : PySem.W.isFn K (.ref fxrt) = true)
    (lxrt : K.lookup fxrt = some ⟨ocxrt, odxrt, .func (PySem.W.fnOf "take" "Reader.take" (defArgs sTake) (defBody sTake) (defScope sTake) .none kVxrt dcxrt pmxrt anxrt cdxrt ctxrt), slxrt⟩)
    (cxrt : PySem.W.codeIn K cdxrt "Reader.take" = true)
    (kxrt : PySem.W.keepIn K (.ref fxrt) = true)
    (axra : PySem.W.findIn K (.ref Rd) "take_all" = some (some (.ref fxra)))
    (ixra : PySem.W.isFn K (.ref fxra) = true)
    (lxra : K.lookup fxra = some ⟨ocxra, odxra, .func (PySem.W.fnOf "take_all" "Reader.take_all" (defArgs sTakeAll) (defBody sTakeAll) (defScope sTakeAll) .none kVxra dcxra pmxra anxra cdxra ctxra), slxra⟩)
    (cxra : PySem.W.codeIn K cdxra "Reader.take_all" = true)
    (kxra : PySem.W.keepIn K (.ref fxra) = true)
    (axre : PySem.W.findIn K (.ref Rd) "take_end" = some (some (.ref fxre)))
    (ixre : PySem.W.isFn K (.ref fxre) = true)
    (lxre : K.lookup fxre = some ⟨ocxre, odxre, .func (PySem.W.fnOf "take_end" "Reader.take_end" (defArgs sTakeEnd) (defBody sTakeEnd) (defScope sTakeEnd) .none kVxre dcxre pmxre anxre cdxre ctxre), slxre⟩)
    (cxre : PySem.W.codeIn K cdxre "Reader.take_end" = true)
    (kxre : PySem.W.keepIn K (.ref fxre) = true)
    (axrw : PySem.W.findIn K (.ref Rd) "read_whole" = some (some (.ref fxrw)))
    (ixrw : PySem.W.isFn K (.ref fxrw) = true)
    (lxrw : K.lookup fxrw = some ⟨ocxrw, odxrw, .func (PySem.W.fnOf "read_whole" "Reader.read_whole" (defArgs sRWhole) (defBody sRWhole) (defScope sRWhole) .none kVxrw dcxrw pmxrw anxrw cdxrw ctxrw), slxrw⟩)
    (cxrw : PySem.W.codeIn K cdxrw "Reader.read_whole" = true)
    (kxrw : PySem.W.keepIn K (.ref fxrw) = true)
    (axrl : PySem.W.findIn K (.ref Rd) "read_electron" = some (some (.ref fxrl)))
    (ixrl : PySem.W.isFn K (.ref fxrl) = true)
    (lxrl : K.lookup fxrl = some ⟨ocxrl, odxrl, .func (PySem.W.fnOf "read_electron" "Reader.read_electron" (defArgs sRElectron) (defBody sRElectron) (defScope sRElectron) .none kVxrl dcxrl pmxrl anxrl cdxrl ctxrl), slxrl⟩)
    (cxrl : PySem.W.codeIn K cdxrl "Reader.read_electron" = true)
    (kxrl : PySem.W.keepIn K (.ref fxrl) = true)
    (axrps : PySem.W.findIn K (.ref Rd) "read_parts" = some (some (.ref fxrps)))
    (ixrps : PySem.W.isFn K (.ref fxrps) = true)
    (lxrps : K.lookup fxrps = some ⟨ocxrps, odxrps, .func (PySem.W.fnOf "read_parts" "Reader.read_parts" (defArgs sRParts) (defBody sRParts) (defScope sRParts) .none kVxrps dcxrps pmxrps anxrps cdxrps ctxrps), slxrps⟩)
    (cxrps : PySem.W.codeIn K cdxrps "Reader.read_parts" = true)
    (kxrps : PySem.W.keepIn K (.ref fxrps) = true)
    (axrp : PySem.W.findIn K (.ref Rd) "read_part" = some (some (.ref fxrp)))
    (ixrp : PySem.W.isFn K (.ref fxrp) = true)
    (lxrp : K.lookup fxrp = some ⟨ocxrp, odxrp, .func (PySem.W.fnOf "read_part" "Reader.read_part" (defArgs sRPart) (defBody sRPart) (defScope sRPart) .none kVxrp dcxrp pmxrp anxrp cdxrp ctxrp), slxrp⟩)
    (cxrp : PySem.W.codeIn K cdxrp "Reader.read_part" = true)
    (kxrp : PySem.W.keepIn K (.ref fxrp) = true)
    (axrg : PySem.W.findIn K (.ref Rd) "read_group" = some (some (.ref fxrg)))
    (ixrg : PySem.W.isFn K (.ref fxrg) = true)
    (lxrg : K.lookup fxrg = some ⟨ocxrg, odxrg, .func (PySem.W.fnOf "read_group" "Reader.read_group" (defArgs sRGroup) (defBody sRGroup) (defScope sRGroup) .none kVxrg dcxrg pmxrg anxrg cdxrg ctxrg), slxrg⟩)
    (cxrg : PySem.W.codeIn K cdxrg "Reader.read_group" = true)
    (kxrg : PySem.W.keepIn K (.ref fxrg) = true)
    (axrat : PySem.W.findIn K (.ref Rd) "read_atom" = some (some (.ref fxrat)))
    (ixrat : PySem.W.isFn K (.ref fxrat) = true)
    (lxrat : K.lookup fxrat = some ⟨ocxrat, odxrat, .func (PySem.W.fnOf "read_atom" "Reader.read_atom" (defArgs sRAtom) (defBody sRAtom) (defScope sRAtom) .none kVxrat dcxrat pmxrat anxrat cdxrat ctxrat), slxrat⟩)
    (cxrat : PySem.W.codeIn K cdxrat "Reader.read_atom" = true)
    (kxrat : PySem.W.keepIn K (.ref fxrat) = true)
    (axrc : PySem.W.findIn K (.ref Rd) "read_count" = some (some (.ref fxrc)))
    (ixrc : PySem.W.isFn K (.ref fxrc) = true)
    (lxrc : K.lookup fxrc = some ⟨ocxrc, odxrc, .func (PySem.W.fnOf "read_count" "Reader.read_count" (defArgs sRCount) (defBody sRCount) (defScope sRCount) .none kVxrc dcxrc pmxrc anxrc cdxrc ctxrc), slxrc⟩)
    (cxrc : PySem.W.codeIn K cdxrc "Reader.read_count" = true)
    (kxrc : PySem.W.keepIn K (.ref fxrc) = true)
    (axrn : PySem.W.findIn K (.ref Rd) "read_number" = some (some (.ref fxrn)))
    (ixrn : PySem.W.isFn K (.ref fxrn) = true)
    (lxrn : K.lookup fxrn = some ⟨ocxrn, odxrn, .func (PySem.W.fnOf "read_number" "Reader.read_number" (defArgs sRNumber) (defBody sRNumber) (defScope sRNumber) .none kVxrn dcxrn pmxrn anxrn cdxrn ctxrn), slxrn⟩)
    (cxrn : PySem.W.codeIn K cdxrn "Reader.read_number" = true)
    (kxrn : PySem.W.keepIn K (.ref fxrn) = true)
    (axrch : PySem.W.findIn K (.ref Rd) "read_charge" = some (some (.ref fxrch)))
    (ixrch : PySem.W.isFn K (.ref fxrch) = true)
    (lxrch : K.lookup fxrch = some ⟨ocxrch, odxrch, .func (PySem.W.fnOf "read_charge" "Reader.read_charge" (defArgs sRCharge) (defBody sRCharge) (defScope sRCharge) .none kVxrch dcxrch pmxrch anxrch cdxrch ctxrch), slxrch⟩)
    (cxrch : PySem.W.codeIn K cdxrch "Reader.read_charge" = true)
    (kxrch : PySem.W.keepIn K (.ref fxrch) = true)
    (axrf : PySem.W.nsIn K mainGlobals "read_formula" = some (some (.ref fxrf)))
    (lxrf : K.lookup fxrf = some ⟨ocxrf, odxrf, .func (PySem.W.fnOf "read_formula" "read_formula" (defArgs sRFormula) (defBody sRFormula) (defScope sRFormula) .none kVxrf dcxrf pmxrf anxrf cdxrf ctxrf), slxrf⟩)
    (cxrf : PySem.W.codeIn K cdxrf "read_formula" = true)
    (kxrf : PySem.W.keepIn K (.ref fxrf) = true)
    (axpc : PySem.W.nsIn K mainGlobals "parts_counts" = some (some (.ref fxpc)))
    (lxpc : K.lookup fxpc = some ⟨ocxpc, odxpc, .func (PySem.W.fnOf "parts_counts" "parts_counts" (defArgs sPCounts) (defBody sPCounts) (defScope sPCounts) .none kVxpc dcxpc pmxpc anxpc cdxpc ctxpc), slxpc⟩)
    (cxpc : PySem.W.codeIn K cdxpc "parts_counts" = true)
    (kxpc : PySem.W.keepIn K (.ref fxpc) = true)
    (axco : PySem.W.findIn K (.ref C) "counts" = some (some (.ref fxco)))
    (ixco : PySem.W.isFn K (.ref fxco) = true)
    (lxco : K.lookup fxco = some ⟨ocxco, odxco, .func (PySem.W.fnOf "counts" "Atom.counts" (defArgs sCounts) (defBody sCounts) (defScope sCounts) .none kVxco dcxco pmxco anxco cdxco ctxco), slxco⟩)
    (cxco : PySem.W.codeIn K cdxco "Atom.counts" = true)
    (kxco : PySem.W.keepIn K (.ref fxco) = true)
    (axgc : PySem.W.findIn K (.ref Gr) "counts" = some (some (.ref fxgc)))
    (ixgc : PySem.W.isFn K (.ref fxgc) = true)
    (lxgc : K.lookup fxgc = some ⟨ocxgc, odxgc, .func (PySem.W.fnOf "counts" "Group.counts" (defArgs sGCounts) (defBody sGCounts) (defScope sGCounts) .none kVxgc dcxgc pmxgc anxgc cdxgc ctxgc), slxgc⟩)
    (cxgc : PySem.W.codeIn K cdxgc "Group.counts" = true)
    (kxgc : PySem.W.keepIn K (.ref fxgc) = true)
    (axpC : PySem.W.findIn K (.ref Pc) "counts" = some (some (.ref fxpC)))
    (ixpC : PySem.W.isFn K (.ref fxpC) = true)
    (lxpC : K.lookup fxpC = some ⟨ocxpC, odxpC, .func (PySem.W.fnOf "counts" "Piece.counts" (defArgs sPieceCounts) (defBody sPieceCounts) (defScope sPieceCounts) .none kVxpC dcxpC pmxpC anxpC cdxpC ctxpC), slxpC⟩)
    (cxpC : PySem.W.codeIn K cdxpC "Piece.counts" = true)
    (kxpC : PySem.W.keepIn K (.ref fxpC) = true)
    (axfC : PySem.W.findIn K (.ref Fo) "counts" = some (some (.ref fxfC)))
    (ixfC : PySem.W.isFn K (.ref fxfC) = true)
    (lxfC : K.lookup fxfC = some ⟨ocxfC, odxfC, .func (PySem.W.fnOf "counts" "Formula.counts" (defArgs sFCounts) (defBody sFCounts) (defScope sFCounts) .none kVxfC dcxfC pmxfC anxfC cdxfC ctxfC), slxfC⟩)
    (cxfC : PySem.W.codeIn K cdxfC "Formula.counts" = true)
    (kxfC : PySem.W.keepIn K (.ref fxfC) = true)
    (axcw : PySem.W.nsIn K mainGlobals "counts_weight" = some (some (.ref fxcw)))
    (lxcw : K.lookup fxcw = some ⟨ocxcw, odxcw, .func (PySem.W.fnOf "counts_weight" "counts_weight" (defArgs sCW) (defBody sCW) (defScope sCW) .none kVxcw dcxcw pmxcw anxcw cdxcw ctxcw), slxcw⟩)
    (cxcw : PySem.W.codeIn K cdxcw "counts_weight" = true)
    (kxcw : PySem.W.keepIn K (.ref fxcw) = true)
    (axfW : PySem.W.findIn K (.ref Fo) "weight" = some (some (.ref fxfW)))
    (ixfW : PySem.W.isFn K (.ref fxfW) = true)
    (lxfW : K.lookup fxfW = some ⟨ocxfW, odxfW, .func (PySem.W.fnOf "weight" "Formula.weight" (defArgs sFWeight) (defBody sFWeight) (defScope sFWeight) .none kVxfW dcxfW pmxfW anxfW cdxfW ctxfW), slxfW⟩)
    (cxfW : PySem.W.codeIn K cdxfW "Formula.weight" = true)
    (kxfW : PySem.W.keepIn K (.ref fxfW) = true)
    (axsi : PySem.W.findIn K (.ref St) "__init__" = some (some (.ref fxsi)))
    (ixsi : PySem.W.isFn K (.ref fxsi) = true)
    (lxsi : K.lookup fxsi = some ⟨ocxsi, odxsi, .func (PySem.W.fnOf "__init__" "Store.__init__" (defArgs sSInit) (defBody sSInit) (defScope sSInit) (.ref tdxsi) kVxsi dcxsi pmxsi anxsi cdxsi ctxsi), slxsi⟩)
    (txsi : K.lookup tdxsi = some ⟨otcxsi, otdxsi, .seq #[.none] tnxsi, otsxsi⟩)
    (cxsi : PySem.W.codeIn K cdxsi "Store.__init__" = true)
    (kxsi : PySem.W.keepIn K (.ref fxsi) = true)
    (axsh : PySem.W.findIn K (.ref St) "have" = some (some (.ref fxsh)))
    (ixsh : PySem.W.isFn K (.ref fxsh) = true)
    (lxsh : K.lookup fxsh = some ⟨ocxsh, odxsh, .func (PySem.W.fnOf "have" "Store.have" (defArgs sHave) (defBody sHave) (defScope sHave) .none kVxsh dcxsh pmxsh anxsh cdxsh ctxsh), slxsh⟩)
    (cxsh : PySem.W.codeIn K cdxsh "Store.have" = true)
    (kxsh : PySem.W.keepIn K (.ref fxsh) = true)
    (axsp : PySem.W.findIn K (.ref St) "put" = some (some (.ref fxsp)))
    (ixsp : PySem.W.isFn K (.ref fxsp) = true)
    (lxsp : K.lookup fxsp = some ⟨ocxsp, odxsp, .func (PySem.W.fnOf "put" "Store.put" (defArgs sPut) (defBody sPut) (defScope sPut) .none kVxsp dcxsp pmxsp anxsp cdxsp ctxsp), slxsp⟩)
    (cxsp : PySem.W.codeIn K cdxsp "Store.put" = true)
    (kxsp : PySem.W.keepIn K (.ref fxsp) = true)
    (axst : PySem.W.findIn K (.ref St) "total" = some (some (.ref fxst)))
    (ixst : PySem.W.isFn K (.ref fxst) = true)
    (lxst : K.lookup fxst = some ⟨ocxst, odxst, .func (PySem.W.fnOf "total" "Store.total" (defArgs sTotal) (defBody sTotal) (defScope sTotal) .none kVxst dcxst pmxst anxst cdxst ctxst), slxst⟩)
    (cxst : PySem.W.codeIn K cdxst "Store.total" = true)
    (kxst : PySem.W.keepIn K (.ref fxst) = true)
    (axss : PySem.W.findIn K (.ref St) "stocks" = some (some (.ref fxss)))
    (ixss : PySem.W.isFn K (.ref fxss) = true)
    (lxss : K.lookup fxss = some ⟨ocxss, odxss, .func (PySem.W.fnOf "stocks" "Store.stocks" (defArgs sStocks) (defBody sStocks) (defScope sStocks) .none kVxss dcxss pmxss anxss cdxss ctxss), slxss⟩)
    (cxss : PySem.W.codeIn K cdxss "Store.stocks" = true)
    (kxss : PySem.W.keepIn K (.ref fxss) = true)
    (axsw : PySem.W.findIn K (.ref St) "went" = some (some (.ref fxsw)))
    (ixsw : PySem.W.isFn K (.ref fxsw) = true)
    (lxsw : K.lookup fxsw = some ⟨ocxsw, odxsw, .func (PySem.W.fnOf "went" "Store.went" (defArgs sWent) (defBody sWent) (defScope sWent) .none kVxsw dcxsw pmxsw anxsw cdxsw ctxsw), slxsw⟩)
    (cxsw : PySem.W.codeIn K cdxsw "Store.went" = true)
    (kxsw : PySem.W.keepIn K (.ref fxsw) = true)
    (axca : PySem.W.nsIn K mainGlobals "_law_cell_at" = some (some (.ref fxca)))
    (lxca : K.lookup fxca = some ⟨ocxca, odxca, .func (PySem.W.fnOf "_law_cell_at" "_law_cell_at" (defArgs sCellAt) (defBody sCellAt) (defScope sCellAt) .none kVxca dcxca pmxca anxca cdxca ctxca), slxca⟩)
    (cxca : PySem.W.codeIn K cdxca "_law_cell_at" = true)
    (kxca : PySem.W.keepIn K (.ref fxca) = true)
    (axmi : PySem.W.nsIn K mainGlobals "_law_mixed" = some (some (.ref fxmi)))
    (lxmi : K.lookup fxmi = some ⟨ocxmi, odxmi, .func (PySem.W.fnOf "_law_mixed" "_law_mixed" (defArgs sMixed) (defBody sMixed) (defScope sMixed) .none kVxmi dcxmi pmxmi anxmi cdxmi ctxmi), slxmi⟩)
    (cxmi : PySem.W.codeIn K cdxmi "_law_mixed" = true)
    (kxmi : PySem.W.keepIn K (.ref fxmi) = true)
    (axwh : PySem.W.nsIn K mainGlobals "_law_whole" = some (some (.ref fxwh)))
    (lxwh : K.lookup fxwh = some ⟨ocxwh, odxwh, .func (PySem.W.fnOf "_law_whole" "_law_whole" (defArgs sWhole) (defBody sWhole) (defScope sWhole) .none kVxwh dcxwh pmxwh anxwh cdxwh ctxwh), slxwh⟩)
    (cxwh : PySem.W.codeIn K cdxwh "_law_whole" = true)
    (kxwh : PySem.W.keepIn K (.ref fxwh) = true)
    (axki : PySem.W.nsIn K mainGlobals "_law_kind" = some (some (.ref fxki)))
    (lxki : K.lookup fxki = some ⟨ocxki, odxki, .func (PySem.W.fnOf "_law_kind" "_law_kind" (defArgs sKind) (defBody sKind) (defScope sKind) .none kVxki dcxki pmxki anxki cdxki ctxki), slxki⟩)
    (cxki : PySem.W.codeIn K cdxki "_law_kind" = true)
    (kxki : PySem.W.keepIn K (.ref fxki) = true)
    (axfg : PySem.W.nsIn K mainGlobals "_law_figures" = some (some (.ref fxfg)))
    (lxfg : K.lookup fxfg = some ⟨ocxfg, odxfg, .func (PySem.W.fnOf "_law_figures" "_law_figures" (defArgs sFigures) (defBody sFigures) (defScope sFigures) .none kVxfg dcxfg pmxfg anxfg cdxfg ctxfg), slxfg⟩)
    (cxfg : PySem.W.codeIn K cdxfg "_law_figures" = true)
    (kxfg : PySem.W.keepIn K (.ref fxfg) = true)
    (axlm : PySem.W.nsIn K mainGlobals "_law_matter" = some (some (.ref fxlm)))
    (lxlm : K.lookup fxlm = some ⟨ocxlm, odxlm, .func (PySem.W.fnOf "_law_matter" "_law_matter" (defArgs sMatter) (defBody sMatter) (defScope sMatter) .none kVxlm dcxlm pmxlm anxlm cdxlm ctxlm), slxlm⟩)
    (cxlm : PySem.W.codeIn K cdxlm "_law_matter" = true)
    (kxlm : PySem.W.keepIn K (.ref fxlm) = true)
    (axlw : PySem.W.nsIn K mainGlobals "_law_world" = some (some (.ref fxlw)))
    (lxlw : K.lookup fxlw = some ⟨ocxlw, odxlw, .func (PySem.W.fnOf "_law_world" "_law_world" (defArgs sWorld) (defBody sWorld) (defScope sWorld) .none kVxlw dcxlw pmxlw anxlw cdxlw ctxlw), slxlw⟩)
    (cxlw : PySem.W.codeIn K cdxlw "_law_world" = true)
    (kxlw : PySem.W.keepIn K (.ref fxlw) = true)
    (axlx : PySem.W.nsIn K mainGlobals "_law_texts" = some (some (.ref fxlx)))
    (lxlx : K.lookup fxlx = some ⟨ocxlx, odxlx, .func (PySem.W.fnOf "_law_texts" "_law_texts" (defArgs sTexts) (defBody sTexts) (defScope sTexts) .none kVxlx dcxlx pmxlx anxlx cdxlx ctxlx), slxlx⟩)
    (cxlx : PySem.W.codeIn K cdxlx "_law_texts" = true)
    (kxlx : PySem.W.keepIn K (.ref fxlx) = true)
    (axla : PySem.W.nsIn K mainGlobals "_law_amounts" = some (some (.ref fxla)))
    (lxla : K.lookup fxla = some ⟨ocxla, odxla, .func (PySem.W.fnOf "_law_amounts" "_law_amounts" (defArgs sAmountsL) (defBody sAmountsL) (defScope sAmountsL) .none kVxla dcxla pmxla anxla cdxla ctxla), slxla⟩)
    (cxla : PySem.W.codeIn K cdxla "_law_amounts" = true)
    (kxla : PySem.W.keepIn K (.ref fxla) = true)
    (axly : PySem.W.nsIn K mainGlobals "_law_many" = some (some (.ref fxly)))
    (lxly : K.lookup fxly = some ⟨ocxly, odxly, .func (PySem.W.fnOf "_law_many" "_law_many" (defArgs sMany) (defBody sMany) (defScope sMany) .none kVxly dcxly pmxly anxly cdxly ctxly), slxly⟩)
    (cxly : PySem.W.codeIn K cdxly "_law_many" = true)
    (kxly : PySem.W.keepIn K (.ref fxly) = true)
    (axlt : PySem.W.nsIn K mainGlobals "_law_total" = some (some (.ref fxlt)))
    (lxlt : K.lookup fxlt = some ⟨ocxlt, odxlt, .func (PySem.W.fnOf "_law_total" "_law_total" (defArgs sTotalL) (defBody sTotalL) (defScope sTotalL) .none kVxlt dcxlt pmxlt anxlt cdxlt ctxlt), slxlt⟩)
    (cxlt : PySem.W.codeIn K cdxlt "_law_total" = true)
    (kxlt : PySem.W.keepIn K (.ref fxlt) = true)
    (axld : PySem.W.nsIn K mainGlobals "_law_told" = some (some (.ref fxld)))
    (lxld : K.lookup fxld = some ⟨ocxld, odxld, .func (PySem.W.fnOf "_law_told" "_law_told" (defArgs sTold) (defBody sTold) (defScope sTold) .none kVxld dcxld pmxld anxld cdxld ctxld), slxld⟩)
    (cxld : PySem.W.codeIn K cdxld "_law_told" = true)
    (kxld : PySem.W.keepIn K (.ref fxld) = true)
    (alaw : PySem.W.nsIn K mainGlobals "law" = some (some (.ref flaw)))
    (llaw : K.lookup flaw = some ⟨oclaw, odlaw, .func (PySem.W.fnOf "law" "law" (defArgs sLaw) (defBody sLaw) (defScope sLaw) .none kVlaw dclaw pmlaw anlaw cdlaw ctlaw), sllaw⟩)
    (claw : PySem.W.codeIn K cdlaw "law" = true)
    (klaw : PySem.W.keepIn K (.ref flaw) = true)
    (pgC : PySem.W.plainGet K C Str.empty = true)
    (hdC : PySem.W.hasDictIn K C = true)
    (poC : PySem.W.plainOver K C = true)
    (saC : PySem.W.findIn K (.ref C) "__setattr__" = some (some (.builtin "object.__setattr__")))
    (mkC : PySem.W.makesIn K C = true)
    (kcC : PySem.W.keepIn K (.ref C) = true)
    (pgGr : PySem.W.plainGet K Gr Str.empty = true)
    (hdGr : PySem.W.hasDictIn K Gr = true)
    (poGr : PySem.W.plainOver K Gr = true)
    (saGr : PySem.W.findIn K (.ref Gr) "__setattr__" = some (some (.builtin "object.__setattr__")))
    (mkGr : PySem.W.makesIn K Gr = true)
    (kcGr : PySem.W.keepIn K (.ref Gr) = true)
    (pgPc : PySem.W.plainGet K Pc Str.empty = true)
    (hdPc : PySem.W.hasDictIn K Pc = true)
    (poPc : PySem.W.plainOver K Pc = true)
    (saPc : PySem.W.findIn K (.ref Pc) "__setattr__" = some (some (.builtin "object.__setattr__")))
    (mkPc : PySem.W.makesIn K Pc = true)
    (kcPc : PySem.W.keepIn K (.ref Pc) = true)
    (pgFo : PySem.W.plainGet K Fo Str.empty = true)
    (hdFo : PySem.W.hasDictIn K Fo = true)
    (poFo : PySem.W.plainOver K Fo = true)
    (saFo : PySem.W.findIn K (.ref Fo) "__setattr__" = some (some (.builtin "object.__setattr__")))
    (mkFo : PySem.W.makesIn K Fo = true)
    (kcFo : PySem.W.keepIn K (.ref Fo) = true)
    (pgRd : PySem.W.plainGet K Rd Str.empty = true)
    (hdRd : PySem.W.hasDictIn K Rd = true)
    (poRd : PySem.W.plainOver K Rd = true)
    (saRd : PySem.W.findIn K (.ref Rd) "__setattr__" = some (some (.builtin "object.__setattr__")))
    (mkRd : PySem.W.makesIn K Rd = true)
    (kcRd : PySem.W.keepIn K (.ref Rd) = true)
    (pgSt : PySem.W.plainGet K St Str.empty = true)
    (hdSt : PySem.W.hasDictIn K St = true)
    (poSt : PySem.W.plainOver K St = true)
    (saSt : PySem.W.findIn K (.ref St) "__setattr__" = some (some (.builtin "object.__setattr__")))
    (mkSt : PySem.W.makesIn K St = true)
    (kcSt : PySem.W.keepIn K (.ref St) = true)
    (nkind : PySem.W.findIn K (.ref C) "kind" = some none)
    (ncount : PySem.W.findIn K (.ref C) "count" = some none)
    (ngp : PySem.W.findIn K (.ref Gr) "parts" = some none)
    (ngc : PySem.W.findIn K (.ref Gr) "count" = some none)
    (npp : PySem.W.findIn K (.ref Pc) "parts" = some none)
    (npc : PySem.W.findIn K (.ref Pc) "count" = some none)
    (nfp : PySem.W.findIn K (.ref Fo) "pieces" = some none)
    (nfc : PySem.W.findIn K (.ref Fo) "charge" = some none)
    (nrt : PySem.W.findIn K (.ref Rd) "text" = some none)
    (nrp : PySem.W.findIn K (.ref Rd) "place" = some none)
    (nam : PySem.W.findIn K (.ref St) "amounts" = some none)
    (ngo : PySem.W.findIn K (.ref St) "gone" = some none)
    (z_len : PySem.W.nsIn K mainGlobals "len" = some none)
    (z_str : PySem.W.nsIn K mainGlobals "str" = some none)
    (z_int : PySem.W.nsIn K mainGlobals "int" = some none)
    (z_bool : PySem.W.nsIn K mainGlobals "bool" = some none)
    (z_range : PySem.W.nsIn K mainGlobals "range" = some none)
    (z_isinstance : PySem.W.nsIn K mainGlobals "isinstance" = some none)
    (z_list : PySem.W.nsIn K mainGlobals "list" = some none)
    (z_abs : PySem.W.nsIn K mainGlobals "abs" = some none)
    (z_dict : PySem.W.nsIn K mainGlobals "dict" = some none)
    (z_sum : PySem.W.nsIn K mainGlobals "sum" = some none)
    (aLONGEST_KIND : PySem.W.nsIn K mainGlobals "LONGEST_KIND" = some (some (.int 3 uK)))
    (aLONGEST_COUNT : PySem.W.nsIn K mainGlobals "LONGEST_COUNT" = some (some (.int 3 uN)))
    (aGROUP_BEGIN : PySem.W.nsIn K mainGlobals "GROUP_BEGIN" = some (some (.str "(" uB)))
    (aGROUP_END : PySem.W.nsIn K mainGlobals "GROUP_END" = some (some (.str ")" uE)))
    (aMOST_GROUPS_AROUND : PySem.W.nsIn K mainGlobals "MOST_GROUPS_AROUND" = some (some (.int 3 uM)))
    (aCHARGE_MARK : PySem.W.nsIn K mainGlobals "CHARGE_MARK" = some (some (.str "^" uC)))
    (aPLUS : PySem.W.nsIn K mainGlobals "PLUS" = some (some (.str "+" uP)))
    (aMINUS : PySem.W.nsIn K mainGlobals "MINUS" = some (some (.str "-" uI)))
    (aPIECE_DOT : PySem.W.nsIn K mainGlobals "PIECE_DOT" = some (some (.str "." uD)))
    (aELECTRON : PySem.W.nsIn K mainGlobals "ELECTRON" = some (some (.str "e^-" uL)))
    (aLONGEST_TEXT : PySem.W.nsIn K mainGlobals "LONGEST_TEXT" = some (some (.int 400 uT)))
    : ∃ fd : FuncData, (∀ (s : Shared) (v : Value), BindsTo s fd ⟨[v], []⟩ [("_law_script", v)]) ∧ ∀ base : Heap, K.In base → base.Ns mainGlobals mg → FnOk l.prog w K mg base CX0 16 fa fd ["_law_script"] (spLaw K) := by
  have e := hfa.symm.trans (PySem.W.mg_of X G alaw)
  cases e
  have T : TxtS K mg C Rd Gr Pc Fo St uK uN uB uE uM uC uP uI uD uL uT := ⟨⟨⟨⟨⟨⟨pgC, hdC, poC, saC⟩, nkind, ncount, PySem.W.mg_of X G aC, PySem.W.mg_none_of X G z_len, PySem.W.mg_none_of X G z_str, PySem.W.mg_none_of X G z_int, PySem.W.mg_none_of X G z_bool, PySem.W.mg_none_of X G z_range, PySem.W.mg_none_of X G z_isinstance, kit_same, kit_int_bool, kit_same, kit_same, kit_same⟩, ⟨pgRd, hdRd, poRd, saRd⟩, nrt, nrp, PySem.W.mg_of X G aLONGEST_KIND, PySem.W.mg_of X G aLONGEST_COUNT⟩, ⟨pgGr, hdGr, poGr, saGr⟩, ngp, ngc, PySem.W.mg_of X G aGr, PySem.W.mg_of X G aGROUP_BEGIN, PySem.W.mg_of X G aGROUP_END, PySem.W.mg_of X G aMOST_GROUPS_AROUND⟩, PySem.W.mg_of X G aCHARGE_MARK, PySem.W.mg_of X G aPLUS, PySem.W.mg_of X G aMINUS, ⟨pgPc, hdPc, poPc, saPc⟩, ⟨pgFo, hdFo, poFo, saFo⟩, npp, npc, nfp, nfc, PySem.W.mg_of X G aPc, PySem.W.mg_of X G aFo, PySem.W.mg_of X G aRd, PySem.W.mg_of X G aPIECE_DOT, PySem.W.mg_of X G aELECTRON, PySem.W.mg_of X G aLONGEST_TEXT, PySem.W.mg_none_of X G z_list, PySem.W.mg_none_of X G z_abs⟩, PySem.W.mg_none_of X G z_dict, PySem.W.mg_none_of X G z_sum, ⟨pgSt, hdSt, poSt, saSt⟩, nam, ngo, PySem.W.mg_of X G aSt⟩
  have d_xig : Def K mg "is_great" "is_great" sGreat ["sign"] := ⟨_, _, fun_mk (st := sGreat) lxig cxig kxig, (fun_mk (st := sGreat) lxig cxig kxig).binds (ps := ["sign"]) fun _ _ _ _ _ _ us hl => match us, hl with | [_], _ => rfl, PySem.W.mg_of X G axig⟩
  have d_xis : Def K mg "is_small" "is_small" sSmall ["sign"] := ⟨_, _, fun_mk (st := sSmall) lxis cxis kxis, (fun_mk (st := sSmall) lxis cxis kxis).binds (ps := ["sign"]) fun _ _ _ _ _ _ us hl => match us, hl with | [_], _ => rfl, PySem.W.mg_of X G axis⟩
  have d_xif : Def K mg "is_figure" "is_figure" sFigure ["sign"] := ⟨_, _, fun_mk (st := sFigure) lxif cxif kxif, (fun_mk (st := sFigure) lxif cxif kxif).binds (ps := ["sign"]) fun _ _ _ _ _ _ us hl => match us, hl with | [_], _ => rfl, PySem.W.mg_of X G axif⟩
  have d_xini : DefI K C "Atom.__init__" sInit ["self", "kind", "count"] [1] := ⟨_, _, _, funD_mk (st := sInit) lxini cxini kxini, ⟨mkC, axini, ixini, kcC⟩, fun j hj => match j, hj with | 0, _ => ⟨[.int 1 tkxini], .cons ⟨_, rfl⟩ (.nil), fun s us hk hl => match us, (show us.length = 2 by simpa using hl) with | [_, _], _ => PySem.W.binds_K (K := K) (fd := PySem.W.fnOf "__init__" "Atom.__init__" (defArgs sInit) (defBody sInit) (defScope sInit) (.ref tdxini) kVxini dcxini pmxini anxini cdxini ctxini) hk rfl txini rfl rfl rfl⟩ | 1, _ => ⟨[], .nil, fun s us hk hl => match us, (show us.length = 3 by simpa using hl) with | [_, _, _], _ => PySem.W.binds_K (K := K) (fd := PySem.W.fnOf "__init__" "Atom.__init__" (defArgs sInit) (defBody sInit) (defScope sInit) (.ref tdxini) kVxini dcxini pmxini anxini cdxini ctxini) hk rfl txini rfl rfl rfl⟩⟩
  have d_xgi : DefI K Gr "Group.__init__" sGInit ["self", "parts", "count"] [1] := ⟨_, _, _, funD_mk (st := sGInit) lxgi cxgi kxgi, ⟨mkGr, axgi, ixgi, kcGr⟩, fun j hj => match j, hj with | 0, _ => ⟨[.int 1 tkxgi], .cons ⟨_, rfl⟩ (.nil), fun s us hk hl => match us, (show us.length = 2 by simpa using hl) with | [_, _], _ => PySem.W.binds_K (K := K) (fd := PySem.W.fnOf "__init__" "Group.__init__" (defArgs sGInit) (defBody sGInit) (defScope sGInit) (.ref tdxgi) kVxgi dcxgi pmxgi anxgi cdxgi ctxgi) hk rfl txgi rfl rfl rfl⟩ | 1, _ => ⟨[], .nil, fun s us hk hl => match us, (show us.length = 3 by simpa using hl) with | [_, _, _], _ => PySem.W.binds_K (K := K) (fd := PySem.W.fnOf "__init__" "Group.__init__" (defArgs sGInit) (defBody sGInit) (defScope sGInit) (.ref tdxgi) kVxgi dcxgi pmxgi anxgi cdxgi ctxgi) hk rfl txgi rfl rfl rfl⟩⟩
  have d_xpi : DefI K Pc "Piece.__init__" sPInit ["self", "parts", "count"] [1] := ⟨_, _, _, funD_mk (st := sPInit) lxpi cxpi kxpi, ⟨mkPc, axpi, ixpi, kcPc⟩, fun j hj => match j, hj with | 0, _ => ⟨[.int 1 tkxpi], .cons ⟨_, rfl⟩ (.nil), fun s us hk hl => match us, (show us.length = 2 by simpa using hl) with | [_, _], _ => PySem.W.binds_K (K := K) (fd := PySem.W.fnOf "__init__" "Piece.__init__" (defArgs sPInit) (defBody sPInit) (defScope sPInit) (.ref tdxpi) kVxpi dcxpi pmxpi anxpi cdxpi ctxpi) hk rfl txpi rfl rfl rfl⟩ | 1, _ => ⟨[], .nil, fun s us hk hl => match us, (show us.length = 3 by simpa using hl) with | [_, _, _], _ => PySem.W.binds_K (K := K) (fd := PySem.W.fnOf "__init__" "Piece.__init__" (defArgs sPInit) (defBody sPInit) (defScope sPInit) (.ref tdxpi) kVxpi dcxpi pmxpi anxpi cdxpi ctxpi) hk rfl txpi rfl rfl rfl⟩⟩
  have d_xtl : Def K mg "refuse_too_long" "refuse_too_long" sTooLong ["text"] := ⟨_, _, fun_mk (st := sTooLong) lxtl cxtl kxtl, (fun_mk (st := sTooLong) lxtl cxtl kxtl).binds (ps := ["text"]) fun _ _ _ _ _ _ us hl => match us, hl with | [_], _ => rfl, PySem.W.mg_of X G axtl⟩
  have d_xfi : DefI K Fo "Formula.__init__" sFInit ["self", "pieces", "charge"] [0] := ⟨_, _, _, funD_mk (st := sFInit) lxfi cxfi kxfi, ⟨mkFo, axfi, ixfi, kcFo⟩, fun j hj => match j, hj with | 0, _ => ⟨[.int 0 tkxfi], .cons ⟨_, rfl⟩ (.nil), fun s us hk hl => match us, (show us.length = 2 by simpa using hl) with | [_, _], _ => PySem.W.binds_K (K := K) (fd := PySem.W.fnOf "__init__" "Formula.__init__" (defArgs sFInit) (defBody sFInit) (defScope sFInit) (.ref tdxfi) kVxfi dcxfi pmxfi anxfi cdxfi ctxfi) hk rfl txfi rfl rfl rfl⟩ | 1, _ => ⟨[], .nil, fun s us hk hl => match us, (show us.length = 3 by simpa using hl) with | [_, _, _], _ => PySem.W.binds_K (K := K) (fd := PySem.W.fnOf "__init__" "Formula.__init__" (defArgs sFInit) (defBody sFInit) (defScope sFInit) (.ref tdxfi) kVxfi dcxfi pmxfi anxfi cdxfi ctxfi) hk rfl txfi rfl rfl rfl⟩⟩
  have d_xri : DefI K Rd "Reader.__init__" sRInit ["self", "text"] [] := ⟨_, _, _, funD_mk (st := sRInit) lxri cxri kxri, ⟨mkRd, axri, ixri, kcRd⟩, fun j hj => match j, hj with | 0, _ => ⟨[], .nil, .all fun us hl => match us, hl with | [_, _], _ => rfl⟩⟩
  have d_xrs : DefM K Rd "sign" "Reader.sign" sSign ["self"] := ⟨_, _, fun_mk (st := sSign) lxrs cxrs kxrs, (fun_mk (st := sSign) lxrs cxrs kxrs).binds (ps := ["self"]) fun _ _ _ _ _ _ us hl => match us, hl with | [_], _ => rfl, ⟨axrs, ixrs, kxrs⟩⟩
  have d_xrt : DefM K Rd "take" "Reader.take" sTake ["self", "sign"] := ⟨_, _, fun_mk (st := sTake) lxrt cxrt kxrt, (fun_mk (st := sTake) lxrt cxrt kxrt).binds (ps := ["self", "sign"]) fun _ _ _ _ _ _ us hl => match us, hl with | [_, _], _ => rfl, ⟨axrt, ixrt, kxrt⟩⟩
  have d_xra : DefM K Rd "take_all" "Reader.take_all" sTakeAll ["self", "signs"] := ⟨_, _, fun_mk (st := sTakeAll) lxra cxra kxra, (fun_mk (st := sTakeAll) lxra cxra kxra).binds (ps := ["self", "signs"]) fun _ _ _ _ _ _ us hl => match us, hl with | [_, _], _ => rfl, ⟨axra, ixra, kxra⟩⟩
  have d_xre : DefM K Rd "take_end" "Reader.take_end" sTakeEnd ["self"] := ⟨_, _, fun_mk (st := sTakeEnd) lxre cxre kxre, (fun_mk (st := sTakeEnd) lxre cxre kxre).binds (ps := ["self"]) fun _ _ _ _ _ _ us hl => match us, hl with | [_], _ => rfl, ⟨axre, ixre, kxre⟩⟩
  have d_xrw : DefM K Rd "read_whole" "Reader.read_whole" sRWhole ["self"] := ⟨_, _, fun_mk (st := sRWhole) lxrw cxrw kxrw, (fun_mk (st := sRWhole) lxrw cxrw kxrw).binds (ps := ["self"]) fun _ _ _ _ _ _ us hl => match us, hl with | [_], _ => rfl, ⟨axrw, ixrw, kxrw⟩⟩
  have d_xrl : DefM K Rd "read_electron" "Reader.read_electron" sRElectron ["self"] := ⟨_, _, fun_mk (st := sRElectron) lxrl cxrl kxrl, (fun_mk (st := sRElectron) lxrl cxrl kxrl).binds (ps := ["self"]) fun _ _ _ _ _ _ us hl => match us, hl with | [_], _ => rfl, ⟨axrl, ixrl, kxrl⟩⟩
  have d_xrps : DefM K Rd "read_parts" "Reader.read_parts" sRParts ["self", "around"] := ⟨_, _, fun_mk (st := sRParts) lxrps cxrps kxrps, (fun_mk (st := sRParts) lxrps cxrps kxrps).binds (ps := ["self", "around"]) fun _ _ _ _ _ _ us hl => match us, hl with | [_, _], _ => rfl, ⟨axrps, ixrps, kxrps⟩⟩
  have d_xrp : DefM K Rd "read_part" "Reader.read_part" sRPart ["self", "around"] := ⟨_, _, fun_mk (st := sRPart) lxrp cxrp kxrp, (fun_mk (st := sRPart) lxrp cxrp kxrp).binds (ps := ["self", "around"]) fun _ _ _ _ _ _ us hl => match us, hl with | [_, _], _ => rfl, ⟨axrp, ixrp, kxrp⟩⟩
  have d_xrg : DefM K Rd "read_group" "Reader.read_group" sRGroup ["self", "around"] := ⟨_, _, fun_mk (st := sRGroup) lxrg cxrg kxrg, (fun_mk (st := sRGroup) lxrg cxrg kxrg).binds (ps := ["self", "around"]) fun _ _ _ _ _ _ us hl => match us, hl with | [_, _], _ => rfl, ⟨axrg, ixrg, kxrg⟩⟩
  have d_xrat : DefM K Rd "read_atom" "Reader.read_atom" sRAtom ["self"] := ⟨_, _, fun_mk (st := sRAtom) lxrat cxrat kxrat, (fun_mk (st := sRAtom) lxrat cxrat kxrat).binds (ps := ["self"]) fun _ _ _ _ _ _ us hl => match us, hl with | [_], _ => rfl, ⟨axrat, ixrat, kxrat⟩⟩
  have d_xrc : DefM K Rd "read_count" "Reader.read_count" sRCount ["self"] := ⟨_, _, fun_mk (st := sRCount) lxrc cxrc kxrc, (fun_mk (st := sRCount) lxrc cxrc kxrc).binds (ps := ["self"]) fun _ _ _ _ _ _ us hl => match us, hl with | [_], _ => rfl, ⟨axrc, ixrc, kxrc⟩⟩
  have d_xrn : DefM K Rd "read_number" "Reader.read_number" sRNumber ["self", "longest"] := ⟨_, _, fun_mk (st := sRNumber) lxrn cxrn kxrn, (fun_mk (st := sRNumber) lxrn cxrn kxrn).binds (ps := ["self", "longest"]) fun _ _ _ _ _ _ us hl => match us, hl with | [_, _], _ => rfl, ⟨axrn, ixrn, kxrn⟩⟩
  have d_xrch : DefM K Rd "read_charge" "Reader.read_charge" sRCharge ["self"] := ⟨_, _, fun_mk (st := sRCharge) lxrch cxrch kxrch, (fun_mk (st := sRCharge) lxrch cxrch kxrch).binds (ps := ["self"]) fun _ _ _ _ _ _ us hl => match us, hl with | [_], _ => rfl, ⟨axrch, ixrch, kxrch⟩⟩
  have d_xrf : Def K mg "read_formula" "read_formula" sRFormula ["text"] := ⟨_, _, fun_mk (st := sRFormula) lxrf cxrf kxrf, (fun_mk (st := sRFormula) lxrf cxrf kxrf).binds (ps := ["text"]) fun _ _ _ _ _ _ us hl => match us, hl with | [_], _ => rfl, PySem.W.mg_of X G axrf⟩
  have d_xpc : Def K mg "parts_counts" "parts_counts" sPCounts ["parts", "times"] := ⟨_, _, fun_mk (st := sPCounts) lxpc cxpc kxpc, (fun_mk (st := sPCounts) lxpc cxpc kxpc).binds (ps := ["parts", "times"]) fun _ _ _ _ _ _ us hl => match us, hl with | [_, _], _ => rfl, PySem.W.mg_of X G axpc⟩
  have d_xco : DefM K C "counts" "Atom.counts" sCounts ["self"] := ⟨_, _, fun_mk (st := sCounts) lxco cxco kxco, (fun_mk (st := sCounts) lxco cxco kxco).binds (ps := ["self"]) fun _ _ _ _ _ _ us hl => match us, hl with | [_], _ => rfl, ⟨axco, ixco, kxco⟩⟩
  have d_xgc : DefM K Gr "counts" "Group.counts" sGCounts ["self"] := ⟨_, _, fun_mk (st := sGCounts) lxgc cxgc kxgc, (fun_mk (st := sGCounts) lxgc cxgc kxgc).binds (ps := ["self"]) fun _ _ _ _ _ _ us hl => match us, hl with | [_], _ => rfl, ⟨axgc, ixgc, kxgc⟩⟩
  have d_xpC : DefM K Pc "counts" "Piece.counts" sPieceCounts ["self"] := ⟨_, _, fun_mk (st := sPieceCounts) lxpC cxpC kxpC, (fun_mk (st := sPieceCounts) lxpC cxpC kxpC).binds (ps := ["self"]) fun _ _ _ _ _ _ us hl => match us, hl with | [_], _ => rfl, ⟨axpC, ixpC, kxpC⟩⟩
  have d_xfC : DefM K Fo "counts" "Formula.counts" sFCounts ["self"] := ⟨_, _, fun_mk (st := sFCounts) lxfC cxfC kxfC, (fun_mk (st := sFCounts) lxfC cxfC kxfC).binds (ps := ["self"]) fun _ _ _ _ _ _ us hl => match us, hl with | [_], _ => rfl, ⟨axfC, ixfC, kxfC⟩⟩
  have d_xcw : Def K mg "counts_weight" "counts_weight" sCW ["counts", "weights"] := ⟨_, _, fun_mk (st := sCW) lxcw cxcw kxcw, (fun_mk (st := sCW) lxcw cxcw kxcw).binds (ps := ["counts", "weights"]) fun _ _ _ _ _ _ us hl => match us, hl with | [_, _], _ => rfl, PySem.W.mg_of X G axcw⟩
  have d_xfW : DefM K Fo "weight" "Formula.weight" sFWeight ["self", "weights"] := ⟨_, _, fun_mk (st := sFWeight) lxfW cxfW kxfW, (fun_mk (st := sFWeight) lxfW cxfW kxfW).binds (ps := ["self", "weights"]) fun _ _ _ _ _ _ us hl => match us, hl with | [_, _], _ => rfl, ⟨axfW, ixfW, kxfW⟩⟩
  have d_xsi : DefN K St "Store.__init__" sSInit ["self", "amounts"] := ⟨_, _, _, funD_mk (st := sSInit) lxsi cxsi kxsi, ⟨mkSt, axsi, ixsi, kcSt⟩, fun s us hk hl => match us, (show us.length = 2 by simpa using hl) with | [_, _], _ => PySem.W.binds_K (K := K) (fd := PySem.W.fnOf "__init__" "Store.__init__" (defArgs sSInit) (defBody sSInit) (defScope sSInit) (.ref tdxsi) kVxsi dcxsi pmxsi anxsi cdxsi ctxsi) hk rfl txsi rfl rfl rfl, fun s us hk hl => match us, (show us.length = 1 by simpa using hl) with | [_], _ => PySem.W.binds_K (K := K) (fd := PySem.W.fnOf "__init__" "Store.__init__" (defArgs sSInit) (defBody sSInit) (defScope sSInit) (.ref tdxsi) kVxsi dcxsi pmxsi anxsi cdxsi ctxsi) hk rfl txsi rfl rfl rfl⟩
  have d_xsh : DefM K St "have" "Store.have" sHave ["self", "text"] := ⟨_, _, fun_mk (st := sHave) lxsh cxsh kxsh, (fun_mk (st := sHave) lxsh cxsh kxsh).binds (ps := ["self", "text"]) fun _ _ _ _ _ _ us hl => match us, hl with | [_, _], _ => rfl, ⟨axsh, ixsh, kxsh⟩⟩
  have d_xsp : DefM K St "put" "Store.put" sPut ["self", "text", "many"] := ⟨_, _, fun_mk (st := sPut) lxsp cxsp kxsp, (fun_mk (st := sPut) lxsp cxsp kxsp).binds (ps := ["self", "text", "many"]) fun _ _ _ _ _ _ us hl => match us, hl with | [_, _, _], _ => rfl, ⟨axsp, ixsp, kxsp⟩⟩
  have d_xst : DefM K St "total" "Store.total" sTotal ["self", "kind"] := ⟨_, _, fun_mk (st := sTotal) lxst cxst kxst, (fun_mk (st := sTotal) lxst cxst kxst).binds (ps := ["self", "kind"]) fun _ _ _ _ _ _ us hl => match us, hl with | [_, _], _ => rfl, ⟨axst, ixst, kxst⟩⟩
  have d_xss : DefM K St "stocks" "Store.stocks" sStocks ["self"] := ⟨_, _, fun_mk (st := sStocks) lxss cxss kxss, (fun_mk (st := sStocks) lxss cxss kxss).binds (ps := ["self"]) fun _ _ _ _ _ _ us hl => match us, hl with | [_], _ => rfl, ⟨axss, ixss, kxss⟩⟩
  have d_xsw : DefM K St "went" "Store.went" sWent ["self"] := ⟨_, _, fun_mk (st := sWent) lxsw cxsw kxsw, (fun_mk (st := sWent) lxsw cxsw kxsw).binds (ps := ["self"]) fun _ _ _ _ _ _ us hl => match us, hl with | [_], _ => rfl, ⟨axsw, ixsw, kxsw⟩⟩
  have d_xca : Def K mg "_law_cell_at" "_law_cell_at" sCellAt ["_law_script", "_law_k"] := ⟨_, _, fun_mk (st := sCellAt) lxca cxca kxca, (fun_mk (st := sCellAt) lxca cxca kxca).binds (ps := ["_law_script", "_law_k"]) fun _ _ _ _ _ _ us hl => match us, hl with | [_, _], _ => rfl, PySem.W.mg_of X G axca⟩
  have d_xmi : Def K mg "_law_mixed" "_law_mixed" sMixed ["_law_cell", "_law_prime"] := ⟨_, _, fun_mk (st := sMixed) lxmi cxmi kxmi, (fun_mk (st := sMixed) lxmi cxmi kxmi).binds (ps := ["_law_cell", "_law_prime"]) fun _ _ _ _ _ _ us hl => match us, hl with | [_, _], _ => rfl, PySem.W.mg_of X G axmi⟩
  have d_xwh : Def K mg "_law_whole" "_law_whole" sWhole ["_law_found"] := ⟨_, _, fun_mk (st := sWhole) lxwh cxwh kxwh, (fun_mk (st := sWhole) lxwh cxwh kxwh).binds (ps := ["_law_found"]) fun _ _ _ _ _ _ us hl => match us, hl with | [_], _ => rfl, PySem.W.mg_of X G axwh⟩
  have d_xki : Def K mg "_law_kind" "_law_kind" sKind ["_law_number"] := ⟨_, _, fun_mk (st := sKind) lxki cxki kxki, (fun_mk (st := sKind) lxki cxki kxki).binds (ps := ["_law_number"]) fun _ _ _ _ _ _ us hl => match us, hl with | [_], _ => rfl, PySem.W.mg_of X G axki⟩
  have d_xfg : Def K mg "_law_figures" "_law_figures" sFigures ["_law_count_here"] := ⟨_, _, fun_mk (st := sFigures) lxfg cxfg kxfg, (fun_mk (st := sFigures) lxfg cxfg kxfg).binds (ps := ["_law_count_here"]) fun _ _ _ _ _ _ us hl => match us, hl with | [_], _ => rfl, PySem.W.mg_of X G axfg⟩
  have d_xlm : Def K mg "_law_matter" "_law_matter" sMatter ["_law_cell", "_law_kinds"] := ⟨_, _, fun_mk (st := sMatter) lxlm cxlm kxlm, (fun_mk (st := sMatter) lxlm cxlm kxlm).binds (ps := ["_law_cell", "_law_kinds"]) fun _ _ _ _ _ _ us hl => match us, hl with | [_, _], _ => rfl, PySem.W.mg_of X G axlm⟩
  have d_xlw : Def K mg "_law_world" "_law_world" sWorld ["_law_script"] := ⟨_, _, fun_mk (st := sWorld) lxlw cxlw kxlw, (fun_mk (st := sWorld) lxlw cxlw kxlw).binds (ps := ["_law_script"]) fun _ _ _ _ _ _ us hl => match us, hl with | [_], _ => rfl, PySem.W.mg_of X G axlw⟩
  have d_xlx : Def K mg "_law_texts" "_law_texts" sTexts ["_law_world_here"] := ⟨_, _, fun_mk (st := sTexts) lxlx cxlx kxlx, (fun_mk (st := sTexts) lxlx cxlx kxlx).binds (ps := ["_law_world_here"]) fun _ _ _ _ _ _ us hl => match us, hl with | [_], _ => rfl, PySem.W.mg_of X G axlx⟩
  have d_xla : Def K mg "_law_amounts" "_law_amounts" sAmountsL ["_law_found", "_law_due"] := ⟨_, _, fun_mk (st := sAmountsL) lxla cxla kxla, (fun_mk (st := sAmountsL) lxla cxla kxla).binds (ps := ["_law_found", "_law_due"]) fun _ _ _ _ _ _ us hl => match us, hl with | [_, _], _ => rfl, PySem.W.mg_of X G axla⟩
  have d_xly : Def K mg "_law_many" "_law_many" sMany ["_law_cell"] := ⟨_, _, fun_mk (st := sMany) lxly cxly kxly, (fun_mk (st := sMany) lxly cxly kxly).binds (ps := ["_law_cell"]) fun _ _ _ _ _ _ us hl => match us, hl with | [_], _ => rfl, PySem.W.mg_of X G axly⟩
  have d_xlt : Def K mg "_law_total" "_law_total" sTotalL ["_law_store", "_law_world_here", "_law_amounts_here", "_law_kind_here"] := ⟨_, _, fun_mk (st := sTotalL) lxlt cxlt kxlt, (fun_mk (st := sTotalL) lxlt cxlt kxlt).binds (ps := ["_law_store", "_law_world_here", "_law_amounts_here", "_law_kind_here"]) fun _ _ _ _ _ _ us hl => match us, hl with | [_, _, _, _], _ => rfl, PySem.W.mg_of X G axlt⟩
  have d_xld : Def K mg "_law_told" "_law_told" sTold ["_law_store", "_law_world_here", "_law_amounts_here", "_law_turned"] := ⟨_, _, fun_mk (st := sTold) lxld cxld kxld, (fun_mk (st := sTold) lxld cxld kxld).binds (ps := ["_law_store", "_law_world_here", "_law_amounts_here", "_law_turned"]) fun _ _ _ _ _ _ us hl => match us, hl with | [_, _, _, _], _ => rfl, PySem.W.mg_of X G axld⟩
  have Flaw := fun_mk (st := sLaw) llaw claw klaw
  refine ⟨PySem.W.fnOf "law" "law" (defArgs sLaw) (defBody sLaw) (defScope sLaw) .none kVlaw dclaw pmlaw anlaw cdlaw ctlaw, fun s v => .of_eq rfl, fun base _ _ => ?_⟩
  have q_ig := ok_great (P := l.prog) (w := w) (base := base) d_xig
  have q_is := ok_small (P := l.prog) (w := w) (base := base) d_xis
  have q_if := ok_figure (P := l.prog) (w := w) (base := base) d_xif
  have q_in := ok_init (P := l.prog) (w := w) (base := base) d_xini T.toTxtW.toTxtT.toTxtR.toTxtA
  have q_gi := ok_ginit (P := l.prog) (w := w) (base := base) d_xgi T.toTxtW
  have q_pi := ok_pinit (P := l.prog) (w := w) (base := base) d_xpi T.toTxtW
  have q_fi := ok_finit (P := l.prog) (w := w) (base := base) d_xfi T.toTxtW
  have q_ri := ok_rinit (P := l.prog) (w := w) (base := base) d_xri T.toTxtW.toTxtT.toTxtR
  have q_rs := ok_sign (P := l.prog) (w := w) (base := base) d_xrs T.toTxtW.toTxtT.toTxtR
  have q_rt := ok_take d_xrt T.toTxtW.toTxtT.toTxtR q_rs
  have q_ra := ok_takeall d_xra T.toTxtW.toTxtT.toTxtR q_rt
  have q_re := ok_takeend (P := l.prog) (w := w) (base := base) d_xre T.toTxtW.toTxtT.toTxtR
  have q_rn := ok_number d_xrn T.toTxtW.toTxtT.toTxtR q_rs q_if
  have q_rc := ok_rcount d_xrc T.toTxtW.toTxtT.toTxtR q_rn
  have q_rat := ok_ratom d_xrat T.toTxtW.toTxtT.toTxtR q_rs q_ig q_is q_rc q_in
  have q_rps := ok_trees d_xrg d_xrp d_xrps T.toTxtW.toTxtT q_rs q_ig q_rat q_rt q_rc q_gi 1
  have q_rch := ok_rcharge d_xrch T.toTxtW.toTxtC q_rs q_rt q_rc
  have q_rl := ok_relectron 1 d_xrl T.toTxtW q_ra q_fi
  have q_rw := ok_rwhole 1 d_xrw T.toTxtW q_rs q_rt q_rc q_rps q_rch q_rl q_pi q_fi
  have q_tl := ok_toolong (P := l.prog) (w := w) (base := base) d_xtl T.toTxtW
  have q_rf := ok_rformula 1 d_xrf T.toTxtW q_tl q_ri q_rw q_re
  have q_co := ok_counts (P := l.prog) (w := w) (base := base) d_xco T.toTxtW.toTxtT.toTxtR.toTxtA
  have q_pc := ok_countsT d_xpc d_xgc T.toTxtW.toTxtT q_co 1
  have q_pC := ok_piececountsT 1 d_xpC T.toTxtW q_pc
  have q_pP := ok_pcountsP 1 d_xpc T.toTxtW q_pC
  have q_fC := ok_fcountsT 1 d_xfC T.toTxtW q_pP
  have q_cw := ok_cw (P := l.prog) (w := w) (base := base) d_xcw
  have q_fW := ok_fweightT 1 d_xfW T.toTxtW q_cw q_fC
  have q_ca := ok_cell_at (P := l.prog) (w := w) (base := base) d_xca T.toTxtW.toTxtT.toTxtR.toTxtA
  have q_mi := ok_mix (P := l.prog) (w := w) (base := base) d_xmi
  have q_wh := ok_whole (P := l.prog) (w := w) (base := base) d_xwh T.toTxtW.toTxtT.toTxtR.toTxtA
  have q_ki := ok_kindK (P := l.prog) (w := w) (base := base) d_xki T.toTxtW.toTxtT.toTxtR.toTxtA
  have q_fg := ok_figures (P := l.prog) (w := w) (base := base) d_xfg T.toTxtW.toTxtT.toTxtR.toTxtA
  have q_ha := ok_have d_xsh T q_rf
  have q_pu := ok_put d_xsp T q_ha
  have q_si := ok_sinit d_xsi T q_pu
  have q_to := ok_total d_xst T q_rf q_fW
  have q_sk := ok_stocks (P := l.prog) (w := w) (base := base) d_xss T
  have q_we := ok_went (P := l.prog) (w := w) (base := base) d_xsw T
  have q_lm := ok_matter d_xlm T q_fg
  have q_lw := ok_world d_xlw T q_ca q_mi q_ki q_lm
  have q_lx := ok_texts (P := l.prog) (w := w) (base := base) d_xlx T
  have q_la := ok_amts d_xla T q_wh
  have q_ly := ok_many (P := l.prog) (w := w) (base := base) d_xly
  have q_lt := ok_totalL d_xlt T q_to q_wh
  have q_ld := ok_told d_xld T q_lx q_ha q_wh q_sk q_la q_lt q_we
  exact ok_law Flaw T q_lw q_lx q_ca q_ly q_si q_ld q_pu q_ha
theorem walk {l : PySem.W.OpenLaw} {q : Program} {loose : List Str} {XP : (Str → Option Value) → Heap → Prop} {YP : World → Heap → Prop} {d : DefRec} {K : Params → PySem.W.Frag} (hn : l.most = some 63) (hdf : d.params.defaults = [])
    (hY : ∀ (w : World) (h : Heap), YP w h → (K w.params).In h)
    (F : ∀ (w : World) (mg : Str → Option Value) (fa : Addr) (h : Heap), (K w.params).In h → h.Ns mainGlobals mg → mg d.name = some (.ref fa) →
      ∃ fd : FuncData, (∀ (s : Shared) (u : Value), BindsTo s fd ⟨[u], []⟩ [("_law_script", u)]) ∧ ∀ base : Heap, (K w.params).In base → base.Ns mainGlobals mg → FnOk l.prog w (K w.params) mg base CX0 16 fa fd ["_law_script"] (spLaw (K w.params))) :
    PySem.W.WalkO q loose XP YP l.row.toRowW d [] (fun f vs => PySem.call f vs) :=
  L2.walk_of (n := 63) (k := 16) (x := "_law_script") (CX := fun _ => CX0) (sp := fun w => spLaw (K w.params)) hn (by decide) hdf ⟨rfl, by decide, by decide⟩ hY F (fun _ _ a ns hl _ hS => ⟨a, ns, rfl, hS, hl, fun _ => rfl⟩) fun _ _ _ _ _ z => z
end K50
open PySem PySem.W PyProof.Rows
def PySem.W.Fast.tw200880038641749970 : Nat := 0
def PySem.W.Fast.tw7493016225853011207 : Nat := 0
def PySem.W.Fast.tw11918514689224064531 : Nat := 0
def PySem.W.Fast.tw7078076763125189244 : Nat := 0
def PySem.W.Fast.tw8935322155844630825 : Nat := 0
def PySem.W.Fast.tw2414690413609609965 : Nat := 0
def PySem.W.Fast.tw9389163294974279063 : Nat := 0
def PySem.W.Fast.tw7547405619984800586 : Nat := 0
def PySem.W.Fast.tw104665362837053677 : Nat := 0
def PySem.W.Fast.tw13925546191125237549 : Nat := 0
def PySem.W.Fast.tw3152874504472477683 : Nat := 0
def PySem.W.Fast.tw15992788125214995688 : Nat := 0
def PySem.W.Fast.tw14988610654987191092 : Nat := 0
def PySem.W.Fast.tw5503853751956433282 : Nat := 0
set_option maxRecDepth 100000 in
set_option maxHeartbeats 0 in
theorem PySem.Challenge.cw_balancehall_k50_amounts_holds : PySem.Challenge.rw_balancehall_k50_amounts.Holds := by
  w_on; o_law; k_head; (case hw => w_witness2)
  k_fill
  refine K50.walk (l := PySem.Challenge.rw_balancehall_k50_amounts) rfl rfl (fun w h Y => PySem.W.kIn_of Y) ?F
  case F =>
    intro w mg fa h KX G hmg
    refine' K50.all_mk KX G hmg ?aC ?aGr ?aPc ?aFo ?aRd ?aSt ?axig ?lxig ?cxig ?kxig ?axis ?lxis ?cxis ?kxis ?axif ?lxif ?cxif ?kxif ?axini ?ixini ?lxini ?txini ?cxini ?kxini ?axgi ?ixgi ?lxgi ?txgi ?cxgi ?kxgi ?axpi ?ixpi ?lxpi ?txpi ?cxpi ?kxpi ?axtl ?lxtl ?cxtl ?kxtl ?axfi ?ixfi ?lxfi ?txfi ?cxfi ?kxfi ?axri ?ixri ?lxri ?cxri ?kxri ?axrs ?ixrs ?lxrs ?cxrs ?kxrs ?axrt ?ixrt ?lxrt ?cxrt ?kxrt ?axra ?ixra ?lxra ?cxra ?kxra ?axre ?ixre ?lxre ?cxre ?kxre ?axrw ?ixrw ?lxrw ?cxrw ?kxrw ?axrl ?ixrl ?lxrl ?cxrl ?kxrl ?axrps ?ixrps ?lxrps ?cxrps ?kxrps ?axrp ?ixrp ?lxrp ?cxrp ?kxrp ?axrg ?ixrg ?lxrg ?cxrg ?kxrg ?axrat ?ixrat ?lxrat ?cxrat ?kxrat ?axrc ?ixrc ?lxrc ?cxrc ?kxrc ?axrn ?ixrn ?lxrn ?cxrn ?kxrn ?axrch ?ixrch ?lxrch ?cxrch ?kxrch ?axrf ?lxrf ?cxrf ?kxrf ?axpc ?lxpc ?cxpc ?kxpc ?axco ?ixco ?lxco ?cxco ?kxco ?axgc ?ixgc ?lxgc ?cxgc ?kxgc ?axpC ?ixpC ?lxpC ?cxpC ?kxpC ?axfC ?ixfC ?lxfC ?cxfC ?kxfC ?axcw ?lxcw ?cxcw ?kxcw ?axfW ?ixfW ?lxfW ?cxfW ?kxfW ?axsi ?ixsi ?lxsi ?txsi ?cxsi ?kxsi ?axsh ?ixsh ?lxsh ?cxsh ?kxsh ?axsp ?ixsp ?lxsp ?cxsp ?kxsp ?axst ?ixst ?lxst ?cxst ?kxst ?axss ?ixss ?lxss ?cxss ?kxss ?axsw ?ixsw ?lxsw ?cxsw ?kxsw ?axca ?lxca ?cxca ?kxca ?axmi ?lxmi ?cxmi ?kxmi ?axwh ?lxwh ?cxwh ?kxwh ?axki ?lxki ?cxki ?kxki ?axfg ?lxfg ?cxfg ?kxfg ?axlm ?lxlm ?cxlm ?kxlm ?axlw ?lxlw ?cxlw ?kxlw ?axlx ?lxlx ?cxlx ?kxlx ?axla ?lxla ?cxla ?kxla ?axly ?lxly ?cxly ?kxly ?axlt ?lxlt ?cxlt ?kxlt ?axld ?lxld ?cxld ?kxld ?alaw ?llaw ?claw ?klaw ?pgC ?hdC ?poC ?saC ?mkC ?kcC ?pgGr ?hdGr ?poGr ?saGr ?mkGr ?kcGr ?pgPc ?hdPc ?poPc ?saPc ?mkPc ?kcPc ?pgFo ?hdFo ?poFo ?saFo ?mkFo ?kcFo ?pgRd ?hdRd ?poRd ?saRd ?mkRd ?kcRd ?pgSt ?hdSt ?poSt ?saSt ?mkSt ?kcSt ?nkind ?ncount ?ngp ?ngc ?npp ?npc ?nfp ?nfc ?nrt ?nrp ?nam ?ngo ?z_len ?z_str ?z_int ?z_bool ?z_range ?z_isinstance ?z_list ?z_abs ?z_dict ?z_sum ?aLONGEST_KIND ?aLONGEST_COUNT ?aGROUP_BEGIN ?aGROUP_END ?aMOST_GROUPS_AROUND ?aCHARGE_MARK ?aPLUS ?aMINUS ?aPIECE_DOT ?aELECTRON ?aLONGEST_TEXT
    (case aC => k_is)
    (case aGr => k_is)
    (case aPc => k_is)
    (case aFo => k_is)
    (case aRd => k_is)
    (case aSt => k_is)
    (case axig => k_is)
    (case lxig => k_is)
    (case cxig => k_is)
    (case kxig => k_is)
    (case axis => k_is)
    (case lxis => k_is)
    (case cxis => k_is)
    (case kxis => k_is)
    (case axif => k_is)
    (case lxif => k_is)
    (case cxif => k_is)
    (case kxif => k_is)
    (case axini => k_is)
    (case ixini => k_is)
    (case lxini => k_is)
    (case txini => k_is)
    (case cxini => k_is)
    (case kxini => k_is)
    (case axgi => k_is)
    (case ixgi => k_is)
    (case lxgi => k_is)
    (case txgi => k_is)
    (case cxgi => k_is)
    (case kxgi => k_is)
    (case axpi => k_is)
    (case ixpi => k_is)
    (case lxpi => k_is)
    (case txpi => k_is)
    (case cxpi => k_is)
    (case kxpi => k_is)
    (case axtl => k_is)
    (case lxtl => k_is)
    (case cxtl => k_is)
    (case kxtl => k_is)
    (case axfi => k_is)
    (case ixfi => k_is)
    (case lxfi => k_is)
    (case txfi => k_is)
    (case cxfi => k_is)
    (case kxfi => k_is)
    (case axri => k_is)
    (case ixri => k_is)
    (case lxri => k_is)
    (case cxri => k_is)
    (case kxri => k_is)
    (case axrs => k_is)
    (case ixrs => k_is)
    (case lxrs => k_is)
    (case cxrs => k_is)
    (case kxrs => k_is)
    (case axrt => k_is)
    (case ixrt => k_is)
    (case lxrt => k_is)
    (case cxrt => k_is)
    (case kxrt => k_is)
    (case axra => k_is)
    (case ixra => k_is)
    (case lxra => k_is)
    (case cxra => k_is)
    (case kxra => k_is)
    (case axre => k_is)
    (case ixre => k_is)
    (case lxre => k_is)
    (case cxre => k_is)
    (case kxre => k_is)
    (case axrw => k_is)
    (case ixrw => k_is)
    (case lxrw => k_is)
    (case cxrw => k_is)
    (case kxrw => k_is)
    (case axrl => k_is)
    (case ixrl => k_is)
    (case lxrl => k_is)
    (case cxrl => k_is)
    (case kxrl => k_is)
    (case axrps => k_is)
    (case ixrps => k_is)
    (case lxrps => k_is)
    (case cxrps => k_is)
    (case kxrps => k_is)
    (case axrp => k_is)
    (case ixrp => k_is)
    (case lxrp => k_is)
    (case cxrp => k_is)
    (case kxrp => k_is)
    (case axrg => k_is)
    (case ixrg => k_is)
    (case lxrg => k_is)
    (case cxrg => k_is)
    (case kxrg => k_is)
    (case axrat => k_is)
    (case ixrat => k_is)
    (case lxrat => k_is)
    (case cxrat => k_is)
    (case kxrat => k_is)
    (case axrc => k_is)
    (case ixrc => k_is)
    (case lxrc => k_is)
    (case cxrc => k_is)
    (case kxrc => k_is)
    (case axrn => k_is)
    (case ixrn => k_is)
    (case lxrn => k_is)
    (case cxrn => k_is)
    (case kxrn => k_is)
    (case axrch => k_is)
    (case ixrch => k_is)
    (case lxrch => k_is)
    (case cxrch => k_is)
    (case kxrch => k_is)
    (case axrf => k_is)
    (case lxrf => k_is)
    (case cxrf => k_is)
    (case kxrf => k_is)
    (case axpc => k_is)
    (case lxpc => k_is)
    (case cxpc => k_is)
    (case kxpc => k_is)
    (case axco => k_is)
    (case ixco => k_is)
    (case lxco => k_is)
    (case cxco => k_is)
    (case kxco => k_is)
    (case axgc => k_is)
    (case ixgc => k_is)
    (case lxgc => k_is)
    (case cxgc => k_is)
    (case kxgc => k_is)
    (case axpC => k_is)
    (case ixpC => k_is)
    (case lxpC => k_is)
    (case cxpC => k_is)
    (case kxpC => k_is)
    (case axfC => k_is)
    (case ixfC => k_is)
    (case lxfC => k_is)
    (case cxfC => k_is)
    (case kxfC => k_is)
    (case axcw => k_is)
    (case lxcw => k_is)
    (case cxcw => k_is)
    (case kxcw => k_is)
    (case axfW => k_is)
    (case ixfW => k_is)
    (case lxfW => k_is)
    (case cxfW => k_is)
    (case kxfW => k_is)
    (case axsi => k_is)
    (case ixsi => k_is)
    (case lxsi => k_is)
    (case txsi => k_is)
    (case cxsi => k_is)
    (case kxsi => k_is)
    (case axsh => k_is)
    (case ixsh => k_is)
    (case lxsh => k_is)
    (case cxsh => k_is)
    (case kxsh => k_is)
    (case axsp => k_is)
    (case ixsp => k_is)
    (case lxsp => k_is)
    (case cxsp => k_is)
    (case kxsp => k_is)
    (case axst => k_is)
    (case ixst => k_is)
    (case lxst => k_is)
    (case cxst => k_is)
    (case kxst => k_is)
    (case axss => k_is)
    (case ixss => k_is)
    (case lxss => k_is)
    (case cxss => k_is)
    (case kxss => k_is)
    (case axsw => k_is)
    (case ixsw => k_is)
    (case lxsw => k_is)
    (case cxsw => k_is)
    (case kxsw => k_is)
    (case axca => k_is)
    (case lxca => k_is)
    (case cxca => k_is)
    (case kxca => k_is)
    (case axmi => k_is)
    (case lxmi => k_is)
    (case cxmi => k_is)
    (case kxmi => k_is)
    (case axwh => k_is)
    (case lxwh => k_is)
    (case cxwh => k_is)
    (case kxwh => k_is)
    (case axki => k_is)
    (case lxki => k_is)
    (case cxki => k_is)
    (case kxki => k_is)
    (case axfg => k_is)
    (case lxfg => k_is)
    (case cxfg => k_is)
    (case kxfg => k_is)
    (case axlm => k_is)
    (case lxlm => k_is)
    (case cxlm => k_is)
    (case kxlm => k_is)
    (case axlw => k_is)
    (case lxlw => k_is)
    (case cxlw => k_is)
    (case kxlw => k_is)
    (case axlx => k_is)
    (case lxlx => k_is)
    (case cxlx => k_is)
    (case kxlx => k_is)
    (case axla => k_is)
    (case lxla => k_is)
    (case cxla => k_is)
    (case kxla => k_is)
    (case axly => k_is)
    (case lxly => k_is)
    (case cxly => k_is)
    (case kxly => k_is)
    (case axlt => k_is)
    (case lxlt => k_is)
    (case cxlt => k_is)
    (case kxlt => k_is)
    (case axld => k_is)
    (case lxld => k_is)
    (case cxld => k_is)
    (case kxld => k_is)
    (case alaw => k_is)
    (case llaw => k_is)
    (case claw => k_is)
    (case klaw => k_is)
    (case pgC => k_is)
    (case hdC => k_is)
    (case poC => k_is)
    (case saC => k_is)
    (case mkC => k_is)
    (case kcC => k_is)
    (case pgGr => k_is)
    (case hdGr => k_is)
    (case poGr => k_is)
    (case saGr => k_is)
    (case mkGr => k_is)
    (case kcGr => k_is)
    (case pgPc => k_is)
    (case hdPc => k_is)
    (case poPc => k_is)
    (case saPc => k_is)
    (case mkPc => k_is)
    (case kcPc => k_is)
    (case pgFo => k_is)
    (case hdFo => k_is)
    (case poFo => k_is)
    (case saFo => k_is)
    (case mkFo => k_is)
    (case kcFo => k_is)
    (case pgRd => k_is)
    (case hdRd => k_is)
    (case poRd => k_is)
    (case saRd => k_is)
    (case mkRd => k_is)
    (case kcRd => k_is)
    (case pgSt => k_is)
    (case hdSt => k_is)
    (case poSt => k_is)
    (case saSt => k_is)
    (case mkSt => k_is)
    (case kcSt => k_is)
    (case nkind => k_is)
    (case ncount => k_is)
    (case ngp => k_is)
    (case ngc => k_is)
    (case npp => k_is)
    (case npc => k_is)
    (case nfp => k_is)
    (case nfc => k_is)
    (case nrt => k_is)
    (case nrp => k_is)
    (case nam => k_is)
    (case ngo => k_is)
    (case z_len => k_is)
    (case z_str => k_is)
    (case z_int => k_is)
    (case z_bool => k_is)
    (case z_range => k_is)
    (case z_isinstance => k_is)
    (case z_list => k_is)
    (case z_abs => k_is)
    (case z_dict => k_is)
    (case z_sum => k_is)
    (case aLONGEST_KIND => k_is)
    (case aLONGEST_COUNT => k_is)
    (case aGROUP_BEGIN => k_is)
    (case aGROUP_END => k_is)
    (case aMOST_GROUPS_AROUND => k_is)
    (case aCHARGE_MARK => k_is)
    (case aPLUS => k_is)
    (case aMINUS => k_is)
    (case aPIECE_DOT => k_is)
    (case aELECTRON => k_is)
    (case aLONGEST_TEXT => k_is)
