import PyProof.Rows.All
import Wide.All
import OpenK.AllK
import Wide.FinOn
import Lean
import PyProof.EqAt
import PyProof.EqKinds
import PyProof.TupleCall
import PySem.Challenge.RW_balancehall_k03_charges
set_option Elab.async false
set_option linter.all false
set_option maxRecDepth 100000
/-! THE HAND LAYER, for ints, bools, texts, own classes, DICTS (int and text keys), calls, loops. Paste it whole ahead of your own text; what your proof does not reach may be deleted. -/
namespace L2
open PySem PySem.Spec PyProof.Rows

/-- a key: an int or a str -/
abbrev Key := Sum Int Str
def keyIs : Key → Value → Bool
  | .inl k, v => Value.isInt k v
  | .inr x, v => Value.isStrOf x v
def keyH (w : World) : Key → Int
  | .inl k => hashInt k
  | .inr x => hashStr w x
theorem keyIs_shape : ∀ {k : Key} {v : Value}, keyIs k v = true → (∃ i t, k = Sum.inl i ∧ v = Value.int i t) ∨ (∃ x t, k = Sum.inr x ∧ v = Value.str x t)
  | .inl i, v, h => by
    obtain ⟨t, e⟩ := Value.isInt_shape (k := i) (v := v) h
    exact .inl ⟨i, t, rfl, e⟩
  | .inr x, v, h => by
    obtain ⟨t, e⟩ := Value.isStrOf_shape (x := x) (v := v) h
    exact .inr ⟨x, t, rfl, e⟩
theorem keyIs_int (i : Int) (t : Tok) : keyIs (.inl i) (.int i t) = true := by simp [keyIs, Value.isInt]
theorem keyIs_str (x : Str) (t : Tok) : keyIs (.inr x) (.str x t) = true := by simp [keyIs, Value.isStrOf]
theorem key_ll (a b : Int) : decide ((Sum.inl a : Key) = Sum.inl b) = (a == b) := by
  by_cases e : a = b
  · subst e; simp
  · have h : ¬ (Sum.inl a : Key) = Sum.inl b := fun q => e (Sum.inl.inj q)
    rw [decide_eq_false h]
    exact (beq_eq_false_iff_ne.mpr e).symm
theorem key_rr (a b : Str) : decide ((Sum.inr a : Key) = Sum.inr b) = decide (a = b) := by
  by_cases e : a = b
  · subst e; simp
  · have h : ¬ (Sum.inr a : Key) = Sum.inr b := fun q => e (Sum.inr.inj q)
    rw [decide_eq_false h, decide_eq_false e]
theorem key_lr (a : Int) (b : Str) : decide ((Sum.inl a : Key) = Sum.inr b) = false := decide_eq_false (fun q => nomatch q)
theorem key_rl (a : Str) (b : Int) : decide ((Sum.inr a : Key) = Sum.inl b) = false := decide_eq_false (fun q => nomatch q)

def mixKind (prog : Program) (w : World) : PySem.KeyKind prog w Key where
  is := keyIs
  hash := keyH w
  inj := fun v a b ha hb => by
    rcases keyIs_shape ha with ⟨i, t, rfl, rfl⟩ | ⟨x, t, rfl, rfl⟩
    · rcases keyIs_shape hb with ⟨j, u, rfl, e⟩ | ⟨y, u, rfl, e⟩
      · injection e with e1 _; rw [e1]
      · exact nomatch e
    · rcases keyIs_shape hb with ⟨j, u, rfl, e⟩ | ⟨y, u, rfl, e⟩
      · exact nomatch e
      · injection e with e1 _; rw [e1]
  byValue := fun k v h => by
    rcases keyIs_shape h with ⟨i, t, rfl, rfl⟩ | ⟨x, t, rfl, rfl⟩ <;> rfl
  pyHash := fun hv h => by
    rcases keyIs_shape hv with ⟨i, t, rfl, rfl⟩ | ⟨x, t, rfl, rfl⟩
    · exact wpAny_pyHash_int h
    · exact wpAny_pyHash_str h
  eqBool := fun hu hv h => by
    rcases keyIs_shape hu with ⟨i, t, rfl, rfl⟩ | ⟨x, t, rfl, rfl⟩
    · rcases keyIs_shape hv with ⟨j, u, rfl, rfl⟩ | ⟨y, u, rfl, rfl⟩
      · rw [key_ll] at h; exact wpAny_eqBool_int h
      · rw [key_lr] at h; exact SeqAt.EqAt.int_str i t y u _ _ _ _ h
    · rcases keyIs_shape hv with ⟨j, u, rfl, rfl⟩ | ⟨y, u, rfl, rfl⟩
      · rw [key_rl] at h; exact SeqAt.EqAt.str_int x t j u _ _ _ _ h
      · rw [key_rr] at h; exact wpAny_eqBool_str h
  «strs» := fun k x t v h => by
    rcases keyIs_shape h with ⟨i, u, rfl, e⟩ | ⟨y, u, rfl, e⟩
    · exact nomatch e
    · injection e with e1 _
      subst e1
      cases v <;> rfl

theorem mixKind_is (prog : Program) (w : World) (k : Key) (v : Value) : (mixKind prog w).is k v = keyIs k v := rfl
theorem mixKind_int (prog : Program) (w : World) (i : Int) (t : Tok) : (mixKind prog w).is (.inl i) (.int i t) = true := keyIs_int i t
theorem mixKind_str (prog : Program) (w : World) (x : Str) (t : Tok) : (mixKind prog w).is (.inr x) (.str x t) = true := keyIs_str x t
end L2

namespace L2
open PySem PySem.Spec PyProof.Rows

/-- a value, without the heap -/
inductive V where
  | non | bl (b : Bool) | int (i : Int) | str (x : Str) | byt (b : Array UInt8) | flt (b : UInt64) | ref (a : Addr) | ty (n : String)
  deriving DecidableEq

def RelV : V → Value → Prop
  | .non, u => u = Value.none
  | .bl b, u => u = Value.bool b
  | .int i, u => ∃ t, u = Value.int i t
  | .str x, u => ∃ t, u = Value.str x t
  | .byt b, u => ∃ t, u = Value.bytes b t
  | .flt b, u => ∃ t, u = Value.float b t
  | .ref a, u => u = Value.ref a
  | .ty n, u => u = Value.type n

abbrev Vals : List V → List Value → Prop := Paired RelV
theorem Vals.length {xs : List V} {us : List Value} (r : Vals xs us) : xs.length = us.length := Paired.length r
theorem Vals.get : ∀ {xs : List V} {us : List Value} {i : Nat} {x : V}, Vals xs us → xs[i]? = some x → ∃ u, us[i]? = some u ∧ RelV x u
  | _, _, _, _, .nil, e => by simp at e
  | _, _, 0, _, .cons r _, e => by simp at e; subst e; exact ⟨_, rfl, r⟩
  | _, _, i + 1, x, .cons _ t, e => by
    obtain ⟨u, h1, h2⟩ := Vals.get (i := i) (x := x) t (by simpa using e)
    exact ⟨u, by simpa using h1, h2⟩
theorem Vals.set {x : V} {u : Value} (r : RelV x u) : ∀ {xs : List V} {us : List Value} (i : Nat), Vals xs us → Vals (xs.set i x) (us.set i u)
  | _, _, _, .nil => .nil
  | _, _, 0, .cons _ t => .cons r t
  | _, _, i + 1, .cons q t => .cons q (Vals.set r i t)
theorem Vals.append : ∀ {xs ys : List V} {us ws : List Value}, Vals xs us → Vals ys ws → Vals (xs ++ ys) (us ++ ws)
  | _, _, _, _, .nil, s => s
  | _, _, _, _, .cons r t, s => .cons r (Vals.append t s)
theorem Vals.take : ∀ {xs : List V} {us : List Value} (n : Nat), Vals xs us → Vals (xs.take n) (us.take n)
  | _, _, 0, _ => .nil
  | _, _, _ + 1, .nil => .nil
  | _, _, n + 1, .cons r t => .cons r (Vals.take n t)
theorem Vals.drop : ∀ {xs : List V} {us : List Value} (n : Nat), Vals xs us → Vals (xs.drop n) (us.drop n)
  | _, _, 0, r => r
  | _, _, _ + 1, .nil => .nil
  | _, _, n + 1, .cons _ t => Vals.drop n t
theorem Vals.none_of : ∀ {xs : List V} {us : List Value} {i : Nat}, Vals xs us → xs[i]? = none → us[i]? = none := fun {xs us i} r e => by
  have h1 := r.length
  have h2 : xs.length ≤ i := List.getElem?_eq_none_iff.mp e
  exact List.getElem?_eq_none_iff.mpr (by omega)

def RelO : Option V → Option Value → Prop
  | some v, some u => RelV v u
  | none, none => True
  | _, _ => False
def KV {κ : Type} : List (κ × V) → List (κ × Value) → Prop := Paired fun (p : κ × V) (q : κ × Value) => p.1 = q.1 ∧ RelV p.2 q.2

/-- a key of a dict (00_mix): an int or a text -/
def kV : Key → V
  | .inl i => .int i
  | .inr x => .str x

/-- what stands at a tracked address -/
inductive HO where
  /-- a list -/
  | lst (xs : List V)
  /-- a tuple (never changes) -/
  | tup (xs : List V)
  /-- a dict whose keys are ints and texts; one whose keys are tuples of ints and texts (the empty one is both) -/
  | dK (kvs : List (Key × V)) | dT (kvs : List (List Key × V))
  /-- a set of ints: its members, its size -/
  | set (S : Int → Bool) (n : Nat)
  /-- an instance of the class at C, its dict at dx, its attributes -/
  | ins (C dx : Addr) (fs : List (Str × V))
  /-- the dict of the instance at x -/
  | own (x : Addr)
  /-- the dict of an exception -/
  | xd (fs : List (Str × V))
  /-- a bound method, f of x -/
  | met (f x : Addr)
  /-- a range object lo, lo + 1, .. below hi -/
  | rng (lo hi : Int)
  /-- a thing that is known to the object (the script; a dict while a loop walks it): read, never written while it is so -/
  | frz (o : Obj) (u : HO)
  /-- a code object's table -/
  | tbl (ps : Array Value)
  /-- any other thing, by what is true of its one object (a def of one's own: SetO a S n := HO.ext fun h => ..) -/
  | ext (φ : Heap → Prop)

abbrev Hp := Addr → Option HO
def upd (H : Hp) (a : Addr) (o : HO) : Hp := fun b => if b = a then some o else H b
theorem upd_same {H : Hp} {a : Addr} {o : HO} : upd H a o a = some o := by unfold upd; rw [if_pos rfl]
theorem upd_ne {H : Hp} {a b : Addr} {o : HO} (h : b ≠ a) : upd H a o b = H b := by unfold upd; rw [if_neg h]
theorem upd_upd {H : Hp} {a : Addr} {o u : HO} : upd (upd H a o) a u = upd H a u := by
  funext b; unfold upd; split <;> rfl
/-- two objects of different content stand apart -/
theorem ne_of {H : Hp} {a b : Addr} {o u : HO} (h : H a = some o) (h' : H b = some u) (d : o ≠ u) : a ≠ b := by
  intro e; subst e; rw [h] at h'; exact d (Option.some.inj h')
theorem ne_of_none {H : Hp} {a b : Addr} {o : HO} (h : H a = some o) (h' : H b = none) : a ≠ b := by
  intro e; subst e; rw [h] at h'; cases h'

section
variable (P : Program) (w : World)
def ObjOk (H : Hp) (h : Heap) (a : Addr) : HO → Prop
  | .lst xs => xs.length ≤ sizeLine ∧ ∃ (its : List Value) (n : Nat), Vals xs its ∧ h.get? a = some { cls := .type "list", data := .seq its.toArray n }
  | .tup xs => xs.length ≤ sizeLine ∧ ∃ its : List Value, Vals xs its ∧ IsTup h a its.toArray
  | .dK kvs => kvs.length ≤ sizeLine ∧ (a == sysModules) = false ∧ ∃ vs, KV kvs vs ∧ h.DictOf (mixKind P w) a vs
  | .dT kvs => kvs.length ≤ sizeLine ∧ (a == sysModules) = false ∧ ∃ xs : List (List Key × Addr × Value),
      Paired (fun (p : List Key × V) (q : List Key × Addr × Value) => p.1 = q.1 ∧ H q.2.1 = some (.tup (p.1.map kV)) ∧ RelV p.2 q.2.2) kvs xs ∧
      ∃ o es ep, h.get? a = some o ∧ o.ExactDict ∧ o.data = .dict es ep ∧ es.toList = xs.map (entryOfKey (tupleKind (mixKind P w))) ∧ (xs.map (·.1)).Nodup
  | .set S n => h.SetOf (intKind P w) a S n
  | .ins C dx fs => H dx = some (.own a) ∧ fs.length ≤ 1000 ∧ dx ≠ a ∧ h.get? a = some (PySem.W.instObj C dx) ∧
      ∃ mA, h.Ns1 dx mA ∧ (∀ f, RelO (fs.lookup f) (mA f)) ∧ PySem.Within mA (fs.map (·.1))
  | .own _ => ∃ o, h.get? a = some o
  | .xd fs => ∃ mA, h.Ns1 a mA ∧ ∀ f, RelO (fs.lookup f) (mA f)
  | .rng lo hi => ∃ t u v, h.get? a = some { cls := .type "range", data := .fields #[.int lo t, .int hi u, .int 1 v] }
  | .frz o u => h.get? a = some o ∧ ObjOk H h a u
  | .tbl ps => h.get? a = some { cls := .none, data := .fields ps }
  | .met f x => h.get? a = some (PySem.W.methodObj (.ref f) (.ref x))
  | .ext φ => φ h ∧ (∃ o, h.get? a = some o) ∧ ∀ h1 h2 : Heap, φ h1 → (∀ o, h1.get? a = some o → h2.get? a = some o) → φ h2
/-- the abstract heap is held -/
def HOk (H : Hp) (h : Heap) : Prop := ∀ a o, H a = some o → ObjOk P w H h a o
end

section
variable {P : Program} {w : World} {H H' : Hp} {h h' : Heap} {a : Addr} {o : HO}
theorem ObjOk.lt (x : ObjOk P w H h a o) : a < h.objs.size := by
  cases o with
  | lst xs => obtain ⟨_, _, _, _, e⟩ := x; exact Heap.lt_size e
  | tup xs => obtain ⟨_, _, _, p⟩ := x; exact p.lt
  | dK kvs => obtain ⟨_, _, _, _, o, _, _, e, _⟩ := x; exact Heap.lt_size e
  | dT kvs => obtain ⟨_, _, _, _, o, _, _, e, _⟩ := x; exact Heap.lt_size e
  | set S n => obtain ⟨o, _, _, _, e, _⟩ := x; exact Heap.lt_size e
  | ins C dx fs => obtain ⟨_, _, _, e, _⟩ := x; exact Heap.lt_size e
  | own y => obtain ⟨_, e⟩ := x; exact Heap.lt_size e
  | xd fs => obtain ⟨_, ⟨_, _, _, e, _⟩, _⟩ := x; exact Heap.lt_size e
  | rng lo hi => obtain ⟨_, _, _, e⟩ := x; exact Heap.lt_size e
  | frz ob u => obtain ⟨e, _⟩ := x; exact Heap.lt_size e
  | tbl ps => exact Heap.lt_size (show h.get? a = some _ from x)
  | met f y => exact Heap.lt_size (show h.get? a = some _ from x)
  | ext φ => obtain ⟨_, ⟨_, e⟩, _⟩ := x; exact Heap.lt_size e
theorem Paired.mapP {α β : Type} {F G : α → β → Prop} : ∀ {l₁ : List α} {l₂ : List β}, Paired F l₁ l₂ → (∀ a b, F a b → G a b) → Paired G l₁ l₂
  | _, _, .nil, _ => .nil
  | _, _, .cons r t, f => .cons (f _ _ r) (Paired.mapP t f)
theorem Paired.imp' {α β : Type} {F G : α → β → Prop} (f : ∀ a b, F a b → G a b) {l₁ : List α} {l₂ : List β} (r : Paired F l₁ l₂) : Paired G l₁ l₂ := Paired.mapP r f
/-- what an object's description leans on: its own object, its own dict, the tuples -/
theorem ObjOk.stay (x : ObjOk P w H h a o) (k : ∀ b u, (b = a ∨ H b = some (.own a)) → h.get? b = some u → h'.get? b = some u)
    (ho : ∀ b, H b = some (.own a) → H' b = some (.own a)) (ht : ∀ b xs, H b = some (.tup xs) → H' b = some (.tup xs)) : ObjOk P w H' h' a o := by
  induction o with
  | lst xs => obtain ⟨z, its, n, r, e⟩ := x; exact ⟨z, its, n, r, k _ _ (.inl rfl) e⟩
  | tup xs => obtain ⟨z, its, r, ob, e, c⟩ := x; exact ⟨z, its, r, ob, k _ _ (.inl rfl) e, c⟩
  | dK kvs => obtain ⟨z, y, vs, r, ob, es, ep, e, c⟩ := x; exact ⟨z, y, vs, r, ob, es, ep, k _ _ (.inl rfl) e, c⟩
  | dT kvs =>
    obtain ⟨z, y, xs, r, ob, es, ep, e, c⟩ := x
    exact ⟨z, y, xs, Paired.mapP r fun p q z => ⟨z.1, ht _ _ z.2.1, z.2.2⟩, ob, es, ep, k _ _ (.inl rfl) e, c⟩
  | set S n => obtain ⟨ob, es, ep, t, e, c⟩ := x; exact ⟨ob, es, ep, t, k _ _ (.inl rfl) e, c⟩
  | ins C dx fs =>
    obtain ⟨d, z, ne, e, mA, ⟨od, es, ep, e2, c⟩, r⟩ := x
    exact ⟨ho _ d, z, ne, k _ _ (.inl rfl) e, mA, ⟨od, es, ep, k _ _ (.inr d) e2, c⟩, r⟩
  | own y => obtain ⟨ob, e⟩ := x; exact ⟨ob, k _ _ (.inl rfl) e⟩
  | xd fs => obtain ⟨mA, ⟨od, es, ep, e, c⟩, r⟩ := x; exact ⟨mA, ⟨od, es, ep, k _ _ (.inl rfl) e, c⟩, r⟩
  | rng lo hi => obtain ⟨t, u, v, e⟩ := x; exact ⟨t, u, v, k _ _ (.inl rfl) e⟩
  | frz ob u ih => obtain ⟨e, q⟩ := x; exact ⟨k _ _ (.inl rfl) e, ih q⟩
  | tbl ps =>
    have e : h.get? a = some { cls := .none, data := .fields ps } := x
    show h'.get? a = some { cls := .none, data := .fields ps }
    exact k a _ (.inl rfl) e
  | met f y =>
    have e : h.get? a = some (PySem.W.methodObj (.ref f) (.ref y)) := x
    show h'.get? a = some (PySem.W.methodObj (.ref f) (.ref y))
    exact k a _ (.inl rfl) e
  | ext φ => obtain ⟨p, ⟨o, e⟩, st⟩ := x; exact ⟨st _ _ p fun o q => k _ _ (.inl rfl) q, ⟨o, k _ _ (.inl rfl) e⟩, st⟩
theorem HOk.lt (x : HOk P w H h) (e : H a = some o) : a < h.objs.size := (x a o e).lt
theorem HOk.fresh (x : HOk P w H h) (e : h.objs.size ≤ a) : H a = none := by
  cases q : H a with
  | none => rfl
  | some u => exact absurd (Nat.lt_of_lt_of_le (x.lt q) e) (Nat.lt_irrefl _)
/-- every object of the heap is kept -/
theorem HOk.kept (x : HOk P w H h) (k : ∀ b u, h.get? b = some u → h'.get? b = some u) : HOk P w H h' := fun a o e =>
  (x a o e).stay (fun b u _ q => k b u q) (fun _ q => q) fun _ _ q => q
/-- a new object is laid and tracked -/
theorem HOk.laid (x : HOk P w H h) (k : ∀ b u, h.get? b = some u → h'.get? b = some u) (hp : h.objs.size ≤ a) (new : ObjOk P w (upd H a o) h' a o) : HOk P w (upd H a o) h' := fun b u e => by
  have hn := x.fresh hp
  by_cases hb : b = a
  · subst hb; rw [upd_same] at e; cases e; exact new
  · rw [upd_ne hb] at e
    exact (x b u e).stay (fun c v _ q => k c v q) (fun c q => by rw [upd_ne (ne_of_none q hn)]; exact q) fun c xs q => by rw [upd_ne (ne_of_none q hn)]; exact q
end

/-- what may be read as u: it is u, or a known u -/
def Rd (H : Hp) (a : Addr) (u : HO) : Prop := H a = some u ∨ ∃ o, H a = some (.frz o u)
theorem Rd.of {H : Hp} {a : Addr} {u : HO} (h : H a = some u) : Rd H a u := .inl h
theorem Rd.ok {P : Program} {w : World} {H : Hp} {h : Heap} {a : Addr} {u : HO} (r : Rd H a u) (x : HOk P w H h) : ObjOk P w H h a u := by
  rcases r with r | ⟨o, r⟩
  · exact x a u r
  · obtain ⟨_, q⟩ := x a _ r
    exact q
/-- what may be written -/
def Mut : Option HO → Prop
  | some (.lst _) => True
  | some (.dK _) => True
  | some (.dT _) => True
  | some (.set _ _) => True
  | some (.ins _ _ _) => True
  | some (.ext _) => True
  | _ => False
section
variable {P : Program} {w : World} {H : Hp} {h h' : Heap} {x e : Addr} {o' : HO}
/-- the object at e is changed: x itself, or the dict of the instance x -/
theorem HOk.write (ok : HOk P w H h) (mu : Mut (H x)) (he : e = x ∨ H e = some (.own x)) (k : ∀ b u, b ≠ e → h.get? b = some u → h'.get? b = some u) (heo : ∃ u, h'.get? e = some u)
    (new : ObjOk P w (upd H x o') h' x o') : HOk P w (upd H x o') h' := fun b u q => by
  have nown : ∀ c y, H c = some (.own y) → c ≠ x := fun c y r z => by subst z; rw [r] at mu; exact mu
  have ntup : ∀ c xs, H c = some (.tup xs) → c ≠ x := fun c xs r z => by subst z; rw [r] at mu; exact mu
  by_cases hb : b = x
  · subst hb; rw [upd_same] at q; cases q; exact new
  · rw [upd_ne hb] at q
    by_cases hbe : b = e
    · have q' : H b = some (.own x) := by
        rcases he with z | z
        · exact absurd (hbe.trans z) hb
        · rw [hbe]; exact z
      rw [q] at q'; cases q'
      obtain ⟨v, hv⟩ := heo
      exact ⟨v, by rw [hbe]; exact hv⟩
    · refine (ok b u q).stay (fun c v hc r => k c v ?_ r) (fun c r => by rw [upd_ne (nown c b r)]; exact r) fun c xs r => by rw [upd_ne (ntup c xs r)]; exact r
      rcases hc with rfl | hc
      · exact hbe
      · rintro rfl
        rcases he with z | z
        · exact nown c b hc z
        · rw [hc] at z; cases z; exact hb rfl
end

/-! ### kept unless tracked; of the frames at fs (the callers') the slots may change (an exception that passes writes there); of the records at ex (iterators) nothing is said -/
structure Un (fs ex : List Addr) (H H' : Hp) (h h' : Heap) : Prop where
  keep : ∀ b o, h.get? b = some o → H b = none → b ∉ fs → b ∉ ex → h'.get? b = some o
  slot : ∀ b o, h.get? b = some o → H b = none → b ∈ fs → b ∉ ex → ∃ sl, h'.get? b = some { o with slots := sl }
  free : ∀ b o, h.get? b = some o → H b = none → b ∉ ex → H' b = none
  there : ∀ b o, h.get? b = some o → b ∉ ex → ∃ o', h'.get? b = some o'
  tups : ∀ b xs, H b = some (.tup xs) → H' b = some (.tup xs)
  frzs : ∀ b o u, H b = some (.frz o u) → H' b = some (.frz o u)
  tbls : ∀ b ps, H b = some (.tbl ps) → ∃ more, H' b = some (.tbl (ps ++ more))
section
variable {fs fs' ex ex' : List Addr} {H H1 H2 : Hp} {h h1 h2 h' : Heap} {a x e : Addr} {o : HO}
theorem Un.any (u : Un fs ex H H1 h h1) {b : Addr} {ob : Obj} (q : h.get? b = some ob) (n : H b = none) (hx : b ∉ ex) : ∃ sl, h1.get? b = some { ob with slots := sl } := by
  by_cases hb : b ∈ fs
  · exact u.slot b ob q n hb hx
  · exact ⟨ob.slots, u.keep b ob q n hb hx⟩
theorem Un.trans (a : Un fs ex H H1 h h1) (b : Un fs ex H1 H2 h1 h2) : Un fs ex H H2 h h2 where
  keep := fun c ob q n hc hx => b.keep c ob (a.keep c ob q n hc hx) (a.free c ob q n hx) hc hx
  slot := fun c ob q n hc hx => by
    obtain ⟨sl, e1⟩ := a.slot c ob q n hc hx
    obtain ⟨sl', e2⟩ := b.slot c _ e1 (a.free c ob q n hx) hc hx
    exact ⟨sl', e2⟩
  free := fun c ob q n hx => by
    obtain ⟨o', e1⟩ := a.there c ob q hx
    exact b.free c o' e1 (a.free c ob q n hx) hx
  there := fun c ob q hx => by
    obtain ⟨o', e1⟩ := a.there c ob q hx
    exact b.there c o' e1 hx
  tups := fun c xs q => b.tups c xs (a.tups c xs q)
  frzs := fun c ob xs q => b.frzs c ob xs (a.frzs c ob xs q)
  tbls := fun c ps q => by
    obtain ⟨m1, e1⟩ := a.tbls c ps q
    obtain ⟨m2, e2⟩ := b.tbls c _ e1
    exact ⟨m1 ++ m2, by rw [e2, Array.append_assoc]⟩
theorem Un.kept (k : ∀ b u, h.get? b = some u → h'.get? b = some u) : Un fs ex H H h h' :=
  ⟨fun b ob q _ _ _ => k b ob q, fun b ob q _ _ _ => ⟨ob.slots, k b ob q⟩, fun _ _ _ n _ => n, fun b ob q _ => ⟨ob, k b ob q⟩, fun _ _ q => q, fun _ _ _ q => q, fun _ ps q => ⟨#[], by rw [q]; simp⟩⟩
theorem Un.refl : Un fs ex H H h h := Un.kept fun _ _ q => q
theorem Un.laid (k : ∀ b u, h.get? b = some u → h'.get? b = some u) (hp : h.objs.size ≤ a) (hn : H a = none) : Un fs ex H (upd H a o) h h' where
  keep := fun b u q _ _ _ => k b u q
  slot := fun b u q _ _ _ => ⟨u.slots, k b u q⟩
  free := fun b u q n _ => by rw [upd_ne (Nat.ne_of_lt (Nat.lt_of_lt_of_le (Heap.lt_size q) hp))]; exact n
  there := fun b u q _ => ⟨u, k b u q⟩
  tups := fun b xs q => by rw [upd_ne (ne_of_none q hn)]; exact q
  frzs := fun b u xs q => by rw [upd_ne (ne_of_none q hn)]; exact q
  tbls := fun b ps q => ⟨#[], by rw [upd_ne (ne_of_none q hn), q]; simp⟩
theorem Un.write (mu : Mut (H x)) (he : e = x ∨ H e = some (.own x)) (k : ∀ b u, b ≠ e → h.get? b = some u → h'.get? b = some u) (heo : ∃ u, h'.get? e = some u) : Un fs ex H (upd H x o) h h' := by
  have hx : ∀ b, H b = none → b ≠ x := fun b n z => by subst z; rw [n] at mu; exact mu
  have hb : ∀ b, H b = none → b ≠ e := fun b n z => by
    subst z
    rcases he with r | r
    · exact hx b n r
    · rw [n] at r; cases r
  have hm : ∀ b u, H b = some u → ¬ Mut (some u) → b ≠ x := fun b u q nm z => by subst z; rw [q] at mu; exact nm mu
  refine ⟨fun b u q n _ _ => k b u (hb b n) q, fun b u q n _ _ => ⟨u.slots, k b u (hb b n) q⟩, fun b u q n _ => by rw [upd_ne (hx b n)]; exact n, fun b u q _ => ?_,
    fun b xs q => by rw [upd_ne (hm b _ q fun z => z)]; exact q, fun b u xs q => by rw [upd_ne (hm b _ q fun z => z)]; exact q, fun b ps q => ⟨#[], by rw [upd_ne (hm b _ q fun z => z), q]; simp⟩⟩
  by_cases hbe : b = e
  · subst hbe; exact heo
  · exact ⟨u, k b u hbe q⟩
theorem Un.mono (u : Un fs ex H H1 h h1) (hs : ∀ b ∈ fs, b ∈ fs') (hx : ∀ b ∈ ex, b ∈ ex') : Un fs' ex' H H1 h h1 :=
  ⟨fun b ob q n hb he => u.keep b ob q n (fun z => hb (hs b z)) fun z => he (hx b z), fun _ _ q n _ he => u.any q n fun z => he (hx _ z), fun b ob q n he => u.free b ob q n fun z => he (hx b z), fun b ob q he => u.there b ob q fun z => he (hx b z), u.tups, u.frzs, u.tbls⟩
end

/-! ### the heap without what is tracked -/
def trk (h : Heap) (H : Hp) : List Addr := (List.range h.objs.size).filter fun a => (H a).isSome
def hidT (h : Heap) (H : Hp) : Heap := PySem.W.hideAll h (trk h H)
theorem hidT_size (h : Heap) (H : Hp) : (hidT h H).objs.size = h.objs.size := PySem.W.hideAll_size _ _
theorem hidT_get {h : Heap} {H : Hp} {b : Addr} {o : Obj} (e : h.get? b = some o) (n : H b = none) : (hidT h H).get? b = some o :=
  PySem.W.hideAll_get _ e fun hm => by
    have q : (H b).isSome = true := (List.mem_filter.mp hm).2
    rw [n] at q; simp at q
theorem of_hidT {h : Heap} {H : Hp} {b : Addr} {o : Obj} (e : (hidT h H).get? b = some o) : h.get? b = some o ∧ H b = none := by
  have e' : h.get? b = some o := PySem.W.of_hideAll (trk h H) e
  refine ⟨e', ?_⟩
  cases q : H b with
  | none => rfl
  | some x =>
    have hm : b ∈ trk h H := List.mem_filter.mpr ⟨List.mem_range.mpr (Heap.lt_size e'), by simp [q]⟩
    have z : (hidT h H).get? b = none := PySem.W.hideAll_none (trk h H) hm
    rw [z] at e; cases e

/-! ### OpenK's ledger, filled with every new object but one -/
def allNews (g h : Heap) (L : Addr) : List (Addr × Obj) := (List.range h.objs.size).filterMap fun a => if a = L ∨ (g.get? a).isSome = true then none else (h.get? a).map fun o => (a, o)
theorem mem_allNews {g h : Heap} {L a : Addr} {o : Obj} (h1 : a ≠ L) (h2 : g.get? a = none) (h3 : h.get? a = some o) : (a, o) ∈ allNews g h L :=
  List.mem_filterMap.mpr ⟨a, List.mem_range.mpr (Heap.lt_size h3), by simp [h1, h2, h3]⟩
theorem of_mem_allNews {g h : Heap} {L : Addr} {p : Addr × Obj} (hp : p ∈ allNews g h L) : p.1 ≠ L ∧ g.get? p.1 = none ∧ h.get? p.1 = some p.2 := by
  obtain ⟨b, _, e⟩ := List.mem_filterMap.mp hp
  split at e
  · cases e
  · rename_i hn
    cases q : h.get? b with
    | none => rw [q] at e; simp at e
    | some u =>
      rw [q] at e
      simp only [Option.map_some, Option.some.injEq] at e
      subst e
      refine ⟨fun z => hn (.inl z), ?_, q⟩
      show g.get? b = none
      cases r : g.get? b with
      | none => rfl
      | some v => exact (hn (.inr (by simp [r]))).elim
def rest (g h : Heap) (L d : Addr) : List (Addr × Obj) := (allNews g h L).filter fun p => decide (p.1 ≠ d)
theorem rest_ne {g h : Heap} {L d : Addr} : ∀ p ∈ rest g h L d, p.1 ≠ d := fun p hp => of_decide_eq_true (List.mem_filter.mp hp).2
theorem mem_rest {g h : Heap} {L d a : Addr} {o : Obj} (h1 : a ≠ L) (h2 : g.get? a = none) (h3 : h.get? a = some o) (h4 : a ≠ d) : (a, o) ∈ rest g h L d :=
  List.mem_filter.mpr ⟨mem_allNews h1 h2 h3, decide_eq_true h4⟩
theorem news_all {g h : Heap} {L : Addr} : News g L h (allNews g h L) := fun p hp => let ⟨a, b, c⟩ := of_mem_allNews hp; ⟨c, a, b⟩
theorem news_at {g h : Heap} {L d : Addr} {o : Obj} (h1 : d ≠ L) (h2 : g.get? d = none) (h3 : h.get? d = some o) : News g L h ((d, o) :: rest g h L d) := fun p hp => by
  rcases List.mem_cons.mp hp with rfl | hp
  · exact ⟨h3, h1, h2⟩
  · exact news_all p (List.mem_filter.mp hp).1
/-- behind a rule that changed d alone: all else but the frame is kept -/
theorem kept_of_news {g h h' : Heap} {L d : Addr} {m : Str → Option Value} (k : ∀ b o, g.get? b = some o → h.get? b = some o) (F : Fr g L h' m) (N : News g L h' (rest g h L d)) :
    ∀ b o, b ≠ L → b ≠ d → h.get? b = some o → h'.get? b = some o := fun b o h1 h2 e => by
  cases q : g.get? b with
  | some u =>
    have := k b u q
    rw [e] at this; cases this
    exact F.keep b _ q
  | none => exact (N (b, o) (mem_rest h1 q e h2)).1
end L2

namespace L2
open PySem PySem.Spec PyProof.Rows

/-- the module's facts, over the base: the heap at the law's entry without what is tracked there -/
structure Mod (K : PySem.W.Frag) (mg : Str → Option Value) (base : Heap) : Prop where
  kin : K.In base
  glob : base.Ns mainGlobals mg
  blt : ∃ mb, base.Ns builtinsNs mb ∧ ∀ x : Str, x ≠ "__name__" → mb x = bootBuiltins x
  nolimit : base.NoLimit

/-- the context: a def's body (or a comprehension's block) running. base: fixed through the whole law; s₀, H₀: the entry; outer: the frames whose slots others may change (a def's callers); stack: all frames that run;
   ex: iterators that were made ahead of the entry and are walked here (a comprehension's); fn: the names whose cells were made at the entry (a def: all; a comprehension's block: its own); calm: not within an except suite; pn: pins that every state bears; xe: what is wanted of an exception that leaves the code -/
structure Cx where
  prog : Program
  w : World
  K : PySem.W.Frag
  mg : Str → Option Value
  base : Heap
  A : Around
  N : List Str
  s₀ : Shared
  H₀ : Hp
  env : Env
  outer : List Env
  stack : List Env
  ex : List Addr
  fn : Str → Bool
  calm : Bool
  pn : List (Addr × Obj)
  xe : Value → Shared → Prop
/-- the callers' frames -/
def frs (l : List Env) : List Addr := l.filterMap (·.frame)
abbrev Cx.fs (X : Cx) : List Addr := frs X.outer

def Vis (sc : Scope) (x : Str) : Prop := sc.names.lookup x = some .local ∨ sc.names.lookup x = some .cell ∨ sc.names.lookup x = some .free
def Loc (sc : Scope) (x : Str) : Prop := sc.names.lookup x = some .local ∨ sc.names.lookup x = some .cell
def Look (env : Env) (h : Heap) (m : Str → Option Value) (x : Str) (u : Value) : Prop :=
  (env.kindOf x = some .local ∧ m x = some u) ∨ ((env.kindOf x = some .cell ∨ env.kindOf x = some .free) ∧ ∃ c, env.cells.lookup x = some c ∧ h.IsCell c (some u))

structure Cx.Ok (X : Cx) : Prop where
  mod : Mod X.K X.mg X.base
  kind : X.env.scope.kind = .function
  glob : X.env.globals = mainGlobals
  blt : X.env.builtins = builtinsNs
  above : X.s₀.heap.objs.size ≤ X.env.locals
  inj : ∀ x y c, X.env.cells.lookup x = some c → X.env.cells.lookup y = some c → x = y
  has : ∀ x, (X.env.kindOf x = some .cell ∨ X.env.kindOf x = some .free) → ∃ c, X.env.cells.lookup x = some c
  cab : ∀ x c, X.fn x = true → X.env.cells.lookup x = some c → X.s₀.heap.objs.size ≤ c
  hd : X.calm = true → X.A.handled = none
  frames : X.A.frames = some X.stack
  stk : X.stack = X.outer ∨ (X.stack = X.env :: X.outer ∧ X.env.frame = some X.env.locals)
  exf : ∀ b ∈ X.ex, b ≠ X.env.locals ∧ ∀ x c, X.env.cells.lookup x = some c → c ≠ b
  bs : ∀ b o, X.base.get? b = some o → X.s₀.heap.get? b = some o ∧ X.H₀ b = none
  bsz : X.base.objs.size ≤ X.s₀.heap.objs.size
  noex : ∀ b o, X.base.get? b = some o → b ∉ X.ex
  exfs : ∀ b ∈ X.ex, b ∉ X.fs
  funs : X.s₀.heap.FunFrames X.base X.outer
  frf : ∀ b ∈ X.fs, X.H₀ b = none

structure Inv (X : Cx) (pins : List (Addr × Obj)) (σ : List (Option V)) (H : Hp) (s : Shared) : Prop where
  ok : X.Ok
  os : s.os = X.s₀.os
  bare : AllBare s.gens
  base : Un X.fs X.ex X.H₀ H X.s₀.heap s.heap
  loc : ∃ m, s.heap.Ns X.env.locals m ∧ ∀ (i : Nat) (x : Str) (v : V), X.N[i]? = some x → σ[i]? = some (some v) → Vis X.env.scope x → ∃ u, RelV v u ∧ Look X.env s.heap m x u
  cell : ∀ x c, X.env.cells.lookup x = some c → ∃ v, s.heap.IsCell c v
  free : H X.env.locals = none
  freeC : ∀ x c, X.env.cells.lookup x = some c → H c = none
  pin : ∀ p ∈ X.pn ++ pins, s.heap.get? p.1 = some p.2 ∧ H p.1 = none ∧ p.1 ≠ X.env.locals ∧ p.1 ∉ X.fs ∧ ∀ v, p.2.data ≠ .cell v
  hok : HOk X.prog X.w H s.heap
  len : σ.length = X.N.length

section
variable {X : Cx} {pins : List (Addr × Obj)} {σ : List (Option V)} {H H' : Hp} {s : Shared} {h' : Heap}

theorem Cx.Ok.nofr (ok : X.Ok) {b : Addr} {o : Obj} (e : X.base.get? b = some o) : b ∉ X.fs := fun hb => by
  have := (ok.funs.mem hb).1
  rw [e] at this; cases this
theorem Inv.bs (I : Inv X pins σ H s) : ∀ b o, X.base.get? b = some o → s.heap.get? b = some o ∧ H b = none := fun b o e =>
  ⟨I.base.keep b o (I.ok.bs b o e).1 (I.ok.bs b o e).2 (I.ok.nofr e) (I.ok.noex b o e), I.base.free b o (I.ok.bs b o e).1 (I.ok.bs b o e).2 (I.ok.noex b o e)⟩
theorem Inv.bk (I : Inv X pins σ H s) : ∀ b o, X.base.get? b = some o → s.heap.get? b = some o := fun b o e => (I.bs b o e).1
theorem Inv.mod (I : Inv X pins σ H s) : Mod X.K X.mg X.base := I.ok.mod
theorem Inv.kIn (I : Inv X pins σ H s) : X.K.In s.heap := I.ok.mod.kin.keeps I.bk
theorem Inv.nolimit (I : Inv X pins σ H s) : s.heap.NoLimit := I.ok.mod.nolimit.keeps I.bk
/-- the frame over the base: for OpenK's rules (K.In X.base is I.mod.kin) -/
theorem Inv.fr (I : Inv X pins σ H s) : ∃ m, Fr X.base X.env.locals s.heap m :=
  let ⟨m, hn, _⟩ := I.loc
  ⟨m, hn, I.bk, Nat.le_trans I.ok.bsz I.ok.above⟩
theorem Inv.lt (I : Inv X pins σ H s) : X.env.locals < s.heap.objs.size := let ⟨_, hn, _⟩ := I.loc; hn.lt
theorem Inv.sz (I : Inv X pins σ H s) : X.s₀.heap.objs.size ≤ s.heap.objs.size := Nat.le_trans I.ok.above (Nat.le_of_lt I.lt)
theorem Inv.nofs (I : Inv X pins σ H s) {a : Addr} (h : s.heap.objs.size ≤ a) : a ∉ X.fs := fun hb => by
  obtain ⟨_, o, ho, _⟩ := I.ok.funs.mem hb
  exact absurd (Nat.lt_of_lt_of_le (Heap.lt_size ho) (Nat.le_trans I.sz h)) (Nat.lt_irrefl _)
theorem Inv.cne (I : Inv X pins σ H s) : ∀ x c, X.env.cells.lookup x = some c → c ≠ X.env.locals := fun x c e z => by
  obtain ⟨v, o, ho, hd⟩ := I.cell x c e
  obtain ⟨m, ⟨o', es, ep, ho', hd', _⟩, _⟩ := I.loc
  rw [z, ho'] at ho; cases ho; rw [hd'] at hd; cases hd
theorem Inv.funs (I : Inv X pins σ H s) : s.heap.FunFrames X.base X.outer := by
  have all : ∀ (l : List Env), (∀ b ∈ frs l, b ∈ X.fs) → X.s₀.heap.FunFrames X.base l → s.heap.FunFrames X.base l := by
    intro l
    induction l with
    | nil => intro _ _; trivial
    | cons env r ih =>
      intro hs hl
      obtain ⟨hk, ⟨L, o, hf, hn, ho, hd⟩, hr⟩ := hl
      have hL : L ∈ X.fs := hs L (by unfold frs; rw [List.filterMap_cons, hf]; exact List.mem_cons_self)
      obtain ⟨sl, e⟩ := I.base.slot L o ho (I.ok.frf L hL) hL fun z => I.ok.exfs L z hL
      exact ⟨hk, ⟨L, _, hf, hn, e, hd⟩, ih (fun b hb => hs b (by unfold frs; rw [List.filterMap_cons, hf]; exact List.mem_cons_of_mem _ hb)) hr⟩
  exact all X.outer (fun _ hb => hb) I.ok.funs

/-- the frames that run, for a call -/
theorem Inv.stack (I : Inv X pins σ H s) : s.heap.FunFrames X.base X.stack := by
  rcases I.ok.stk with e | ⟨e, hf⟩
  · rw [e]; exact I.funs
  · rw [e]
    obtain ⟨m, hn, _⟩ := I.loc
    refine .cons (by rw [I.ok.kind]; decide) hf hn ?_ I.funs
    exact Heap.get?_none_of_le (Nat.le_trans I.ok.bsz I.ok.above)
theorem Inv.stkSub (I : Inv X pins σ H s) : ∀ b ∈ frs X.stack, b ∈ X.env.locals :: X.fs := fun b hb => by
  rcases I.ok.stk with e | ⟨e, hf⟩
  · rw [e] at hb; exact List.mem_cons_of_mem _ hb
  · rw [e] at hb
    unfold frs at hb
    rw [List.filterMap_cons, hf] at hb
    exact hb
theorem Inv.stkFree (I : Inv X pins σ H s) : ∀ b ∈ frs X.stack, H b = none := fun b hb => by
  rcases List.mem_cons.mp (I.stkSub b hb) with e | hb
  · rw [e]; exact I.free
  · obtain ⟨_, o, ho, _⟩ := I.ok.funs.mem hb
    exact I.base.free b o ho (I.ok.frf b hb) fun z => I.ok.exfs b z hb

/-- THE STEP: the untracked objects but the frame and the records at ch are kept (the callers' frames up to slots), the frame's map is kept, the new abstract heap is held -/
theorem Inv.step {g' : Array GenState} {t' : Nat} {d' : Drawn} {ch : List Addr} (I : Inv X pins σ H s)
    (hch : ∀ b ∈ ch, (b ∈ X.ex ∨ X.s₀.heap.objs.size ≤ b) ∧ b ≠ X.env.locals ∧ (∀ x c, X.env.cells.lookup x = some c → c ≠ b) ∧ ∀ p ∈ X.pn ++ pins, p.1 ≠ b)
    (keep : ∀ b o, b ≠ X.env.locals → b ∉ X.fs → b ∉ ch → s.heap.get? b = some o → H b = none → h'.get? b = some o)
    (slot : ∀ b o, b ≠ X.env.locals → b ∈ X.fs → b ∉ ch → s.heap.get? b = some o → H b = none → ∃ sl, h'.get? b = some { o with slots := sl }) (free : ∀ b o, b ∉ ch → s.heap.get? b = some o → H b = none → H' b = none)
    (there : ∀ b o, b ∉ ch → s.heap.get? b = some o → ∃ o', h'.get? b = some o')
    (tups : ∀ b xs, H b = some (.tup xs) → H' b = some (.tup xs)) (frzs : ∀ b o u, H b = some (.frz o u) → H' b = some (.frz o u)) (tbls : ∀ b ps, H b = some (.tbl ps) → ∃ more, H' b = some (.tbl (ps ++ more)))
    (ns : ∀ m, s.heap.Ns X.env.locals m → h'.Ns X.env.locals m) (hok : HOk X.prog X.w H' h') (hg : AllBare g') :
    Inv X pins σ H' { s with heap := h', gens := g', drawn := d', toks := t' } := by
  have neL : ∀ b o, X.s₀.heap.get? b = some o → b ≠ X.env.locals := fun b o e => Nat.ne_of_lt (Nat.lt_of_lt_of_le (Heap.lt_size e) I.ok.above)
  have neC : ∀ b o, X.s₀.heap.get? b = some o → b ∉ X.ex → b ∉ ch := fun b o e hx hb => by
    rcases (hch b hb).1 with z | z
    · exact hx z
    · exact absurd (Nat.lt_of_lt_of_le (Heap.lt_size e) z) (Nat.lt_irrefl _)
  have cellK : ∀ x c, X.env.cells.lookup x = some c → ∀ v, s.heap.IsCell c v → h'.IsCell c v := fun x c e v ⟨o, ho, hd⟩ => by
    have nch : c ∉ ch := fun z => (hch c z).2.2.1 x c e rfl
    by_cases hc : c ∈ X.fs
    · obtain ⟨sl, q⟩ := slot c o (I.cne x c e) hc nch ho (I.freeC x c e)
      exact ⟨_, q, hd⟩
    · exact ⟨o, keep c o (I.cne x c e) hc nch ho (I.freeC x c e), hd⟩
  refine ⟨I.ok, I.os, hg, ⟨fun b o e n hb hx => ?_, fun b o e n hb hx => ?_, fun b o e n hx => ?_, fun b o e hx => ?_, fun b xs e => tups b xs (I.base.tups b xs e), fun b o xs e => frzs b o xs (I.base.frzs b o xs e), fun b ps e => ?_⟩, ?_, fun x c e => ?_, ?_, fun x c e => ?_, fun p hp => ?_, hok, I.len⟩
  · exact keep b o (neL b o e) hb (neC b o e hx) (I.base.keep b o e n hb hx) (I.base.free b o e n hx)
  · obtain ⟨sl, e1⟩ := I.base.slot b o e n hb hx
    obtain ⟨sl', e2⟩ := slot b _ (neL b o e) hb (neC b o e hx) e1 (I.base.free b o e n hx)
    exact ⟨sl', e2⟩
  · obtain ⟨o', e1⟩ := I.base.there b o e hx
    exact free b o' (neC b o e hx) e1 (I.base.free b o e n hx)
  · obtain ⟨o', e1⟩ := I.base.there b o e hx
    exact there b o' (neC b o e hx) e1
  · obtain ⟨m1, e1⟩ := I.base.tbls b ps e
    obtain ⟨m2, e2⟩ := tbls b _ e1
    exact ⟨m1 ++ m2, by rw [e2, Array.append_assoc]⟩
  · obtain ⟨m, hn, hl⟩ := I.loc
    refine ⟨m, ns m hn, fun i x v e1 e2 e3 => ?_⟩
    obtain ⟨u, r, l⟩ := hl i x v e1 e2 e3
    refine ⟨u, r, ?_⟩
    rcases l with l | ⟨k, c, e, z⟩
    · exact .inl l
    · exact .inr ⟨k, c, e, cellK x c e _ z⟩
  · obtain ⟨v, z⟩ := I.cell x c e
    exact ⟨v, cellK x c e v z⟩
  · obtain ⟨m, ⟨o, _, _, ho, _⟩, _⟩ := I.loc
    exact free _ o (fun z => (hch _ z).2.1 rfl) ho I.free
  · obtain ⟨v, o, ho, hd⟩ := I.cell x c e
    exact free c o (fun z => (hch c z).2.2.1 x c e rfl) ho (I.freeC x c e)
  · obtain ⟨e, n, ne, nf, d⟩ := I.pin p hp
    have nch : p.1 ∉ ch := fun z => (hch p.1 z).2.2.2 p hp rfl
    exact ⟨keep p.1 p.2 ne nf nch e n, free p.1 p.2 nch e n, ne, nf, d⟩
/-- .. where the frame's own object is kept too -/
theorem Inv.un {t' : Nat} (I : Inv X pins σ H s) (u : Un X.fs [] H H' s.heap h') (hok : HOk X.prog X.w H' h') : Inv X pins σ H' { s with heap := h', toks := t' } := by
  obtain ⟨m, ⟨o, es, ep, ho, r⟩, _⟩ := id I.loc
  obtain ⟨sl, hL⟩ := u.any ho I.free (by simp)
  exact I.step (g' := s.gens) (d' := s.drawn) (ch := []) (fun _ z => nomatch z) (fun b o _ hb _ e n => u.keep b o e n hb (by simp)) (fun b o _ hb _ e n => u.slot b o e n hb (by simp)) (fun b o _ e n => u.free b o e n (by simp)) (fun b o _ e => u.there b o e (by simp)) u.tups u.frzs u.tbls (fun m' hm => by
    obtain ⟨o', es', ep', ho', r'⟩ := hm
    rw [ho] at ho'; cases ho'
    exact ⟨_, es', ep', hL, r'⟩) hok I.bare
/-- behind a call (or a comprehension's block): the slots of this frame may have changed too, the records at ch may have turned -/
theorem Inv.call {g' : Array GenState} {t' : Nat} {d' : Drawn} {ch : List Addr} (I : Inv X pins σ H s) (u : Un (frs X.stack) ch H H' s.heap h') (hok : HOk X.prog X.w H' h') (hg : AllBare g')
    (hch : ∀ b ∈ ch, (b ∈ X.ex ∨ X.s₀.heap.objs.size ≤ b) ∧ b ≠ X.env.locals ∧ (∀ x c, X.env.cells.lookup x = some c → c ≠ b) ∧ ∀ p ∈ X.pn ++ pins, p.1 ≠ b) :
    Inv X pins σ H' { s with heap := h', gens := g', drawn := d', toks := t' } := by
  obtain ⟨m, ⟨o, es, ep, ho, r⟩, _⟩ := id I.loc
  obtain ⟨sl, hL⟩ := u.any ho I.free fun z => (hch _ z).2.1 rfl
  exact I.step (ch := ch) hch (fun b o hL hb hc e n => u.keep b o e n (fun z => (List.mem_cons.mp (I.stkSub b z)).elim hL hb) hc) (fun b o _ _ hc e n => u.any e n hc) (fun b o hc e n => u.free b o e n hc) (fun b o hc e => u.there b o e hc) u.tups u.frzs u.tbls (fun m' hm => by
    obtain ⟨o', es', ep', ho', r'⟩ := hm
    rw [ho] at ho'; cases ho'
    exact ⟨_, es', ep', hL, r'⟩) hok hg
/-- an untracked record of ours (an iterator) has turned -/
theorem Inv.turned {t' : Nat} {it : Addr} (I : Inv X pins σ H s) (k : ∀ b o, b ≠ it → s.heap.get? b = some o → h'.get? b = some o) (hn : H it = none) (hL : it ≠ X.env.locals)
    (h1 : it ∈ X.ex ∨ X.s₀.heap.objs.size ≤ it) (h2 : ∀ x c, X.env.cells.lookup x = some c → c ≠ it) (h3 : ∀ p ∈ X.pn ++ pins, p.1 ≠ it) : Inv X pins σ H { s with heap := h', toks := t' } := by
  have nit : ∀ b u, H b = some u → b ≠ it := fun b u e z => by rw [z, hn] at e; cases e
  refine I.step (g' := s.gens) (d' := s.drawn) (ch := [it]) (fun b hb => ?_) (fun b o _ _ hc e _ => k b o (fun z => hc (by simp [z])) e) (fun b o _ _ hc e _ => ⟨o.slots, k b o (fun z => hc (by simp [z])) e⟩) (fun _ _ _ _ n => n)
    (fun b o hc e => ⟨o, k b o (fun z => hc (by simp [z])) e⟩) (fun _ _ e => e) (fun _ _ _ e => e) (fun b ps e => ⟨#[], by rw [e]; simp⟩) (fun m hm => ?_) (fun b u e => ?_) I.bare
  · have e : b = it := by simpa using hb
    subst e
    exact ⟨h1, hL, h2, h3⟩
  · obtain ⟨o, es, ep, ho, r⟩ := hm
    exact ⟨o, es, ep, k _ o (Ne.symm hL) ho, r⟩
  · refine (I.hok b u e).stay (fun c v hc q => k c v ?_ q) (fun _ q => q) fun _ _ q => q
    rcases hc with z | z
    · rw [z]; exact nit b u e
    · exact nit c _ z
theorem Inv.tok (I : Inv X pins σ H s) (t : Nat) : Inv X pins σ H { s with toks := t } := I.un (h' := s.heap) (t' := t) Un.refl I.hok
/-- all objects kept -/
theorem Inv.kept {t' : Nat} (I : Inv X pins σ H s) (k : ∀ b u, s.heap.get? b = some u → h'.get? b = some u) : Inv X pins σ H { s with heap := h', toks := t' } := I.un (Un.kept k) (I.hok.kept k)
/-- a new object laid and tracked -/
theorem Inv.laid {a : Addr} {o : HO} {t' : Nat} (I : Inv X pins σ H s) (k : ∀ b u, s.heap.get? b = some u → h'.get? b = some u) (hp : s.heap.objs.size ≤ a) (new : ObjOk X.prog X.w (upd H a o) h' a o) :
    Inv X pins σ (upd H a o) { s with heap := h', toks := t' } := I.un (Un.laid k hp (I.hok.fresh hp)) (I.hok.laid k hp new)
/-- an object written -/
theorem Inv.write {x e : Addr} {o : HO} {t' : Nat} (I : Inv X pins σ H s) (mu : Mut (H x)) (he : e = x ∨ H e = some (.own x)) (k : ∀ b u, b ≠ e → s.heap.get? b = some u → h'.get? b = some u) (heo : ∃ u, h'.get? e = some u)
    (new : ObjOk X.prog X.w (upd H x o) h' x o) : Inv X pins σ (upd H x o) { s with heap := h', toks := t' } := I.un (Un.write mu he k heo) (I.hok.write mu he k heo new)
/-- forgetting slots, pins -/
theorem Inv.weak {σ' : List (Option V)} (I : Inv X pins σ H s) (hl : σ'.length = σ.length) (w : ∀ (i : Nat) v, σ'[i]? = some (some v) → σ[i]? = some (some v)) : Inv X pins σ' H s :=
  ⟨I.ok, I.os, I.bare, I.base, let ⟨m, hn, hl'⟩ := I.loc; ⟨m, hn, fun i x v e1 e2 e3 => hl' i x v e1 (w i v e2) e3⟩, I.cell, I.free, I.freeC, I.pin, I.hok, hl.trans I.len⟩
theorem Inv.pins_of {pins' : List (Addr × Obj)} (I : Inv X pins σ H s) (h : ∀ p ∈ pins', s.heap.get? p.1 = some p.2 ∧ H p.1 = none ∧ p.1 ≠ X.env.locals ∧ p.1 ∉ X.fs ∧ ∀ v, p.2.data ≠ .cell v) : Inv X pins' σ H s :=
  ⟨I.ok, I.os, I.bare, I.base, I.loc, I.cell, I.free, I.freeC, fun p hp => (List.mem_append.mp hp).elim (fun z => I.pin p (List.mem_append_left _ z)) (h p), I.hok, I.len⟩

theorem nodup_ix {N : List Str} (hN : N.Nodup) {i j : Nat} {x : Str} (a : N[i]? = some x) (b : N[j]? = some x) : i = j := by
  obtain ⟨h1, e1⟩ := List.getElem?_eq_some_iff.mp a
  obtain ⟨h2, e2⟩ := List.getElem?_eq_some_iff.mp b
  exact (List.getElem_inj hN).mp (e1.trans e2.symm)

/-- a name is stored; what changed -/
theorem store_ok2 {M : Model} {A : Around} {E : Value → Shared → Prop} {i : Nat} {x : Str} {v : V} {u : Value} {Q : Unit → Shared → Prop} (I : Inv X pins σ H s) (hN : X.N.Nodup) (hi : X.N[i]? = some x) (hx : Loc X.env.scope x) (r : RelV v u)
    (h : ∀ s', Inv X pins (σ.set i (some v)) H s' → (∃ a, Heap.SameBut a s.heap s'.heap ∧ (a = X.env.locals ∨ X.env.cells.lookup x = some a)) → Q () s') (hf : X.fn x = true ∨ X.env.scope.names.lookup x = some .local := by first | exact .inl rfl | exact .inr rfl | assumption) : wpAny M A (storeName X.env x u) Q E s := by
  obtain ⟨m, hn, hl⟩ := id I.loc
  have hcls : (X.env.scope.kind == .class || (X.env.scope.kind == .module && X.env.locals != X.env.globals)) = false := by rw [I.ok.kind]; rfl
  have hiσ : i < σ.length := by rw [I.len]; exact (List.getElem?_eq_some_iff.mp hi).1
  have cne := I.cne
  have tracked : ∀ {a : Addr} {h' : Heap}, (∃ o, s.heap.get? a = some o ∧ H a = none) → Heap.SameBut a s.heap h' → HOk X.prog X.w H h' := fun {a h'} ha hs b ob e => by
    obtain ⟨_, _, hfree⟩ := ha
    refine (I.hok b ob e).stay (fun c w' hc q => (hs.2 c ?_).trans q) (fun _ q => q) fun _ _ q => q
    rintro rfl
    rcases hc with rfl | hc
    · rw [hfree] at e; cases e
    · rw [hfree] at hc; cases hc
  rcases hx with hk | hk
  · refine wpAny_storeName_local hk hn (fun h' hn' hs => ?_) hcls
    obtain ⟨oL, _, _, hoL, _⟩ := id hn
    refine h _ ⟨I.ok, I.os, I.bare, ⟨fun b o e n hb hx => ?_, fun b o e n hb hx => ?_, I.base.free, fun b o e hx => ?_, I.base.tups, I.base.frzs, I.base.tbls⟩, ⟨_, hn', fun j y v' e1 e2 e3 => ?_⟩, fun y c e => ?_, I.free, I.freeC, fun p hp => ?_, tracked ⟨oL, hoL, I.free⟩ hs, by simpa using I.len⟩ ⟨_, hs, .inl rfl⟩
    · exact (hs.2 b (Nat.ne_of_lt (Nat.lt_of_lt_of_le (Heap.lt_size e) I.ok.above))).trans (I.base.keep b o e n hb hx)
    · obtain ⟨sl, e1⟩ := I.base.slot b o e n hb hx
      exact ⟨sl, (hs.2 b (Nat.ne_of_lt (Nat.lt_of_lt_of_le (Heap.lt_size e) I.ok.above))).trans e1⟩
    · obtain ⟨o', e1⟩ := I.base.there b o e hx
      exact ⟨o', (hs.2 b (Nat.ne_of_lt (Nat.lt_of_lt_of_le (Heap.lt_size e) I.ok.above))).trans e1⟩
    · by_cases hj : j = i
      · subst hj
        rw [hi] at e1; cases e1
        rw [List.getElem?_set_self hiσ] at e2
        cases e2
        exact ⟨u, r, .inl ⟨hk, by simp⟩⟩
      · rw [List.getElem?_set_ne (Ne.symm hj)] at e2
        obtain ⟨u', r', q⟩ := hl j y v' e1 e2 e3
        refine ⟨u', r', ?_⟩
        rcases q with ⟨k, e⟩ | ⟨k, c, e, z⟩
        · refine .inl ⟨k, ?_⟩
          have : y ≠ x := fun e => hj (nodup_ix hN e1 (e ▸ hi))
          simp [this, e]
        · exact .inr ⟨k, c, e, z.sameBut hs (cne y c e)⟩
    · obtain ⟨w', z⟩ := I.cell y c e
      exact ⟨w', z.sameBut hs (cne y c e)⟩
    · obtain ⟨e, n, ne, nf, d⟩ := I.pin p hp
      exact ⟨(hs.2 p.1 ne).trans e, n, ne, nf, d⟩
  · have hfn : X.fn x = true := by
      rcases hf with z | z
      · exact z
      · rw [z] at hk; cases hk
    obtain ⟨c, hc⟩ := I.ok.has x (.inl hk)
    obtain ⟨w', z⟩ := I.cell x c hc
    refine wpAny_storeName_cell I.ok.kind hk hc z (fun h' hc' hs => ?_)
    obtain ⟨oc, hoc, hocd⟩ := id z
    refine h { s with heap := h' } ⟨I.ok, I.os, I.bare, ⟨fun b o e n hb hx => ?_, fun b o e n hb hx => ?_, I.base.free, fun b o e hx => ?_, I.base.tups, I.base.frzs, I.base.tbls⟩, ⟨m, hn.sameBut hs (Ne.symm (cne x c hc)), fun j y v' e1 e2 e3 => ?_⟩, fun y c' e => ?_, I.free, I.freeC, fun p hp => ?_, tracked ⟨oc, hoc, I.freeC x c hc⟩ hs, by simpa using I.len⟩ ⟨c, hs, .inr hc⟩
    · exact (hs.2 b (Nat.ne_of_lt (Nat.lt_of_lt_of_le (Heap.lt_size e) (I.ok.cab x c hfn hc)))).trans (I.base.keep b o e n hb hx)
    · obtain ⟨sl, e1⟩ := I.base.slot b o e n hb hx
      exact ⟨sl, (hs.2 b (Nat.ne_of_lt (Nat.lt_of_lt_of_le (Heap.lt_size e) (I.ok.cab x c hfn hc)))).trans e1⟩
    · obtain ⟨o', e1⟩ := I.base.there b o e hx
      exact ⟨o', (hs.2 b (Nat.ne_of_lt (Nat.lt_of_lt_of_le (Heap.lt_size e) (I.ok.cab x c hfn hc)))).trans e1⟩
    · by_cases hj : j = i
      · subst hj
        rw [hi] at e1; cases e1
        rw [List.getElem?_set_self hiσ] at e2
        cases e2
        exact ⟨u, r, .inr ⟨.inl hk, c, hc, hc'⟩⟩
      · rw [List.getElem?_set_ne (Ne.symm hj)] at e2
        obtain ⟨u', r', q⟩ := hl j y v' e1 e2 e3
        refine ⟨u', r', ?_⟩
        rcases q with q | ⟨k, c', e, z'⟩
        · exact .inl q
        · refine .inr ⟨k, c', e, z'.sameBut hs ?_⟩
          rintro rfl
          exact hj (nodup_ix hN e1 (I.ok.inj _ _ _ e hc ▸ hi))
    · by_cases hcc : c' = c
      · subst hcc; exact ⟨_, hc'⟩
      · obtain ⟨w2, z2⟩ := I.cell y c' e
        exact ⟨w2, z2.sameBut hs hcc⟩
    · obtain ⟨e, n, ne, nf, d⟩ := I.pin p hp
      refine ⟨(hs.2 p.1 ?_).trans e, n, ne, nf, d⟩
      intro q
      rw [q, hoc] at e
      have q' : oc = p.2 := Option.some.inj e
      exact d w' (by rw [← q']; exact hocd)
theorem store_ok {M : Model} {A : Around} {E : Value → Shared → Prop} {i : Nat} {x : Str} {v : V} {u : Value} {Q : Unit → Shared → Prop} (I : Inv X pins σ H s) (hN : X.N.Nodup) (hi : X.N[i]? = some x) (hx : Loc X.env.scope x) (r : RelV v u)
    (h : ∀ s', Inv X pins (σ.set i (some v)) H s' → Q () s') (hf : X.fn x = true ∨ X.env.scope.names.lookup x = some .local := by first | exact .inl rfl | exact .inr rfl | assumption) : wpAny M A (storeName X.env x u) Q E s :=
  store_ok2 I hN hi hx r (fun s' I' _ => h s' I') hf
/-- behind a call or a block, the state as it is -/
theorem Inv.call' {s' : Shared} {ch : List Addr} (I : Inv X pins σ H s) (ho : s'.os = s.os) (u : Un (frs X.stack) ch H H' s.heap s'.heap) (hok : HOk X.prog X.w H' s'.heap) (hg : AllBare s'.gens)
    (hch : ∀ b ∈ ch, (b ∈ X.ex ∨ X.s₀.heap.objs.size ≤ b) ∧ b ≠ X.env.locals ∧ (∀ x c, X.env.cells.lookup x = some c → c ≠ b) ∧ ∀ p ∈ X.pn ++ pins, p.1 ≠ b) : Inv X pins σ H' s' := by
  obtain ⟨h', g', d', t', o'⟩ := s'
  have e : o' = s.os := ho
  subst e
  exact I.call (g' := g') (t' := t') (d' := d') u hok hg hch
end

/-! ### the judgements -/
/-- an exception: its class, its own dict's address (where it has one), the abstract heap behind it -/
abbrev XK := Value → Option Addr → Hp → Prop
abbrev St := List (Option V)
abbrev VK := V → Hp → Prop
/-- an expression's reading; a test's; an argument list's -/
abbrev TE := St → Hp → VK → Prop
abbrev TT := St → Hp → (Bool → Hp → Prop) → Prop
abbrev TA := St → Hp → (List V → Hp → Prop) → Prop
/-- what is wanted behind a statement -/
structure Ends where
  nx : St → Hp → Prop
  rt : VK
  bk : St → Hp → Prop := fun _ _ => False
  ct : St → Hp → Prop := fun _ _ => False
abbrev TS := Ends → St → Hp → Prop

def EP (X : Cx) (pins : List (Addr × Obj)) (σ : St) (Q : VK) (u : Value) (s' : Shared) : Prop := ∃ v H', Inv X pins σ H' s' ∧ RelV v u ∧ Q v H'
def TP (X : Cx) (pins : List (Addr × Obj)) (σ : St) (Q : Bool → Hp → Prop) (b : Bool) (s' : Shared) : Prop := ∃ H', Inv X pins σ H' s' ∧ Q b H'
def AP (X : Cx) (pins : List (Addr × Obj)) (σ : St) (Q : List V → Hp → Prop) (us : List Value) (s' : Shared) : Prop := ∃ vs H', Inv X pins σ H' s' ∧ Vals vs us ∧ Q vs H'
def SP (X : Cx) (pins : List (Addr × Obj)) (D : Ends) (f : Flow) (s' : Shared) : Prop :=
  match f with
  | .next => ∃ σ' H', Inv X pins σ' H' s' ∧ D.nx σ' H'
  | .brk => ∃ σ' H', Inv X pins σ' H' s' ∧ D.bk σ' H'
  | .cont => ∃ σ' H', Inv X pins σ' H' s' ∧ D.ct σ' H'
  | .ret u => ∃ v σ' H', Inv X pins σ' H' s' ∧ RelV v u ∧ D.rt v H'

def PE (X : Cx) (e : Expr) (t : TE) : Prop :=
  ∀ (pins : List (Addr × Obj)) (s : Shared) (σ : St) (H : Hp) (Q : VK), Inv X pins σ H s → t σ H Q → wpAny (model X.prog X.w) X.A (eval e X.env) (EP X pins σ Q) X.xe s
def PT (X : Cx) (e : Expr) (t : TT) : Prop :=
  ∀ (pins : List (Addr × Obj)) (s : Shared) (σ : St) (H : Hp) (Q : Bool → Hp → Prop), Inv X pins σ H s → t σ H Q → wpAny (model X.prog X.w) X.A (isTrue e X.env (eval e X.env)) (TP X pins σ Q) X.xe s
/-- a test whatever its 'whole' is (and, or) -/
def PW (X : Cx) (e : Expr) (t : TT) : Prop :=
  ∀ (whole : Sem Value) (pins : List (Addr × Obj)) (s : Shared) (σ : St) (H : Hp) (Q : Bool → Hp → Prop), Inv X pins σ H s → t σ H Q → wpAny (model X.prog X.w) X.A (isTrue e X.env whole) (TP X pins σ Q) X.xe s
theorem PW.pt {X : Cx} {e : Expr} {t : TT} (h : PW X e t) : PT X e t := h _
/-- an argument list (no star), from the left -/
def PA (X : Cx) (es : List Expr) (t : TA) : Prop :=
  ∀ (pos : Pos) (pins : List (Addr × Obj)) (s : Shared) (σ : St) (H : Hp) (Q : List V → Hp → Prop), Inv X pins σ H s → t σ H Q → wpAny (model X.prog X.w) X.A (spliced (backTo pos (starEach es X.env))) (AP X pins σ Q) X.xe s
def PS (X : Cx) (st : Stmt) (t : TS) : Prop :=
  ∀ (pins : List (Addr × Obj)) (s : Shared) (σ : St) (H : Hp) (D : Ends), Inv X pins σ H s → t D σ H → wpAny (model X.prog X.w) X.A (exec st X.env) (SP X pins D) X.xe s
def PSs (X : Cx) (st : List Stmt) (t : TS) : Prop :=
  ∀ (pins : List (Addr × Obj)) (s : Shared) (σ : St) (H : Hp) (D : Ends), Inv X pins σ H s → t D σ H → wpAny (model X.prog X.w) X.A (execs st X.env) (SP X pins D) X.xe s
/-- weaken the end -/
theorem thn {α : Type} {t : Sem α} {Q Q' : α → Shared → Prop} {M : Model} {A : Around} {E : Value → Shared → Prop} {s : Shared} (h : wpAny M A t Q E s) (hQ : ∀ a s, Q a s → Q' a s) : wpAny M A t Q' E s := wpAny_mono h hQ fun _ _ x => x
end L2

namespace L2
open PySem PySem.Spec PyProof.Rows
section
variable {X : Cx}

/-- two expressions in a row -/
theorem bin {a b : Expr} {ta tb : TE} (ha : PE X a ta) (hb : PE X b tb) {pins : List (Addr × Obj)} {s : Shared} {σ : St} {H : Hp} {R : V → V → Hp → Prop} (I : Inv X pins σ H s) (h : ta σ H fun x H1 => tb σ H1 fun y H2 => R x y H2)
    {α : Type} {Q : α → Shared → Prop} {f : Value → Value → Sem α}
    (hf : ∀ v u s2 x y H2, Inv X pins σ H2 s2 → RelV x v → RelV y u → R x y H2 → wpAny (model X.prog X.w) X.A (f v u) Q X.xe s2) :
    wpAny (model X.prog X.w) X.A (eval a X.env) (fun v s₁ => wpAny (model X.prog X.w) X.A (eval b X.env) (fun u s₂ => wpAny (model X.prog X.w) X.A (f v u) Q X.xe s₂) X.xe s₁) X.xe s := by
  refine thn (ha pins s σ H _ I h) fun v s1 ⟨x, H1, I1, r1, q1⟩ => ?_
  refine thn (hb pins s1 σ H1 _ I1 q1) fun u s2 ⟨y, H2, I2, r2, q2⟩ => ?_
  exact hf v u s2 x y H2 I2 r1 r2 q2

/-! ### names and constants -/
def tVar (i : Nat) : TE := fun σ H Q => ∃ v, σ[i]? = some (some v) ∧ Q v H
def tC (v : V) : TE := fun _ H Q => Q v H
theorem pe_var {i : Nat} {x : Str} {pos : Pos} (hN : X.N[i]? = some x) (hv : Vis X.env.scope x) (hd : (x == ("__debug__" : Str)) = false := by decide) (hcd : (x == ("__classdict__" : Str)) = false := by decide) : PE X (.Name x pos) (tVar i) := by
  intro pins s σ H Q I h
  obtain ⟨v, e, h⟩ := h
  obtain ⟨m, hn, hl⟩ := I.loc
  obtain ⟨u, r, l⟩ := hl i x v hN e hv
  have fin : EP X pins σ Q u s := ⟨v, H, I, r, h⟩
  rcases l with ⟨hk, hm⟩ | ⟨hk, c, hc, hcell⟩
  · exact wpAny_Name (wpAny_loadName_local I.ok.kind hk hn hm fin) hd
  · rcases hk with hk | hk
    · exact wpAny_Name (wpAny_loadName_cell I.ok.kind hk hc hcell fin) hd
    · exact wpAny_Name (wpAny_loadName_free I.ok.kind hk hc hcell fin hcd) hd
theorem pe_int {i j pos} : PE X (.Constant (.int i) j pos) (tC (.int i)) := fun _ _ _ H _ I h => wpAny_Constant_int ⟨.int i, H, I.tok _, ⟨_, rfl⟩, h⟩
theorem pe_bl {b j pos} : PE X (.Constant (.bool b) j pos) (tC (.bl b)) := fun _ _ _ H _ I h => Constant_bool ⟨.bl b, H, I, rfl, h⟩
theorem pe_non {j pos} : PE X (.Constant .none j pos) (tC .non) := fun _ _ _ H _ I h => Constant_none ⟨.non, H, I, rfl, h⟩
theorem pe_str {x j pos} : PE X (.Constant (.str x) j pos) (tC (.str x)) := fun _ _ _ H _ I h => Calls.Constant_str ⟨.str x, H, I.tok _, ⟨_, rfl⟩, h⟩

/-- a global name of the def -/
def Gl (X : Cx) (x : Str) : Prop := X.env.kindOf x = some .globalImplicit
theorem ld_glob {E : Value → Shared → Prop} {pins : List (Addr × Obj)} {s : Shared} {σ : St} {H : Hp} {x : Str} {u : Value} {pos : Pos} {Q : Value → Shared → Prop} (I : Inv X pins σ H s) (hg : Gl X x) (hm : X.mg x = some u) (h : Q u s)
    (hd : (x == ("__debug__" : Str)) = false := by decide) : wpAny (model X.prog X.w) X.A (eval (.Name x pos) X.env) Q E s :=
  Calls.Name_function_global I.ok.kind hg (Calls.loadGlobal_global (by rw [I.ok.glob]; exact I.mod.glob.keeps I.bk) hm h) hd
theorem ld_blt {E : Value → Shared → Prop} {pins : List (Addr × Obj)} {s : Shared} {σ : St} {H : Hp} {x : Str} {u : Value} {pos : Pos} {Q : Value → Shared → Prop} (I : Inv X pins σ H s) (hg : Gl X x) (hm : X.mg x = none) (hv : bootBuiltins x = some u) (h : Q u s)
    (hn : x ≠ "__name__" := by decide) (hd : (x == ("__debug__" : Str)) = false := by decide) : wpAny (model X.prog X.w) X.A (eval (.Name x pos) X.env) Q E s := by
  obtain ⟨mb, h1, h2⟩ := I.mod.blt
  exact Calls.Name_function_global I.ok.kind hg (Calls.loadGlobal_builtin (by rw [I.ok.glob]; exact I.mod.glob.keeps I.bk) hm (by rw [I.ok.blt]; exact h1.keeps I.bk) ((h2 x hn).trans hv) h) hd
/-- a module's constant, a class, a function, as a value -/
theorem pe_glob {x : Str} {v : V} {u : Value} {pos : Pos} (hg : Gl X x) (hm : X.mg x = some u) (r : RelV v u) (hd : (x == ("__debug__" : Str)) = false := by decide) : PE X (.Name x pos) (tC v) :=
  fun _ _ _ H _ I h => ld_glob I hg hm ⟨v, H, I, r, h⟩ hd
theorem pe_bltn {x : Str} {v : V} {u : Value} {pos : Pos} (hg : Gl X x) (hm : X.mg x = none) (hv : bootBuiltins x = some u) (r : RelV v u) (hn : x ≠ "__name__" := by decide) (hd : (x == ("__debug__" : Str)) = false := by decide) : PE X (.Name x pos) (tC v) :=
  fun _ _ _ H _ I h => ld_blt I hg hm hv ⟨v, H, I, r, h⟩ hn hd

/-! ### arithmetic -/
/-- two ints -/
def t2I (ta tb : TE) (k : Int → Int → Hp → Prop) : St → Hp → Prop := fun σ H => ta σ H fun x H1 => tb σ H1 fun y H2 => ∃ i j, x = .int i ∧ y = .int j ∧ k i j H2
def tAdd (ta tb : TE) : TE := fun σ H Q => t2I ta tb (fun i j H2 => Q (.int (i + j)) H2) σ H
def tSub (ta tb : TE) : TE := fun σ H Q => t2I ta tb (fun i j H2 => Q (.int (i - j)) H2) σ H
/-- the left factor below 2^64 -/
def tMul (ta tb : TE) : TE := fun σ H Q => t2I ta tb (fun i j H2 => (-(2 ^ 64) < i ∧ i < 2 ^ 64) ∧ Q (.int (i * j)) H2) σ H
variable {a b : Expr} {ta tb : TE} {pos : Pos}
theorem pe_add (ha : PE X a ta) (hb : PE X b tb) : PE X (.BinOp a .Add b pos) (tAdd ta tb) := by
  intro pins s σ H Q I h
  refine wpAny_BinOp (bin ha hb I h fun v u s2 x y H2 I2 rx ry q => ?_)
  obtain ⟨i, j, rfl, rfl, q⟩ := q
  obtain ⟨t, rfl⟩ := rx
  obtain ⟨t', rfl⟩ := ry
  exact add_int ⟨.int _, H2, I2.tok _, ⟨_, rfl⟩, q⟩
theorem pe_sub (ha : PE X a ta) (hb : PE X b tb) : PE X (.BinOp a .Sub b pos) (tSub ta tb) := by
  intro pins s σ H Q I h
  refine wpAny_BinOp (bin ha hb I h fun v u s2 x y H2 I2 rx ry q => ?_)
  obtain ⟨i, j, rfl, rfl, q⟩ := q
  obtain ⟨t, rfl⟩ := rx
  obtain ⟨t', rfl⟩ := ry
  exact sub_int ⟨.int _, H2, I2.tok _, ⟨_, rfl⟩, q⟩
theorem pe_mul (ha : PE X a ta) (hb : PE X b tb) : PE X (.BinOp a .Mult b pos) (tMul ta tb) := by
  intro pins s σ H Q I h
  refine wpAny_BinOp (bin ha hb I h fun v u s2 x y H2 I2 rx ry q => ?_)
  obtain ⟨i, j, rfl, rfl, ⟨q1, q2⟩, q⟩ := q
  obtain ⟨t, rfl⟩ := rx
  obtain ⟨t', rfl⟩ := ry
  exact mul_int ⟨.int _, H2, I2.tok _, ⟨_, rfl⟩, q⟩ (.of_left (intBits_le_64 q1 q2))

/-! ### comparisons -/
def PC (X : Cx) (op : CmpOp) (a b : Expr) (t : TE) : Prop :=
  ∀ (pins : List (Addr × Obj)) (s : Shared) (σ : St) (H : Hp) (Q : VK), Inv X pins σ H s → t σ H Q →
    wpAny (model X.prog X.w) X.A (eval a X.env) (fun v s₁ => wpAny (model X.prog X.w) X.A (eval b X.env) (fun u s₂ => wpAny (model X.prog X.w) X.A (compareOp op v u) (EP X pins σ Q) X.xe s₂) X.xe s₁) X.xe s
theorem nobehind (b : Expr) {op : CmpOp} (h : op ≠ .In) (h2 : op ≠ .NotIn) : behindInMarks op b = false := by
  have e1 : (op == CmpOp.In) = false := by cases op <;> first | rfl | exact absurd rfl h
  have e2 : (op == CmpOp.NotIn) = false := by cases op <;> first | rfl | exact absurd rfl h2
  cases b <;> simp [behindInMarks, e1, e2]
def tCmp (p : Int → Int → Bool) (ta tb : TE) : TE := fun σ H Q => t2I ta tb (fun i j H2 => Q (.bl (p i j)) H2) σ H
abbrev tLt : TE → TE → TE := tCmp fun i j => decide (i < j)
abbrev tLe : TE → TE → TE := tCmp fun i j => decide (i ≤ j)
abbrev tGt : TE → TE → TE := tCmp fun i j => decide (j < i)
abbrev tGe : TE → TE → TE := tCmp fun i j => decide (j ≤ i)
abbrev tEqI : TE → TE → TE := tCmp fun i j => decide (i = j)
abbrev tNeI : TE → TE → TE := tCmp fun i j => !decide (i = j)
/-- a comparison of two ints, by its rule -/
theorem pc_int {op : CmpOp} {p : Int → Int → Bool} (ha : PE X a ta) (hb : PE X b tb)
    (rule : ∀ (i j : Int) (t u : Tok) (Q : Value → Shared → Prop) (s : Shared), Q (.bool (p i j)) s → wpAny (model X.prog X.w) X.A (compareOp op (.int i t) (.int j u)) Q X.xe s) : PC X op a b (tCmp p ta tb) := by
  intro pins s σ H Q I h
  refine bin ha hb I h fun v u s2 x y H2 I2 rx ry q => ?_
  obtain ⟨i, j, rfl, rfl, q⟩ := q
  obtain ⟨t, rfl⟩ := rx
  obtain ⟨t', rfl⟩ := ry
  exact rule i j t t' _ s2 ⟨.bl _, H2, I2, rfl, q⟩
theorem pc_lt (ha : PE X a ta) (hb : PE X b tb) : PC X .Lt a b (tLt ta tb) := pc_int ha hb fun _ _ _ _ _ _ h => lt_int h
theorem pc_le (ha : PE X a ta) (hb : PE X b tb) : PC X .LtE a b (tLe ta tb) := pc_int ha hb fun _ _ _ _ _ _ h => le_int h
theorem pc_gt (ha : PE X a ta) (hb : PE X b tb) : PC X .Gt a b (tGt ta tb) := pc_int ha hb fun _ _ _ _ _ _ h => gt_int h
theorem pc_ge (ha : PE X a ta) (hb : PE X b tb) : PC X .GtE a b (tGe ta tb) := pc_int ha hb fun _ _ _ _ _ _ h => ge_int h
theorem pc_eqI (ha : PE X a ta) (hb : PE X b tb) : PC X .Eq a b (tEqI ta tb) := pc_int ha hb fun _ _ _ _ _ _ h => eq_int (by rw [Bool.beq_eq_decide_eq]; exact h)
theorem pc_neI (ha : PE X a ta) (hb : PE X b tb) : PC X .NotEq a b (tNeI ta tb) := pc_int ha hb fun _ _ _ _ _ _ h => ne_int (by rw [bne, Bool.beq_eq_decide_eq]; exact h)
/-- is None -/
def tIsN (ta : TE) : TE := fun σ H Q => ta σ H fun x H1 => Q (.bl (decide (x = .non))) H1
def tNotN (ta : TE) : TE := fun σ H Q => ta σ H fun x H1 => Q (.bl (!decide (x = .non))) H1
theorem RelV.none_iff {x : V} {v : Value} (r : RelV x v) : (v == Value.none) = decide (x = .non) := by
  cases x with
  | non => cases r; rfl
  | bl _ => cases r; rfl
  | int _ => obtain ⟨t, rfl⟩ := r; rfl
  | str _ => obtain ⟨t, rfl⟩ := r; rfl
  | byt _ => obtain ⟨t, rfl⟩ := r; rfl
  | flt _ => obtain ⟨t, rfl⟩ := r; rfl
  | ref _ => cases r; rfl
  | ty _ => cases r; rfl
theorem pc_isN {j pos'} (ha : PE X a ta) : PC X .Is a (.Constant .none j pos') (tIsN ta) := by
  intro pins s σ H Q I h
  refine thn (ha pins s σ H _ I h) fun v s1 ⟨x, H1, I1, r1, q1⟩ => ?_
  exact Constant_none (is_none_gen ⟨.bl _, H1, I1, by rw [r1.none_iff]; rfl, q1⟩)
theorem pc_notN {j pos'} (ha : PE X a ta) : PC X .IsNot a (.Constant .none j pos') (tNotN ta) := by
  intro pins s σ H Q I h
  refine thn (ha pins s σ H _ I h) fun v s1 ⟨x, H1, I1, r1, q1⟩ => ?_
  exact Constant_none (isnot_none_gen ⟨.bl _, H1, I1, by rw [r1.none_iff]; rfl, q1⟩)
/-- a comparison as a value, as a test -/
def tB (t : TE) : TT := fun σ H Q => t σ H fun x H1 => ∃ c, x = .bl c ∧ Q c H1
theorem pe_cmp {op : CmpOp} {t : TE} (h : PC X op a b t) (h1 : behindInMarks op b = false := by first | exact nobehind _ (by decide) (by decide) | rfl) : PE X (.Compare a [op] [b] pos) t := fun pins s σ H Q I hw => wpAny_Compare1 (h pins s σ H Q I hw) h1
theorem pt_cmp {op : CmpOp} {t : TE} (h : PC X op a b t) (h1 : behindInMarks op b = false := by first | exact nobehind _ (by decide) (by decide) | rfl) : PT X (.Compare a [op] [b] pos) (tB t) := by
  intro pins s σ H Q I hw
  refine wpAny_isTrue_Compare1 (thn (h pins s σ H _ I hw) fun v s1 h1 => thn h1 fun u s2 h2 => thn h2 fun c s3 ⟨x, H1, I1, r1, q1⟩ => ?_) h1
  obtain ⟨d, rfl, q⟩ := q1
  cases r1
  exact wpAny_truthy_bool ⟨H1, I1, q⟩
/-- an expression whose value is a bool, as a test -/
theorem pt_val {e : Expr} {t : TE} (h : PE X e t) (he : ∀ whole, isTrue e X.env whole = (do let v ← whole; standAt e.pos; holding [v] (truthy v)) := by intro _; rfl) : PT X e (tB t) := by
  intro pins s σ H Q I hw
  refine isTrue_plain (thn (h pins s σ H _ I hw) fun v s1 ⟨x, H1, I1, r1, q1⟩ => ?_) (he _)
  obtain ⟨d, rfl, q⟩ := q1
  cases r1
  exact wpAny_truthy_bool ⟨H1, I1, q⟩

/-! ### and, or, not -/
variable {tA tB' : TT} {rest : List Expr}
def tAnd (t u : TT) : TT := fun σ H Q => t σ H fun c H1 => if c = true then u σ H1 Q else Q false H1
def tOr (t u : TT) : TT := fun σ H Q => t σ H fun c H1 => if c = true then Q true H1 else u σ H1 Q
def tNot (t : TT) : TT := fun σ H Q => t σ H fun c H1 => Q (!c) H1
theorem pw_and1 (ha : PT X a tA) : PW X (.BoolOp .And [a] pos) tA := by
  intro wh pins s σ H Q I h
  refine isTrue_and (thn (ha pins s σ H Q I h) fun c s1 e => ?_)
  cases c with
  | true => exact isTrue_and_nil e
  | false => exact e
theorem pw_or1 (ha : PT X a tA) : PW X (.BoolOp .Or [a] pos) tA := by
  intro wh pins s σ H Q I h
  refine isTrue_or (thn (ha pins s σ H Q I h) fun c s1 e => ?_)
  cases c with
  | false => exact isTrue_or_nil e
  | true => exact e
theorem pw_and (ha : PT X a tA) (hb : PW X (.BoolOp .And (b :: rest) pos) tB') : PW X (.BoolOp .And (a :: b :: rest) pos) (tAnd tA tB') := by
  intro wh pins s σ H Q I h
  refine isTrue_and (thn (ha pins s σ H _ I h) fun c s1 ⟨H1, I1, q1⟩ => ?_)
  cases c with
  | true => exact hb wh pins s1 σ H1 Q I1 q1
  | false => exact ⟨H1, I1, q1⟩
theorem pw_or (ha : PT X a tA) (hb : PW X (.BoolOp .Or (b :: rest) pos) tB') : PW X (.BoolOp .Or (a :: b :: rest) pos) (tOr tA tB') := by
  intro wh pins s σ H Q I h
  refine isTrue_or (thn (ha pins s σ H _ I h) fun c s1 ⟨H1, I1, q1⟩ => ?_)
  cases c with
  | true => exact ⟨H1, I1, q1⟩
  | false => exact hb wh pins s1 σ H1 Q I1 q1
theorem pt_not (ha : PT X a tA) : PT X (.UnaryOp .Not a pos) (tNot tA) := by
  intro pins s σ H Q I h
  exact isTrue_not (ha pins s σ H (fun c H1 => Q (!c) H1) I h)
/-- .. as values (bools) -/
def tAndV (ta tb : TE) : TE := fun σ H Q => ta σ H fun x H1 => ∃ c, x = .bl c ∧ if c = true then tb σ H1 Q else Q (.bl false) H1
def tOrV (ta tb : TE) : TE := fun σ H Q => ta σ H fun x H1 => ∃ c, x = .bl c ∧ if c = true then Q (.bl true) H1 else tb σ H1 Q
def tNotV (ta : TE) : TE := fun σ H Q => ta σ H fun x H1 => ∃ c, x = .bl c ∧ Q (.bl (!c)) H1
theorem pe_one {op} {t : TE} (h : PE X a t) : PE X (.BoolOp op [a] pos) t := fun pins s σ H Q I hw => BoolOp_one (h pins s σ H Q I hw)
theorem pe_and (ha : PE X a ta) (hb : PE X (.BoolOp .And (b :: rest) pos) tb) : PE X (.BoolOp .And (a :: b :: rest) pos) (tAndV ta tb) := by
  intro pins s σ H Q I h
  refine BoolOp_and (thn (ha pins s σ H _ I h) fun v s1 ⟨x, H1, I1, r1, q1⟩ => ?_)
  obtain ⟨c, rfl, q1⟩ := q1
  cases r1
  refine wpAny_truthy_bool ?_
  cases c with
  | true => exact hb pins s1 σ H1 Q I1 q1
  | false => exact ⟨.bl false, H1, I1, rfl, q1⟩
theorem pe_or (ha : PE X a ta) (hb : PE X (.BoolOp .Or (b :: rest) pos) tb) : PE X (.BoolOp .Or (a :: b :: rest) pos) (tOrV ta tb) := by
  intro pins s σ H Q I h
  refine BoolOp_or (thn (ha pins s σ H _ I h) fun v s1 ⟨x, H1, I1, r1, q1⟩ => ?_)
  obtain ⟨c, rfl, q1⟩ := q1
  cases r1
  refine wpAny_truthy_bool ?_
  cases c with
  | false => exact hb pins s1 σ H1 Q I1 q1
  | true => exact ⟨.bl true, H1, I1, rfl, q1⟩
theorem pe_not (ha : PE X a ta) : PE X (.UnaryOp .Not a pos) (tNotV ta) := by
  intro pins s σ H Q I h
  refine UnaryOp_ (thn (ha pins s σ H _ I h) fun v s1 ⟨x, H1, I1, r1, q1⟩ => ?_)
  obtain ⟨c, rfl, q1⟩ := q1
  cases r1
  exact not_of (wpAny_truthy_bool ⟨.bl (!c), H1, I1, rfl, q1⟩)
/-- a if t else b -/
def tIf (t : TT) (ta tb : TE) : TE := fun σ H Q => t σ H fun c H1 => if c = true then ta σ H1 Q else tb σ H1 Q
theorem pe_ifExp {c : Expr} (hc : PT X c tA) (ha : PE X a ta) (hb : PE X b tb) : PE X (.IfExp c a b pos) (tIf tA ta tb) := by
  intro pins s σ H Q I h
  refine wpAny_IfExp (thn (hc pins s σ H _ I h) fun d s1 ⟨H1, I1, q1⟩ => ?_)
  cases d with
  | true => exact ha pins s1 σ H1 Q I1 q1
  | false => exact hb pins s1 σ H1 Q I1 q1
end
end L2

namespace L2
open PySem PySem.Spec PyProof.Rows

/-! ### a list, a tuple that is read: tracked, frozen, or an object of the module -/
def SqL (K : PySem.W.Frag) (H : Hp) (a : Addr) (xs : List V) : Prop :=
  Rd H a (.lst xs) ∨
    ∃ (o : Obj) (its : Array Value) (n : Nat), K.lookup a = some o ∧ o.cls = .type "list" ∧ o.dict = none ∧ o.data = .seq its n ∧ its.size ≤ sizeLine ∧ Vals xs its.toList
def SqT (K : PySem.W.Frag) (H : Hp) (a : Addr) (xs : List V) : Prop :=
  Rd H a (.tup xs) ∨
    ∃ (o : Obj) (its : Array Value) (n : Nat), K.lookup a = some o ∧ o.cls = .type "tuple" ∧ o.data = .seq its n ∧ its.size ≤ sizeLine ∧ Vals xs its.toList
def absV : Value → Option V
  | .none => some .non
  | .bool b => some (.bl b)
  | .int i _ => some (.int i)
  | .str x _ => some (.str x)
  | .bytes b _ => some (.byt b)
  | .float b _ => some (.flt b)
  | .ref a => some (.ref a)
  | .type n => some (.ty n)
  | _ => none
theorem RelV.abs {x : V} {u : Value} (r : RelV x u) : absV u = some x := by
  cases x with
  | non => cases r; rfl
  | bl _ => cases r; rfl
  | int _ => obtain ⟨t, rfl⟩ := r; rfl
  | str _ => obtain ⟨t, rfl⟩ := r; rfl
  | byt _ => obtain ⟨t, rfl⟩ := r; rfl
  | flt _ => obtain ⟨t, rfl⟩ := r; rfl
  | ref _ => cases r; rfl
  | ty _ => cases r; rfl
theorem RelV.inj {x y : V} {u : Value} (r : RelV x u) (q : RelV y u) : x = y := Option.some.inj (r.abs.symm.trans q.abs)
theorem Vals.inj : ∀ {xs ys : List V} {us : List Value}, Vals xs us → Vals ys us → xs = ys
  | _, _, _, .nil, .nil => rfl
  | _, _, _, .cons r t, .cons r' t' => by rw [r.inj r', Vals.inj t t']
section
variable {X : Cx} {pins : List (Addr × Obj)} {σ : St} {H : Hp} {s : Shared} {a : Addr} {xs ys : List V}
theorem SqL.of {K : PySem.W.Frag} (h : H a = some (.lst xs)) : SqL K H a xs := .inl (.inl h)
theorem SqT.of {K : PySem.W.Frag} (h : H a = some (.tup xs)) : SqT K H a xs := .inl (.inl h)
theorem Inv.list (I : Inv X pins σ H s) (h : SqL X.K H a xs) : ∃ its : List Value, Vals xs its ∧ PlainL s.heap a its.toArray ∧ xs.length ≤ sizeLine := by
  rcases h with h | ⟨o, its, n, hk, hc, hd, hs, hz, r⟩
  · obtain ⟨z, its, n, r, e⟩ := h.ok I.hok
    exact ⟨its, r, ⟨_, n, e, rfl, rfl, rfl⟩, z⟩
  · refine ⟨its.toList, r, ⟨o, n, I.kIn a o hk, hc, hd, by simpa using hs⟩, ?_⟩
    have e := r.length
    simp only [Array.length_toList] at e
    omega
theorem Inv.tuple (I : Inv X pins σ H s) (h : SqT X.K H a xs) : ∃ its : List Value, Vals xs its ∧ IsTup s.heap a its.toArray ∧ xs.length ≤ sizeLine := by
  rcases h with h | ⟨o, its, n, hk, hc, hs, hz, r⟩
  · obtain ⟨z, its, r, p⟩ := h.ok I.hok
    exact ⟨its, r, p, z⟩
  · refine ⟨its.toList, r, ⟨o, I.kIn a o hk, hc, n, by simpa using hs⟩, ?_⟩
    have e := r.length
    simp only [Array.length_toList] at e
    omega
theorem Inv.list_inj (I : Inv X pins σ H s) (h : SqL X.K H a xs) (h' : SqL X.K H a ys) : xs = ys := by
  obtain ⟨its, r, ⟨o, n, e, _, _, d⟩, _⟩ := I.list h
  obtain ⟨its', r', ⟨o', n', e', _, _, d'⟩, _⟩ := I.list h'
  rw [e] at e'; cases e'
  rw [d] at d'
  injection d' with d1 _
  have : its = its' := by simpa using congrArg Array.toList d1
  subst this
  exact r.inj r'
theorem Inv.tuple_inj (I : Inv X pins σ H s) (h : SqT X.K H a xs) (h' : SqT X.K H a ys) : xs = ys := by
  obtain ⟨its, r, ⟨o, e, _, n, d⟩, _⟩ := I.tuple h
  obtain ⟨its', r', ⟨o', e', _, n', d'⟩, _⟩ := I.tuple h'
  rw [e] at e'; cases e'
  rw [d] at d'
  injection d' with d1 _
  have : its = its' := by simpa using congrArg Array.toList d1
  subst this
  exact r.inj r'
end

/-! ### another wish about exceptions -/
abbrev Cx.wish (X : Cx) (E : Value → Shared → Prop) : Cx := { X with xe := E }
/-- no exception leaves -/
abbrev Cx.nox (X : Cx) : Cx := X.wish fun _ _ => False
theorem Cx.Ok.wish {X : Cx} (ok : X.Ok) (E : Value → Shared → Prop) : (X.wish E).Ok :=
  ⟨ok.mod, ok.kind, ok.glob, ok.blt, ok.above, ok.inj, ok.has, ok.cab, ok.hd, ok.frames, ok.stk, ok.exf, ok.bs, ok.bsz, ok.noex, ok.exfs, ok.funs, ok.frf⟩
theorem Cx.Ok.unwish {X : Cx} {E : Value → Shared → Prop} (ok : (X.wish E).Ok) : X.Ok :=
  ⟨ok.mod, ok.kind, ok.glob, ok.blt, ok.above, ok.inj, ok.has, ok.cab, ok.hd, ok.frames, ok.stk, ok.exf, ok.bs, ok.bsz, ok.noex, ok.exfs, ok.funs, ok.frf⟩
section
variable {X : Cx} {pins : List (Addr × Obj)} {σ : St} {H : Hp} {s : Shared} {E : Value → Shared → Prop}
theorem Inv.wish (I : Inv X pins σ H s) (E : Value → Shared → Prop) : Inv (X.wish E) pins σ H s := ⟨I.ok.wish E, I.os, I.bare, I.base, I.loc, I.cell, I.free, I.freeC, I.pin, I.hok, I.len⟩
theorem Inv.unwish (I : Inv (X.wish E) pins σ H s) : Inv X pins σ H s := ⟨I.ok.unwish, I.os, I.bare, I.base, I.loc, I.cell, I.free, I.freeC, I.pin, I.hok, I.len⟩
theorem SP.unwish {D : Ends} {f : Flow} {s' : Shared} (h : SP (X.wish E) pins D f s') : SP X pins D f s' := by
  cases f with
  | next => obtain ⟨σ', H', I, q⟩ := h; exact ⟨σ', H', I.unwish, q⟩
  | brk => obtain ⟨σ', H', I, q⟩ := h; exact ⟨σ', H', I.unwish, q⟩
  | cont => obtain ⟨σ', H', I, q⟩ := h; exact ⟨σ', H', I.unwish, q⟩
  | ret u => obtain ⟨v, σ', H', I, r, q⟩ := h; exact ⟨v, σ', H', I.unwish, r, q⟩
theorem PE.nox {e : Expr} {t : TE} (h : PE X.nox e t) : PE X e t := fun pins s σ H Q I hw =>
  wpAny_mono (h pins s σ H Q (I.wish _) hw) (fun _ _ ⟨v, H', I', r, q⟩ => ⟨v, H', I'.unwish, r, q⟩) fun _ _ z => False.elim z
theorem PT.nox {e : Expr} {t : TT} (h : PT X.nox e t) : PT X e t := fun pins s σ H Q I hw =>
  wpAny_mono (h pins s σ H Q (I.wish _) hw) (fun _ _ ⟨H', I', q⟩ => ⟨H', I'.unwish, q⟩) fun _ _ z => False.elim z
theorem PSs.nox {st : List Stmt} {t : TS} (h : PSs X.nox st t) : PSs X st t := fun pins s σ H D I hw =>
  wpAny_mono (h pins s σ H D (I.wish _) hw) (fun _ _ q => q.unwish) fun _ _ z => False.elim z
end

/-! ### blocks and small statements -/
section
variable {X : Cx} {st : Stmt} {rest : List Stmt} {t u : TS} {e : Expr} {te : TE} {pos : Pos}
def tNext : TS := fun D σ H => D.nx σ H
def tSeq (t u : TS) : TS := fun D σ H => t { D with nx := u D } σ H
theorem pss_nil : PSs X [] tNext := fun _ _ σ H _ I h => wpAny_execs_nil ⟨σ, H, I, h⟩
theorem pss_cons (h1 : PS X st t) (h2 : PSs X rest u) : PSs X (st :: rest) (tSeq t u) := by
  intro pins s σ H D I h
  refine wpAny_execs_cons (thn (h1 pins s σ H { D with nx := u D } I h) fun f s1 q => ?_)
  cases f with
  | next =>
    obtain ⟨σ', H', I', q⟩ := q
    exact h2 pins s1 σ' H' D I' q
  | ret v => exact q
  | brk => exact q
  | cont => exact q
theorem pss_one (h1 : PS X st t) : PSs X [st] t := by
  intro pins s σ H D I h
  refine wpAny_execs_cons (thn (h1 pins s σ H D I h) fun f s1 q => ?_)
  cases f with
  | next => exact wpAny_execs_nil q
  | ret v => exact q
  | brk => exact q
  | cont => exact q
def tBreak : TS := fun D σ H => D.bk σ H
def tCont : TS := fun D σ H => D.ct σ H
theorem ps_pass : PS X (.Pass pos) tNext := fun _ _ σ H _ I h => wpAny_Pass ⟨σ, H, I, h⟩
theorem ps_break : PS X (.Break pos) tBreak := fun _ _ σ H _ I h => wpAny_Break ⟨σ, H, I, h⟩
theorem ps_continue : PS X (.Continue pos) tCont := fun _ _ σ H _ I h => wpAny_Continue ⟨σ, H, I, h⟩
/-- in a def's body nothing is shown -/
theorem Inv.quiet {pins : List (Addr × Obj)} {σ : St} {H : Hp} {s : Shared} (I : Inv X pins σ H s) : interactive X.env = false := by simp [interactive, I.ok.kind]
/-- a docstring -/
theorem ps_doc {x j pos pos'} : PS X (.Expr (.Constant (.str x) j pos) pos') tNext := fun _ s σ H _ I h => wpAny_Expr (Calls.Constant_str (show SP X _ _ .next { s with toks := s.toks + 1 } from ⟨σ, H, I.tok _, h⟩)) I.quiet
/-- an expression whose value is dropped -/
def tDrop (te : TE) : TS := fun D σ H => te σ H fun _ H1 => D.nx σ H1
theorem ps_expr (he : PE X e te) (hs : swapsWith e none pos.line X.env = pure false := by rfl) : PS X (.Expr e pos) (tDrop te) := by
  intro pins s σ H D I h
  exact wpAny_Expr_any (thn (he pins s σ H _ I h) fun v s1 ⟨x, H1, I1, r1, q1⟩ => ⟨σ, H1, I1, q1⟩) I.quiet hs
def tRet (te : TE) : TS := fun D σ H => te σ H D.rt
theorem ps_ret (he : PE X e te) : PS X (.Return (some e) pos) (tRet te) := by
  intro pins s σ H D I h
  exact wpAny_Return_some (thn (he pins s σ H _ I h) fun v s1 ⟨x, H1, I1, r1, q1⟩ => ⟨x, σ, H1, I1, r1, q1⟩)
def tRetN : TS := fun D _ H => D.rt .non H
theorem ps_retN : PS X (.Return none pos) tRetN := fun _ _ σ H _ I h => wpAny_Return_none ⟨.non, σ, H, I, rfl, h⟩
def tIfS (c : TT) (t u : TS) : TS := fun D σ H => c σ H fun b H1 => if b = true then t D σ H1 else u D σ H1
theorem ps_if {c : Expr} {a b : List Stmt} {tc : TT} (hc : PT X c tc) (ha : PSs X a t) (hb : PSs X b u) : PS X (.If c a b pos) (tIfS tc t u) := by
  intro pins s σ H D I h
  refine wpAny_If (thn (hc pins s σ H _ I h) fun d s1 ⟨H1, I1, q1⟩ => ?_)
  cases d with
  | true => exact ha pins s1 σ H1 D I1 q1
  | false => exact hb pins s1 σ H1 D I1 q1
/-- code that the proof never comes to -/
def tNever : TS := fun _ _ _ => False
theorem ps_never : PS X st tNever := fun _ _ _ _ _ _ h => h.elim
theorem pss_never {sts : List Stmt} : PSs X sts tNever := fun _ _ _ _ _ _ h => h.elim
end

/-! ### targets -/
abbrev TG := V → St → Hp → (St → Hp → Prop) → Prop
abbrev TGs := List V → St → Hp → (St → Hp → Prop) → Prop
def PG (X : Cx) (target : Expr) (t : TG) : Prop :=
  ∀ (pins : List (Addr × Obj)) (s : Shared) (σ : St) (H : Hp) (v : V) (u : Value) (Q : St → Hp → Prop), Inv X pins σ H s → RelV v u → t v σ H Q →
    wpAny (model X.prog X.w) X.A (assign target X.env u) (fun _ s' => ∃ σ' H', Inv X pins σ' H' s' ∧ Q σ' H') X.xe s
/-- several targets, one after another -/
def PGs (X : Cx) (ts : List Expr) (t : TGs) : Prop :=
  ∀ (pins : List (Addr × Obj)) (s : Shared) (σ : St) (H : Hp) (vs : List V) (us : List Value) (Q : St → Hp → Prop), Inv X pins σ H s → Vals vs us → t vs σ H Q →
    wpAny (model X.prog X.w) X.A (assignInOrder ((assignEach ts X.env).map (·.2)) us) (fun _ s' => ∃ σ' H', Inv X pins σ' H' s' ∧ Q σ' H') X.xe s
/-- o[i] = v, by values -/
abbrev TSet := V → V → V → Hp → (Hp → Prop) → Prop
def PSet (X : Cx) (t : TSet) : Prop :=
  ∀ (pins : List (Addr × Obj)) (s : Shared) (σ : St) (H : Hp) (o i v : V) (ov iv u : Value) (Q : Hp → Prop), Inv X pins σ H s → RelV o ov → RelV i iv → RelV v u → t o i v H Q →
    wpAny (model X.prog X.w) X.A (setItem ov iv u) (fun _ s' => ∃ H', Inv X pins σ H' s' ∧ Q H') X.xe s
/-- a op= b, by values -/
abbrev TIp := V → V → Hp → VK → Prop
def PIp (X : Cx) (op : Operator) (t : TIp) : Prop :=
  ∀ (pins : List (Addr × Obj)) (s : Shared) (σ : St) (H : Hp) (x y : V) (v u : Value) (Q : VK), Inv X pins σ H s → RelV x v → RelV y u → t x y H Q →
    wpAny (model X.prog X.w) X.A (inplaceOp op v u) (EP X pins σ Q) X.xe s
section
variable {X : Cx} {pos : Pos}
def gName (i : Nat) : TG := fun v σ H Q => Q (σ.set i (some v)) H
theorem pg_name {i : Nat} {x : Str} (hN : X.N.Nodup) (hi : X.N[i]? = some x) (hx : Loc X.env.scope x) (hf : X.fn x = true ∨ X.env.scope.names.lookup x = some .local := by first | exact .inl rfl | exact .inr rfl | assumption) : PG X (.Name x pos) (gName i) := by
  intro pins s σ H v u Q I r h
  exact wpAny_assign_Name (store_ok I hN hi hx r (fun s' I' => ⟨_, H, I', h⟩) hf)
def gNil : TGs := fun vs σ H Q => vs = [] ∧ Q σ H
def gCons (t : TG) (u : TGs) : TGs := fun vs σ H Q => ∃ v r, vs = v :: r ∧ t v σ H fun σ' H' => u r σ' H' Q
theorem pgs_nil : PGs X [] gNil := by
  intro pins s σ H vs us Q I r h
  obtain ⟨e, h⟩ := h
  subst e
  cases r
  exact assignInOrder_nil ⟨σ, H, I, h⟩
theorem pgs_cons {e : Expr} {es : List Expr} {t : TG} {u : TGs} (h1 : PG X e t) (h2 : PGs X es u)
    (hs : (assignEach (e :: es) X.env).map (·.2) = assign e X.env :: (assignEach es X.env).map (·.2) := by rfl) : PGs X (e :: es) (gCons t u) := by
  intro pins s σ H vs us Q I r h
  obtain ⟨v, vr, e1, h⟩ := h
  subst e1
  cases r with
  | cons r rr =>
    rw [hs]
    refine assignInOrder_cons (thn (h1 pins s σ H _ _ _ I r h) fun _ s1 ⟨σ1, H1, I1, q1⟩ => ?_)
    exact h2 pins s1 σ1 H1 _ _ Q I1 rr q1
/-- (a, b, ..) = a tuple of that length -/
def gTup (K : PySem.W.Frag) (n : Nat) (t : TGs) : TG := fun v σ H Q => ∃ a xs, v = .ref a ∧ SqT K H a xs ∧ xs.length = n ∧ t xs σ H Q
theorem pg_tup {es : List Expr} {k : Nat} {t : TGs} {n : Nat} (hc : X.calm = true) (h : PGs X es t)
    (hn : (assignEach es X.env).length = n := by rfl) (hst : (assignEach es X.env).findIdx? (·.1) = none := by rfl) : PG X (.Tuple es k pos) (gTup X.K n t) := by
  intro pins s σ H v u Q I r hw
  obtain ⟨a, xs, e1, hq, hl, hw⟩ := hw
  subst e1
  cases r
  obtain ⟨its, rv, ht, hz⟩ := I.tuple hq
  refine assign_Tuple_tuple (I.ok.hd hc) ht (by simp [hn, ← hl, rv.length]) hst fun h' hx => ?_
  have I1 : Inv X pins σ H { s with heap := h' } := I.kept (t' := s.toks) fun b o e => hx b o (Nat.ne_of_lt (Heap.lt_size e)) e
  exact h pins _ σ H xs _ Q I1 (by simpa using rv) hw
/-- o[i] = .. -/
def gSub (to ti : TE) (t : TSet) : TG := fun v σ H Q => to σ H fun o H1 => ti σ H1 fun i H2 => t o i v H2 fun H3 => Q σ H3
theorem pg_sub {o i : Expr} {to ti : TE} {t : TSet} (ho : PE X o to) (hi : PE X i ti) (hs : PSet X t)
    (ha : ∀ v, assign (.Subscript o i pos) X.env v = (do
      let ov ← holding [v] (eval o X.env)
      let iv ← holding [v, ov] (eval i X.env)
      standAt pos
      holding [v, ov, iv] (setItem ov iv v)
      release [v, ov, iv] []) := by intro _; rfl) : PG X (.Subscript o i pos) (gSub to ti t) := by
  intro pins s σ H v u Q I r h
  rw [ha]
  refine wpAny_bind (wpAny_holding (thn (ho pins s σ H _ I h) fun ov s1 ⟨x, H1, I1, r1, q1⟩ => ?_))
  refine wpAny_bind (wpAny_holding (thn (hi pins s1 σ H1 _ I1 q1) fun iv s2 ⟨y, H2, I2, r2, q2⟩ => ?_))
  refine wpAny_bind (wpAny_standAt (wpAny_bind (wpAny_holding (thn (hs pins s2 σ H2 x y v ov iv u _ I2 r1 r2 r q2) fun _ s3 ⟨H3, I3, q3⟩ => ?_))))
  exact wpAny_release ⟨σ, H3, I3, q3⟩
/-- target = value -/
def tAsg (te : TE) (g : TG) : TS := fun D σ H => te σ H fun x H1 => g x σ H1 D.nx
theorem ps_asg {tg e : Expr} {te : TE} {g : TG} (he : PE X e te) (hg : PG X tg g) (hs : swapsWithSole [tg] e pos.line X.env = pure false := by rfl) (hw : swappedStores [tg] e X.env = pure none := by rfl)
    (h1 : (assignEach [tg] X.env).map (·.2) = [assign tg X.env] := by rfl) : PS X (.Assign [tg] e pos) (tAsg te g) := by
  intro pins s σ H D I h
  refine wpAny_Assign_stores (thn (he pins s σ H _ I h) fun v s1 ⟨x, H1, I1, r1, q1⟩ => ?_) hs hw
  rw [h1]
  exact thn (hg pins s1 σ H1 x v _ I1 r1 q1) fun _ s2 q => q
/-- name = value -/
theorem ps_set {i : Nat} {x : Str} {e : Expr} {te : TE} {pos' : Pos} (hN : X.N.Nodup) (hi : X.N[i]? = some x) (hx : Loc X.env.scope x) (he : PE X e te) (hs : swapsWith e (some (.Name x pos')) pos.line X.env = pure false := by rfl) (hf : X.fn x = true ∨ X.env.scope.names.lookup x = some .local := by first | exact .inl rfl | exact .inr rfl | assumption) :
    PS X (.Assign [.Name x pos'] e pos) (tAsg te (gName i)) := by
  intro pins s σ H D I h
  refine wpAny_Assign_Name (thn (he pins s σ H _ I h) fun v s1 ⟨y, H1, I1, r1, q1⟩ => ?_) hs
  exact store_ok I1 hN hi hx r1 (fun s2 I2 => ⟨_, H1, I2, q1⟩) hf
/-- a, b = x, y with plain local names: stored from the right; the pair itself is not tracked (the opening rows as in PyProof/Rows/TupAssign.lean:23) -/
def tPar (i j : Nat) (ta : TA) : TS := fun D σ H => ta σ H fun vs H1 => ∃ v w, vs = [v, w] ∧ D.nx ((σ.set i (some v)).set j (some w)) H1
theorem ps_par {i j : Nat} {x y : Str} {a b : Expr} {ta : TA} {px py pt : Pos} {kt k2 pt2} (hc : X.calm = true) (hN : X.N.Nodup) (hi : X.N[i]? = some x) (hj : X.N[j]? = some y) (hij : i ≠ j)
    (hx : X.env.scope.names.lookup x = some .local) (hy : X.env.scope.names.lookup y = some .local) (ha : PA X [a, b] ta)
    (hw : swappedStores [.Tuple [.Name x px, .Name y py] kt pt] (.Tuple [a, b] k2 pt2) X.env = pure (some [x, y]))
    (hs : swapsWithSole [.Tuple [.Name x px, .Name y py] kt pt] (.Tuple [a, b] k2 pt2) pos.line X.env = pure false := by rfl) :
    PS X (.Assign [.Tuple [.Name x px, .Name y py] kt pt] (.Tuple [a, b] k2 pt2) pos) (tPar i j ta) := by
  intro pins s σ H D I h
  rw [exec_Assign_arm]
  refine wpAny_bind (wpAny_standAt ?_)
  rw [hs]
  refine wpAny_bind (wpAny_pure ?_)
  rw [if_neg (by decide)]
  refine wpAny_bind (Tuple_ (thn (ha _ pins s σ H _ I h) fun us s1 ⟨vs, H1, I1, r1, q1⟩ => ?_))
  obtain ⟨v, w, e1, q1⟩ := q1
  subst e1
  obtain ⟨u1, u2, rfl, rv, rw'⟩ : ∃ u1 u2, us = [u1, u2] ∧ RelV v u1 ∧ RelV w u2 := by
    cases r1 with
    | cons p q =>
      cases q with
      | cons p' q' =>
        cases q'
        exact ⟨_, _, rfl, p, p'⟩
  refine wpAny_newObj_type ?_ (by show 2 ≤ sizeLine; decide)
  have I2 : Inv X pins σ H1 { s1 with heap := s1.heap.push { cls := .type "tuple", data := .seq [u1, u2].toArray } } := I1.kept (t' := s1.toks) fun b o e => Heap.get?_push_of_some _ e
  rw [hw]
  refine wpAny_bind (wpAny_pure ?_)
  show wpAny (model X.prog X.w) X.A (do rule "assign.swapped-stores"; let items ← unpackItems (.ref s1.heap.objs.size) 2 none; assignInOrder [fun v => bindName X.env y v, fun v => bindName X.env x v] items.reverse; pure Flow.next) _ _ _
  refine wpAny_bind (wpAny_rule (wpAny_bind (unpackItems_tuple (items := #[u1, u2]) (I.ok.hd hc) (IsTup.new s1.heap _) fun h' hx' => ?_)))
  have I3 := I2.kept (h' := h') (t' := s1.toks) fun b o e => hx' b o (Nat.ne_of_lt (Heap.lt_size e)) e
  show wpAny _ _ (assignInOrder [fun v => bindName X.env y v, fun v => bindName X.env x v] [u2, u1] >>= fun _ => pure Flow.next) _ _ _
  refine wpAny_bind (assignInOrder_cons (wpAny_bindName (store_ok I3 hN hj (.inl hy) rw' (fun s2 I4 => ?_) (.inr hy))))
  refine assignInOrder_cons (wpAny_bindName (store_ok I4 hN hi (.inl hx) rv (fun s3 I5 => assignInOrder_nil (wpAny_pure ?_)) (.inr hx)))
  rw [List.set_comm _ _ (Ne.symm hij)] at I5
  exact ⟨_, H1, I5, q1⟩
/-- name op= e -/
def tAug (i : Nat) (te : TE) (ti : TIp) : TS := fun D σ H => ∃ x, σ[i]? = some (some x) ∧ te σ H fun y H1 => ti x y H1 fun z H2 => D.nx (σ.set i (some z)) H2
theorem ps_aug {i : Nat} {x : Str} {e : Expr} {te : TE} {op : Operator} {ti : TIp} {pos' : Pos} (hN : X.N.Nodup) (hi : X.N[i]? = some x) (hx : Loc X.env.scope x) (he : PE X e te) (ho : PIp X op ti) (hf : X.fn x = true ∨ X.env.scope.names.lookup x = some .local := by first | exact .inl rfl | exact .inr rfl | assumption) :
    PS X (.AugAssign (.Name x pos') op e pos) (tAug i te ti) := by
  intro pins s σ H D I h
  obtain ⟨v, e1, h⟩ := h
  obtain ⟨m, hn, hl⟩ := I.loc
  have vis : Vis X.env.scope x := by rcases hx with k | k; exact .inl k; exact .inr (.inl k)
  obtain ⟨u, r, l⟩ := hl i x v hi e1 vis
  refine wpAny_AugAssign_Name ?_
  have go : wpAny (model X.prog X.w) X.A (eval e X.env) (fun w s₂ => wpAny (model X.prog X.w) X.A (inplaceOp op u w) (fun r s₃ => wpAny (model X.prog X.w) X.A (storeName X.env x r) (fun _ => SP X pins D .next) X.xe s₃) X.xe s₂) X.xe s := by
    refine thn (he pins s σ H _ I h) fun w s1 ⟨y, H1, I1, r1, q1⟩ => ?_
    refine thn (ho pins s1 σ H1 v y u w _ I1 r r1 q1) fun z s2 ⟨zv, H2, I2, r2, q2⟩ => ?_
    exact store_ok I2 hN hi hx r2 (fun s3 I3 => ⟨_, H2, I3, q2⟩) hf
  rcases l with ⟨hk, hm⟩ | ⟨hk, c, hc, hcell⟩
  · exact wpAny_loadName_local I.ok.kind hk hn hm go
  · rcases hk with hk | hk
    · exact wpAny_loadName_cell I.ok.kind hk hc hcell go
    · rcases hx with k | k
      · have : X.env.scope.names.lookup x = some .free := hk
        rw [k] at this; cases this
      · have : X.env.scope.names.lookup x = some .free := hk
        rw [k] at this; cases this
/-- o[i] op= e -/
def tAugS (to ti te : TE) (tget : V → V → Hp → VK → Prop) (tip : TIp) (tset : TSet) : TS := fun D σ H => to σ H fun o H1 => ti σ H1 fun i H2 => tget o i H2 fun x H3 => te σ H3 fun y H4 => tip x y H4 fun z H5 => tset o i z H5 fun H6 => D.nx σ H6
/-- o[i], by values -/
def PGet (X : Cx) (t : V → V → Hp → VK → Prop) : Prop :=
  ∀ (pins : List (Addr × Obj)) (s : Shared) (σ : St) (H : Hp) (o i : V) (ov iv : Value) (Q : VK), Inv X pins σ H s → RelV o ov → RelV i iv → t o i H Q →
    wpAny (model X.prog X.w) X.A (getItem ov iv) (EP X pins σ Q) X.xe s
theorem ps_augS {o i e : Expr} {to ti te : TE} {tget : V → V → Hp → VK → Prop} {tip : TIp} {tset : TSet} {op : Operator} {tpos : Pos} (ho : PE X o to) (hi : PE X i ti) (hg : PGet X tget) (he : PE X e te) (hp : PIp X op tip) (hs : PSet X tset)
    (ha : ∀ ov iv new, augStore i ov iv new = (do holding [new, ov, iv] (setItem ov iv new); release [new, ov, iv] []; pure .next) := by intros; rfl) : PS X (.AugAssign (.Subscript o i tpos) op e pos) (tAugS to ti te tget tip tset) := by
  intro pins s σ H D I h
  refine wpAny_AugAssign_SubscriptAny (thn (ho pins s σ H _ I h) fun ov s1 ⟨x1, H1, I1, r1, q1⟩ => ?_) ha
  refine thn (hi pins s1 σ H1 _ I1 q1) fun iv s2 ⟨x2, H2, I2, r2, q2⟩ => ?_
  refine thn (hg pins s2 σ H2 x1 x2 ov iv _ I2 r1 r2 q2) fun old s3 ⟨x3, H3, I3, r3, q3⟩ => ?_
  refine thn (he pins s3 σ H3 _ I3 q3) fun v s4 ⟨x4, H4, I4, r4, q4⟩ => ?_
  refine thn (hp pins s4 σ H4 x3 x4 old v _ I4 r3 r4 q4) fun new s5 ⟨x5, H5, I5, r5, q5⟩ => ?_
  exact thn (hs pins s5 σ H5 x1 x2 x5 ov iv new _ I5 r1 r2 r5 q5) fun _ s6 ⟨H6, I6, q6⟩ => ⟨σ, H6, I6, q6⟩
/-- ints -/
def ipI (f : Int → Int → Int) : TIp := fun x y H Q => ∃ i j, x = .int i ∧ y = .int j ∧ Q (.int (f i j)) H
theorem ip_add : PIp X .Add (ipI fun i j => i + j) := by
  intro pins s σ H x y v u Q I r1 r2 h
  obtain ⟨i, j, e1, e2, q⟩ := h
  subst e1; subst e2
  obtain ⟨t, rfl⟩ := r1
  obtain ⟨t', rfl⟩ := r2
  exact iadd_int ⟨.int _, H, I.tok _, ⟨_, rfl⟩, q⟩
theorem ip_sub : PIp X .Sub (ipI fun i j => i - j) := by
  intro pins s σ H x y v u Q I r1 r2 h
  obtain ⟨i, j, e1, e2, q⟩ := h
  subst e1; subst e2
  obtain ⟨t, rfl⟩ := r1
  obtain ⟨t', rfl⟩ := r2
  exact isub_int ⟨.int _, H, I.tok _, ⟨_, rfl⟩, q⟩
end

/-! ### while -/
section
variable {X : Cx} {pos : Pos}
/-- the invariant W with its measure -/
def tWhile (c : TT) (tb : TS) : TS := fun D σ H => ∃ W : Nat → St → Hp → Prop, (∃ m, W m σ H) ∧ ∀ m σ H, W m σ H →
  c σ H fun b H1 => if b = true then ∃ N : St → Hp → Prop, (∀ σ' H', N σ' H' → ∃ m', m' < m ∧ W m' σ' H') ∧ tb { D with nx := N, ct := N, bk := D.nx } σ H1 else D.nx σ H1
theorem ps_while {c : Expr} {body : List Stmt} {tc : TT} {tb : TS} (hp : PassesOwn (model X.prog X.w) X.A X.env X.xe) (hc : PT X c tc) (hb : PSs X body tb) : PS X (.While c body [] pos) (tWhile tc tb) := by
  intro pins s σ H D I h
  obtain ⟨W, ⟨m0, w0⟩, turn⟩ := h
  refine wpAny_While (codeAny_whileLoop (fun n s' => ∃ σ' H', Inv X pins σ' H' s' ∧ W n σ' H') ?_ m0 ⟨σ, H, I, w0⟩)
  rintro n s1 ⟨σ1, H1, I1, w1⟩
  refine wpAny_passesOwn hp (thn (hc pins s1 σ1 H1 _ I1 (turn n σ1 H1 w1)) fun b s2 ⟨H2, I2, q2⟩ => ?_)
  cases b with
  | true =>
    obtain ⟨N, hN, q2⟩ := q2
    rw [if_pos rfl]
    refine wpAny_passesOwn hp (thn (hb pins s2 σ1 H2 _ I2 q2) fun f s3 q3 => ?_)
    cases f with
    | next =>
      obtain ⟨σ3, H3, I3, n3⟩ := q3
      obtain ⟨m', hm, w3⟩ := hN σ3 H3 n3
      exact ⟨m', hm, σ3, H3, I3, w3⟩
    | cont =>
      obtain ⟨σ3, H3, I3, n3⟩ := q3
      obtain ⟨m', hm, w3⟩ := hN σ3 H3 n3
      exact ⟨m', hm, σ3, H3, I3, w3⟩
    | brk => exact q3
    | ret v => exact q3
  | false =>
    rw [if_neg Bool.false_ne_true]
    exact wpAny_execs_nil ⟨σ1, H2, I2, q2⟩
end

/-! ### what a loop or a comprehension walks -/
/-- at turn i: it yields x (the heap may grow), or it stops -/
structure It where
  go : Nat → Hp → Prop
  yld : Nat → Hp → V → Hp → Prop
  stop : Nat → Hp → Prop
/-- the iterator's own objects may turn: they are not the frame's, not pinned, younger than the entry (or a comprehension's own) -/
def FpOk (X : Cx) (pins : List (Addr × Obj)) (H : Hp) (b : Addr) : Prop :=
  H b = none ∧ b ≠ X.env.locals ∧ b ∉ X.fs ∧ (b ∈ X.ex ∨ X.s₀.heap.objs.size ≤ b) ∧ (∀ x c, X.env.cells.lookup x = some c → c ≠ b) ∧ ∀ p ∈ X.pn ++ pins, p.1 ≠ b
theorem Inv.fpOk {X : Cx} {pins : List (Addr × Obj)} {σ : St} {H H' : Hp} {s : Shared} {b : Addr} (I : Inv X pins σ H s) (hb : s.heap.objs.size ≤ b) (hn : H' b = none) : FpOk X pins H' b := by
  refine ⟨hn, Nat.ne_of_gt (Nat.lt_of_lt_of_le I.lt hb), I.nofs hb, .inr (Nat.le_trans I.sz hb), fun x c e z => ?_, fun p hp z => ?_⟩
  · obtain ⟨v, q⟩ := I.cell x c e
    exact absurd (Nat.lt_of_lt_of_le q.lt (by rw [z]; exact hb)) (Nat.lt_irrefl _)
  · exact absurd (Nat.lt_of_lt_of_le (Heap.lt_size (I.pin p hp).1) (by rw [z]; exact hb)) (Nat.lt_irrefl _)
structure Turn (P : Program) (w : World) (K : PySem.W.Frag) (tg : Expr) (J : It) (fp : List Addr) (it : Addr) (tn : Nat → Heap → Prop) : Prop where
  mem : it ∈ fp
  obj : ∀ i h, tn i h → ∀ b ∈ fp, ∃ o, h.get? b = some o ∧ ∀ v, o.data ≠ .cell v
  keep : ∀ i h h', tn i h → (∀ b ∈ fp, ∀ o, h.get? b = some o → h'.get? b = some o) → tn i h'
  item : ∀ (X : Cx), X.prog = P → X.w = w → X.K = K → X.calm = true → ∀ (i : Nat) (pins : List (Addr × Obj)) (s : Shared) (σ : St) (H : Hp) (E : Value → Shared → Prop), Inv X pins σ H s → (∀ b ∈ fp, FpOk X pins H b) → tn i s.heap → J.go i H →
    wpAny (model P w) X.A (pyNext (.ref it)) (fun r s1 => ∃ u, r = some u ∧
      wpAny (model P w) X.A (letOwnedTupleGo tg (.ref it) u) (fun _ s2 => ∃ x H', Inv X pins σ H' s2 ∧ RelV x u ∧ J.yld i H x H' ∧ tn (i + 1) s2.heap ∧ ∀ b ∈ fp, H' b = none) E s1) E s
  done : ∀ (X : Cx), X.prog = P → X.w = w → X.K = K → X.calm = true → ∀ (i : Nat) (pins : List (Addr × Obj)) (s : Shared) (σ : St) (H : Hp) (E : Value → Shared → Prop), Inv X pins σ H s → (∀ b ∈ fp, FpOk X pins H b) → tn i s.heap → J.stop i H →
    wpAny (model P w) X.A (pyNext (.ref it)) (fun r s1 => r = none ∧ Inv X pins σ H s1) E s
  self : ∀ (A : Around) (i : Nat) (s : Shared) (Q : Value → Shared → Prop) (E : Value → Shared → Prop), tn i s.heap → Q (.ref it) s → wpAny (model P w) A (pyIter (.ref it)) Q E s
abbrev TI := St → Hp → (It → Hp → Prop) → Prop
/-- an iterator has come -/
def PIE (X : Cx) (pins : List (Addr × Obj)) (σ : St) (tg : Expr) (R : It → Hp → Prop) (itv : Value) (s2 : Shared) : Prop :=
  ∃ (it : Addr) (fp : List Addr) (tn : Nat → Heap → Prop) (J : It) (H' : Hp), itv = .ref it ∧ Inv X pins σ H' s2 ∧ Turn X.prog X.w X.K tg J fp it tn ∧ tn 0 s2.heap ∧ (∀ b ∈ fp, FpOk X pins H' b) ∧ R J H'
def PI (X : Cx) (tg iter : Expr) (wi : TI) : Prop :=
  ∀ (pins : List (Addr × Obj)) (s : Shared) (σ : St) (H : Hp) (R : It → Hp → Prop), Inv X pins σ H s → wi σ H R →
    wpAny (model X.prog X.w) X.A (eval iter X.env) (fun v s1 => wpAny (model X.prog X.w) X.A (pyIter v) (PIE X pins σ tg R) X.xe s1) X.xe s

/-- the step ahead of the store is nothing for an iterator that keeps no tuple -/
theorem go_of {M : Model} {A : Around} {E : Value → Shared → Prop} {s : Shared} {tg : Expr} {it : Addr} {u : Value} {o : Obj} {n : String} {vs : Array Value} {Q : Unit → Shared → Prop} (ho : s.heap.get? it = some o) (hc : o.cls = .type n) (hd : o.data = .fields vs)
    (hn : ["enumerate", "zip", "dict_itemiterator", "dict_reverseitemiterator", "odict_iterator", "itertools.zip_longest", "itertools.pairwise"].contains n = false) (hQ : Q () s) : wpAny M A (letOwnedTupleGo tg (.ref it) u) Q E s := by
  unfold letOwnedTupleGo
  cases tg <;> first
    | exact wpAny_pure hQ
    | (cases u <;> first
        | exact wpAny_pure hQ
        | (refine wpAny_bind (wpAny_load ho ?_)
           rw [hc, hd]
           show wpAny M A (if (["enumerate", "zip", "dict_itemiterator", "dict_reverseitemiterator", "odict_iterator", "itertools.zip_longest", "itertools.pairwise"].contains n && vs[0]? == some (rawInt _)) = true then _ else _) Q E s
           rw [if_neg (by intro h; rw [hn, Bool.false_and] at h; cases h)]
           exact wpAny_pure hQ))

/-- the list at a, as it stands at each turn (a loop may append to it) -/
def Itl (K : PySem.W.Frag) (a : Addr) : It :=
  ⟨fun i H => ∃ xs x, SqL K H a xs ∧ xs[i]? = some x, fun i H x H' => H' = H ∧ ∀ xs, SqL K H a xs → xs[i]? = some x, fun i H => ∃ xs, SqL K H a xs ∧ xs.length ≤ i⟩
def Itt (K : PySem.W.Frag) (a : Addr) : It :=
  ⟨fun i H => ∃ xs x, SqT K H a xs ∧ xs[i]? = some x, fun i H x H' => H' = H ∧ ∀ xs, SqT K H a xs → xs[i]? = some x, fun i H => ∃ xs, SqT K H a xs ∧ xs.length ≤ i⟩
/-- lo, lo + 1, .. (n of them) -/
def Itr (lo : Int) (n : Nat) : It := ⟨fun i _ => i < n, fun i H x H' => H' = H ∧ x = .int (lo + i), fun i _ => n ≤ i⟩
theorem turn_list {P : Program} {w : World} {K : PySem.W.Frag} {tg : Expr} (a it : Addr) : Turn P w K tg (Itl K a) [it] it (fun i h => h.IsListIter it a i) where
  mem := by simp
  obj := fun i h st b hb => by
    have e : b = it := by simpa using hb
    subst e
    obtain ⟨o, e, c, d⟩ := st
    exact ⟨o, e, fun v z => by rw [d] at z; cases z⟩
  keep := fun i h h' st k => st.at fun o e => k it (by simp) o e
  item := by
    intro X hP hw hK hc i pins s σ H E I hf st hg
    subst hP hw hK
    obtain ⟨xs, x, hq, hx⟩ := hg
    obtain ⟨its, rv, p, hz⟩ := I.list hq
    obtain ⟨u, hu, ru⟩ := rv.get hx
    obtain ⟨f0, f1, f2, f3, f4, f5⟩ := hf it (by simp)
    refine wpAny_pyNext_list_item st p.isList (x := u) (by simpa using hu) fun h' st' sb => ?_
    have I1 : Inv X pins σ H { s with heap := h' } := I.turned (t' := s.toks) (fun b o hb e => (sb.2 b hb).trans e) f0 f1 f3 f4 f5
    obtain ⟨o, e, c, d⟩ := id st'
    exact ⟨u, rfl, go_of (s := { s with heap := h' }) e c d (by decide) ⟨x, H, I1, ru, ⟨rfl, fun ys hy => by rw [I.list_inj hy hq]; exact hx⟩, st', fun b hb => (hf b hb).1⟩⟩
  done := by
    intro X hP hw hK hc i pins s σ H E I hf st hg
    subst hP hw hK
    obtain ⟨xs, hq, hx⟩ := hg
    obtain ⟨its, rv, p, hz⟩ := I.list hq
    obtain ⟨f0, f1, f2, f3, f4, f5⟩ := hf it (by simp)
    have hl := rv.length
    exact wpAny_pyNext_list_end (I.ok.hd hc) st p.isList (by simp; omega) fun h' eb => ⟨rfl, I.turned (t' := s.toks) (fun b o hb e => eb b o hb e) f0 f1 f3 f4 f5⟩
  self := fun _ _ _ _ _ st h => wpAny_pyIter_listiter st h
theorem turn_tuple {P : Program} {w : World} {K : PySem.W.Frag} {tg : Expr} (a it : Addr) : Turn P w K tg (Itt K a) [it] it (fun i h => h.IsTupleIter it a i) where
  mem := by simp
  obj := fun i h st b hb => by
    have e : b = it := by simpa using hb
    subst e
    obtain ⟨o, e, c, d⟩ := st
    exact ⟨o, e, fun v z => by rw [d] at z; cases z⟩
  keep := fun i h h' st k => st.at fun o e => k it (by simp) o e
  item := by
    intro X hP hw hK hc i pins s σ H E I hf st hg
    subst hP hw hK
    obtain ⟨xs, x, hq, hx⟩ := hg
    obtain ⟨its, rv, p, hz⟩ := I.tuple hq
    obtain ⟨u, hu, ru⟩ := rv.get hx
    obtain ⟨f0, f1, f2, f3, f4, f5⟩ := hf it (by simp)
    refine wpAny_pyNext_tuple_item st (show s.heap.IsTuple a its.toArray from p) (x := u) (by simpa using hu) fun h' st' sb => ?_
    have I1 : Inv X pins σ H { s with heap := h' } := I.turned (t' := s.toks) (fun b o hb e => (sb.2 b hb).trans e) f0 f1 f3 f4 f5
    obtain ⟨o, e, c, d⟩ := id st'
    exact ⟨u, rfl, go_of (s := { s with heap := h' }) e c d (by decide) ⟨x, H, I1, ru, ⟨rfl, fun ys hy => by rw [I.tuple_inj hy hq]; exact hx⟩, st', fun b hb => (hf b hb).1⟩⟩
  done := by
    intro X hP hw hK hc i pins s σ H E I hf st hg
    subst hP hw hK
    obtain ⟨xs, hq, hx⟩ := hg
    obtain ⟨its, rv, p, hz⟩ := I.tuple hq
    obtain ⟨f0, f1, f2, f3, f4, f5⟩ := hf it (by simp)
    have hl := rv.length
    exact wpAny_pyNext_tuple_end (I.ok.hd hc) st (show s.heap.IsTuple a its.toArray from p) (by simp; omega) fun h' eb => ⟨rfl, I.turned (t' := s.toks) (fun b o hb e => eb b o hb e) f0 f1 f3 f4 f5⟩
  self := fun _ _ _ _ _ st h => wpAny_pyIter_tupleiter st h
theorem turn_range {P : Program} {w : World} {K : PySem.W.Frag} {tg : Expr} (it : Addr) (lo : Int) (n : Nat) : Turn P w K tg (Itr lo n) [it] it (fun i h => IsRangeIter h it (lo + (i : Nat) * 1) ((n : Int) - (i : Nat)) 1) where
  mem := by simp
  obj := fun i h st b hb => by
    have e : b = it := by simpa using hb
    subst e
    exact ⟨_, st, fun v z => by
      have z' : Data.fields _ = Data.cell v := z
      cases z'⟩
  keep := fun i h h' st k => k it (by simp) _ st
  item := by
    intro X hP hw hK hc i pins s σ H E I hf st hg
    subst hP hw hK
    obtain ⟨f0, f1, f2, f3, f4, f5⟩ := hf it (by simp)
    have W := Walks.range (prog := X.prog) (w := X.w) (I.ok.hd hc) it lo 1 n
    refine W.item i s _ _ hg st fun v h' tk hv st' kk => ?_
    obtain ⟨t, rfl⟩ := hv
    have I1 : Inv X pins σ H { s with heap := h', toks := tk } := I.turned (fun b o hb e => kk b o (by simpa using hb) e) f0 f1 f3 f4 f5
    refine ⟨_, rfl, go_of (s := { s with heap := h', toks := tk }) (n := "range_iterator") st' rfl rfl (by decide) ⟨.int (lo + i), H, I1, ⟨t, ?_⟩, ⟨rfl, rfl⟩, st', fun b hb => (hf b hb).1⟩⟩
    rw [Int.mul_one]
  done := by
    intro X hP hw hK hc i pins s σ H E I hf st hg
    subst hP hw hK
    obtain ⟨f0, f1, f2, f3, f4, f5⟩ := hf it (by simp)
    exact wpAny_pyNext_range_end (I.ok.hd hc) st (by have : n ≤ i := hg; omega) fun h' eb => ⟨rfl, I.turned (t' := s.toks) (fun b o hb e => eb b o hb e) f0 f1 f3 f4 f5⟩
  self := fun _ _ _ _ _ st h => wpAny_pyIter_rangeiter st h
end L2

namespace L2
open PySem PySem.Spec PyProof.Rows
section
variable {X : Cx} {tg : Expr}
def iList (K : PySem.W.Frag) (tl : TE) : TI := fun σ H R => tl σ H fun x H1 => ∃ a, x = .ref a ∧ (∃ xs, SqL K H1 a xs) ∧ R (Itl K a) H1
def iTup (K : PySem.W.Frag) (tl : TE) : TI := fun σ H R => tl σ H fun x H1 => ∃ a, x = .ref a ∧ (∃ xs, SqT K H1 a xs) ∧ R (Itt K a) H1
theorem pi_list {l : Expr} {tl : TE} (hl : PE X l tl) : PI X tg l (iList X.K tl) := by
  intro pins s σ H R I h
  refine thn (hl pins s σ H _ I h) fun v s1 ⟨x, H1, I1, r1, q1⟩ => ?_
  obtain ⟨a, e, ⟨xs, hq⟩, q⟩ := q1
  subst e
  cases r1
  obtain ⟨its, rv, p, hz⟩ := I1.list hq
  refine wpAny_pyIter_list p.isList ?_
  refine ⟨s1.heap.objs.size, [s1.heap.objs.size], _, _, H1, rfl, I1.kept (t' := s1.toks) fun b o e => Heap.get?_push_of_some _ e, turn_list a _, ⟨_, Heap.get?_push_size _ rfl, rfl, rfl⟩, fun b hb => ?_, q⟩
  have e : b = s1.heap.objs.size := by simpa using hb
  subst e
  exact I1.fpOk (Nat.le_refl _) (I1.hok.fresh (Nat.le_refl _))
theorem pi_tup {l : Expr} {tl : TE} (hl : PE X l tl) : PI X tg l (iTup X.K tl) := by
  intro pins s σ H R I h
  refine thn (hl pins s σ H _ I h) fun v s1 ⟨x, H1, I1, r1, q1⟩ => ?_
  obtain ⟨a, e, ⟨xs, hq⟩, q⟩ := q1
  subst e
  cases r1
  obtain ⟨its, rv, p, hz⟩ := I1.tuple hq
  refine wpAny_pyIter_tuple (show s1.heap.IsTuple a its.toArray from p) ?_
  refine ⟨s1.heap.objs.size, [s1.heap.objs.size], _, _, H1, rfl, I1.kept (t' := s1.toks) fun b o e => Heap.get?_push_of_some _ e, turn_tuple a _, ⟨_, Heap.get?_push_size _ rfl, rfl, rfl⟩, fun b hb => ?_, q⟩
  have e : b = s1.heap.objs.size := by simpa using hb
  subst e
  exact I1.fpOk (Nat.le_refl _) (I1.hok.fresh (Nat.le_refl _))
/-- a range object just made, walked -/
theorem range_it {pins : List (Addr × Obj)} {σ : St} {H : Hp} {s : Shared} {R : It → Hp → Prop} {E : Value → Shared → Prop} {lo hi : Int} {t u v : Tok} {tk : Nat} (I : Inv X pins σ H s) (h1 : -(2 ^ 62) ≤ lo) (h2 : lo < 2 ^ 62) (h3 : -(2 ^ 62) ≤ hi) (h4 : hi < 2 ^ 62)
    (q : R (Itr lo (hi - lo).toNat) H) : wpAny (model X.prog X.w) X.A (pyIter (.ref s.heap.objs.size)) (PIE X pins σ tg R) E { s with heap := s.heap.push { cls := .type "range", data := .fields #[.int lo t, .int hi u, .int 1 v] }, toks := tk } := by
  refine wpAny_pyIter_range (IsRange.new ..) (small_one h1 h2 h3 h4) ?_
  have I1 : Inv X pins σ H { s with heap := s.heap.push { cls := .type "range", data := .fields #[.int lo t, .int hi u, .int 1 v] }, toks := tk } := I.kept fun b o e => Heap.get?_push_of_some _ e
  refine ⟨(s.heap.push { cls := .type "range", data := .fields #[.int lo t, .int hi u, .int 1 v] }).objs.size, [(s.heap.push { cls := .type "range", data := .fields #[.int lo t, .int hi u, .int 1 v] }).objs.size], _, _, H, rfl,
    I1.kept (t' := tk) fun b o e => Heap.get?_push_of_some _ e, turn_range _ lo (hi - lo).toNat, ?_, fun b hb => ?_, q⟩
  · have e1 : lo + ((0 : Nat) : Int) * 1 = lo := by simp
    have e2 : (((hi - lo).toNat : Nat) : Int) - ((0 : Nat) : Int) = Builtin.Range.rangeSize lo hi 1 := by rw [rangeSize_one]; split <;> omega
    show IsRangeIter _ _ (lo + ((0 : Nat) : Int) * 1) ((((hi - lo).toNat : Nat) : Int) - ((0 : Nat) : Int)) 1
    rw [e1, e2]
    exact Heap.get?_push_size _ rfl
  · have e : b = (s.heap.push { cls := .type "range", data := .fields #[.int lo t, .int hi u, .int 1 v] }).objs.size := by simpa using hb
    subst e
    exact I1.fpOk (Nat.le_refl _) (I1.hok.fresh (Nat.le_refl _))
def iRng1 (ta : TA) : TI := fun σ H R => ta σ H fun vs H1 => ∃ j : Int, vs = [.int j] ∧ -(2 ^ 62) ≤ j ∧ j < 2 ^ 62 ∧ R (Itr 0 j.toNat) H1
def iRng2 (ta : TA) : TI := fun σ H R => ta σ H fun vs H1 => ∃ i j : Int, vs = [.int i, .int j] ∧ (-(2 ^ 62) ≤ i ∧ i < 2 ^ 62 ∧ -(2 ^ 62) ≤ j ∧ j < 2 ^ 62) ∧ R (Itr i (j - i).toNat) H1
theorem pi_range1 {a : Expr} {ta : TA} {p pos : Pos} (hg : Gl X "range") (hm : X.mg "range" = none) (ha : PA X [a] ta) (hs : starEach [a] X.env = [(false, eval a X.env)] := by rfl) : PI X tg (.Call (.Name "range" p) [a] [] pos) (iRng1 ta) := by
  intro pins s σ H R I h
  refine Call_ (ld_blt I hg hm boot_range (PyProof.Rows.callWith_type1 (thn (ha pos pins s σ H _ I h) fun us s1 ⟨vs, H1, I1, r1, q1⟩ => ?_) hs rfl))
  obtain ⟨j, e, q1, q2, q⟩ := q1
  subst e
  cases r1 with
  | cons r rr =>
    cases rr
    obtain ⟨t, rfl⟩ := r
    exact call_range_1 (range_it I1 (by omega) (by omega) q1 q2 (by simpa using q))
theorem pi_range2 {a b : Expr} {ta : TA} {p pos : Pos} (hg : Gl X "range") (hm : X.mg "range" = none) (ha : PA X [a, b] ta) (hs : starEach [a, b] X.env = [(false, eval a X.env), (false, eval b X.env)] := by rfl) (hs2 : starEach [b] X.env = [(false, eval b X.env)] := by rfl) :
    PI X tg (.Call (.Name "range" p) [a, b] [] pos) (iRng2 ta) := by
  intro pins s σ H R I h
  refine Call_ (ld_blt I hg hm boot_range (PyProof.Rows.callWith_type1 (thn (ha pos pins s σ H _ I h) fun us s1 ⟨vs, H1, I1, r1, q1⟩ => ?_) (by rw [hs, hs2]) (by rw [hs2]; rfl)))
  obtain ⟨i, j, e, ⟨q1, q2, q3, q4⟩, q⟩ := q1
  subst e
  cases r1 with
  | cons r rr =>
    cases rr with
    | cons r' rr =>
      cases rr
      obtain ⟨t, rfl⟩ := r
      obtain ⟨t', rfl⟩ := r'
      exact call_range_2 (range_it I1 q1 q2 q3 q4 q)

/-! ### for -/
/-- W: the invariant by the turn and a measure; N: what the body is to reach -/
def tFor (wi : TI) (g : TG) (tb : TS) : TS := fun D σ H => wi σ H fun J H1 => ∃ W : Nat → Nat → St → Hp → Prop, (∃ m, W 0 m σ H1) ∧ ∀ i m σ H, W i m σ H →
  (J.stop i H ∧ D.nx σ H) ∨ (J.go i H ∧ ∃ N : St → Hp → Prop, (∀ σ' H', N σ' H' → ∃ m', m' < m ∧ W (i + 1) m' σ' H') ∧ ∀ x H', J.yld i H x H' → g x σ H' fun σ2 H2 => tb { D with nx := N, ct := N, bk := D.nx } σ2 H2)
/-- the records at fp as they stand -/
def pinsAt (fp : List Addr) (h : Heap) : List (Addr × Obj) := fp.filterMap fun b => (h.get? b).map fun o => (b, o)
theorem mem_pinsAt {fp : List Addr} {h : Heap} {b : Addr} {o : Obj} (hb : b ∈ fp) (e : h.get? b = some o) : (b, o) ∈ pinsAt fp h := List.mem_filterMap.mpr ⟨b, hb, by rw [e]; rfl⟩
theorem of_pinsAt {fp : List Addr} {h : Heap} {p : Addr × Obj} (hp : p ∈ pinsAt fp h) : p.1 ∈ fp ∧ h.get? p.1 = some p.2 := by
  obtain ⟨b, hb, e⟩ := List.mem_filterMap.mp hp
  cases q : h.get? b with
  | none => rw [q] at e; cases e
  | some o =>
    rw [q] at e
    have e' : (b, o) = p := Option.some.inj e
    subst e'
    exact ⟨hb, q⟩
theorem Inv.pinned {pins : List (Addr × Obj)} {σ : St} {H : Hp} {s : Shared} {fp : List Addr} (I : Inv X pins σ H s) (hf : ∀ b ∈ fp, FpOk X pins H b) (ho : ∀ b ∈ fp, ∃ o, s.heap.get? b = some o ∧ ∀ v, o.data ≠ .cell v) : Inv X (pins ++ pinsAt fp s.heap) σ H s :=
  I.pins_of fun p hp => (List.mem_append.mp hp).elim (fun z => I.pin p (List.mem_append_right _ z)) fun z => by
    obtain ⟨hb, e⟩ := of_pinsAt z
    obtain ⟨f0, f1, f2, _⟩ := hf p.1 hb
    obtain ⟨o, e', d⟩ := ho p.1 hb
    rw [e] at e'; cases e'
    exact ⟨e, f0, f1, f2, d⟩
theorem Inv.unpinned {pins pl : List (Addr × Obj)} {σ : St} {H : Hp} {s : Shared} (I : Inv X (pins ++ pl) σ H s) : Inv X pins σ H s := I.pins_of fun p hp => I.pin p (List.mem_append_right _ (List.mem_append_left _ hp))
theorem ps_for {iter : Expr} {body : List Stmt} {wi : TI} {g : TG} {tb : TS} {pos : Pos} (hp : PassesOwn (model X.prog X.w) X.A X.env X.xe) (hc : X.calm = true) (hi : PI X tg iter wi) (hg : PG X tg g) (hb : PSs X body tb)
    (hs : ∀ x, foldedSetIterable iter X.env x = pure x := by intro _; rfl) : PS X (.For tg iter body [] pos) (tFor wi g tb) := by
  intro pins s σ H D I h
  refine wpAny_For (thn (hi pins s σ H _ I h) fun v s1 h1 => thn h1 fun itv s2 h2 => ?_) hs
  obtain ⟨it, fp, tn, J, H2, e, I2, T, st2, f2, W, ⟨m0, w0⟩, turn⟩ := h2
  subst e
  -- what stays true of the iterator's objects through the loop
  have stat : ∀ {H' : Hp}, (∀ b ∈ fp, H' b = none) → ∀ b ∈ fp, FpOk X pins H' b := fun hn b hb => ⟨hn b hb, (f2 b hb).2⟩
  refine codeAny_forLoop_any (fun n s' => ∃ i σ' H', Inv X pins σ' H' s' ∧ tn i s'.heap ∧ (∀ b ∈ fp, H' b = none) ∧ W i n σ' H') ?_ m0 ⟨0, σ, H2, I2, st2, fun b hb => (f2 b hb).1, w0⟩
  rintro n s3 ⟨i, σ3, H3, I3, st3, fr3, w3⟩
  rcases turn i n σ3 H3 w3 with ⟨stop, qn⟩ | ⟨go, N, hN, step⟩
  · refine wpAny_passesOwn hp (thn (T.done X rfl rfl rfl hc i pins s3 σ3 H3 X.xe I3 (stat fr3) st3 stop) fun r s4 ⟨hr, I4⟩ => ?_)
    subst hr
    exact wpAny_execs_nil ⟨σ3, H3, I4, qn⟩
  · refine wpAny_passesOwn hp (thn (T.item X rfl rfl rfl hc i pins s3 σ3 H3 X.xe I3 (stat fr3) st3 go) fun r s4 ⟨u, hr, h4⟩ => ?_)
    subst hr
    refine wpAny_passesOwn hp (thn h4 fun _ s5 ⟨x, H5, I5, r5, y5, st5, fr5⟩ => ?_)
    have I5' := I5.pinned (stat fr5) (T.obj _ _ st5)
    refine wpAny_passesOwn hp (thn (hg _ s5 σ3 H5 x u _ I5' r5 (step x H5 y5)) fun _ s6 ⟨σ6, H6, I6, q6⟩ => ?_)
    refine wpAny_passesOwn hp (thn (hb _ s6 σ6 H6 _ I6 q6) fun f s7 q7 => ?_)
    have again : ∀ {σ7 : St} {H7 : Hp}, Inv X (pins ++ pinsAt fp s5.heap) σ7 H7 s7 → N σ7 H7 → ∃ m, m < n ∧ ∃ i σ' H', Inv X pins σ' H' s7 ∧ tn i s7.heap ∧ (∀ b ∈ fp, H' b = none) ∧ W i m σ' H' := fun {σ7 H7} I7 n7 => by
      obtain ⟨m', hm, w7⟩ := hN σ7 H7 n7
      refine ⟨m', hm, i + 1, σ7, H7, I7.unpinned, T.keep _ _ _ st5 fun b hb o e => (I7.pin (b, o) (List.mem_append_right _ (List.mem_append_right _ (mem_pinsAt hb e)))).1, fun b hb => ?_, w7⟩
      obtain ⟨o, e, d⟩ := T.obj _ _ st5 b hb
      exact (I7.pin (b, o) (List.mem_append_right _ (List.mem_append_right _ (mem_pinsAt hb e)))).2.1
    cases f with
    | next => obtain ⟨σ7, H7, I7, n7⟩ := q7; exact again I7 n7
    | cont => obtain ⟨σ7, H7, I7, n7⟩ := q7; exact again I7 n7
    | brk => obtain ⟨σ7, H7, I7, q7⟩ := q7; exact ⟨σ7, H7, I7.unpinned, q7⟩
    | ret v => obtain ⟨x7, σ7, H7, I7, r7, q7⟩ := q7; exact ⟨x7, σ7, H7, I7.unpinned, r7, q7⟩
end

/-! ### the forms one uses -/
/-- over a list that the body leaves as it is -/
theorem for_list {K : PySem.W.Frag} {a : Addr} {xs : List V} {g : TG} {tb : TS} {D : Ends} {σ : St} {H : Hp} (Pv : Nat → St → Hp → Prop) (h0 : Pv 0 σ H) (hl : ∀ i σ H, i ≤ xs.length → Pv i σ H → SqL K H a xs)
    (hs : ∀ i x σ H, xs[i]? = some x → Pv i σ H → g x σ H fun σ2 H2 => tb { D with nx := Pv (i + 1), ct := Pv (i + 1), bk := D.nx } σ2 H2) (hd : ∀ σ H, Pv xs.length σ H → D.nx σ H) :
    ∃ W : Nat → Nat → St → Hp → Prop, (∃ m, W 0 m σ H) ∧ ∀ i m σ H, W i m σ H →
      ((Itl K a).stop i H ∧ D.nx σ H) ∨ ((Itl K a).go i H ∧ ∃ N : St → Hp → Prop, (∀ σ' H', N σ' H' → ∃ m', m' < m ∧ W (i + 1) m' σ' H') ∧ ∀ x H', (Itl K a).yld i H x H' → g x σ H' fun σ2 H2 => tb { D with nx := N, ct := N, bk := D.nx } σ2 H2) := by
  refine ⟨fun i m σ H => m = xs.length - i ∧ i ≤ xs.length ∧ Pv i σ H, ⟨xs.length, by simp, Nat.zero_le _, h0⟩, ?_⟩
  rintro i m σ H ⟨rfl, hi, p⟩
  have q := hl i σ H hi p
  by_cases hlt : i < xs.length
  · refine .inr ⟨⟨xs, xs[i], q, by simp [hlt]⟩, Pv (i + 1), fun σ' H' p' => ⟨xs.length - (i + 1), by omega, rfl, hlt, p'⟩, fun x H' y => ?_⟩
    obtain ⟨e, y⟩ := y
    subst e
    exact hs i x σ _ (y xs q) p
  · have e : i = xs.length := by omega
    subst e
    exact .inl ⟨⟨xs, q, Nat.le_refl _⟩, hd σ H p⟩
theorem for_tup {K : PySem.W.Frag} {a : Addr} {xs : List V} {g : TG} {tb : TS} {D : Ends} {σ : St} {H : Hp} (Pv : Nat → St → Hp → Prop) (h0 : Pv 0 σ H) (hl : ∀ i σ H, i ≤ xs.length → Pv i σ H → SqT K H a xs)
    (hs : ∀ i x σ H, xs[i]? = some x → Pv i σ H → g x σ H fun σ2 H2 => tb { D with nx := Pv (i + 1), ct := Pv (i + 1), bk := D.nx } σ2 H2) (hd : ∀ σ H, Pv xs.length σ H → D.nx σ H) :
    ∃ W : Nat → Nat → St → Hp → Prop, (∃ m, W 0 m σ H) ∧ ∀ i m σ H, W i m σ H →
      ((Itt K a).stop i H ∧ D.nx σ H) ∨ ((Itt K a).go i H ∧ ∃ N : St → Hp → Prop, (∀ σ' H', N σ' H' → ∃ m', m' < m ∧ W (i + 1) m' σ' H') ∧ ∀ x H', (Itt K a).yld i H x H' → g x σ H' fun σ2 H2 => tb { D with nx := N, ct := N, bk := D.nx } σ2 H2) := by
  refine ⟨fun i m σ H => m = xs.length - i ∧ i ≤ xs.length ∧ Pv i σ H, ⟨xs.length, by simp, Nat.zero_le _, h0⟩, ?_⟩
  rintro i m σ H ⟨rfl, hi, p⟩
  have q := hl i σ H hi p
  by_cases hlt : i < xs.length
  · refine .inr ⟨⟨xs, xs[i], q, by simp [hlt]⟩, Pv (i + 1), fun σ' H' p' => ⟨xs.length - (i + 1), by omega, rfl, hlt, p'⟩, fun x H' y => ?_⟩
    obtain ⟨e, y⟩ := y
    subst e
    exact hs i x σ _ (y xs q) p
  · have e : i = xs.length := by omega
    subst e
    exact .inl ⟨⟨xs, q, Nat.le_refl _⟩, hd σ H p⟩
theorem for_range {lo : Int} {n : Nat} {g : TG} {tb : TS} {D : Ends} {σ : St} {H : Hp} (Pv : Nat → St → Hp → Prop) (h0 : Pv 0 σ H)
    (hs : ∀ i σ H, i < n → Pv i σ H → g (.int (lo + i)) σ H fun σ2 H2 => tb { D with nx := Pv (i + 1), ct := Pv (i + 1), bk := D.nx } σ2 H2) (hd : ∀ σ H, Pv n σ H → D.nx σ H) :
    ∃ W : Nat → Nat → St → Hp → Prop, (∃ m, W 0 m σ H) ∧ ∀ i m σ H, W i m σ H →
      ((Itr lo n).stop i H ∧ D.nx σ H) ∨ ((Itr lo n).go i H ∧ ∃ N : St → Hp → Prop, (∀ σ' H', N σ' H' → ∃ m', m' < m ∧ W (i + 1) m' σ' H') ∧ ∀ x H', (Itr lo n).yld i H x H' → g x σ H' fun σ2 H2 => tb { D with nx := N, ct := N, bk := D.nx } σ2 H2) := by
  refine ⟨fun i m σ H => m = n - i ∧ i ≤ n ∧ Pv i σ H, ⟨n, by simp, Nat.zero_le _, h0⟩, ?_⟩
  rintro i m σ H ⟨rfl, hi, p⟩
  by_cases hlt : i < n
  · refine .inr ⟨hlt, Pv (i + 1), fun σ' H' p' => ⟨n - (i + 1), by omega, rfl, hlt, p'⟩, fun x H' y => ?_⟩
    obtain ⟨e, y⟩ := y
    subst e y
    exact hs i σ _ hlt p
  · have e : i = n := by omega
    subst e
    exact .inl ⟨Nat.le_refl _, hd σ H p⟩
/-- while, by a word and a measure of the state -/
theorem while_by {c : TT} {tb : TS} {D : Ends} {σ : St} {H : Hp} (Pv : St → Hp → Prop) (μ : St → Hp → Nat) (h0 : Pv σ H)
    (hs : ∀ σ H, Pv σ H → c σ H fun b H1 => if b = true then tb { D with nx := fun σ' H' => Pv σ' H' ∧ μ σ' H' < μ σ H, ct := fun σ' H' => Pv σ' H' ∧ μ σ' H' < μ σ H, bk := D.nx } σ H1 else D.nx σ H1)
    (mono : ∀ σ H Q Q', (∀ b H1, Q b H1 → Q' b H1) → c σ H Q → c σ H Q') : tWhile c tb D σ H := by
  refine ⟨fun m σ H => m = μ σ H ∧ Pv σ H, ⟨_, rfl, h0⟩, ?_⟩
  rintro m σ H ⟨rfl, p⟩
  refine mono σ H _ _ (fun b H1 q => ?_) (hs σ H p)
  cases b with
  | true => exact ⟨_, fun σ' H' ⟨p', l⟩ => ⟨_, l, rfl, p'⟩, q⟩
  | false => exact q
end L2

namespace L2
open PySem PySem.Spec PyProof.Rows

abbrev R2 := V → V → Hp → VK → Prop
/-- a two-place operation on values: f is binaryOp op, inplaceOp op or compareOp op -/
def OpR (X : Cx) (f : Value → Value → Sem Value) (r : R2) : Prop :=
  ∀ (pins : List (Addr × Obj)) (s : Shared) (σ : St) (H : Hp) (x y : V) (v u : Value) (Q : VK), Inv X pins σ H s → RelV x v → RelV y u → r x y H Q →
    wpAny (model X.prog X.w) X.A (f v u) (EP X pins σ Q) X.xe s
/-- a one-place operation -/
def UnR (X : Cx) (f : Value → Sem Value) (r : V → Hp → VK → Prop) : Prop :=
  ∀ (pins : List (Addr × Obj)) (s : Shared) (σ : St) (H : Hp) (x : V) (v : Value) (Q : VK), Inv X pins σ H s → RelV x v → r x H Q →
    wpAny (model X.prog X.w) X.A (f v) (EP X pins σ Q) X.xe s
/-- a call of a value that is known (a builtin, a type) with values -/
def CallR (X : Cx) (f : Value) (r : List V → Hp → VK → Prop) : Prop :=
  ∀ (pins : List (Addr × Obj)) (s : Shared) (σ : St) (H : Hp) (xs : List V) (us : List Value) (Q : VK), Inv X pins σ H s → Vals xs us → r xs H Q →
    wpAny (model X.prog X.w) X.A (call f us) (EP X pins σ Q) X.xe s
/-- a value's truth -/
def TruR (X : Cx) (r : V → Hp → (Bool → Hp → Prop) → Prop) : Prop :=
  ∀ (pins : List (Addr × Obj)) (s : Shared) (σ : St) (H : Hp) (x : V) (v : Value) (Q : Bool → Hp → Prop), Inv X pins σ H s → RelV x v → r x H Q →
    wpAny (model X.prog X.w) X.A (truthy v) (TP X pins σ Q) X.xe s

def tOp (r : R2) (ta tb : TE) : TE := fun σ H Q => ta σ H fun x H1 => tb σ H1 fun y H2 => r x y H2 Q
def tUn (r : V → Hp → VK → Prop) (ta : TE) : TE := fun σ H Q => ta σ H fun x H1 => r x H1 Q
/-- ints in, under C, and a value out -/
def rI (C : Int → Int → Prop) (g : Int → Int → V) : R2 := fun x y H Q => ∃ i j, x = .int i ∧ y = .int j ∧ C i j ∧ Q (g i j) H
def rI0 (g : Int → Int → V) : R2 := fun x y H Q => ∃ i j, x = .int i ∧ y = .int j ∧ Q (g i j) H
def rU (g : Int → V) : V → Hp → VK → Prop := fun x H Q => ∃ i, x = .int i ∧ Q (g i) H

section
variable {X : Cx} {a b c : Expr} {ta tb tc : TE} {pos : Pos}

theorem binT (ha : PE X a ta) (hb : PE X b tb) {pins : List (Addr × Obj)} {s : Shared} {σ : St} {H : Hp} {R : V → V → Hp → Prop} (I : Inv X pins σ H s)
    (h : ta σ H fun x H1 => tb σ H1 fun y H2 => R x y H2) {Q : Value → Shared → Prop} {f : Value → Value → Sem Value}
    (hf : ∀ v u s2 x y H2, Inv X pins σ H2 s2 → RelV x v → RelV y u → R x y H2 → wpAny (model X.prog X.w) X.A (f v u) Q X.xe s2) :
    wpAny (model X.prog X.w) X.A (eval a X.env) (fun v s₁ => wpAny (model X.prog X.w) X.A (eval b X.env) (fun u s₂ => wpAny (model X.prog X.w) X.A (f v u) Q X.xe s₂) X.xe s₁) X.xe s := by
  refine thn (ha pins s σ H _ I h) fun v s1 ⟨x, H1, I1, r1, q1⟩ => ?_
  refine thn (hb pins s1 σ H1 _ I1 q1) fun u s2 ⟨y, H2, I2, r2, q2⟩ => ?_
  exact hf v u s2 x y H2 I2 r1 r2 q2

theorem pe_op {op : Operator} {r : R2} (ho : OpR X (binaryOp op) r) (ha : PE X a ta) (hb : PE X b tb) : PE X (.BinOp a op b pos) (tOp r ta tb) := by
  intro pins s σ H Q I h
  exact wpAny_BinOp (binT ha hb I h fun v u s2 x y H2 I2 rx ry q => ho pins s2 σ H2 x y v u Q I2 rx ry q)
theorem pe_un {op : UnaryOp} {r : V → Hp → VK → Prop} (ho : UnR X (unaryOp op) r) (ha : PE X a ta) : PE X (.UnaryOp op a pos) (tUn r ta) := by
  intro pins s σ H Q I h
  exact UnaryOp_ (thn (ha pins s σ H _ I h) fun v s1 ⟨x, H1, I1, r1, q1⟩ => ho pins s1 σ H1 x v Q I1 r1 q1)
/-- a op= e at a name: the name's slot i -/
theorem augR {op : Operator} {r : R2} (ho : OpR X (inplaceOp op) r) {pins : List (Addr × Obj)} {s : Shared} {σ : St} {H : Hp} {x y : V} {v u : Value} {Q : VK} (I : Inv X pins σ H s)
    (rx : RelV x v) (ry : RelV y u) (q : r x y H Q) : wpAny (model X.prog X.w) X.A (inplaceOp op v u) (EP X pins σ Q) X.xe s := ho pins s σ H x y v u Q I rx ry q

/-! ### ints -/
theorem opI {f : Value → Value → Sem Value} {C : Int → Int → Prop} {g : Int → Int → Int}
    (rule : ∀ (i j : Int) (t u : Tok) (s : Shared) (Q : Value → Shared → Prop) (E : Value → Shared → Prop), C i j → Q (.int (g i j) s.toks) { s with toks := s.toks + 1 } → wpAny (model X.prog X.w) X.A (f (.int i t) (.int j u)) Q E s) :
    OpR X f (rI C fun i j => .int (g i j)) := by
  intro pins s σ H x y v u Q I rx ry h
  obtain ⟨i, j, rfl, rfl, hc, q⟩ := h
  obtain ⟨t, rfl⟩ := rx
  obtain ⟨t', rfl⟩ := ry
  exact rule i j t t' s _ _ hc ⟨.int (g i j), H, I.tok _, ⟨_, rfl⟩, q⟩
theorem opI0 {f : Value → Value → Sem Value} {g : Int → Int → Int}
    (rule : ∀ (i j : Int) (t u : Tok) (s : Shared) (Q : Value → Shared → Prop) (E : Value → Shared → Prop), Q (.int (g i j) s.toks) { s with toks := s.toks + 1 } → wpAny (model X.prog X.w) X.A (f (.int i t) (.int j u)) Q E s) :
    OpR X f (rI0 fun i j => .int (g i j)) := by
  intro pins s σ H x y v u Q I rx ry h
  obtain ⟨i, j, rfl, rfl, q⟩ := h
  obtain ⟨t, rfl⟩ := rx
  obtain ⟨t', rfl⟩ := ry
  exact rule i j t t' s _ _ ⟨.int (g i j), H, I.tok _, ⟨_, rfl⟩, q⟩
theorem opB0 {f : Value → Value → Sem Value} {g : Int → Int → Bool}
    (rule : ∀ (i j : Int) (t u : Tok) (s : Shared) (Q : Value → Shared → Prop) (E : Value → Shared → Prop), Q (.bool (g i j)) s → wpAny (model X.prog X.w) X.A (f (.int i t) (.int j u)) Q E s) :
    OpR X f (rI0 fun i j => .bl (g i j)) := by
  intro pins s σ H x y v u Q I rx ry h
  obtain ⟨i, j, rfl, rfl, q⟩ := h
  obtain ⟨t, rfl⟩ := rx
  obtain ⟨t', rfl⟩ := ry
  exact rule i j t t' s _ _ ⟨.bl (g i j), H, I, rfl, q⟩

def CDiv (i j : Int) : Prop := 0 < j ∧ j < 1073741824
def CDivN (i j : Int) : Prop := j ≠ 0 ∧ j.natAbs < 1073741824
def CPow (i j : Int) : Prop := 0 ≤ j ∧ j ≤ 1000000 ∧ i.natAbs < 2 ^ 64
def CMul (i j : Int) : Prop := (-(2 ^ 64) < i ∧ i < 2 ^ 64) ∨ (-(2 ^ 64) < j ∧ j < 2 ^ 64)
theorem CMul.ok {i j : Int} (h : CMul i j) : IntMulOk i j := by
  rcases h with ⟨h1, h2⟩ | ⟨h1, h2⟩
  · exact .of_left (intBits_le_64 h1 h2)
  · exact .of_right (intBits_le_64 h1 h2)
theorem two_pow_nn (k : Nat) : (0 : Int) ≤ 2 ^ k := by
  rw [two_pow_cast]
  exact Int.natCast_nonneg _

theorem op_add : OpR X (binaryOp .Add) (rI0 fun i j => .int (i + j)) := opI0 fun _ _ _ _ _ _ _ q => add_int q
theorem op_sub : OpR X (binaryOp .Sub) (rI0 fun i j => .int (i - j)) := opI0 fun _ _ _ _ _ _ _ q => sub_int q
theorem op_mul : OpR X (binaryOp .Mult) (rI CMul fun i j => .int (i * j)) := opI fun _ _ _ _ _ _ _ hc q => mul_int q hc.ok
/-- // by a positive divisor -/
theorem op_fdiv : OpR X (binaryOp .FloorDiv) (rI CDiv fun i j => .int (i / j)) := opI fun i j _ _ _ _ _ hc q => by
  have h1 : (0 : Int) < j := hc.1
  have h2 : j < 1073741824 := hc.2
  exact floordiv_int (by omega) (by rw [Int.fdiv_eq_ediv_of_nonneg i (by omega)]; exact q) (.inl (PyProof.noPylong_small (by omega)))
theorem op_fdivN : OpR X (binaryOp .FloorDiv) (rI CDivN fun i j => .int (i.fdiv j)) := opI fun _ _ _ _ _ _ _ hc q => floordiv_int hc.1 q (.inl (PyProof.noPylong_small hc.2))
/-- % by a positive divisor of any size -/
theorem op_mod : OpR X (binaryOp .Mod) (rI (fun _ j => 0 < j) fun i j => .int (i % j)) := opI fun i j _ _ _ _ _ hc q => by
  have h1 : (0 : Int) < j := hc
  exact mod_int' (by omega) (by rw [Int.fmod_eq_emod_of_nonneg i (by omega)]; exact q)
theorem op_modN : OpR X (binaryOp .Mod) (rI (fun _ j => j ≠ 0) fun i j => .int (i.fmod j)) := opI fun _ _ _ _ _ _ _ hc q => mod_int' hc q
theorem op_pow : OpR X (binaryOp .Pow) (rI CPow fun i j => .int (i ^ j.toNat)) := opI fun _ _ _ _ _ _ _ hc q => pow_int_small hc.1 hc.2.1 hc.2.2 q
theorem op_shl : OpR X (binaryOp .LShift) (rI CPow fun i j => .int (i * 2 ^ j.toNat)) := opI fun _ _ _ _ _ _ _ hc q => lshift_int_small hc.1 hc.2.1 hc.2.2 q
theorem op_shr : OpR X (binaryOp .RShift) (rI (fun _ j => 0 ≤ j) fun i j => .int (i / 2 ^ j.toNat)) := opI fun i j _ _ _ _ _ hc q =>
  rshift_int hc (by rw [Int.fdiv_eq_ediv_of_nonneg i (two_pow_nn _)]; exact q)
theorem op_and : OpR X (binaryOp .BitAnd) (rI0 fun i j => .int (Builtin.bitAnd i j)) := opI0 fun _ _ _ _ _ _ _ q => and_int q
theorem op_or : OpR X (binaryOp .BitOr) (rI0 fun i j => .int (Builtin.bitOr i j)) := opI0 fun _ _ _ _ _ _ _ q => or_int q
theorem op_xor : OpR X (binaryOp .BitXor) (rI0 fun i j => .int (Builtin.bitXor i j)) := opI0 fun _ _ _ _ _ _ _ q => xor_int q

theorem iop_add : OpR X (inplaceOp .Add) (rI0 fun i j => .int (i + j)) := opI0 fun _ _ _ _ _ _ _ q => iadd_int q
theorem iop_sub : OpR X (inplaceOp .Sub) (rI0 fun i j => .int (i - j)) := opI0 fun _ _ _ _ _ _ _ q => isub_int q
theorem iop_mul : OpR X (inplaceOp .Mult) (rI CMul fun i j => .int (i * j)) := opI fun _ _ _ _ _ _ _ hc q => imul_int q hc.ok
theorem iop_fdiv : OpR X (inplaceOp .FloorDiv) (rI CDiv fun i j => .int (i / j)) := opI fun i j _ _ _ _ _ hc q => by
  have h1 : (0 : Int) < j := hc.1
  have h2 : j < 1073741824 := hc.2
  exact ifloordiv_int (by omega) (by rw [Int.fdiv_eq_ediv_of_nonneg i (by omega)]; exact q) (.inl (PyProof.noPylong_small (by omega)))
theorem iop_mod : OpR X (inplaceOp .Mod) (rI (fun _ j => 0 < j) fun i j => .int (i % j)) := opI fun i j _ _ _ _ _ hc q => by
  have h1 : (0 : Int) < j := hc
  exact imod_int (by omega) (by rw [Int.fmod_eq_emod_of_nonneg i (by omega)]; exact q)
theorem iop_shl : OpR X (inplaceOp .LShift) (rI CPow fun i j => .int (i * 2 ^ j.toNat)) := opI fun _ _ _ _ _ _ _ hc q => ilshift_int_small hc.1 hc.2.1 hc.2.2 q
theorem iop_shr : OpR X (inplaceOp .RShift) (rI (fun _ j => 0 ≤ j) fun i j => .int (i / 2 ^ j.toNat)) := opI fun i j _ _ _ _ _ hc q =>
  irshift_int hc (by rw [Int.fdiv_eq_ediv_of_nonneg i (two_pow_nn _)]; exact q)
theorem iop_and : OpR X (inplaceOp .BitAnd) (rI0 fun i j => .int (Builtin.bitAnd i j)) := opI0 fun _ _ _ _ _ _ _ q => iand_int q
theorem iop_or : OpR X (inplaceOp .BitOr) (rI0 fun i j => .int (Builtin.bitOr i j)) := opI0 fun _ _ _ _ _ _ _ q => ior_int q
theorem iop_xor : OpR X (inplaceOp .BitXor) (rI0 fun i j => .int (Builtin.bitXor i j)) := opI0 fun _ _ _ _ _ _ _ q => ixor_int q

theorem unI {f : Value → Sem Value} {g : Int → Int}
    (rule : ∀ (i : Int) (t : Tok) (s : Shared) (Q : Value → Shared → Prop) (E : Value → Shared → Prop), Q (.int (g i) s.toks) { s with toks := s.toks + 1 } → wpAny (model X.prog X.w) X.A (f (.int i t)) Q E s) :
    UnR X f (rU fun i => .int (g i)) := by
  intro pins s σ H x v Q I rx h
  obtain ⟨i, rfl, q⟩ := h
  obtain ⟨t, rfl⟩ := rx
  exact rule i t s _ _ ⟨.int (g i), H, I.tok _, ⟨_, rfl⟩, q⟩
theorem un_neg : UnR X (unaryOp .USub) (rU fun i => .int (-i)) := unI fun _ _ _ _ _ q => neg_int q
theorem un_inv : UnR X (unaryOp .Invert) (rU fun i => .int (Builtin.bitNot i)) := unI fun _ _ _ _ _ q => invert_int q

/-! ### bools among ints: n += (a < b) -/
theorem op_add_ib : OpR X (binaryOp .Add) (fun x y H Q => ∃ i k, x = .int i ∧ y = .bl k ∧ Q (.int (i + b2i k)) H) := by
  intro pins s σ H x y v u Q I rx ry h
  obtain ⟨i, k, rfl, rfl, q⟩ := h
  obtain ⟨t, rfl⟩ := rx
  cases ry
  exact add_int_bool ⟨.int (i + b2i k), H, I.tok _, ⟨_, rfl⟩, q⟩
end

/-! ### comparisons -/
/-- the scalars that == tells apart as data does -/
def scal : V → V → Bool
  | .non, .non => true | .non, .int _ => true | .int _, .non => true | .non, .bl _ => true | .bl _, .non => true | .non, .str _ => true | .str _, .non => true
  | .int _, .int _ => true | .bl _, .bl _ => true | .str _, .str _ => true | .byt _, .byt _ => true
  | .int _, .str _ => true | .str _, .int _ => true | .bl _, .str _ => true | .str _, .bl _ => true
  | _, _ => false
def rEq : R2 := fun x y H Q => scal x y = true ∧ Q (.bl (decide (x = y))) H
def rNe : R2 := fun x y H Q => scal x y = true ∧ Q (.bl (!decide (x = y))) H

theorem dec_int {i j : Int} : decide (V.int i = V.int j) = (i == j) := by
  rw [Bool.eq_iff_iff]
  simp
theorem dec_bl {i j : Bool} : decide (V.bl i = V.bl j) = (i == j) := by
  rw [Bool.eq_iff_iff]
  simp
theorem dec_str {i j : Str} : decide (V.str i = V.str j) = (i == j) := by
  rw [Bool.eq_iff_iff]
  simp
theorem dec_byt {i j : Array UInt8} : decide (V.byt i = V.byt j) = (i.toList == j.toList) := by
  rw [Bool.eq_iff_iff]
  cases i
  cases j
  simp

section
variable {X : Cx} {a b c : Expr} {ta tb tc : TE} {pos : Pos}
theorem fin_bl {pins : List (Addr × Obj)} {σ : St} {H : Hp} {s : Shared} {Q : VK} {k k' : Bool} (I : Inv X pins σ H s) (q : Q (.bl k) H) (e : k = k') : EP X pins σ Q (.bool k') s := by
  subst e
  exact ⟨.bl k, H, I, rfl, q⟩
theorem op_eq : OpR X (compareOp .Eq) rEq := by
  intro pins s σ H x y v u Q I rx ry h
  obtain ⟨hs, q⟩ := h
  cases x with
  | non =>
    cases rx
    cases y with
    | non => cases ry; exact PySem.EqNone.eq_none_none (fin_bl I q (by simp))
    | bl j => cases ry; exact PySem.EqNone.eq_none_bool (fin_bl I q (by simp))
    | int j => obtain ⟨t', rfl⟩ := ry; exact PySem.EqNone.eq_none_int (fin_bl I q (by simp))
    | str j => obtain ⟨t', rfl⟩ := ry; exact PySem.EqNone.eq_none_str (fin_bl I q (by simp))
    | _ => exact absurd (show false = true from hs) Bool.false_ne_true
  | bl i =>
    cases rx
    cases y with
    | non => cases ry; exact PySem.EqNone.eq_bool_none (fin_bl I q (by simp))
    | bl j => cases ry; exact eq_bool (fin_bl I q dec_bl)
    | str j => obtain ⟨t', rfl⟩ := ry; exact PySem.EqMixed.eq_bool_str (fin_bl I q (by simp))
    | _ => exact absurd (show false = true from hs) Bool.false_ne_true
  | int i =>
    obtain ⟨t, rfl⟩ := rx
    cases y with
    | non => cases ry; exact PySem.EqNone.eq_int_none (fin_bl I q (by simp))
    | int j => obtain ⟨t', rfl⟩ := ry; exact eq_int (fin_bl I q dec_int)
    | str j => obtain ⟨t', rfl⟩ := ry; exact PySem.EqMixed.eq_int_str (fin_bl I q (by simp))
    | _ => exact absurd (show false = true from hs) Bool.false_ne_true
  | str i =>
    obtain ⟨t, rfl⟩ := rx
    cases y with
    | non => cases ry; exact PySem.EqNone.eq_str_none (fin_bl I q (by simp))
    | bl j => cases ry; exact PySem.EqMixed.eq_str_bool (fin_bl I q (by simp))
    | int j => obtain ⟨t', rfl⟩ := ry; exact PySem.EqMixed.eq_str_int (fin_bl I q (by simp))
    | str j => obtain ⟨t', rfl⟩ := ry; exact eq_str (fin_bl I q dec_str)
    | _ => exact absurd (show false = true from hs) Bool.false_ne_true
  | byt i =>
    obtain ⟨t, rfl⟩ := rx
    cases y with
    | byt j => obtain ⟨t', rfl⟩ := ry; exact PySem.W.eq_bytes (fin_bl I q dec_byt)
    | _ => exact absurd (show false = true from hs) Bool.false_ne_true
  | _ => cases y <;> exact absurd (show false = true from hs) Bool.false_ne_true
theorem op_ne : OpR X (compareOp .NotEq) rNe := by
  intro pins s σ H x y v u Q I rx ry h
  obtain ⟨hs, q⟩ := h
  cases x with
  | non =>
    cases rx
    cases y with
    | non => cases ry; exact PySem.EqNone.ne_none_none (fin_bl I q (by simp))
    | bl j => cases ry; exact PySem.EqNone.ne_none_bool (fin_bl I q (by simp))
    | int j => obtain ⟨t', rfl⟩ := ry; exact PySem.EqNone.ne_none_int (fin_bl I q (by simp))
    | str j => obtain ⟨t', rfl⟩ := ry; exact PySem.EqNone.ne_none_str (fin_bl I q (by simp))
    | _ => exact absurd (show false = true from hs) Bool.false_ne_true
  | bl i =>
    cases rx
    cases y with
    | non => cases ry; exact PySem.EqNone.ne_bool_none (fin_bl I q (by simp))
    | bl j => cases ry; exact ne_bool (fin_bl I q (congrArg not dec_bl))
    | str j => obtain ⟨t', rfl⟩ := ry; exact PySem.EqMixed.ne_bool_str (fin_bl I q (by simp))
    | _ => exact absurd (show false = true from hs) Bool.false_ne_true
  | int i =>
    obtain ⟨t, rfl⟩ := rx
    cases y with
    | non => cases ry; exact PySem.EqNone.ne_int_none (fin_bl I q (by simp))
    | int j => obtain ⟨t', rfl⟩ := ry; exact ne_int (fin_bl I q (congrArg not dec_int))
    | str j => obtain ⟨t', rfl⟩ := ry; exact PySem.EqMixed.ne_int_str (fin_bl I q (by simp))
    | _ => exact absurd (show false = true from hs) Bool.false_ne_true
  | str i =>
    obtain ⟨t, rfl⟩ := rx
    cases y with
    | non => cases ry; exact PySem.EqNone.ne_str_none (fin_bl I q (by simp))
    | bl j => cases ry; exact PySem.EqMixed.ne_str_bool (fin_bl I q (by simp))
    | int j => obtain ⟨t', rfl⟩ := ry; exact PySem.EqMixed.ne_str_int (fin_bl I q (by simp))
    | str j => obtain ⟨t', rfl⟩ := ry; exact ne_str (fin_bl I q (congrArg not dec_str))
    | _ => exact absurd (show false = true from hs) Bool.false_ne_true
  | byt i =>
    obtain ⟨t, rfl⟩ := rx
    cases y with
    | byt j => obtain ⟨t', rfl⟩ := ry; exact PySem.W.ne_bytes (fin_bl I q (congrArg not dec_byt))
    | _ => exact absurd (show false = true from hs) Bool.false_ne_true
  | _ => cases y <;> exact absurd (show false = true from hs) Bool.false_ne_true

theorem op_lt : OpR X (compareOp .Lt) (rI0 fun i j => .bl (decide (i < j))) := opB0 fun _ _ _ _ _ _ _ q => lt_int q
theorem op_le : OpR X (compareOp .LtE) (rI0 fun i j => .bl (decide (i ≤ j))) := opB0 fun _ _ _ _ _ _ _ q => le_int q
theorem op_gt : OpR X (compareOp .Gt) (rI0 fun i j => .bl (decide (j < i))) := opB0 fun _ _ _ _ _ _ _ q => gt_int q
theorem op_ge : OpR X (compareOp .GtE) (rI0 fun i j => .bl (decide (j ≤ i))) := opB0 fun _ _ _ _ _ _ _ q => ge_int q
theorem op_lt_str : OpR X (compareOp .Lt) (fun x y H Q => ∃ i j, x = .str i ∧ y = .str j ∧ Q (.bl (decide (i.cps.toList < j.cps.toList))) H) := by
  intro pins s σ H x y v u Q I rx ry h
  obtain ⟨i, j, rfl, rfl, q⟩ := h
  obtain ⟨t, rfl⟩ := rx
  obtain ⟨t', rfl⟩ := ry
  exact lt_str (fin_bl I q rfl)
/-- the one string within the other -/
theorem op_in_str : OpR X (compareOp .In) (fun x y H Q => ∃ i j, x = .str i ∧ y = .str j ∧ Q (.bl (!(Builtin.Str.occurrences j i 0 j.length 1).isEmpty)) H) := by
  intro pins s σ H x y v u Q I rx ry h
  obtain ⟨i, j, rfl, rfl, q⟩ := h
  obtain ⟨t, rfl⟩ := rx
  obtain ⟨t', rfl⟩ := ry
  exact in_str (fin_bl I q rfl)

/-- is None, is not None: the right side a value none -/
theorem op_isN : OpR X (compareOp .Is) (fun x y H Q => y = .non ∧ Q (.bl (decide (x = .non))) H) := by
  intro pins s σ H x y v u Q I rx ry h
  obtain ⟨rfl, q⟩ := h
  cases ry
  refine is_none_gen (fin_bl I q ?_)
  cases x <;> first
    | (cases rx; rfl)
    | (obtain ⟨t, rfl⟩ := rx; rfl)
theorem op_notN : OpR X (compareOp .IsNot) (fun x y H Q => y = .non ∧ Q (.bl (!decide (x = .non))) H) := by
  intro pins s σ H x y v u Q I rx ry h
  obtain ⟨rfl, q⟩ := h
  cases ry
  refine isnot_none_gen (fin_bl I q ?_)
  cases x <;> first
    | (cases rx; rfl)
    | (obtain ⟨t, rfl⟩ := rx; rfl)

theorem op_notin_str : OpR X (compareOp .NotIn) (fun x y H Q => ∃ i j, x = .str i ∧ y = .str j ∧ Q (.bl (!(!(Builtin.Str.occurrences j i 0 j.length 1).isEmpty))) H) := by
  intro pins s σ H x y v u Q I rx ry h
  obtain ⟨i, j, rfl, rfl, q⟩ := h
  obtain ⟨t, rfl⟩ := rx
  obtain ⟨t', rfl⟩ := ry
  exact notIn_str (fin_bl I q rfl)
/-- is, is not of two objects that are tracked lists or instances -/
def isObj : HO → Bool
  | .lst _ => true
  | .ins _ _ _ => true
  | _ => false
theorem obj_there {pins : List (Addr × Obj)} {s : Shared} {σ : St} {H : Hp} {a : Addr} {o : HO} (I : Inv X pins σ H s) (h : H a = some o) (p : isObj o = true) : ∃ ob, s.heap.get? a = some ob ∧ ob.cls ≠ .type "tuple" := by
  cases o with
  | lst xs =>
    obtain ⟨_, its, n, _, e⟩ : xs.length ≤ sizeLine ∧ ∃ (its : List Value) (n : Nat), Vals xs its ∧ s.heap.get? a = some { cls := .type "list", data := .seq its.toArray n } := I.hok a _ h
    exact ⟨_, e, (by show Value.type "list" ≠ .type "tuple"; decide +kernel)⟩
  | ins C dx fs =>
    have x := I.hok a _ h
    obtain ⟨_, _, _, e, _⟩ := x
    exact ⟨_, e, (by show Value.ref C ≠ .type "tuple"; exact fun z => by cases z)⟩
  | _ => exact absurd (show false = true from p) Bool.false_ne_true
theorem op_is_ref : OpR X (compareOp .Is) (fun x y H Q => ∃ a b oa ob, x = .ref a ∧ y = .ref b ∧ H a = some oa ∧ isObj oa = true ∧ H b = some ob ∧ isObj ob = true ∧ Q (.bl (decide (a = b))) H) := by
  intro pins s σ H x y v u Q I rx ry h
  obtain ⟨a, b, oa, ob, rfl, rfl, ha, pa, hb, pb, q⟩ := h
  cases rx
  cases ry
  obtain ⟨o1, e1, n1⟩ := obj_there I ha pa
  obtain ⟨o2, e2, _⟩ := obj_there I hb pb
  by_cases z : a = b
  · subst z
    exact wpAny_is_ref_self (fin_bl I q (by simp))
  · exact wpAny_is_ref_other z e1 e2 n1 (fin_bl I q (by simp [z]))
theorem op_isnot_ref : OpR X (compareOp .IsNot) (fun x y H Q => ∃ a b oa ob, x = .ref a ∧ y = .ref b ∧ H a = some oa ∧ isObj oa = true ∧ H b = some ob ∧ isObj ob = true ∧ Q (.bl (!decide (a = b))) H) := by
  intro pins s σ H x y v u Q I rx ry h
  obtain ⟨a, b, oa, ob, rfl, rfl, ha, pa, hb, pb, q⟩ := h
  cases rx
  cases ry
  obtain ⟨o1, e1, n1⟩ := obj_there I ha pa
  obtain ⟨o2, e2, _⟩ := obj_there I hb pb
  by_cases z : a = b
  · subst z
    exact wpAny_isNot_ref_self (fin_bl I q (by simp))
  · exact wpAny_isNot_ref_other z e1 e2 n1 (fin_bl I q (by simp [z]))

/-- two rules for one operation: by cases -/
theorem OpR.or {f : Value → Value → Sem Value} {r r' : R2} (h : OpR X f r) (h' : OpR X f r') : OpR X f (fun x y H Q => r x y H Q ∨ r' x y H Q) := by
  intro pins s σ H x y v u Q I rx ry q
  rcases q with q | q
  · exact h pins s σ H x y v u Q I rx ry q
  · exact h' pins s σ H x y v u Q I rx ry q

theorem nomark (b : Expr) {op : CmpOp} (h : op ≠ .In := by decide) (h2 : op ≠ .NotIn := by decide) : behindInMarks op b = false := by
  have e1 : (op == CmpOp.In) = false := by cases op <;> first | rfl | exact absurd rfl h
  have e2 : (op == CmpOp.NotIn) = false := by cases op <;> first | rfl | exact absurd rfl h2
  cases b <;> simp [behindInMarks, e1, e2]
/-- a comparison as a value; hm: nomark b, or (for in, not in) by with_unfolding_all rfl -/
theorem pe_cmpR {op : CmpOp} {r : R2} (ho : OpR X (compareOp op) r) (ha : PE X a ta) (hb : PE X b tb) (hm : behindInMarks op b = false) : PE X (.Compare a [op] [b] pos) (tOp r ta tb) := by
  intro pins s σ H Q I h
  exact wpAny_Compare1 (binT ha hb I h fun v u s2 x y H2 I2 rx ry q => ho pins s2 σ H2 x y v u Q I2 rx ry q) hm
/-- a reading of a value as a test -/
def tTest (t : TE) : TT := fun σ H Q => t σ H fun x H' => ∃ k, x = .bl k ∧ Q k H'
theorem pt_cmpR {op : CmpOp} {r : R2} (ho : OpR X (compareOp op) r) (ha : PE X a ta) (hb : PE X b tb) (hm : behindInMarks op b = false) : PT X (.Compare a [op] [b] pos) (tTest (tOp r ta tb)) := by
  intro pins s σ H Q I h
  refine wpAny_isTrue_Compare1 (thn (ha pins s σ H _ I h) fun v s1 ⟨x, H1, I1, r1, q1⟩ => thn (hb pins s1 σ H1 _ I1 q1) fun u s2 ⟨y, H2, I2, r2, q2⟩ =>
    thn (ho pins s2 σ H2 x y v u _ I2 r1 r2 q2) fun c s3 ⟨z, H3, I3, r3, k, e, q3⟩ => ?_) hm
  subst e
  cases r3
  exact wpAny_truthy_bool ⟨H3, I3, q3⟩
/-- a op1 b op2 c -/
def tChain (r r' : R2) (ta tb tc : TE) : TE := fun σ H Q => ta σ H fun x H1 => tb σ H1 fun y H2 => r x y H2 fun z H3 => ∃ k, z = .bl k ∧
  (if k = true then tc σ H3 fun w' H4 => r' y w' H4 Q else Q (.bl false) H3)
theorem pe_chain {op op' : CmpOp} {r r' : R2} (ho : OpR X (compareOp op) r) (ho' : OpR X (compareOp op') r') (ha : PE X a ta) (hb : PE X b tb) (hc : PE X c tc)
    (hm : lastMarks [op, op'] [b, c] = false := by with_unfolding_all rfl) : PE X (.Compare a [op, op'] [b, c] pos) (tChain r r' ta tb tc) := by
  intro pins s σ H Q I h
  refine Compare_chain (thn (ha pins s σ H _ I h) fun v s1 ⟨x, H1, I1, r1, q1⟩ => chain_link (thn (hb pins s1 σ H1 _ I1 q1) fun u s2 ⟨y, H2, I2, r2, q2⟩ =>
    thn (ho pins s2 σ H2 x y v u _ I2 r1 r2 q2) fun d s3 ⟨z, H3, I3, r3, k, e, q3⟩ => ?_)) hm
  subst e
  cases r3
  refine wpAny_truthy_bool ?_
  cases k with
  | false => exact ite_ff ⟨.bl false, H3, I3, rfl, q3⟩
  | true => exact ite_tt (chain_last (thn (hc pins s3 σ H3 _ I3 q3) fun w' s4 ⟨z', H4, I4, r4, q4⟩ => ho' pins s4 σ H4 y z' u w' Q I4 r2 r4 q4))
theorem pt_chain {op op' : CmpOp} {r r' : R2} (ho : OpR X (compareOp op) r) (ho' : OpR X (compareOp op') r') (ha : PE X a ta) (hb : PE X b tb) (hc : PE X c tc)
    (hm : lastMarks [op, op'] [b, c] = false := by with_unfolding_all rfl) : PT X (.Compare a [op, op'] [b, c] pos) (tTest (tChain r r' ta tb tc)) := by
  intro pins s σ H Q I h
  refine isTrue_chain (thn (ha pins s σ H _ I h) fun v s1 ⟨x, H1, I1, r1, q1⟩ => test_link (thn (hb pins s1 σ H1 _ I1 q1) fun u s2 ⟨y, H2, I2, r2, q2⟩ =>
    thn (ho pins s2 σ H2 x y v u _ I2 r1 r2 q2) fun d s3 ⟨z, H3, I3, r3, k, e, q3⟩ => ?_)) hm
  subst e
  cases r3
  refine wpAny_truthy_bool ?_
  cases k with
  | false =>
    obtain ⟨k', e', q'⟩ := q3
    cases e'
    exact ite_ff ⟨H3, I3, q'⟩
  | true =>
    refine ite_tt (test_last (thn (hc pins s3 σ H3 _ I3 q3) fun w' s4 ⟨z', H4, I4, r4, q4⟩ => thn (ho' pins s4 σ H4 y z' u w' _ I4 r2 r4 q4) fun d' s5 ⟨z2, H5, I5, r5, k2, e2, q5⟩ => ?_))
    subst e2
    cases r5
    exact wpAny_truthy_bool ⟨H5, I5, q5⟩

/-! ### truth -/
/-- a value's truth by the abstract heap -/
def TruV (K : PySem.W.Frag) (x : V) (H : Hp) (k : Bool) : Prop :=
  match x with
  | .non => k = false
  | .bl b => k = b
  | .int i => k = (i != 0)
  | .str y => y.length ≤ sizeLine ∧ k = ((y.length : Int) != 0)
  | .byt y => y.size ≤ sizeLine ∧ k = ((y.size : Int) != 0)
  | .ref p => (∃ xs, SqL K H p xs ∧ k = !xs.isEmpty) ∨ (∃ xs, SqT K H p xs ∧ k = !xs.isEmpty) ∨ ∃ kvs, H p = some (.dK kvs) ∧ k = !kvs.isEmpty
  | _ => False
theorem isEmpty_kv {κ : Type} {kvs : List (κ × V)} {vs : List (κ × Value)} (r : KV kvs vs) : (!vs.isEmpty) = !kvs.isEmpty := by
  cases r <;> rfl
theorem isEmpty_of {xs : List V} {its : List Value} (r : Vals xs its) : (!its.toArray.isEmpty) = !xs.isEmpty := by
  cases r <;> simp
theorem line63 : (sizeLine : Nat) < 2 ^ 63 := by rw [sizeLine_eq]; decide
theorem tru_ok : TruR X (fun x H Q => ∃ k, TruV X.K x H k ∧ Q k H) := by
  intro pins s σ H x v Q I rx h
  obtain ⟨k, e, q⟩ := h
  have hl := line63
  have hs : sizeLine = 16777216 := sizeLine_eq
  cases x with
  | non =>
    cases rx
    have e' : k = false := e
    subst e'
    exact truthy_none ⟨H, I, q⟩
  | bl b =>
    cases rx
    have e' : k = b := e
    subst e'
    exact wpAny_truthy_bool ⟨H, I, q⟩
  | int i =>
    obtain ⟨t, rfl⟩ := rx
    have e' : k = (i != 0) := e
    subst e'
    exact PySem.P.truthy_int ⟨H, I, q⟩
  | str y =>
    obtain ⟨t, rfl⟩ := rx
    obtain ⟨hy, e'⟩ : y.length ≤ sizeLine ∧ k = ((y.length : Int) != 0) := e
    subst e'
    exact PySem.P.truthy_str (by omega) ⟨H, I.tok _, q⟩
  | byt y =>
    obtain ⟨t, rfl⟩ := rx
    obtain ⟨hy, e'⟩ : y.size ≤ sizeLine ∧ k = ((y.size : Int) != 0) := e
    subst e'
    exact PySem.W.truthy_bytes (by omega) ⟨H, I.tok _, q⟩
  | ref p =>
    cases rx
    have e' : (∃ xs, SqL X.K H p xs ∧ k = !xs.isEmpty) ∨ (∃ xs, SqT X.K H p xs ∧ k = !xs.isEmpty) ∨ ∃ kvs, H p = some (.dK kvs) ∧ k = !kvs.isEmpty := e
    rcases e' with ⟨xs, hx, e'⟩ | ⟨xs, hx, e'⟩ | ⟨kvs, hx, e'⟩
    · subst e'
      obtain ⟨its, r, pl, hz⟩ := I.list hx
      have hlen := r.length
      exact wpAny_truthy_list pl.isList (by simp only [List.size_toArray]; omega) ⟨H, I.tok _, by rw [isEmpty_of r]; exact q⟩
    · subst e'
      obtain ⟨its, r, pl, hz⟩ := I.tuple hx
      have hlen := r.length
      exact truthy_tuple pl (by simp only [List.size_toArray]; omega) ⟨H, I.tok _, by rw [isEmpty_of r]; exact q⟩
    · subst e'
      obtain ⟨hz, hS, vs, r, m⟩ : kvs.length ≤ sizeLine ∧ (p == sysModules) = false ∧ ∃ vs, KV kvs vs ∧ s.heap.DictOf (mixKind X.prog X.w) p vs := I.hok p _ hx
      have hlen : kvs.length = vs.length := Paired.length r
      exact wpAny_truthy_dict hS m (by omega) ⟨H, I.tok _, by rw [isEmpty_kv r]; exact q⟩
  | _ => exact (show False from e).elim
/-- any expression whose test is its value's truth (a name, a call, a subscript, a field ..: he by fun _ => rfl) -/
theorem pt_truth (ha : PE X a ta) (he : ∀ whole, isTrue a X.env whole = (do let v ← whole; standAt a.pos; holding [v] (truthy v))) :
    PT X a (fun σ H Q => ta σ H fun x H' => ∃ k, TruV X.K x H' k ∧ Q k H') := by
  intro pins s σ H Q I h
  exact isTrue_plain (thn (ha pins s σ H _ I h) fun v s1 ⟨x, H1, I1, r1, q1⟩ => tru_ok pins s1 σ H1 x v Q I1 r1 q1) (he _)

/-! ### strs and bytes -/
theorem pe_byt {x : List UInt8} {k : Nat} : PE X (.Constant (.bytes x) k pos) (fun _ H Q => Q (.byt x.toArray) H) := fun _ _ _ H _ I h => PySem.W.Constant_bytes ⟨.byt x.toArray, H, I.tok _, ⟨_, rfl⟩, h⟩
theorem op_add_str : OpR X (binaryOp .Add) (fun x y H Q => ∃ i j, x = .str i ∧ y = .str j ∧ i.length + j.length ≤ sizeLine ∧ Q (.str (i ++ j)) H) := by
  intro pins s σ H x y v u Q I rx ry h
  obtain ⟨i, j, rfl, rfl, hz, q⟩ := h
  obtain ⟨t, rfl⟩ := rx
  obtain ⟨t', rfl⟩ := ry
  exact add_str (fun t' tk => ⟨.str (i ++ j), H, I.tok _, ⟨_, rfl⟩, q⟩) hz
theorem iop_add_str : OpR X (inplaceOp .Add) (fun x y H Q => ∃ i j, x = .str i ∧ y = .str j ∧ i.length + j.length ≤ sizeLine ∧ Q (.str (i ++ j)) H) := by
  intro pins s σ H x y v u Q I rx ry h
  obtain ⟨i, j, rfl, rfl, hz, q⟩ := h
  obtain ⟨t, rfl⟩ := rx
  obtain ⟨t', rfl⟩ := ry
  exact iadd_str (fun t' tk => ⟨.str (i ++ j), H, I.tok _, ⟨_, rfl⟩, q⟩) hz
theorem op_add_byt : OpR X (binaryOp .Add) (fun x y H Q => ∃ i j, x = .byt i ∧ y = .byt j ∧ i.size + j.size ≤ 16777216 ∧ Q (.byt (i ++ j)) H) := by
  intro pins s σ H x y v u Q I rx ry h
  obtain ⟨i, j, rfl, rfl, hz, q⟩ := h
  obtain ⟨t, rfl⟩ := rx
  obtain ⟨t', rfl⟩ := ry
  exact PySem.W.KBy.add_bytes hz (fun t' tk => ⟨.byt (i ++ j), H, I.tok _, ⟨_, rfl⟩, q⟩)

def PlainIxT (b : Expr) : Prop := ∀ o i, subscripted b false o i = operate [o, i] (getItem o i)
/-- s[i], 0 ≤ i < len -/
theorem pe_item_str (ha : PE X a ta) (hb : PE X b tb) (hs : PlainIxT b) :
    PE X (.Subscript a b pos) (tOp (fun x y H Q => ∃ z i c, x = .str z ∧ y = .int i ∧ 0 ≤ i ∧ i < 2 ^ 63 ∧ i < z.length ∧ z.cps[i.toNat]? = some c ∧ Q (.str ⟨#[c]⟩) H) ta tb) := by
  intro pins s σ H Q I h
  refine Subscript_ (binT ha hb I h fun v u s2 x y H2 I2 rx ry q => ?_)
  obtain ⟨z, i, c, rfl, rfl, h0, h63, h1, hc, q⟩ := q
  obtain ⟨t, rfl⟩ := rx
  obtain ⟨t', rfl⟩ := ry
  have e : seqIndex? i z.length = some i.toNat := PySem.StrLaws.seqIndex_nonneg h0 h1
  exact tail_any (typeIs_str s2 z t) slot_str_getitem.lookup (getItem_str (c := c) (by
    have e1 : decide (i < -(2 ^ 63 : Int)) = false := decide_eq_false (by omega)
    have e2 : decide (i ≥ 2 ^ 63) = false := decide_eq_false (by omega)
    rw [e1, e2] <;> rfl) (by rw [e]; exact hc) ⟨.str ⟨#[c]⟩, H2, I2.tok _, ⟨_, rfl⟩, q⟩) (hs _ _)
/-- b[i], 0 ≤ i < len -/
theorem pe_item_byt (ha : PE X a ta) (hb : PE X b tb) (hs : PlainIxT b) :
    PE X (.Subscript a b pos) (tOp (fun x y H Q => ∃ (z : List UInt8) (i : Int), x = .byt z.toArray ∧ y = .int i ∧ z.length ≤ sizeLine ∧ 0 ≤ i ∧ i < z.length ∧ Q (.int ((z.getD i.toNat 0).toNat : Nat)) H) ta tb) := by
  intro pins s σ H Q I h
  refine Subscript_ (binT ha hb I h fun v u s2 x y H2 I2 rx ry q => ?_)
  obtain ⟨z, i, rfl, rfl, hz, h0, h1, q⟩ := q
  obtain ⟨t, rfl⟩ := rx
  obtain ⟨t', rfl⟩ := ry
  have hl : sizeLine = 16777216 := sizeLine_eq
  exact tail_any (PySem.W.typeIs_bytes s2 z.toArray t) PySem.W.FB.slot_bytes_getitem.lookup (PySem.W.getItem_bytes (by omega) h0 h1 ⟨.int ((z.getD i.toNat 0).toNat : Nat), H2, I2.tok _, ⟨_, rfl⟩, q⟩) (hs _ _)

/-! ### scalar builtins, by CallR -/
theorem vals1 {x : V} {us : List Value} (r : Vals [x] us) : ∃ u, us = [u] ∧ RelV x u := by
  cases r with
  | cons r1 r2 => cases r2; exact ⟨_, rfl, r1⟩
theorem vals2 {x y : V} {us : List Value} (r : Vals [x, y] us) : ∃ u w', us = [u, w'] ∧ RelV x u ∧ RelV y w' := by
  cases r with
  | cons r1 r2 =>
    cases r2 with
    | cons r3 r4 => cases r4; exact ⟨_, _, rfl, r1, r3⟩
theorem call_abs : CallR X (.builtin "abs") (fun xs H Q => ∃ i, xs = [.int i] ∧ Q (.int (if i < 0 then -i else i)) H) := by
  intro pins s σ H xs us Q I r h
  obtain ⟨i, rfl, q⟩ := h
  obtain ⟨u, rfl, t, rfl⟩ := vals1 r
  exact call_abs_int fun u tk => ⟨.int (if i < 0 then -i else i), H, I.tok _, ⟨_, rfl⟩, q⟩
theorem call_max2 (hc : X.calm = true) : CallR X (.builtin "max") (fun xs H Q => ∃ i j, xs = [.int i, .int j] ∧ Q (.int (if j > i then j else i)) H) := by
  intro pins s σ H xs us Q I r h
  obtain ⟨i, j, rfl, q⟩ := h
  obtain ⟨u, w', rfl, ⟨t, rfl⟩, ⟨t', rfl⟩⟩ := vals2 r
  refine max_two_ints (I.ok.hd hc) fun h' tk k => ⟨_, H, I.kept k, ?_, q⟩
  by_cases hj : j > i
  · rw [if_pos hj, if_pos hj]; exact ⟨_, rfl⟩
  · rw [if_neg hj, if_neg hj]; exact ⟨_, rfl⟩
theorem call_min2 (hc : X.calm = true) : CallR X (.builtin "min") (fun xs H Q => ∃ i j, xs = [.int i, .int j] ∧ Q (.int (if j < i then j else i)) H) := by
  intro pins s σ H xs us Q I r h
  obtain ⟨i, j, rfl, q⟩ := h
  obtain ⟨u, w', rfl, ⟨t, rfl⟩, ⟨t', rfl⟩⟩ := vals2 r
  refine min_two_ints (I.ok.hd hc) fun h' tk k => ⟨_, H, I.kept k, ?_, q⟩
  by_cases hj : j < i
  · rw [if_pos hj, if_pos hj]; exact ⟨_, rfl⟩
  · rw [if_neg hj, if_neg hj]; exact ⟨_, rfl⟩
theorem call_int1 : CallR X (.type "int") (fun xs H Q => (∃ i, xs = [.int i] ∧ Q (.int i) H) ∨ ∃ k, xs = [.bl k] ∧ Q (.int (if k then 1 else 0)) H) := by
  intro pins s σ H xs us Q I r h
  rcases h with ⟨i, rfl, q⟩ | ⟨k, rfl, q⟩
  · obtain ⟨u, rfl, t, rfl⟩ := vals1 r
    exact call_int_int ⟨.int i, H, I, ⟨_, rfl⟩, q⟩
  · obtain ⟨u, rfl, r1⟩ := vals1 r
    cases r1
    exact call_int_bool ⟨.int (if k then 1 else 0), H, I.tok _, ⟨_, rfl⟩, q⟩
theorem call_bool1 : CallR X (.type "bool") (fun xs H Q => (∃ i, xs = [.int i] ∧ Q (.bl (i != 0)) H) ∨ ∃ k, xs = [.bl k] ∧ Q (.bl k) H) := by
  intro pins s σ H xs us Q I r h
  rcases h with ⟨i, rfl, q⟩ | ⟨k, rfl, q⟩
  · obtain ⟨u, rfl, t, rfl⟩ := vals1 r
    exact call_bool_int ⟨.bl (i != 0), H, I, rfl, q⟩
  · obtain ⟨u, rfl, r1⟩ := vals1 r
    cases r1
    exact call_bool_bool ⟨.bl k, H, I, rfl, q⟩
theorem call_str_int : CallR X (.type "str") (fun xs H Q => ∃ i, xs = [.int i] ∧ i.natAbs.log2 < 1920 ∧ Q (.str (toString i)) H) := by
  intro pins s σ H xs us Q I r h
  obtain ⟨i, rfl, hz, q⟩ := h
  obtain ⟨u, rfl, t, rfl⟩ := vals1 r
  exact PySem.P.str_of_int hz ⟨.str _, H, I.tok _, ⟨_, rfl⟩, q⟩
theorem call_ord : CallR X (.builtin "ord") (fun xs H Q => ∃ x, xs = [.str x] ∧ x.length = 1 ∧ Q (.int (x.cps.getD 0 0 : Nat)) H) := by
  intro pins s σ H xs us Q I r h
  obtain ⟨x, rfl, hz, q⟩ := h
  obtain ⟨u, rfl, t, rfl⟩ := vals1 r
  exact ord_of_one hz ⟨.int _, H, I.tok _, ⟨_, rfl⟩, q⟩
theorem call_chr : CallR X (.builtin "chr") (fun xs H Q => ∃ i, xs = [.int i] ∧ 0 ≤ i ∧ i ≤ 1114111 ∧ Q (.str ⟨#[i.toNat]⟩) H) := by
  intro pins s σ H xs us Q I r h
  obtain ⟨i, rfl, h0, h1, q⟩ := h
  obtain ⟨u, rfl, t, rfl⟩ := vals1 r
  exact chr_of_range h0 h1 ⟨.str _, H, I.tok _, ⟨_, rfl⟩, q⟩
/-- len of a str, a bytes, a list, a tuple -/
def LenV (K : PySem.W.Frag) (x : V) (H : Hp) (n : Nat) : Prop :=
  match x with
  | .str y => y.length ≤ sizeLine ∧ n = y.length
  | .byt y => y.size ≤ sizeLine ∧ n = y.size
  | .ref p => (∃ xs, SqL K H p xs ∧ n = xs.length) ∨ ∃ xs, SqT K H p xs ∧ n = xs.length
  | _ => False
theorem call_len : CallR X (.builtin "len") (fun xs H Q => ∃ x n, xs = [x] ∧ LenV X.K x H n ∧ Q (.int n) H) := by
  intro pins s σ H xs us Q I r h
  obtain ⟨x, n, rfl, e, q⟩ := h
  obtain ⟨u, rfl, rx⟩ := vals1 r
  have hl := line63
  have hs : sizeLine = 16777216 := sizeLine_eq
  cases x with
  | str y =>
    obtain ⟨t, rfl⟩ := rx
    obtain ⟨hy, e'⟩ : y.length ≤ sizeLine ∧ n = y.length := e
    subst e'
    exact len_str (by omega) ⟨.int _, H, I.tok _, ⟨_, rfl⟩, q⟩
  | byt y =>
    obtain ⟨t, rfl⟩ := rx
    obtain ⟨hy, e'⟩ : y.size ≤ sizeLine ∧ n = y.size := e
    subst e'
    exact PySem.W.len_bytes (by omega) ⟨.int _, H, I.tok _, ⟨_, rfl⟩, q⟩
  | ref p =>
    cases rx
    have e' : (∃ xs, SqL X.K H p xs ∧ n = xs.length) ∨ ∃ xs, SqT X.K H p xs ∧ n = xs.length := e
    rcases e' with ⟨xs, hx, e'⟩ | ⟨xs, hx, e'⟩
    · subst e'
      obtain ⟨its, r', pl, hz⟩ := I.list hx
      have hlen := r'.length
      exact Calls.call_len_list pl.isList (by simp only [List.size_toArray]; omega) ⟨.int xs.length, H, I.tok _, ⟨_, by simp only [List.size_toArray]; rw [hlen]⟩, q⟩
    · subst e'
      obtain ⟨its, r', pl, hz⟩ := I.tuple hx
      have hlen := r'.length
      exact len_tuple pl (by simp only [List.size_toArray]; omega) ⟨.int xs.length, H, I.tok _, ⟨_, by simp only [List.size_toArray]; rw [hlen]⟩, q⟩
  | _ => exact (show False from e).elim
/-- divmod: a new tuple -/
theorem call_divmod : CallR X (.builtin "divmod") (fun xs H Q => ∃ i j, xs = [.int i, .int j] ∧ CDiv i j ∧ ∀ p, H p = none → Q (.ref p) (upd H p (.tup [.int (i / j), .int (i % j)]))) := by
  intro pins s σ H xs us Q I r h
  obtain ⟨i, j, rfl, ⟨h1, h2⟩, q⟩ := h
  obtain ⟨u, w', rfl, ⟨t, rfl⟩, ⟨t', rfl⟩⟩ := vals2 r
  refine divmod_int (by omega) ?_ (.inl (PyProof.noPylong_small (by omega)))
  rw [Int.fdiv_eq_ediv_of_nonneg i (by omega), Int.fmod_eq_emod_of_nonneg i (by omega)]
  have hn : H s.heap.objs.size = none := I.hok.fresh (Nat.le_refl _)
  refine ⟨.ref s.heap.objs.size, _, ?_, rfl, q _ hn⟩
  refine I.laid (fun b o e => Heap.get?_push_of_some _ e) (Nat.le_refl _) ⟨by simp only [List.length_cons, List.length_nil]; rw [sizeLine_eq]; decide, [.int (i / j) s.toks, .int (i % j) (s.toks + 1)], .cons ⟨_, rfl⟩ (.cons ⟨_, rfl⟩ .nil), ?_⟩
  exact ⟨_, Heap.get?_push_size s.heap rfl, rfl, 0, rfl⟩
end
end L2

namespace L2
open PySem PySem.Spec PyProof.Rows

/-! ### an instance, its attributes a map -/
structure ObjM (h : Heap) (x dx C : Addr) (mA : Str → Option Value) : Prop where
  obj : h.get? x = some (PySem.W.instObj C dx)
  ns : h.Ns1 dx mA
  ne : dx ≠ x

theorem lookIn_ns {h : Heap} {dx : Addr} {mA : Str → Option Value} (n : h.Ns1 dx mA) : ∃ od, h.get? dx = some od ∧ ∀ name, PySem.W.lookIn name od = some (mA name) := by
  obtain ⟨o, es, ep, ho, hd, hk, _, hm⟩ := n
  refine ⟨o, ho, fun name => ?_⟩
  have e := hm name
  unfold nsFind findBy at e
  rw [← Array.find?_toList] at e
  unfold PySem.W.lookIn
  rw [hd]
  dsimp only
  split
  · rename_i y q
    rw [q] at e
    exact congrArg some e
  · rename_i q
    rw [q] at e
    have a : es.toList.any (·.refKey) = false := by
      rw [List.any_eq_false]
      intro y hy
      obtain ⟨z, t, hkey⟩ := hk y (Array.mem_toList_iff.mp hy)
      simp [DictEntry.refKey, hkey]
    have a' : ¬ es.toList.any (·.refKey) = true := by rw [a]; exact Bool.false_ne_true
    rw [if_neg a']
    exact congrArg some e

theorem ObjM.look {h : Heap} {x dx C : Addr} {mA : Str → Option Value} (I : ObjM h x dx C mA) : ∃ od, PySem.W.InstAt h x (PySem.W.instObj C dx) C (some od) ∧ ∀ name, PySem.W.lookIn name od = some (mA name) :=
  let ⟨od, ho, hl⟩ := lookIn_ns I.ns
  ⟨od, ⟨I.obj, rfl, rfl, ho⟩, hl⟩

section
variable {prog : Program} {w : World} {A : Around} {E : Value → Shared → Prop} {s : Shared} {K : PySem.W.Frag} {x dx C f : Addr} {mA : Str → Option Value} {name : Str} {v : Value}

theorem get_map {expr : Bool} {Q : Value → Shared → Prop} (X : K.In s.heap) (I : ObjM s.heap x dx C mA) (hg : PySem.W.plainGet K C name = true) (hh : PySem.W.hasDictIn K C = true)
    (ha : PySem.W.findIn K (.ref C) name = some none) (hv : mA name = some v) (hv' : PySem.W.handedIn v = true) (h : Q v { s with toks := s.toks + 1 }) :
    wpAny (model prog w) A (getAttr (.ref x) name expr) Q E s := by
  obtain ⟨od, J, hl⟩ := I.look
  exact PySem.W.get_value X J (PySem.W.plainGet_of hg).1 (PySem.W.findObj_own hh ha rfl (by rw [hl, hv])) hv' h

theorem get_const {expr : Bool} {a : Value} {Q : Value → Shared → Prop} (X : K.In s.heap) (I : ObjM s.heap x dx C mA) (hg : PySem.W.plainGet K C name = true) (hh : PySem.W.hasDictIn K C = true)
    (ha : PySem.W.findIn K (.ref C) name = some (some a)) (hn : PySem.W.specialIn K a "__get__" = some none) (hc : PySem.W.copiedNames.contains name = false) (hv : mA name = none) (hv' : PySem.W.handedIn a = true)
    (h : Q a { s with toks := s.toks + 1 }) : wpAny (model prog w) A (getAttr (.ref x) name expr) Q E s := by
  obtain ⟨od, J, hl⟩ := I.look
  exact PySem.W.get_value X J (PySem.W.plainGet_of hg).1 (PySem.W.findObj_cls hh ha hn hv' hc (by rw [hl, hv])) hv' h

theorem get_meth {pl : Sem Bool} {Q : Value × List Value → Shared → Prop} (X : K.In s.heap) (I : ObjM s.heap x dx C mA) (hg : PySem.W.plainGet K C name = true)
    (hf : PySem.W.findIn K (.ref C) name = some (some (.ref f))) (ht : PySem.W.isFn K (.ref f) = true) (hv : mA name = none) (h : Q (.ref f, [.ref x]) s) :
    wpAny (model prog w) A (getMethod (.ref x) name pl) Q E s := by
  obtain ⟨od, J, hl⟩ := I.look
  exact PySem.W.method_fn X J (PySem.W.plainGet_of hg).1 (PySem.W.plainGet_of hg).2 hf (beq_iff_eq.mp ht) (by show (PySem.W.lookIn name od).map (·.isSome) = some false; rw [hl, hv]; rfl) h

theorem set_map {ns : List Str} {Q : Unit → Shared → Prop} (X : K.In s.heap) (I : ObjM s.heap x dx C mA)
    (hs : PySem.W.findIn K (.ref C) "__setattr__" = some (some (.builtin "object.__setattr__"))) (hp : PySem.W.plainOver K C = true) (ht : PySem.W.takerIn K C name = some none) (hh : PySem.W.hasDictIn K C = true)
    (hw : PySem.Within mA ns) (hsz : ns.length ≤ sizeLine)
    (h : ∀ h', ObjM h' x dx C (fun y => if y = name then some v else mA y) → Heap.SameBut dx s.heap h' → Q () { s with heap := h', toks := s.toks + 2 }) :
    wpAny (model prog w) A (setAttr (.ref x) name v) Q E s := by
  obtain ⟨od, J, hl⟩ := I.look
  refine PySem.W.set_plain X J hs (PySem.W.osa_open (s := { s with toks := s.toks + 1 }) (r := none) X J hp ht fun b => ?_)
  obtain ⟨cd, hc, hd'⟩ := PySem.W.any_some hh
  have hx : s.heap.get? x = some ⟨.ref C, some dx, .plain, #[]⟩ := I.obj
  refine wpAny_bind (wpAny_pure (wpAny_bind (wpAny_bind (wpAny_loadPart hx (wpAny_bind (PySem.W.Looks.here (s := { s with toks := s.toks + 1 }) (PySem.W.looks_clsIn X hc) ?_))))))
  rw [hd']
  refine wpAny_pure (a := some dx) (wpAny_bind (wpAny_pure (wpAny_bind ?_)))
  refine wpAny_nsSet1 (s := { s with toks := s.toks + 1 }) I.ns fun h' hn2 hs2 => ?_
  obtain ⟨oD, esD, epD, hoD, hdD, hcD⟩ := hn2.count (PySem.Within.cons name v hw)
  refine wpAny_bind (wpAny_lookBehind hoD (by rw [hdD]; exact pastItsLine_dict (Nat.le_trans hcD (by rw [List.length_cons]; omega))) ?_)
  exact wpAny_pure (h _ ⟨(hs2.2 _ (Ne.symm I.ne)).trans I.obj, hn2, I.ne⟩ hs2)

/-- C(..): the dict at the heap's end, the instance behind it; then its __init__ -/
theorem make_map {R : Result → Shared → Prop} {vs : List Value} {kw : List (Str × Value)} (X : K.In s.heap) (hm : PySem.W.makesIn K C = true)
    (hi : PySem.W.findIn K (.ref C) "__init__" = some (some (.ref f))) (hf : PySem.W.typeIn K (.ref f) = some (.type "function"))
    (h : codeAny (model prog w) (A.under (.builtin "type.__call__" ⟨.ref C :: vs, kw⟩)) (.call (.ref f) ⟨.ref (s.heap.objs.size + 1) :: vs, kw⟩) (PySem.W.InitBack (s.heap.objs.size + 1) R)
      { s with heap := (s.heap.push PySem.W.emptyDict).push (PySem.W.instObj C s.heap.objs.size) }) :
    codeAny (model prog w) A (.call (.ref C) ⟨vs, kw⟩) R s := by
  obtain ⟨hh, g, d, t, os⟩ := s
  exact PySem.W.make_core (PySem.W.makes_of X hm) (PySem.W.looks_findIn X hi) (fun self => PySem.W.bind_fn X self hf) (.inl rfl) h
/-- C() where there is no __init__ but object's -/
theorem make_map0 {R : Result → Shared → Prop} (X : K.In s.heap) (hm : PySem.W.makesIn K C = true)
    (hi : PySem.W.findIn K (.ref C) "__init__" = some (some (.builtin "object.__init__")))
    (hb : ∀ self, PySem.W.Looks (model prog w) s.heap (bindSpecial (.builtin "object.__init__") self) (.builtin "object.__init__", [self]))
    (h : codeAny (model prog w) (A.under (.builtin "type.__call__" ⟨[.ref C], []⟩)) (.call (.builtin "object.__init__") ⟨[.ref (s.heap.objs.size + 1)], []⟩) (PySem.W.InitBack (s.heap.objs.size + 1) R)
      { s with heap := (s.heap.push PySem.W.emptyDict).push (PySem.W.instObj C s.heap.objs.size) }) :
    codeAny (model prog w) A (.call (.ref C) ⟨[], []⟩) R s := by
  obtain ⟨hh, g, d, t, os⟩ := s
  exact PySem.W.make_core (PySem.W.makes_of X hm) (PySem.W.looks_findIn X hi) hb (.inr ⟨rfl, rfl⟩) h
end

/-! ### the attributes as a list of pairs -/
def putF (f : Str) (v : V) : List (Str × V) → List (Str × V)
  | [] => [(f, v)]
  | (g, x) :: r => if g = f then (g, v) :: r else (g, x) :: putF f v r
theorem lookup_putF (f g : Str) (v : V) : ∀ fs : List (Str × V), (putF f v fs).lookup g = if g = f then some v else fs.lookup g
  | [] => by
    show List.lookup g [(f, v)] = _
    by_cases h : g = f
    · have hb : (g == f) = true := beq_iff_eq.mpr h
      simp only [List.lookup, hb, if_pos h]
    · have hb : (g == f) = false := beq_eq_false_iff_ne.mpr h
      simp only [List.lookup, hb, if_neg h]
  | (k, x) :: r => by
    have ih := lookup_putF f g v r
    rw [show putF f v ((k, x) :: r) = (if k = f then (k, v) :: r else (k, x) :: putF f v r) from rfl]
    by_cases hk : k = f
    · rw [if_pos hk]
      by_cases h : g = k
      · have hb : (g == k) = true := beq_iff_eq.mpr h
        simp only [List.lookup, hb, if_pos (h.trans hk)]
      · have hb : (g == k) = false := beq_eq_false_iff_ne.mpr h
        simp only [List.lookup, hb, if_neg (fun e : g = f => h (e.trans hk.symm))]
    · rw [if_neg hk]
      by_cases h : g = k
      · have hb : (g == k) = true := beq_iff_eq.mpr h
        simp only [List.lookup, hb, if_neg (fun e : g = f => hk (h.symm.trans e))]
      · have hb : (g == k) = false := beq_eq_false_iff_ne.mpr h
        simp only [List.lookup, hb]
        exact ih
theorem keys_putF (f : Str) (v : V) : ∀ fs : List (Str × V), f ∈ (putF f v fs).map (·.1) ∧ ∀ g, g ∈ fs.map (·.1) → g ∈ (putF f v fs).map (·.1)
  | [] => ⟨by simp [putF], fun g h => by simp at h⟩
  | (k, x) :: r => by
    obtain ⟨i1, i2⟩ := keys_putF f v r
    rw [show putF f v ((k, x) :: r) = (if k = f then (k, v) :: r else (k, x) :: putF f v r) from rfl]
    by_cases hk : k = f
    · rw [if_pos hk]
      subst hk
      exact ⟨by simp, fun g h => by simpa using h⟩
    · rw [if_neg hk]
      refine ⟨?_, fun g h => ?_⟩
      · rw [List.map_cons]
        exact List.mem_cons_of_mem _ i1
      · rw [List.map_cons] at h ⊢
        rcases List.mem_cons.mp h with e | e
        · exact List.mem_cons.mpr (.inl e)
        · exact List.mem_cons_of_mem _ (i2 g e)
theorem length_putF (f : Str) (v : V) : ∀ fs : List (Str × V), (putF f v fs).length ≤ fs.length + 1
  | [] => by simp [putF]
  | (k, x) :: r => by
    have ih := length_putF f v r
    rw [show putF f v ((k, x) :: r) = (if k = f then (k, v) :: r else (k, x) :: putF f v r) from rfl]
    by_cases hk : k = f
    · rw [if_pos hk, List.length_cons, List.length_cons]; omega
    · rw [if_neg hk, List.length_cons, List.length_cons]; omega

theorem RelO.some_of {v : V} {o : Option Value} (r : RelO (some v) o) : ∃ u, o = some u ∧ RelV v u := by
  cases o with
  | none => exact (show False from r).elim
  | some u => exact ⟨u, rfl, r⟩
theorem RelO.none_of {o : Option Value} (r : RelO none o) : o = none := by
  cases o with
  | none => rfl
  | some u => exact (show False from r).elim
theorem handed_of {v : V} {u : Value} (r : RelV v u) : PySem.W.handedIn u = true := by
  cases v with
  | non => cases (show u = Value.none from r); rfl
  | bl b => cases (show u = Value.bool b from r); rfl
  | int i => obtain ⟨t, e⟩ := (show ∃ t, u = Value.int i t from r); cases e; rfl
  | str x => obtain ⟨t, e⟩ := (show ∃ t, u = Value.str x t from r); cases e; rfl
  | byt b => obtain ⟨t, e⟩ := (show ∃ t, u = Value.bytes b t from r); cases e; rfl
  | flt b => obtain ⟨t, e⟩ := (show ∃ t, u = Value.float b t from r); cases e; rfl
  | ref a => cases (show u = Value.ref a from r); rfl
  | ty n => cases (show u = Value.type n from r); rfl

section
variable {P : Program} {w : World} {H H' : Hp} {h h' : Heap} {a C dx : Addr} {fs fs' : List (Str × V)}
theorem ins_get (hok : HOk P w H h) (e : H a = some (.ins C dx fs)) : ∃ mA, ObjM h a dx C mA ∧ (∀ f, RelO (fs.lookup f) (mA f)) ∧ PySem.Within mA (fs.map (·.1)) ∧ fs.length ≤ 1000 ∧ H dx = some (.own a) := by
  obtain ⟨d, z, ne, ob, mA, n, r, q⟩ := (show ObjOk P w H h a (.ins C dx fs) from hok a _ e)
  exact ⟨mA, ⟨ob, n, ne⟩, r, q, z, d⟩
end

/-! ### what of the text a class must have -/
structure Cls (K : PySem.W.Frag) (C : Addr) : Prop where
  pg : PySem.W.plainGet K C Str.empty = true
  hd : PySem.W.hasDictIn K C = true
  po : PySem.W.plainOver K C = true
  sa : PySem.W.findIn K (.ref C) "__setattr__" = some (some (.builtin "object.__setattr__"))
theorem Cls.get {K : PySem.W.Frag} {C : Addr} (c : Cls K C) (f : Str) : PySem.W.plainGet K C f = true := c.pg
/-- no class of it has the name -/
def NoAttr (K : PySem.W.Frag) (C : Addr) (f : Str) : Prop := PySem.W.findIn K (.ref C) f = some none
theorem NoAttr.taker {K : PySem.W.Frag} {C : Addr} {f : Str} (n : NoAttr K C f) : PySem.W.takerIn K C f = some none := by
  unfold PySem.W.takerIn
  rw [show PySem.W.findIn K (.ref C) f = some none from n]
  rfl
/-- a constant of the class -/
structure Con (K : PySem.W.Frag) (C : Addr) (f : Str) (v : V) (u : Value) : Prop where
  at_ : PySem.W.findIn K (.ref C) f = some (some u)
  rel : RelV v u
  get : PySem.W.specialIn K u "__get__" = some none
  cp : PySem.W.copiedNames.contains f = false
/-- a method: a plain def of the class or of one above it -/
structure Meth (K : PySem.W.Frag) (C : Addr) (m : Str) (f : Addr) : Prop where
  at_ : PySem.W.findIn K (.ref C) m = some (some (.ref f))
  fn : PySem.W.isFn K (.ref f) = true
  kp : PySem.W.keepIn K (.ref f) = true

section
variable {X : Cx} {pins : List (Addr × Obj)} {σ : St} {H : Hp} {s : Shared} {a C dx : Addr} {fs : List (Str × V)} {f : Str} {v : V} {A : Around} {E : Value → Shared → Prop}

theorem getattr_ok {b : Bool} {Q : Value → Shared → Prop} (I : Inv X pins σ H s) (e : H a = some (.ins C dx fs)) (c : Cls X.K C) (n : NoAttr X.K C f) (l : fs.lookup f = some v)
    (h : ∀ u s', Inv X pins σ H s' → RelV v u → Q u s') : wpAny (model X.prog X.w) A (getAttr (.ref a) f b) Q E s := by
  obtain ⟨mA, O, r, _, _, _⟩ := ins_get I.hok e
  obtain ⟨u, hu, ru⟩ := RelO.some_of (v := v) (o := mA f) (by rw [← l]; exact r f)
  exact get_map I.kIn O (c.get f) c.hd n hu (handed_of ru) (h u _ (I.tok _) ru)

theorem getcon_ok {b : Bool} {u : Value} {Q : Value → Shared → Prop} (I : Inv X pins σ H s) (e : H a = some (.ins C dx fs)) (c : Cls X.K C) (k : Con X.K C f v u) (l : fs.lookup f = none)
    (h : ∀ s', Inv X pins σ H s' → Q u s') : wpAny (model X.prog X.w) A (getAttr (.ref a) f b) Q E s := by
  obtain ⟨mA, O, r, _, _, _⟩ := ins_get I.hok e
  have hn : mA f = none := RelO.none_of (by rw [← l]; exact r f)
  exact get_const I.kIn O (c.get f) c.hd k.at_ k.get k.cp hn (handed_of k.rel) (h _ (I.tok _))

theorem getmeth_ok {m : Str} {g : Addr} {pl : Sem Bool} {Q : Value × List Value → Shared → Prop} (I : Inv X pins σ H s) (e : H a = some (.ins C dx fs)) (c : Cls X.K C) (k : Meth X.K C m g) (l : fs.lookup m = none)
    (h : Q (.ref g, [.ref a]) s) : wpAny (model X.prog X.w) A (getMethod (.ref a) m pl) Q E s := by
  obtain ⟨mA, O, r, _, _, _⟩ := ins_get I.hok e
  have hn : mA m = none := RelO.none_of (by rw [← l]; exact r m)
  exact get_meth I.kIn O (c.get m) k.at_ k.fn hn h

theorem setattr_ok {y : V} {u : Value} {Q : Unit → Shared → Prop} (I : Inv X pins σ H s) (e : H a = some (.ins C dx fs)) (c : Cls X.K C) (n : NoAttr X.K C f) (hl : fs.length < 1000) (ry : RelV y u)
    (h : ∀ s', Inv X pins σ (upd H a (.ins C dx (putF f y fs))) s' → Q () s') : wpAny (model X.prog X.w) A (setAttr (.ref a) f u) Q E s := by
  obtain ⟨mA, O, r, wi, _, ho⟩ := ins_get I.hok e
  have hz : (fs.map (·.1)).length ≤ sizeLine := by rw [List.length_map, sizeLine_eq]; omega
  refine set_map I.kIn O c.sa c.po n.taker c.hd wi hz fun h' O' sb => h _ ?_
  have hd : ∃ o, h'.get? dx = some o := let ⟨o, _, _, e', _⟩ := O'.ns; ⟨o, e'⟩
  refine I.write (x := a) (e := dx) (by rw [e]; exact True.intro) (.inr ho) (fun b q hb z => (sb.2 b hb).trans z) hd ?_
  refine ⟨by rw [upd_ne O.ne]; exact ho, ?_, O.ne, O'.obj, _, O'.ns, fun g => ?_, fun g hg => ?_⟩
  · have := length_putF f y fs; omega
  · show RelO ((putF f y fs).lookup g) (if g = f then some u else mA g)
    rw [lookup_putF]
    by_cases q : g = f
    · rw [if_pos q, if_pos q]; exact ry
    · rw [if_neg q, if_neg q]; exact r g
  · by_cases q : g = f
    · rw [q]; exact (keys_putF f y fs).1
    · refine (keys_putF f y fs).2 g (wi g fun z => hg ?_)
      show (if g = f then some u else mA g) = none
      rw [if_neg q]; exact z

/-- a new instance, tracked, without attributes -/
theorem Inv.made (I : Inv X pins σ H s) : Inv X pins σ (upd (upd H s.heap.objs.size (.own (s.heap.objs.size + 1))) (s.heap.objs.size + 1) (.ins C s.heap.objs.size []))
    { s with heap := (s.heap.push PySem.W.emptyDict).push (PySem.W.instObj C s.heap.objs.size) } := by
  have e1 : (s.heap.push PySem.W.emptyDict).get? s.heap.objs.size = some PySem.W.emptyDict := Heap.get?_push_size s.heap rfl
  have e2 : ((s.heap.push PySem.W.emptyDict).push (PySem.W.instObj C s.heap.objs.size)).get? (s.heap.objs.size + 1) = some (PySem.W.instObj C s.heap.objs.size) := by
    have := Heap.get?_push_size (s.heap.push PySem.W.emptyDict) (o := PySem.W.instObj C s.heap.objs.size) rfl
    rwa [Heap.size_push] at this
  have e3 : (s.heap.push PySem.W.emptyDict).Ns s.heap.objs.size (fun _ => none) := ⟨PySem.W.emptyDict, #[], _, e1, rfl, (fun e he => absurd he (by simp)), fun _ => rfl⟩
  have I1 := I.laid (a := s.heap.objs.size) (o := .own (s.heap.objs.size + 1)) (h' := s.heap.push PySem.W.emptyDict) (t' := s.toks) (fun b u q => Heap.get?_push_of_some _ q) (Nat.le_refl _) ⟨_, e1⟩
  refine I1.laid (a := s.heap.objs.size + 1) (o := .ins C s.heap.objs.size []) (t' := s.toks) (fun b u q => Heap.get?_push_of_some _ q) (Nat.le_of_eq (Heap.size_push _ _)) ?_
  have ne : s.heap.objs.size ≠ s.heap.objs.size + 1 := Nat.ne_of_lt (Nat.lt_succ_self _)
  refine ⟨by rw [upd_ne ne, upd_same], Nat.zero_le _, ne, e2, fun _ => none, (Heap.Ns1.of_empty e3).at fun o q => Heap.get?_push_of_some _ q, fun _ => True.intro, fun y hy => absurd rfl hy⟩

/-- e.f where nothing but the object is asked: through attributeBase (super) and the last hold -/
theorem attr_of {prog : Program} {w : World} {env : Env} {e : Expr} {f : Str} {pos : Pos} {s : Shared} {Q : Value → Shared → Prop} (hb : attributeBase e f env (eval e env) = eval e env)
    (h : wpAny (model prog w) A (eval e env) (fun o s₁ => wpAny (model prog w) A (getAttr o f true) Q E s₁) E s) : wpAny (model prog w) A (eval (.Attribute e f pos) env) Q E s :=
  Attribute_any_ h (by rw [arm_eval_Attribute, hb])
end

/-! ### readings and rules -/
/-- e.f, an attribute of the instance -/
def tFld (K : PySem.W.Frag) (ta : TE) (f : Str) : TE := fun σ H Q => ta σ H fun x H1 => ∃ a C dx fs v, x = .ref a ∧ H1 a = some (.ins C dx fs) ∧ Cls K C ∧ NoAttr K C f ∧ fs.lookup f = some v ∧ Q v H1
/-- e.f, a constant of the class -/
def tCon (K : PySem.W.Frag) (ta : TE) (f : Str) : TE := fun σ H Q => ta σ H fun x H1 => ∃ a C dx fs v u, x = .ref a ∧ H1 a = some (.ins C dx fs) ∧ Cls K C ∧ Con K C f v u ∧ fs.lookup f = none ∧ Q v H1
/-- e.f = value -/
def sFld (K : PySem.W.Frag) (ta tv : TE) (f : Str) : TS := fun D σ H => tv σ H fun y H1 => ta σ H1 fun x H2 => ∃ a C dx fs, x = .ref a ∧ H2 a = some (.ins C dx fs) ∧ Cls K C ∧ NoAttr K C f ∧ fs.length < 1000 ∧
  D.nx σ (upd H2 a (.ins C dx (putF f y fs)))
/-- an augmented operator on two values -/
def InOp (X : Cx) (op : Operator) (rd : V → V → Hp → VK → Prop) : Prop :=
  ∀ (pins : List (Addr × Obj)) (s : Shared) (σ : St) (H : Hp) (x y : V) (u v : Value) (Q : VK), Inv X pins σ H s → RelV x u → RelV y v → rd x y H Q → wpAny (model X.prog X.w) X.A (inplaceOp op u v) (EP X pins σ Q) X.xe s
/-- e.f op= value -/
def sFldAug (K : PySem.W.Frag) (ta tv : TE) (rd : V → V → Hp → VK → Prop) (f : Str) : TS := fun D σ H => ta σ H fun x H1 => ∃ a C dx fs v, x = .ref a ∧ H1 a = some (.ins C dx fs) ∧ Cls K C ∧ NoAttr K C f ∧ fs.lookup f = some v ∧
  tv σ H1 fun y H2 => rd v y H2 fun z H3 => ∃ dx' fs', H3 a = some (.ins C dx' fs') ∧ fs'.length < 1000 ∧ D.nx σ (upd H3 a (.ins C dx' (putF f z fs')))

section
variable {X : Cx} {o e value : Expr} {f : Str} {pos pos' tpos : Pos} {ta tv : TE}
theorem pe_fld (he : PE X e ta) (hb : attributeBase e f X.env (eval e X.env) = eval e X.env) : PE X (.Attribute e f pos) (tFld X.K ta f) := by
  intro pins s σ H Q I h
  refine attr_of hb (thn (he pins s σ H _ I h) fun u s1 ⟨x, H1, I1, rx, a, C, dx, fs, v, ex, ea, c, n, l, q⟩ => ?_)
  subst ex
  obtain rfl : u = Value.ref a := rx
  exact getattr_ok I1 ea c n l fun u' s2 I2 ru => ⟨v, H1, I2, ru, q⟩
theorem pe_con (he : PE X e ta) (hb : attributeBase e f X.env (eval e X.env) = eval e X.env) : PE X (.Attribute e f pos) (tCon X.K ta f) := by
  intro pins s σ H Q I h
  refine attr_of hb (thn (he pins s σ H _ I h) fun u s1 ⟨x, H1, I1, rx, a, C, dx, fs, v, u0, ex, ea, c, k, l, q⟩ => ?_)
  subst ex
  obtain rfl : u = Value.ref a := rx
  exact getcon_ok I1 ea c k l fun s2 I2 => ⟨v, H1, I2, k.rel, q⟩
theorem ps_fld (ha : PE X o ta) (hv : PE X value tv) (hs : swapsWith value (some (.Attribute o f pos')) pos.line X.env = pure false) : PS X (.Assign [.Attribute o f pos'] value pos) (sFld X.K ta tv f) := by
  intro pins s σ H D I h
  refine plainObj_wpAny_Assign_Attribute (thn (hv pins s σ H _ I h) fun u s1 ⟨y, H1, I1, ry, q⟩ => thn (ha pins s1 σ H1 _ I1 q) fun ov s2 ⟨x, H2, I2, rx, a, C, dx, fs, ex, ea, c, n, l, q2⟩ => ?_) hs
  subst ex
  obtain rfl : ov = Value.ref a := rx
  exact setattr_ok I2 ea c n l ry fun s3 I3 => ⟨σ, _, I3, q2⟩
theorem ps_fldaug {op : Operator} {rd : V → V → Hp → VK → Prop} (ha : PE X o ta) (hv : PE X value tv) (hop : InOp X op rd) : PS X (.AugAssign (.Attribute o f tpos) op value pos) (sFldAug X.K ta tv rd f) := by
  intro pins s σ H D I h
  refine wpAny_AugAssign_AttributeAny (thn (ha pins s σ H _ I h) fun ov s1 ⟨x, H1, I1, rx, a, C, dx, fs, v, ex, ea, c, n, l, q⟩ => ?_)
  subst ex
  obtain rfl : ov = Value.ref a := rx
  refine getattr_ok I1 ea c n l fun u s2 I2 ru => thn (hv pins s2 σ H1 _ I2 q) fun w3 s3 ⟨y, H2, I3, ry, q3⟩ => thn (hop pins s3 σ H2 v y u w3 _ I3 ru ry q3) fun w4 s4 ⟨z, H3, I4, rz, dx', fs', ea', l', q4⟩ => ?_
  exact setattr_ok I4 ea' c n l' rz fun s5 I5 => ⟨σ, _, I5, q4⟩
def rAdd : V → V → Hp → VK → Prop := fun x y H Q => ∃ i j, x = .int i ∧ y = .int j ∧ Q (.int (i + j)) H
def rSub : V → V → Hp → VK → Prop := fun x y H Q => ∃ i j, x = .int i ∧ y = .int j ∧ Q (.int (i - j)) H
theorem in_add : InOp X .Add rAdd := by
  rintro pins s σ H x y u v Q I rx ry ⟨i, j, rfl, rfl, q⟩
  obtain ⟨t, rfl⟩ := (show ∃ t, u = Value.int i t from rx)
  obtain ⟨t', rfl⟩ := (show ∃ t', v = Value.int j t' from ry)
  exact PyProof.Rows.iadd_int ⟨.int (i + j), H, I.tok _, ⟨_, rfl⟩, q⟩
theorem in_sub : InOp X .Sub rSub := by
  rintro pins s σ H x y u v Q I rx ry ⟨i, j, rfl, rfl, q⟩
  obtain ⟨t, rfl⟩ := (show ∃ t, u = Value.int i t from rx)
  obtain ⟨t', rfl⟩ := (show ∃ t', v = Value.int j t' from ry)
  exact PyProof.Rows.isub_int ⟨.int (i - j), H, I.tok _, ⟨_, rfl⟩, q⟩

/-- what is between an instance and its method: the tree of a method call -/
theorem methcall_of {pl : Sem Bool} {m : Str} {apos : Pos} {args : List Expr} {pins : List (Addr × Obj)} {s : Shared} {σ : St} {H : Hp} {Q : Value → Shared → Prop} {te : TE} (he : PE X e te) (I : Inv X pins σ H s)
    (h : te σ H fun x H1 => ∃ a C dx fs g, x = .ref a ∧ H1 a = some (.ins C dx fs) ∧ Cls X.K C ∧ Meth X.K C m g ∧ fs.lookup m = none ∧
      ∀ s1, Inv X pins σ H1 s1 → wpAny (model X.prog X.w) X.A (callWith pos (.ref g) [.ref a] (backTo pos (starEach args X.env)) (backToKw pos (keywordEach [] X.env))) Q X.xe s1)
    (ht : eval (.Call (.Attribute e m apos) args [] pos) X.env = (do
      let ov ← eval e X.env
      standAt apos.atName
      let (f, first) ← holding [ov] (getMethod ov m pl)
      callWith pos f first (backTo pos (starEach args X.env)) (backToKw pos (keywordEach [] X.env)))) :
    wpAny (model X.prog X.w) X.A (eval (.Call (.Attribute e m apos) args [] pos) X.env) Q X.xe s := by
  refine PySem.W.methodCall_KW (pl := pl) (thn (he pins s σ H _ I h) fun u s1 ⟨x, H1, I1, rx, a, C, dx, fs, g, ex, ea, c, k, l, q⟩ => ?_) ht
  subst ex
  obtain rfl : u = Value.ref a := rx
  exact getmeth_ok I1 ea c k l (q s1 I1)
end

/-! ### isinstance -/
section
variable {X : Cx} {pins : List (Addr × Obj)} {σ : St} {H : Hp} {s : Shared} {A : Around} {E : Value → Shared → Prop} {Q : Value → Shared → Prop} {c : Value} {b : Bool}
/-- the type of a value, as the fragment's deciders take it; for an instance its class -/
inductive TyOf (K : PySem.W.Frag) (H : Hp) : V → Value → Prop where
  | non : TyOf K H .non (.type "NoneType")
  | bl (x : Bool) : TyOf K H (.bl x) (.type "bool")
  | int (i : Int) : TyOf K H (.int i) (.type "int")
  | str (x : Str) : TyOf K H (.str x) (.type "str")
  | flt (x : UInt64) : TyOf K H (.flt x) (.type "float")
  | lst {a : Addr} {xs : List V} (e : H a = some (.lst xs)) : TyOf K H (.ref a) (.type "list")
  | frz {a : Addr} {o : Obj} {xs : List V} (e : H a = some (.frz o (.lst xs))) : TyOf K H (.ref a) (.type "list")
  | tup {a : Addr} {xs : List V} (e : H a = some (.tup xs)) : TyOf K H (.ref a) (.type "tuple")
  | dK {a : Addr} {kvs : List (Key × V)} (e : H a = some (.dK kvs)) : TyOf K H (.ref a) (.type "dict")
  | dT {a : Addr} {kvs : List (List Key × V)} (e : H a = some (.dT kvs)) : TyOf K H (.ref a) (.type "dict")
  | ins {a C dx : Addr} {fs : List (Str × V)} (e : H a = some (.ins C dx fs)) (cl : Cls K C) (ha : PySem.W.findIn K (.ref C) "__class__" = some (some (.builtin "object.__class__")))
      (hn : PySem.W.specialIn K (.builtin "object.__class__") "__get__" = some (some (.builtin "getset_descriptor.__get__"))) (htk : PySem.W.takesIn K (.builtin "object.__class__") = some true)
      (hm : PySem.W.mroIn K C (.type "object") = some true) : TyOf K H (.ref a) (.ref C)
/-- isinstance(x, c) for one class c, a built-in or an own one: kitOne's answer -/
theorem isinst_ok {x : V} {u t : Value} (I : Inv X pins σ H s) (rx : RelV x u) (ty : TyOf X.K H x t) (e : PySem.W.kitOne X.K t c = some b) (h : ∀ tk, Q (.bool b) { s with toks := tk }) :
    wpAny (model X.prog X.w) A (call (.builtin "isinstance") [u, c]) Q E s := by
  cases ty with
  | non => cases (show u = Value.none from rx); exact PySem.W.kia_one PySem.W.kitx_none I.kIn True.intro e (fun z => nomatch z) h
  | bl y => cases (show u = Value.bool y from rx); exact PySem.W.kia_one PySem.W.kitx_bool I.kIn True.intro e (fun z => nomatch z) h
  | int i => obtain ⟨t, q⟩ := (show ∃ t, u = Value.int i t from rx); cases q; exact PySem.W.kia_one PySem.W.kitx_int I.kIn True.intro e (fun z => nomatch z) h
  | str y => obtain ⟨t, q⟩ := (show ∃ t, u = Value.str y t from rx); cases q; exact PySem.W.kia_one PySem.W.kitx_str I.kIn True.intro e (fun z => nomatch z) h
  | flt y => obtain ⟨t, q⟩ := (show ∃ t, u = Value.float y t from rx); cases q; exact PySem.W.kia_one PySem.W.kitx_float I.kIn True.intro e (fun z => nomatch z) h
  | @lst a xs ea =>
    cases (show u = Value.ref a from rx)
    obtain ⟨_, _, n, _, h1⟩ := (show ObjOk X.prog X.w H s.heap a (.lst xs) from I.hok a _ ea)
    exact PySem.W.kia_one PySem.W.kitx_list I.kIn ⟨_, h1, rfl⟩ e (fun z => nomatch z) h
  | @frz a ob xs ea =>
    cases (show u = Value.ref a from rx)
    obtain ⟨_, _, _, n, _, h1⟩ := (show ObjOk X.prog X.w H s.heap a (.frz ob (.lst xs)) from I.hok a _ ea)
    exact PySem.W.kia_one PySem.W.kitx_list I.kIn ⟨_, h1, rfl⟩ e (fun z => nomatch z) h
  | @tup a xs ea =>
    cases (show u = Value.ref a from rx)
    obtain ⟨_, _, _, p⟩ := (show ObjOk X.prog X.w H s.heap a (.tup xs) from I.hok a _ ea)
    obtain ⟨o, h1, h2, _⟩ := p
    exact PySem.W.kia_one PySem.W.kitx_tuple I.kIn ⟨o, h1, h2⟩ e (fun z => nomatch z) h
  | @dK a kvs ea =>
    cases (show u = Value.ref a from rx)
    obtain ⟨_, _, vs, _, p⟩ := (show ObjOk X.prog X.w H s.heap a (.dK kvs) from I.hok a _ ea)
    obtain ⟨o, es, ep, h1, h2, _⟩ := p
    exact PySem.W.kia_one PySem.W.kitx_dict I.kIn ⟨o, h1, h2.1⟩ e (fun z => nomatch z) h
  | @dT a kvs ea =>
    cases (show u = Value.ref a from rx)
    obtain ⟨_, _, xs, _, o, es, ep, h1, h2, _⟩ := (show ObjOk X.prog X.w H s.heap a (.dT kvs) from I.hok a _ ea)
    exact PySem.W.kia_one PySem.W.kitx_dict I.kIn ⟨o, h1, h2.1⟩ e (fun z => nomatch z) h
  | @ins a C dx fs ea cl ha hn htk hm =>
    cases (show u = Value.ref a from rx)
    obtain ⟨mA, O, _⟩ := ins_get I.hok ea
    obtain ⟨od, J, _⟩ := O.look
    exact PySem.W.kia_one (PySem.W.kitx_own (cl.get _) cl.hd ha hn htk hm) I.kIn J e (fun z => nomatch z) h
end
end L2

namespace L2
open PySem PySem.Spec PyProof.Rows

/-! ### room -/
structure Room (k : Nat) (A : Around) : Prop where
  hd : A.handled = none
  dp : A.depth + 3 * k + 5 < recursionLimit
  un : A.units + 16 * k + 200 < cLine
theorem Room.mono {j k : Nat} {A : Around} (r : Room k A) (h : j ≤ k) : Room j A := ⟨r.hd, by have := r.dp; omega, by have := r.un; omega⟩
theorem Room.deeper {k : Nat} {A : Around} (r : Room (k + 1) A) (env : Env) : Room k (A.deeper env) :=
  ⟨r.hd, by have := r.dp; show A.depth + 1 + 3 * k + 5 < _; omega, by have := r.un; show A.units + 3 + 16 * k + 200 < _; omega⟩
theorem Room.in1 {k : Nat} {A : Around} (r : Room (k + 1) A) : Room k A.in1 :=
  ⟨r.hd, by have := r.dp; show A.depth + 3 * k + 5 < _; omega, by have := r.un; show A.units + 1 + 16 * k + 200 < _; omega⟩
theorem make_depth {A : Around} {C : Addr} {us : List Value} {kw : List (Str × Value)} : (A.under (.builtin "type.__call__" ⟨.ref C :: us, kw⟩)).depth = A.depth + 1 := by
  first | rfl | simp [Around.under, Code.weight, Code.isCreation, Code.isGuard, Code.isCaller, Code.frames, Code.isFrame, guardIds]
theorem make_units {A : Around} {C : Addr} {us : List Value} {kw : List (Str × Value)} : (A.under (.builtin "type.__call__" ⟨.ref C :: us, kw⟩)).units = A.units + 1 := by
  first | rfl | simp [Around.under, Code.cUnits, Code.frames, Code.isFrame]
theorem Room.make {k : Nat} {A : Around} (r : Room (k + 1) A) (C : Addr) (us : List Value) (kw : List (Str × Value)) : Room k (A.under (.builtin "type.__call__" ⟨.ref C :: us, kw⟩)) :=
  ⟨r.hd, by have := r.dp; rw [make_depth]; omega, by have := r.un; rw [make_units]; omega⟩
theorem Room.depth {k : Nat} {A : Around} (r : Room k A) : A.depth < recursionLimit := by have := r.dp; omega
theorem Room.units {k : Nat} {A : Around} (r : Room k A) : A.units + 64 < cLine := by have := r.un; omega
theorem Room.units0 {k : Nat} {A : Around} (r : Room k A) : A.units < cLine := by have := r.un; omega

/-! ### argument lists and displays -/
def tNil : TA := fun _ H Q => Q [] H
def tCons (ta : TE) (tr : TA) : TA := fun σ H Q => ta σ H fun x H1 => tr σ H1 fun xs H2 => Q (x :: xs) H2
section
variable {X : Cx} {e : Expr} {es : List Expr} {te : TE} {t : TA} {pos : Pos}
theorem pa_nil : PA X [] tNil := fun _ _ _ _ H Q I h => Calls.spliced_nil ⟨[], H, I, .nil, h⟩
theorem pa_cons (ha : PE X e te) (hr : PA X es t) (hs : starEach (e :: es) X.env = (false, eval e X.env) :: starEach es X.env := by rfl) : PA X (e :: es) (tCons te t) := by
  intro pos pins s σ H Q I h
  rw [hs]
  show wpAny _ _ (spliced ((false, eval e X.env) :: backTo pos (starEach es X.env))) _ _ s
  refine Calls.spliced_cons (thn (ha pins s σ H _ I h) fun u s1 ⟨x, H1, I1, r1, q1⟩ => ?_)
  exact thn (hr pos pins s1 σ H1 _ I1 q1) fun us s2 ⟨xs, H2, I2, r2, q2⟩ => ⟨x :: xs, H2, I2, .cons r1 r2, q2⟩

/-- a tuple, a list of written items -/
def tTup (t : TA) : TE := fun σ H Q => t σ H fun xs H1 => xs.length ≤ sizeLine ∧ ∀ p, H1 p = none → Q (.ref p) (upd H1 p (.tup xs))
def tLst (t : TA) : TE := fun σ H Q => t σ H fun xs H1 => xs.length ≤ sizeLine ∧ ∀ p, H1 p = none → Q (.ref p) (upd H1 p (.lst xs))
theorem pe_tup {x1} (h : PA X es t) : PE X (.Tuple es x1 pos) (tTup t) := by
  intro pins s σ H Q I hq
  refine wpAny_Tuple_spliced (thn (h pos pins s σ H _ I hq) fun us s1 ⟨xs, H1, I1, r, z, q⟩ => ⟨by rw [← r.length]; exact z, ?_⟩)
  have hf : H1 s1.heap.objs.size = none := I1.hok.fresh (Nat.le_refl _)
  refine ⟨.ref s1.heap.objs.size, upd H1 s1.heap.objs.size (.tup xs), I1.laid (t' := s1.toks) (fun b u e => Heap.get?_push_of_some _ e) (Nat.le_refl _) ?_, rfl, q _ hf⟩
  exact ⟨z, us, r, ⟨_, Heap.get?_push_size _ rfl, rfl, _, rfl⟩⟩
theorem pe_lst (h : PA X es t) : PE X (.List es pos) (tLst t) := by
  intro pins s σ H Q I hq
  refine wpAny_List_spliced (thn (h pos pins s σ H _ I hq) fun us s1 ⟨xs, H1, I1, r, z, q⟩ => ⟨by rw [← r.length]; exact z, ?_⟩)
  have hf : H1 s1.heap.objs.size = none := I1.hok.fresh (Nat.le_refl _)
  refine ⟨.ref s1.heap.objs.size, upd H1 s1.heap.objs.size (.lst xs), I1.laid (t' := s1.toks) (fun b u e => Heap.get?_push_of_some _ e) (Nat.le_refl _) ?_, rfl, q _ hf⟩
  exact ⟨z, us, 0, r, Heap.get?_push_size _ rfl⟩
end

/-! ### what a def promises -/
/-- a def's promise: the bound arguments in the parameters' order, the heap, the wanted end, the wanted exception -/
abbrev Sp := List V → Hp → VK → XK → Prop
/-- how an exception lies behind a call (file 08 gives it): the callers' frames, abstract heap and state ahead of the call, the wish, the exception, the state -/
abbrev CXT := List Env → Hp → Shared → XK → Value → Shared → Prop

/-- the state at a call -/
structure Env0 (P : Program) (w : World) (K : PySem.W.Frag) (mg : Str → Option Value) (base : Heap) (A : Around) (outer : List Env) (s : Shared) (H : Hp) : Prop where
  frames : A.frames = some outer
  mod : Mod K mg base
  bs : ∀ b o, base.get? b = some o → s.heap.get? b = some o ∧ H b = none
  bsz : base.objs.size ≤ s.heap.objs.size
  funs : s.heap.FunFrames base outer
  frf : ∀ b ∈ frs outer, H b = none
  hok : HOk P w H s.heap
  bare : AllBare s.gens
/-- a call's end -/
def CE (outer : List Env) (P : Program) (w : World) (H : Hp) (s : Shared) (Q : VK) (u : Value) (s' : Shared) : Prop :=
  ∃ v H', s'.os = s.os ∧ AllBare s'.gens ∧ Un (frs outer) [] H H' s.heap s'.heap ∧ HOk P w H' s'.heap ∧ RelV v u ∧ Q v H'
def CR (CX : CXT) (outer : List Env) (P : Program) (w : World) (H : Hp) (s : Shared) (Q : VK) (E : XK) (r : Result) (s' : Shared) : Prop :=
  match r with
  | .ok (.ret u) => CE outer P w H s Q u s'
  | .ok _ => False
  | .error e => CX outer H s E e s'
structure FnOk (P : Program) (w : World) (K : PySem.W.Frag) (mg : Str → Option Value) (base : Heap) (CX : CXT) (k : Nat) (f : Addr) (fd : FuncData) (ps : List Str) (sp : Sp) : Prop where
  len : ∀ vs H Q E, sp vs H Q E → vs.length = ps.length
  run : ∀ (A : Around) (outer : List Env) (s : Shared) (H : Hp) (args : Args) (us : List Value) (vs : List V) (Q : VK) (E : XK), Room k A → Env0 P w K mg base A outer s H → BindsTo s fd args (ps.zip us) → Vals vs us → sp vs H Q E →
    codeAny (model P w) A (.call (.ref f) args) (CR CX outer P w H s Q E) s
theorem FnOk.mono {P : Program} {w : World} {K : PySem.W.Frag} {mg : Str → Option Value} {base : Heap} {CX : CXT} {j k : Nat} {f : Addr} {fd : FuncData} {ps : List Str} {sp : Sp} (F : FnOk P w K mg base CX j f fd ps sp) (h : j ≤ k) :
    FnOk P w K mg base CX k f fd ps sp := ⟨F.len, fun A outer s H args us vs Q E hr => F.run A outer s H args us vs Q E (hr.mono h)⟩
/-- a weaker promise -/
theorem FnOk.imp {P : Program} {w : World} {K : PySem.W.Frag} {mg : Str → Option Value} {base : Heap} {CX : CXT} {k : Nat} {f : Addr} {fd : FuncData} {ps : List Str} {sp sp' : Sp} (F : FnOk P w K mg base CX k f fd ps sp)
    (h : ∀ vs H Q E, sp' vs H Q E → sp vs H Q E) : FnOk P w K mg base CX k f fd ps sp' :=
  ⟨fun vs H Q E q => F.len vs H Q E (h _ _ _ _ q), fun A outer s H args us vs Q E hr he hb hv hs => F.run A outer s H args us vs Q E hr he hb hv (h _ _ _ _ hs)⟩

theorem Env0.make {P : Program} {w : World} {K : PySem.W.Frag} {mg : Str → Option Value} {base : Heap} {A : Around} {outer : List Env} {s : Shared} {H : Hp} (e : Env0 P w K mg base A outer s H) (C : Addr) (us : List Value) (kw : List (Str × Value)) :
    Env0 P w K mg base (A.under (.builtin "type.__call__" ⟨.ref C :: us, kw⟩)) outer s H := ⟨by first | exact e.frames | (simpa [Around.under, Code.envs, Code.isFrame, pushEnvs] using e.frames), e.mod, e.bs, e.bsz, e.funs, e.frf, e.hok, e.bare⟩
theorem Env0.in1 {P : Program} {w : World} {K : PySem.W.Frag} {mg : Str → Option Value} {base : Heap} {A : Around} {outer : List Env} {s : Shared} {H : Hp} (e : Env0 P w K mg base A outer s H) :
    Env0 P w K mg base A.in1 outer s H := ⟨e.frames, e.mod, e.bs, e.bsz, e.funs, e.frf, e.hok, e.bare⟩

section
variable {X : Cx} {pins : List (Addr × Obj)} {σ : St} {H : Hp} {s s' : Shared}
/-- from a body: what a callee wants -/
theorem Inv.env0 (I : Inv X pins σ H s) : Env0 X.prog X.w X.K X.mg X.base X.A X.stack s H :=
  ⟨I.ok.frames, I.ok.mod, I.bs, Nat.le_trans I.ok.bsz I.sz, I.stack, I.stkFree, I.hok, I.bare⟩
/-- behind a call -/
theorem Inv.after {Q : VK} {u : Value} (I : Inv X pins σ H s) (h : CE X.stack X.prog X.w H s Q u s') : EP X pins σ Q u s' := by
  obtain ⟨v, H', os, bare, un, hok, r, q⟩ := h
  obtain ⟨hh, g, d, t, os'⟩ := s'
  obtain rfl : os' = s.os := os
  exact ⟨v, H', I.call (h' := hh) (g' := g) (d' := d) (t' := t) (ch := []) un hok bare (fun b z => absurd z (by simp)), r, q⟩
end

/-! ### calls -/
/-- f(..): the written arguments, then the defaults dvs; E: what is wanted of an exception -/
def tCall (sp : Sp) (dvs : List V) (E : XK) (t : TA) : TE := fun σ H Q => t σ H fun vs H1 => sp (vs ++ dvs) H1 Q E
/-- o.m(..) of an instance of the class at C -/
def tMeth (C : Addr) (m : Str) (sp : Sp) (dvs : List V) (E : XK) (ta : TE) (t : TA) : TE := fun σ H Q => ta σ H fun x H1 => ∃ a dx fs, x = .ref a ∧ H1 a = some (.ins C dx fs) ∧ fs.lookup m = none ∧
  t σ H1 fun vs H2 => sp (x :: (vs ++ dvs)) H2 Q E
/-- C(..): a new instance and its dict, then __init__ -/
def tMake (C : Addr) (sp : Sp) (dvs : List V) (E : XK) (t : TA) : TE := fun σ H Q => t σ H fun vs H1 => ∀ x dx, H1 x = none → H1 dx = none → dx ≠ x →
  sp (.ref x :: (vs ++ dvs)) (upd (upd H1 dx (.own x)) x (.ins C dx [])) (fun v H2 => v = .non ∧ Q (.ref x) H2) E

/-- how the parameters are bound: us the positional arguments, kw the keywords' values by name, ds the defaults that fill up -/
def Binds (K : PySem.W.Frag) (fd : FuncData) (ps : List Str) (ds : List Value) : Prop :=
  ∀ (s : Shared) (us : List Value), K.In s.heap → (us ++ ds).length = ps.length → BindsTo s fd ⟨us, []⟩ (ps.zip (us ++ ds))
/-- every parameter is given -/
theorem Binds.all {K : PySem.W.Frag} {fd : FuncData} {ps : List Str} (h : ∀ us : List Value, us.length = ps.length → bindArgs fd ⟨us, []⟩ = pure (ps.zip us)) : Binds K fd ps [] := fun s us _ hl => by
  rw [List.append_nil] at hl ⊢
  exact .of_eq (h us hl)

/-- an exception of a callee reaches what this body wants of exceptions -/
def Passes (CX : CXT) (X : Cx) (E : XK) : Prop := ∀ (pins : List (Addr × Obj)) (σ : St) (H : Hp) (s : Shared) (e : Value) (s' : Shared), Inv X pins σ H s → CX X.stack H s E e s' → X.xe e s'

section
variable {X : Cx} {CX : CXT} {k : Nat} {f C : Addr} {fd : FuncData} {ps : List Str} {sp : Sp} {dvs : List V} {ds : List Value} {E : XK} {x m : Str} {p pos apos : Pos} {e o : Expr} {es : List Expr} {ta : TE} {t : TA}

/-- the callee runs -/
theorem run_fn {pins : List (Addr × Obj)} {σ : St} {H : Hp} {s : Shared} {Q : VK} {us : List Value} {vs : List V} (F : FnOk X.prog X.w X.K X.mg X.base CX k f fd ps sp) (hr : Room k X.A) (hb : Binds X.K fd ps ds) (hd : Vals dvs ds) (hx : Passes CX X E)
    (I : Inv X pins σ H s) (r : Vals vs us) (h : sp (vs ++ dvs) H Q E) : wpAny (model X.prog X.w) X.A (call (.ref f) us) (EP X pins σ Q) X.xe s := by
  have r2 : Vals (vs ++ dvs) (us ++ ds) := r.append hd
  have hl : (us ++ ds).length = ps.length := by rw [← r2.length]; exact F.len _ _ _ _ h
  refine wpAny_call (codeAny_mono (F.run X.A X.stack s H ⟨us, []⟩ (us ++ ds) (vs ++ dvs) Q E hr I.env0 (hb s us I.kIn hl) r2 h) fun r s' hq => ?_)
  cases r with
  | error e => exact hx pins σ H s e s' I hq
  | ok fl =>
    cases fl with
    | ret u => exact I.after hq
    | next => exact False.elim hq
    | brk => exact False.elim hq
    | cont => exact False.elim hq

theorem pe_call (F : FnOk X.prog X.w X.K X.mg X.base CX k f fd ps sp) (hr : Room k X.A) (hg : Gl X x) (hm : X.mg x = some (.ref f)) (hk : PySem.W.keepIn X.K (.ref f) = true) (hb : Binds X.K fd ps ds) (hd : Vals dvs ds) (hx : Passes CX X E)
    (ha : PA X (e :: es) t) (hdb : (x == ("__debug__" : Str)) = false := by decide) (he : starEach (e :: es) X.env = (false, eval e X.env) :: starEach es X.env := by rfl) (hpl : (backTo pos (starEach es X.env)).any (·.1) = false := by rfl) :
    PE X (.Call (.Name x p) (e :: es) [] pos) (tCall sp dvs E t) := by
  intro pins s σ H Q I h
  refine wpAny_Call_Name_kw (ld_glob I hg hm ?_ hdb)
  refine PySem.W.callWith_K (h₀ := X.base) I.ok.mod.kin hk (thn (ha pos pins s σ H _ I h) fun us s1 ⟨vs, H1, I1, r, q⟩ => ⟨I1.kIn, ?_⟩) he hpl
  exact run_fn F hr hb hd hx I1 r q
theorem pe_call0 (F : FnOk X.prog X.w X.K X.mg X.base CX k f fd ps sp) (hr : Room k X.A) (hg : Gl X x) (hm : X.mg x = some (.ref f)) (hk : PySem.W.keepIn X.K (.ref f) = true) (hb : Binds X.K fd ps ds) (hd : Vals dvs ds) (hx : Passes CX X E)
    (hdb : (x == ("__debug__" : Str)) = false := by decide) : PE X (.Call (.Name x p) [] [] pos) (tCall sp dvs E tNil) := by
  intro pins s σ H Q I h
  refine wpAny_Call_Name_kw (ld_glob I hg hm ?_ hdb)
  exact PySem.W.callWith_K0 I.kIn hk (run_fn (us := []) F hr hb hd hx I .nil h)

/-- o.m(e, ..) -/
theorem pe_meth {pl : Sem Bool} (he : PE X o ta) (c : Cls X.K C) (hm : Meth X.K C m f) (F : FnOk X.prog X.w X.K X.mg X.base CX k f fd ps sp) (hr : Room k X.A) (hb : Binds X.K fd ps ds) (hd : Vals dvs ds) (hx : Passes CX X E) (ha : PA X (e :: es) t)
    (hst : starEach (e :: es) X.env = (false, eval e X.env) :: starEach es X.env := by rfl) (hpl : (backTo pos (starEach es X.env)).any (·.1) = false := by rfl)
    (ht : eval (.Call (.Attribute o m apos) (e :: es) [] pos) X.env = (do
      let ov ← eval o X.env
      standAt apos.atName
      let (f, first) ← holding [ov] (getMethod ov m pl)
      callWith pos f first (backTo pos (starEach (e :: es) X.env)) (backToKw pos (keywordEach [] X.env))) := by rfl) :
    PE X (.Call (.Attribute o m apos) (e :: es) [] pos) (tMeth C m sp dvs E ta t) := by
  intro pins s σ H Q I h
  refine PySem.W.methodCall_KW (pl := pl) (thn (he pins s σ H _ I h) fun u s1 ⟨x, H1, I1, rx, a, dx, fs, ex, ea, l, q⟩ => ?_) ht
  subst ex
  obtain rfl : u = Value.ref a := rx
  refine getmeth_ok I1 ea c hm l ?_
  refine PySem.W.callWith_K (first := [.ref a]) (h₀ := X.base) I.ok.mod.kin hm.kp (thn (ha pos pins s1 σ H1 _ I1 q) fun us s2 ⟨vs, H2, I2, r, q2⟩ => ⟨I2.kIn, ?_⟩) hst hpl
  exact run_fn (us := .ref a :: us) (vs := .ref a :: vs) F hr hb hd hx I2 (.cons rfl r) q2
/-- o.m() -/
theorem pe_meth0 {pl : Sem Bool} (he : PE X o ta) (c : Cls X.K C) (hm : Meth X.K C m f) (F : FnOk X.prog X.w X.K X.mg X.base CX k f fd ps sp) (hr : Room k X.A) (hb : Binds X.K fd ps ds) (hd : Vals dvs ds) (hx : Passes CX X E)
    (ht : eval (.Call (.Attribute o m apos) [] [] pos) X.env = (do
      let ov ← eval o X.env
      standAt apos.atName
      let (f, first) ← holding [ov] (getMethod ov m pl)
      callWith pos f first (backTo pos (starEach [] X.env)) (backToKw pos (keywordEach [] X.env))) := by rfl) :
    PE X (.Call (.Attribute o m apos) [] [] pos) (tMeth C m sp dvs E ta tNil) := by
  intro pins s σ H Q I h
  refine PySem.W.methodCall_KW (pl := pl) (thn (he pins s σ H _ I h) fun u s1 ⟨x, H1, I1, rx, a, dx, fs, ex, ea, l, q⟩ => ?_) ht
  subst ex
  obtain rfl : u = Value.ref a := rx
  refine getmeth_ok I1 ea c hm l ?_
  exact PySem.W.callWith_K0 (first := [.ref a]) I1.kIn hm.kp (run_fn (us := [.ref a]) (vs := [.ref a]) F hr hb hd hx I1 (.cons rfl .nil) q)

/-- what a class must have to be made -/
structure Mk (K : PySem.W.Frag) (C f : Addr) : Prop where
  makes : PySem.W.makesIn K C = true
  init : PySem.W.findIn K (.ref C) "__init__" = some (some (.ref f))
  fn : PySem.W.isFn K (.ref f) = true
  kp : PySem.W.keepIn K (.ref C) = true

theorem run_make {pins : List (Addr × Obj)} {σ : St} {H : Hp} {s : Shared} {Q : VK} {us : List Value} {vs : List V} (M : Mk X.K C f) (F : FnOk X.prog X.w X.K X.mg X.base CX k f fd ps sp) (hr : Room (k + 1) X.A) (hb : Binds X.K fd ps ds) (hd : Vals dvs ds)
    (hx : Passes CX X E) (I : Inv X pins σ H s) (r : Vals vs us)
    (h : ∀ x dx, H x = none → H dx = none → dx ≠ x → sp (.ref x :: (vs ++ dvs)) (upd (upd H dx (.own x)) x (.ins C dx [])) (fun v H2 => v = .non ∧ Q (.ref x) H2) E) :
    wpAny (model X.prog X.w) X.A (call (.ref C) us) (EP X pins σ Q) X.xe s := by
  have hq := h (s.heap.objs.size + 1) s.heap.objs.size (I.hok.fresh (Nat.le_succ _)) (I.hok.fresh (Nat.le_refl _)) (Nat.ne_of_lt (Nat.lt_succ_self _))
  have I2 := Inv.made (C := C) I
  have r2 : Vals (V.ref (s.heap.objs.size + 1) :: (vs ++ dvs)) (Value.ref (s.heap.objs.size + 1) :: (us ++ ds)) := .cons rfl (r.append hd)
  have hl : (Value.ref (s.heap.objs.size + 1) :: us ++ ds).length = ps.length := by
    have e := r2.length
    rw [F.len _ _ _ _ hq] at e
    exact e.symm
  refine wpAny_call (make_map (f := f) I.kIn M.makes M.init (beq_iff_eq.mp M.fn) (codeAny_mono (F.run _ X.stack _ _ ⟨Value.ref (s.heap.objs.size + 1) :: us, []⟩ (Value.ref (s.heap.objs.size + 1) :: (us ++ ds)) _ _ E (hr.make C us [])
    (I2.env0.make C us []) (hb _ (Value.ref (s.heap.objs.size + 1) :: us) I2.kIn hl) r2 hq) fun r s' hq' => ?_))
  cases r with
  | error e => exact hx pins σ _ _ e s' I2 hq'
  | ok fl =>
    cases fl with
    | ret u =>
      obtain ⟨v, H', I3, rv, ev, q3⟩ := I2.after hq'
      subst ev
      exact ⟨rv, ⟨V.ref (s.heap.objs.size + 1), H', I3, rfl, q3⟩⟩
    | next => exact False.elim hq'
    | brk => exact False.elim hq'
    | cont => exact False.elim hq'
theorem pe_make (M : Mk X.K C f) (F : FnOk X.prog X.w X.K X.mg X.base CX k f fd ps sp) (hr : Room (k + 1) X.A) (hg : Gl X x) (hm : X.mg x = some (.ref C)) (hb : Binds X.K fd ps ds) (hd : Vals dvs ds) (hx : Passes CX X E)
    (ha : PA X (e :: es) t) (hdb : (x == ("__debug__" : Str)) = false := by decide) (he : starEach (e :: es) X.env = (false, eval e X.env) :: starEach es X.env := by rfl) (hpl : (backTo pos (starEach es X.env)).any (·.1) = false := by rfl) :
    PE X (.Call (.Name x p) (e :: es) [] pos) (tMake C sp dvs E t) := by
  intro pins s σ H Q I h
  refine wpAny_Call_Name_kw (ld_glob I hg hm ?_ hdb)
  refine PySem.W.callWith_K (h₀ := X.base) I.ok.mod.kin M.kp (thn (ha pos pins s σ H _ I h) fun us s1 ⟨vs, H1, I1, r, q⟩ => ⟨I1.kIn, ?_⟩) he hpl
  exact run_make M F hr hb hd hx I1 r q
theorem pe_make0 (M : Mk X.K C f) (F : FnOk X.prog X.w X.K X.mg X.base CX k f fd ps sp) (hr : Room (k + 1) X.A) (hg : Gl X x) (hm : X.mg x = some (.ref C)) (hb : Binds X.K fd ps ds) (hd : Vals dvs ds) (hx : Passes CX X E)
    (hdb : (x == ("__debug__" : Str)) = false := by decide) : PE X (.Call (.Name x p) [] [] pos) (tMake C sp dvs E tNil) := by
  intro pins s σ H Q I h
  refine wpAny_Call_Name_kw (ld_glob I hg hm ?_ hdb)
  exact PySem.W.callWith_K0 I.kIn M.kp (run_make (us := []) M F hr hb hd hx I .nil h)
end

/-! ### keywords -/
/-- the values of the keywords, from the left -/
def PK (X : Cx) (kws : List Keyword) (t : TA) : Prop :=
  ∀ (pos : Pos) (pins : List (Addr × Obj)) (s : Shared) (σ : St) (H : Hp) (Q : List V → Hp → Prop), Inv X pins σ H s → t σ H Q → wpAny (model X.prog X.w) X.A (evalAll ((backToKw pos (keywordEach kws X.env)).map (·.2))) (AP X pins σ Q) X.xe s
section
variable {X : Cx} {CX : CXT} {k : Nat} {f C : Addr} {fd : FuncData} {ps ks : List Str} {sp : Sp} {E : XK} {x m : Str} {p pos apos kpos : Pos} {e o : Expr} {es : List Expr} {kws : List Keyword} {te ta : TE} {t tk : TA} {nm : Option Str}
theorem pk_nil : PK X [] tNil := fun _ _ _ _ H Q I h => wpAny_evalAll_nil ⟨[], H, I, .nil, h⟩
theorem pk_cons (ha : PE X e te) (hr : PK X kws t) : PK X (⟨nm, e, kpos⟩ :: kws) (tCons te t) := by
  intro pos pins s σ H Q I h
  show wpAny _ _ (evalAll ((do let v ← eval e X.env; standAt pos; pure v) :: (backToKw pos (keywordEach kws X.env)).map (·.2))) _ _ s
  refine wpAny_evalAll_cons (wpAny_bind (thn (ha pins s σ H _ I h) fun u s1 ⟨x, H1, I1, r1, q1⟩ => wpAny_bind (wpAny_standAt (wpAny_pure ?_))))
  exact thn (hr pos pins s1 σ H1 _ I1 q1) fun us s2 ⟨xs, H2, I2, r2, q2⟩ => ⟨x :: xs, H2, I2, .cons r1 r2, q2⟩

/-- how a call with keywords binds: g puts the positional values us and the keywords' values ws (names ks) in the parameters' order, defaults among them -/
structure KBinds (K : PySem.W.Frag) (fd : FuncData) (ps ks : List Str) (g : List Value → List Value → List Value) (gV : List V → List V → List V) : Prop where
  to : ∀ (s : Shared) (us ws : List Value), K.In s.heap → (g us ws).length = ps.length → BindsTo s fd ⟨us, ks.zip ws⟩ (ps.zip (g us ws))
  rel : ∀ {vs : List V} {us : List Value} {zs : List V} {ws : List Value}, Vals vs us → Vals zs ws → Vals (gV vs zs) (g us ws)
def tCallK (sp : Sp) (gV : List V → List V → List V) (E : XK) (t tk : TA) : TE := fun σ H Q => t σ H fun vs H1 => tk σ H1 fun zs H2 => sp (gV vs zs) H2 Q E
variable {g : List Value → List Value → List Value} {gV : List V → List V → List V}
theorem run_fnk {pins : List (Addr × Obj)} {σ : St} {H : Hp} {s : Shared} {Q : VK} {us ws : List Value} {vs zs : List V} (F : FnOk X.prog X.w X.K X.mg X.base CX k f fd ps sp) (hr : Room k X.A) (hb : KBinds X.K fd ps ks g gV) (hx : Passes CX X E)
    (I : Inv X pins σ H s) (r : Vals vs us) (rz : Vals zs ws) (h : sp (gV vs zs) H Q E) : wpAny (model X.prog X.w) X.A (call (.ref f) us (ks.zip ws)) (EP X pins σ Q) X.xe s := by
  have r2 := hb.rel r rz
  have hl : (g us ws).length = ps.length := by rw [← r2.length]; exact F.len _ _ _ _ h
  refine wpAny_call (codeAny_mono (F.run X.A X.stack s H ⟨us, ks.zip ws⟩ (g us ws) (gV vs zs) Q E hr I.env0 (hb.to s us ws I.kIn hl) r2 h) fun r s' hq => ?_)
  cases r with
  | error e => exact hx pins σ H s e s' I hq
  | ok fl =>
    cases fl with
    | ret u => exact I.after hq
    | next => exact False.elim hq
    | brk => exact False.elim hq
    | cont => exact False.elim hq
/-- f(e, .., k = v, ..) -/
theorem pe_callK (F : FnOk X.prog X.w X.K X.mg X.base CX k f fd ps sp) (hr : Room k X.A) (hg : Gl X x) (hm : X.mg x = some (.ref f)) (hk : PySem.W.keepIn X.K (.ref f) = true) (hb : KBinds X.K fd ps ks g gV) (hx : Passes CX X E)
    (ha : PA X (e :: es) t) (hkw : PK X kws tk) (hall : (backToKw pos (keywordEach kws X.env)).all (·.1.isSome) = true := by rfl) (hks : (backToKw pos (keywordEach kws X.env)).filterMap (·.1) = ks := by rfl)
    (hdb : (x == ("__debug__" : Str)) = false := by decide) (he : starEach (e :: es) X.env = (false, eval e X.env) :: starEach es X.env := by rfl)
    (hpl : ((backTo pos (starEach (e :: es) X.env)).any (·.1) || (backToKw pos (keywordEach kws X.env)).any (·.1.isNone)) = false := by rfl) :
    PE X (.Call (.Name x p) (e :: es) kws pos) (tCallK sp gV E t tk) := by
  intro pins s σ H Q I h
  refine wpAny_Call_Name_kw (ld_glob I hg hm ?_ hdb)
  refine PySem.W.callWith_KW (h₀ := X.base) I.ok.mod.kin hk hall (thn (ha pos pins s σ H _ I h) fun us s1 ⟨vs, H1, I1, r, q⟩ => ?_) hpl he
  refine thn (hkw pos pins s1 σ H1 _ I1 q) fun ws s2 ⟨zs, H2, I2, rz, q2⟩ => ⟨I2.kIn, ?_⟩
  rw [hks]
  exact run_fnk F hr hb hx I2 r rz q2
end

/-! ### a def's body keeps its promise -/
/-- names: the parameters first -/
structure FnScope (N P : List Str) (sc : Scope) : Prop where
  kind : sc.kind = .function
  co : sc.isCoroutine = false
  gen : sc.isGenerator = false
  nd : N.Nodup
  pre : N.take P.length = P
  par : ∀ x ∈ P, sc.names.lookup x = some .local ∨ sc.names.lookup x = some .cell
  nofree : ∀ y ∈ sc.names, y.2 ≠ .free

theorem bindL_out {kindOf : Str → Option NameKind} {x : Str} : ∀ {binds : List (Str × Value)} {m : Str → Option Value}, (∀ v, (x, v) ∉ binds) → bindL kindOf binds m x = m x
  | [], _, _ => rfl
  | (n, v) :: r, m, h => by
    unfold bindL
    rw [bindL_out fun w hw => h w (List.mem_cons_of_mem _ hw)]
    split
    · have : x ≠ n := by rintro rfl; exact h v List.mem_cons_self
      simp [this]
    · rfl
theorem bindC_out {kindOf : Str → Option NameKind} {x : Str} : ∀ {binds : List (Str × Value)} {m : Str → Option Value}, (∀ v, (x, v) ∉ binds) → bindC kindOf binds m x = m x
  | [], _, _ => rfl
  | (n, v) :: r, m, h => by
    unfold bindC
    rw [bindC_out fun w hw => h w (List.mem_cons_of_mem _ hw)]
    split
    · rfl
    · have : x ≠ n := by rintro rfl; exact h v List.mem_cons_self
      simp [this]
theorem bindL_get {kindOf : Str → Option NameKind} {x : Str} {v : Value} : ∀ {P : List Str} {vs : List Value} {i : Nat} {m : Str → Option Value}, P.Nodup → P[i]? = some x → vs[i]? = some v → kindOf x = some .local →
    bindL kindOf (P.zip vs) m x = some v
  | [], _, _, _, _, h, _, _ => by simp at h
  | _ :: _, [], _, _, _, _, h, _ => by simp at h
  | p :: P, w :: vs, 0, m, nd, h1, h2, hk => by
    simp at h1 h2; subst h1; subst h2
    show bindL kindOf ((p, w) :: P.zip vs) m p = _
    unfold bindL
    rw [bindL_out fun v hv => (List.nodup_cons.mp nd).1 (List.of_mem_zip hv).1, if_pos hk]
    simp
  | p :: P, w :: vs, i + 1, m, nd, h1, h2, hk => by
    show bindL kindOf ((p, w) :: P.zip vs) m x = _
    unfold bindL
    exact bindL_get (i := i) (List.nodup_cons.mp nd).2 (by simpa using h1) (by simpa using h2) hk
theorem bindC_get {kindOf : Str → Option NameKind} {x : Str} {v : Value} : ∀ {P : List Str} {vs : List Value} {i : Nat} {m : Str → Option Value}, P.Nodup → P[i]? = some x → vs[i]? = some v → kindOf x ≠ some .local →
    bindC kindOf (P.zip vs) m x = some v
  | [], _, _, _, _, h, _, _ => by simp at h
  | _ :: _, [], _, _, _, _, h, _ => by simp at h
  | p :: P, w :: vs, 0, m, nd, h1, h2, hk => by
    simp at h1 h2; subst h1; subst h2
    show bindC kindOf ((p, w) :: P.zip vs) m p = _
    unfold bindC
    rw [bindC_out fun v hv => (List.nodup_cons.mp nd).1 (List.of_mem_zip hv).1, if_neg hk]
    simp
  | p :: P, w :: vs, i + 1, m, nd, h1, h2, hk => by
    show bindC kindOf ((p, w) :: P.zip vs) m x = _
    unfold bindC
    exact bindC_get (i := i) (List.nodup_cons.mp nd).2 (by simpa using h1) (by simpa using h2) hk

/-- the names' values at the entry -/
def start (N : List Str) (vs : List V) : St := vs.map some ++ List.replicate (N.length - vs.length) none

/-- the context of a def's body, at its entry; an exception leaves the frame, then lies as CX says -/
def cxOf (CX : CXT) (P : Program) (w : World) (K : PySem.W.Frag) (mg : Str → Option Value) (base : Heap) (N : List Str) (qual : Str) (scope : Scope) (f : Addr) (cd : Value) (A : Around) (outer : List Env) (s : Shared) (H : Hp) (E : XK) : Cx where
  prog := P
  w := w
  K := K
  mg := mg
  base := base
  A := A.deeper (envOfC qual scope s.heap.objs.size f cd)
  N := N
  s₀ := s
  H₀ := H
  env := envOfC qual scope s.heap.objs.size f cd
  outer := outer
  stack := envOfC qual scope s.heap.objs.size f cd :: outer
  ex := []
  calm := true
  fn := fun _ => true
  pn := []
  xe := fun e s' => wpAny (model P w) (A.deeper (envOfC qual scope s.heap.objs.size f cd)) (leaving (envOfC qual scope s.heap.objs.size f cd) e) (fun _ s'' => CX outer H s E e s'') (fun e' s'' => CX outer H s E e' s'') s'

theorem cell_has {sc : Scope} {n : Nat} {x : Str} (h : sc.names.lookup x = some .cell) : ∃ c, (cellsFrom n sc.names []).lookup x = some c := by
  have q := PySem.W.cellsFrom_some sc.names n [] (.inl h)
  exact Option.isSome_iff_exists.mp q

theorem inv_start {CX : CXT} {P : Program} {w : World} {K : PySem.W.Frag} {mg : Str → Option Value} {base : Heap} {N ps : List Str} {qual : Str} {scope : Scope} {f : Addr} {cd : Value} {A : Around} {outer : List Env} {s s1 : Shared} {H : Hp} {E : XK} {us : List Value} {vs : List V}
    (S : FnScope N ps scope) (hd : A.handled = none) (e0 : Env0 P w K mg base A outer s H) (hl : vs.length = ps.length) (r : Vals vs us)
    (x : InCallC s s.heap.objs.size (bindL (envOfC qual scope s.heap.objs.size f cd).kindOf (ps.zip us) fun _ => none) (cellsFrom (s.heap.objs.size + 1) scope.names []) (bindC (envOfC qual scope s.heap.objs.size f cd).kindOf (ps.zip us) fun _ => none) s1) :
    Inv (cxOf CX P w K mg base N qual scope f cd A outer s H E) [] (start N vs) H s1 := by
  have hpl : ps.length ≤ N.length := by have := congrArg List.length S.pre; rw [List.length_take] at this; omega
  obtain ⟨h1, tk, rfl, hk⟩ := x.done
  have noA : ∀ b : Addr, b ∉ (cxOf CX P w K mg base N qual scope f cd A outer s H E).ex := fun b z => absurd (show b ∈ ([] : List Addr) from z) (by simp)
  refine ⟨⟨e0.mod, S.kind, rfl, rfl, Nat.le_refl _, fun y z c h1 h2 => ?_, fun y hy => ?_, fun y c _ h => ?_, fun _ => hd, Around.frames_deeper e0.frames, .inr ⟨rfl, rfl⟩, fun b z => absurd z (noA b), e0.bs, e0.bsz, fun b _ _ => noA b, fun b z => absurd z (noA b), e0.funs, e0.frf⟩,
    rfl, e0.bare, Un.kept hk, ⟨_, x.toInCall.ns, fun i y v h1 h2 h3 => ?_⟩, fun y c h => ⟨_, x.cell y c h⟩, e0.hok.fresh (Nat.le_refl _), fun y c h => ?_, fun p hp => absurd (show p ∈ ([] : List (Addr × Obj)) from hp) (by simp), e0.hok.kept hk, ?_⟩
  · exact name_of_addr x.apart (PySem.mem_of_lookup h1) (PySem.mem_of_lookup h2)
  · have hy : scope.names.lookup y = some .cell ∨ scope.names.lookup y = some .free := hy
    rcases hy with hy | hy
    · exact cell_has hy
    · exact absurd rfl (S.nofree _ (PySem.mem_of_lookup hy))
  · exact Nat.le_of_lt (x.above y c (PySem.mem_of_lookup h))
  · have hi : i < vs.length := by
      unfold start at h2
      by_cases hi : i < vs.length
      · exact hi
      · rw [List.getElem?_append_right (by simpa using hi)] at h2
        rw [List.getElem?_replicate] at h2
        split at h2 <;> cases h2
    have ha : vs[i]? = some v := by
      unfold start at h2
      rw [List.getElem?_append_left (by simpa using hi), List.getElem?_map] at h2
      cases e : vs[i]? with
      | none => rw [e] at h2; cases h2
      | some a => rw [e] at h2; cases h2; rfl
    obtain ⟨u, hu, rv⟩ := r.get ha
    have hp : ps[i]? = some y := by
      rw [← S.pre, List.getElem?_take_of_lt (by omega)]; exact h1
    have ndP : ps.Nodup := by rw [← S.pre]; exact S.nd.sublist (List.take_sublist _ _)
    refine ⟨u, rv, ?_⟩
    rcases S.par y (List.mem_of_getElem? hp) with k | k
    · exact .inl ⟨k, bindL_get ndP hp hu k⟩
    · obtain ⟨c, e⟩ := cell_has (n := s.heap.objs.size + 1) k
      refine .inr ⟨.inl k, c, e, ?_⟩
      have q := x.cell y c e
      rw [bindC_get ndP hp hu (by show scope.names.lookup y ≠ _; rw [k]; decide)] at q
      exact q
  · exact e0.hok.fresh (Nat.le_of_lt (x.above y c (PySem.mem_of_lookup h)))
  · unfold start
    show _ = N.length
    rw [List.length_append, List.length_map, List.length_replicate]
    omega

/-- THE RULE: a def (or a method) of the text, by its body. The body's reading t is chosen for each entry; it is run at the parameters' values -/
theorem fn_of {CX : CXT} {P : Program} {w : World} {K : PySem.W.Frag} {mg : Str → Option Value} {base : Heap} {k : Nat} {f : Addr} {name qual : Str} {params : Arguments} {body : List Stmt} {scope : Scope} {dV kV doc pm cdv ct oc : Value} {an od : Option Addr}
    {osl : Array (Option Value)} {N ps : List Str} {sp : Sp} (lk : K.lookup f = some ⟨oc, od, .func (PySem.W.fnOf name qual params body scope dV kV doc pm an cdv ct), osl⟩) (hcd : PySem.W.codeIn K cdv qual = true) (S : FnScope N ps scope)
    (len : ∀ vs H Q E, sp vs H Q E → vs.length = ps.length)
    (hbody : ∀ (A : Around) (outer : List Env) (s : Shared) (H : Hp) (vs : List V) (Q : VK) (E : XK), Room k (A.deeper (envOfC qual scope s.heap.objs.size f cdv)) → sp vs H Q E →
      ∃ t, PSs (cxOf CX P w K mg base N qual scope f cdv A outer s H E) body t ∧ t { nx := fun _ H' => Q .non H', rt := Q } (start N vs) H) :
    FnOk P w K mg base CX (k + 1) f (PySem.W.fnOf name qual params body scope dV kV doc pm an cdv ct) ps sp := by
  refine ⟨len, fun A outer s H args us vs Q E hr e0 hb r hsp => ?_⟩
  have hl := len _ _ _ _ hsp
  have KX : K.In s.heap := e0.mod.kin.keeps fun b o e => (e0.bs b o e).1
  have lim : s.heap.NoLimit := e0.mod.nolimit.keeps fun b o e => (e0.bs b o e).1
  have hkind : ∀ y ∈ ps.zip us, scope.names.lookup y.1 = some .local ∨ (scope.names.lookup y.1 = some .cell ∧ ((cellsFrom (s.heap.objs.size + 1) scope.names []).lookup y.1).isSome = true) := fun ⟨n, v⟩ hy => by
    rcases S.par n (List.of_mem_zip hy).1 with q | q
    · exact .inl q
    · exact .inr ⟨q, PySem.W.cellsFrom_some _ _ _ (.inl q)⟩
  refine codeAny_call_function hr.depth (KX _ _ lk) rfl S.co S.gen rfl (PySem.W.codeRec_of KX hcd) (hb _ _ _ _ ?_)
  refine wpAny_newFunctionEnv_cells S.kind hkind fun env he s1 x => ?_
  subst he
  refine ⟨lim.keeps x.toInCall.keep, codeAny_func ?_⟩
  obtain ⟨t, ht, hq⟩ := hbody A outer s H vs Q E (hr.deeper _) hsp
  have I : Inv (cxOf CX P w K mg base N qual scope f cdv A outer s H E) [] (start N vs) H s1 := inv_start S hr.hd e0 hl r x
  refine wpAny_mono (ht [] s1 (start N vs) H _ I hq) (fun fl s' hs => ?_) fun e s' hs => hs
  have fin : ∀ {σ' : St} {H' : Hp} {v : V} {u : Value}, Inv (cxOf CX P w K mg base N qual scope f cdv A outer s H E) [] σ' H' s' → RelV v u → Q v H' → CE outer P w H s Q u s' :=
    fun {σ' H' v u} J rv q => ⟨v, H', J.os, J.bare, J.base, J.hok, rv, q⟩
  cases fl with
  | ret u =>
    obtain ⟨v, σ', H', J, rv, q⟩ := hs
    exact fin J rv q
  | next =>
    obtain ⟨σ', H', J, q⟩ := hs
    exact fin (v := V.non) (u := Value.none) J rfl q
  | brk =>
    obtain ⟨_, _, _, q⟩ := hs
    exact False.elim q
  | cont =>
    obtain ⟨_, _, _, q⟩ := hs
    exact False.elim q
end L2

namespace L2
open PySem PySem.Spec PyProof.Rows
section
variable {X : Cx} {x : Str} {p pos : Pos} {e : Expr} {es : List Expr} {t : TA} {id T : String} {r : List V → Hp → VK → Prop}

def tCB (r : List V → Hp → VK → Prop) (t : TA) : TE := fun σ H Q => t σ H fun vs H1 => r vs H1 Q
/-- f(e, ..), f a built-in function -/
theorem pe_callB (hc : CallR X (.builtin id) r) (hg : Gl X x) (hm : X.mg x = none) (hv : bootBuiltins x = some (.builtin id)) (ha : PA X (e :: es) t) (hn : x ≠ "__name__" := by decide) (hdb : (x == ("__debug__" : Str)) = false := by decide)
    (he : starEach (e :: es) X.env = (false, eval e X.env) :: starEach es X.env := by rfl) (hpl : (backTo pos (starEach es X.env)).any (·.1) = false := by rfl) : PE X (.Call (.Name x p) (e :: es) [] pos) (tCB r t) := by
  intro pins s σ H Q I h
  refine wpAny_Call_Name_kw (ld_blt I hg hm hv ?_ hn hdb)
  exact PyProof.Rows.callWith_builtin1 (thn (ha pos pins s σ H _ I h) fun us s1 ⟨vs, H1, I1, r1, q1⟩ => hc pins s1 σ H1 vs us Q I1 r1 q1) he hpl
/-- T(e, ..), T a built-in type -/
theorem pe_callTy (hc : CallR X (.type T) r) (hg : Gl X x) (hm : X.mg x = none) (hv : bootBuiltins x = some (.type T)) (ha : PA X (e :: es) t) (hn : x ≠ "__name__" := by decide) (hdb : (x == ("__debug__" : Str)) = false := by decide)
    (he : starEach (e :: es) X.env = (false, eval e X.env) :: starEach es X.env := by rfl) (hpl : (backTo pos (starEach es X.env)).any (·.1) = false := by rfl) : PE X (.Call (.Name x p) (e :: es) [] pos) (tCB r t) := by
  intro pins s σ H Q I h
  refine wpAny_Call_Name_kw (ld_blt I hg hm hv ?_ hn hdb)
  exact PyProof.Rows.callWith_type1 (thn (ha pos pins s σ H _ I h) fun us s1 ⟨vs, H1, I1, r1, q1⟩ => hc pins s1 σ H1 vs us Q I1 r1 q1) he hpl
/-- T() -/
theorem pe_callTy0 (hc : CallR X (.type T) r) (hg : Gl X x) (hm : X.mg x = none) (hv : bootBuiltins x = some (.type T)) (hn : x ≠ "__name__" := by decide) (hdb : (x == ("__debug__" : Str)) = false := by decide) :
    PE X (.Call (.Name x p) [] [] pos) (tCB r tNil) := by
  intro pins s σ H Q I h
  refine wpAny_Call_Name_kw (ld_blt I hg hm hv ?_ hn hdb)
  exact PyProof.Rows.callWith_type0 (hc pins s σ H [] [] Q I .nil h)
end
end L2

namespace L2
open PySem PySem.Spec PyProof.Rows

/-! ### lists of pairs as tables -/
section
variable {κ : Type} [DecidableEq κ]
def valV (kvs : List (κ × V)) (k : κ) : Option V := (kvs.find? fun kv => decide (kv.1 = k)).map (·.2)
/-- in its place, or at the end -/
def putK (kvs : List (κ × V)) (k : κ) (v : V) : List (κ × V) :=
  if (kvs.any fun kv => decide (kv.1 = k)) = true then kvs.map (fun kv => if kv.1 = k then (kv.1, v) else kv) else kvs ++ [(k, v)]
def dropK (kvs : List (κ × V)) (k : κ) : List (κ × V) := kvs.filter fun kv => decide (kv.1 ≠ k)

theorem valV_nil {k : κ} : valV ([] : List (κ × V)) k = none := rfl
theorem valV_pos {p : κ × V} {r : List (κ × V)} {k : κ} (e : p.1 = k) : valV (p :: r) k = some p.2 := by simp [valV, List.find?_cons, e]
theorem valV_neg {p : κ × V} {r : List (κ × V)} {k : κ} (e : ¬ p.1 = k) : valV (p :: r) k = valV r k := by simp [valV, List.find?_cons, e]
theorem valV_any (k : κ) : ∀ kvs : List (κ × V), (kvs.any fun kv => decide (kv.1 = k)) = (valV kvs k).isSome
  | [] => rfl
  | p :: r => by
    rw [List.any_cons]
    by_cases e : p.1 = k
    · simp only [valV_pos e, decide_eq_true e, Bool.true_or, Option.isSome_some]
    · rw [valV_neg e, decide_eq_false e, Bool.false_or]; exact valV_any k r
theorem valV_map (k j : κ) (y : V) : ∀ kvs : List (κ × V), valV (kvs.map fun kv => if kv.1 = k then (kv.1, y) else kv) j = (valV kvs j).map fun x => if j = k then y else x
  | [] => rfl
  | p :: r => by
    have ih := valV_map k j y r
    rw [List.map_cons]
    by_cases h : p.1 = k
    · rw [if_pos h]
      by_cases e : p.1 = j
      · rw [valV_pos (p := (p.1, y)) e, valV_pos e, Option.map_some, if_pos (e.symm.trans h)]
      · rw [valV_neg (p := (p.1, y)) e, valV_neg e, ih]
    · rw [if_neg h]
      by_cases e : p.1 = j
      · rw [valV_pos (p := p) e, valV_pos e, Option.map_some, if_neg (fun z => h (e.trans z))]
      · rw [valV_neg (p := p) e, valV_neg e, ih]
theorem valV_snoc (k j : κ) (y : V) : ∀ kvs : List (κ × V), valV kvs k = none → valV (kvs ++ [(k, y)]) j = if j = k then some y else valV kvs j
  | [], _ => by
    by_cases e : k = j
    · rw [if_pos e.symm]; exact valV_pos (p := (k, y)) e
    · rw [if_neg (fun z => e z.symm)]; exact valV_neg (p := (k, y)) e
  | p :: r, hn => by
    rw [List.cons_append]
    have hk : ¬ p.1 = k := fun z => by rw [valV_pos z] at hn; cases hn
    rw [valV_neg hk] at hn
    have ih := valV_snoc k j y r hn
    by_cases e : p.1 = j
    · rw [valV_pos e, valV_pos e, if_neg (fun z => hk (e.trans z))]
    · rw [valV_neg e, valV_neg e, ih]
theorem valV_put (kvs : List (κ × V)) (k j : κ) (y : V) : valV (putK kvs k y) j = if j = k then some y else valV kvs j := by
  unfold putK
  by_cases a : (kvs.any fun kv => decide (kv.1 = k)) = true
  · rw [if_pos a, valV_map]
    rw [valV_any] at a
    by_cases e : j = k
    · obtain ⟨x, hx⟩ := Option.isSome_iff_exists.mp a
      rw [if_pos e, e, hx, Option.map_some, if_pos rfl]
    · rw [if_neg e]
      cases valV kvs j with
      | none => rfl
      | some x => rw [Option.map_some, if_neg e]
  · rw [if_neg a]
    refine valV_snoc k j y kvs ?_
    rw [valV_any] at a
    cases q : valV kvs k with
    | none => rfl
    | some x => rw [q] at a; exact (a rfl).elim
theorem length_putK (kvs : List (κ × V)) (k : κ) (v : V) : (putK kvs k v).length ≤ kvs.length + 1 := by
  unfold putK
  split
  · rw [List.length_map]; omega
  · rw [List.length_append, List.length_cons, List.length_nil]; omega
theorem putK_new {kvs : List (κ × V)} {k : κ} (v : V) (h : valV kvs k = none) : putK kvs k v = kvs ++ [(k, v)] := by
  unfold putK
  rw [valV_any, h]
  exact if_neg (by decide)

theorem RelO.isSome_eq {o : Option V} {u : Option Value} (r : RelO o u) : o.isSome = u.isSome := by
  cases o with
  | none => cases u with
    | none => rfl
    | some _ => exact (show False from r).elim
  | some _ => cases u with
    | none => exact (show False from r).elim
    | some _ => rfl
theorem RelO.getD {o : Option V} {u : Option Value} {d : V} {d' : Value} (r : RelO o u) (rd : RelV d d') : RelV (o.getD d) (u.getD d') := by
  cases o with
  | none => cases u with
    | none => exact rd
    | some _ => exact (show False from r).elim
  | some _ => cases u with
    | none => exact (show False from r).elim
    | some _ => exact r

/-- raw tables of the same keys -/
theorem KV.val {kvs : List (κ × V)} {vs : List (κ × Value)} (r : KV kvs vs) (k : κ) : RelO (valV kvs k) (valueAt vs k) := by
  unfold KV at r
  induction r with
  | nil => exact True.intro
  | @cons p q ps qs h t ih =>
    obtain ⟨h1, h2⟩ := h
    by_cases e : p.1 = k
    · have e' : q.1 = k := h1.symm.trans e
      have b : valueAt (q :: qs) k = some q.2 := by simp [valueAt, List.find?_cons, e']
      rw [valV_pos e, b]; exact h2
    · have e' : ¬ q.1 = k := fun z => e (h1.trans z)
      have b : valueAt (q :: qs) k = valueAt qs k := by simp [valueAt, List.find?_cons, e']
      rw [valV_neg e, b]; exact ih
theorem KV.any {kvs : List (κ × V)} {vs : List (κ × Value)} (r : KV kvs vs) (k : κ) : (kvs.any fun kv => decide (kv.1 = k)) = vs.any fun kv => decide (kv.1 = k) := by
  unfold KV at r
  induction r with
  | nil => rfl
  | cons h t ih => rw [List.any_cons, List.any_cons, ih, h.1]
theorem KV.repl {kvs : List (κ × V)} {vs : List (κ × Value)} (r : KV kvs vs) (k : κ) {y : V} {u : Value} (ry : RelV y u) :
    KV (kvs.map fun kv => if kv.1 = k then (kv.1, y) else kv) (vs.map fun kv => if kv.1 = k then (kv.1, u) else kv) := by
  unfold KV at r ⊢
  induction r with
  | nil => exact .nil
  | @cons p q ps qs h t ih =>
    rw [List.map_cons, List.map_cons]
    refine .cons ?_ ih
    obtain ⟨h1, h2⟩ := h
    by_cases e : p.1 = k
    · rw [if_pos e, if_pos (h1.symm.trans e)]; exact ⟨h1, ry⟩
    · rw [if_neg e, if_neg (fun z => e (h1.trans z))]; exact ⟨h1, h2⟩
theorem KV.put {kvs : List (κ × V)} {vs : List (κ × Value)} (r : KV kvs vs) (k : κ) {y : V} {u : Value} (ry : RelV y u) : KV (putK kvs k y) (stored vs k u) := by
  unfold putK stored
  rw [r.any k]
  by_cases e : (vs.any fun kv => decide (kv.1 = k)) = true
  · rw [if_pos e, if_pos e]; exact r.repl k ry
  · rw [if_neg e, if_neg e]; exact Paired.snoc r ⟨rfl, ry⟩
theorem KV.drop {kvs : List (κ × V)} {vs : List (κ × Value)} (r : KV kvs vs) (k : κ) : KV (dropK kvs k) (without vs k) := by
  unfold KV at r ⊢
  unfold dropK without
  induction r with
  | nil => exact .nil
  | @cons p q ps qs h t ih =>
    obtain ⟨h1, h2⟩ := h
    rw [List.filter_cons, List.filter_cons]
    by_cases e : p.1 = k
    · have a : ¬ decide (p.1 ≠ k) = true := by simp [e]
      have b : ¬ decide (q.1 ≠ k) = true := by simp [h1.symm.trans e]
      rw [if_neg a, if_neg b]; exact ih
    · have e' : ¬ q.1 = k := fun z => e (h1.trans z)
      have a : decide (p.1 ≠ k) = true := by simp [e]
      have b : decide (q.1 ≠ k) = true := by simp [e']
      rw [if_pos a, if_pos b]; exact .cons ⟨h1, h2⟩ ih
theorem KV.keys {kvs : List (κ × V)} {vs : List (κ × Value)} (r : KV kvs vs) : kvs.map (·.1) = vs.map (·.1) := by
  unfold KV at r
  induction r with
  | nil => rfl
  | cons h t ih => rw [List.map_cons, List.map_cons, ih, h.1]
theorem KV.length {kvs : List (κ × V)} {vs : List (κ × Value)} (r : KV kvs vs) : kvs.length = vs.length := Paired.length r
theorem dropK_le (kvs : List (κ × V)) (k : κ) : (dropK kvs k).length ≤ kvs.length := List.length_filter_le _ _
end


/-! ### a tracked dict, its keys ints and texts or tuples of these -/
theorem kV_is {P : Program} {w : World} {k : Key} {u : Value} (r : RelV (kV k) u) : (mixKind P w).is k u = true := by
  cases k with
  | inl i => obtain ⟨t, e⟩ := (show ∃ t, u = Value.int i t from r); subst e; exact mixKind_int P w i t
  | inr x => obtain ⟨t, e⟩ := (show ∃ t, u = Value.str x t from r); subst e; exact mixKind_str P w x t
theorem kV_inj {a b : Key} (e : kV a = kV b) : a = b := by
  cases a with
  | inl i => cases b with
    | inl j => have e' : V.int i = V.int j := e; injection e' with e'; rw [e']
    | inr y => exact nomatch (show V.int i = V.str y from e)
  | inr x => cases b with
    | inl j => exact nomatch (show V.str x = V.int j from e)
    | inr y => have e' : V.str x = V.str y := e; injection e' with e'; rw [e']
theorem kVs_inj : ∀ {a b : List Key}, a.map kV = b.map kV → a = b
  | [], [], _ => rfl
  | [], _ :: _, e => by simp at e
  | _ :: _, [], e => by simp at e
  | x :: xs, y :: ys, e => by
    rw [List.map_cons, List.map_cons] at e
    injection e with e1 e2
    rw [kV_inj e1, kVs_inj e2]
theorem items_are {P : Program} {w : World} : ∀ {ks : List Key} {us : List Value}, Vals (ks.map kV) us → ItemsAre (mixKind P w) ks us
  | [], _, r => by rw [List.map_nil] at r; cases r; exact .nil
  | k :: ks, _, r => by
    rw [List.map_cons] at r
    cases r with
    | cons h t => exact .cons (kV_is h) (items_are t)

/-- raw entries of a dict with tuple keys -/
abbrev KT (H : Hp) : List (List Key × V) → List (List Key × Addr × Value) → Prop := Paired fun p q => p.1 = q.1 ∧ H q.2.1 = some (.tup (p.1.map kV)) ∧ RelV p.2 q.2.2
theorem KT.val {H : Hp} {kvs : List (List Key × V)} {xs : List (List Key × Addr × Value)} (r : KT H kvs xs) (k : List Key) : RelO (valV kvs k) ((atKey xs k).map (·.2)) := by
  induction r with
  | nil => exact True.intro
  | @cons p q ps qs h t ih =>
    obtain ⟨h1, _, h2⟩ := h
    by_cases e : p.1 = k
    · have e' : q.1 = k := h1.symm.trans e
      have b : atKey (q :: qs) k = some q.2 := by simp [atKey, List.find?_cons, e']
      rw [valV_pos e, b]; exact h2
    · have e' : ¬ q.1 = k := fun z => e (h1.trans z)
      have b : atKey (q :: qs) k = atKey qs k := by simp [atKey, List.find?_cons, e']
      rw [valV_neg e, b]; exact ih
theorem KT.repl {H : Hp} {kvs : List (List Key × V)} {xs : List (List Key × Addr × Value)} (r : KT H kvs xs) (k : List Key) {y : V} {u : Value} (ry : RelV y u) :
    KT H (kvs.map fun kv => if kv.1 = k then (kv.1, y) else kv) (xs.map (putAt k u)) := by
  induction r with
  | nil => exact .nil
  | @cons p q ps qs h t ih =>
    rw [List.map_cons, List.map_cons]
    refine .cons ?_ ih
    obtain ⟨h1, h2, h3⟩ := h
    unfold putAt
    by_cases e : p.1 = k
    · rw [if_pos e, if_pos (h1.symm.trans e)]; exact ⟨h1, h2, ry⟩
    · rw [if_neg e, if_neg (fun z => e (h1.trans z))]; exact ⟨h1, h2, h3⟩
theorem KT.put {H : Hp} {kvs : List (List Key × V)} {xs : List (List Key × Addr × Value)} (r : KT H kvs xs) (k : List Key) {b : Addr} {y : V} {u : Value} (hb : H b = some (.tup (k.map kV))) (ry : RelV y u) :
    KT H (putK kvs k y) (storedH xs k b u) := by
  have e : (kvs.any fun kv => decide (kv.1 = k)) = (atKey xs k).isSome := by
    rw [valV_any, (r.val k).isSome_eq, Option.isSome_map]
  unfold putK storedH
  rw [e]
  by_cases q : (atKey xs k).isSome = true
  · rw [if_pos q, if_pos q]; exact r.repl k ry
  · rw [if_neg q, if_neg q]; exact Paired.snoc r ⟨rfl, hb, ry⟩
theorem KT.keeps {H H' : Hp} {kvs : List (List Key × V)} {xs : List (List Key × Addr × Value)} (r : KT H kvs xs) (ht : ∀ b ys, H b = some (.tup ys) → H' b = some (.tup ys)) : KT H' kvs xs :=
  Paired.mapP r fun _ _ z => ⟨z.1, ht _ _ z.2.1, z.2.2⟩

section
variable {P : Program} {w : World} {H : Hp} {h : Heap} {a : Addr}
theorem rd_of {u : HO} (ok : HOk P w H h) (e : Rd H a u) : ObjOk P w H h a u := e.ok ok
theorem dk_rd {kvs : List (Key × V)} (ok : HOk P w H h) (e : Rd H a (.dK kvs)) : kvs.length ≤ sizeLine ∧ (a == sysModules) = false ∧ ∃ vs, KV kvs vs ∧ h.DictOf (mixKind P w) a vs :=
  show ObjOk P w H h a (.dK kvs) from rd_of ok e
theorem dk_of {kvs : List (Key × V)} (ok : HOk P w H h) (e : H a = some (.dK kvs)) : kvs.length ≤ sizeLine ∧ (a == sysModules) = false ∧ ∃ vs, KV kvs vs ∧ h.DictOf (mixKind P w) a vs := dk_rd ok (.inl e)
/-- a tracked tuple of ints and texts is a key -/
theorem key_of {ks : List Key} (ok : HOk P w H h) (e : H a = some (.tup (ks.map kV))) : (tupleKind (mixKind P w)).is h ks a := by
  obtain ⟨_, its, r, o, h1, h2, n, h3⟩ := (show ObjOk P w H h a (.tup (ks.map kV)) from ok a _ e)
  exact ⟨o, its.toArray, n, h1, h2, h3, by simpa using items_are r⟩
theorem dt_rd {kvs : List (List Key × V)} (ok : HOk P w H h) (e : Rd H a (.dT kvs)) : kvs.length ≤ sizeLine ∧ (a == sysModules) = false ∧
    ∃ xs, KT H kvs xs ∧ h.DictOfH (tupleKind (mixKind P w)) a xs := by
  obtain ⟨z, y, xs, r, o, es, ep, h1, h2, h3, h4, h5⟩ := (show ObjOk P w H h a (.dT kvs) from rd_of ok e)
  refine ⟨z, y, xs, r, o, es, ep, h1, h2, h3, h4, fun x hx => ?_, h5⟩
  have all : ∀ {l : List (List Key × V)} {m : List (List Key × Addr × Value)}, KT H l m → ∀ x ∈ m, (tupleKind (mixKind P w)).is h x.1 x.2.1 := by
    intro l m q
    induction q with
    | nil => intro x hx; exact nomatch hx
    | @cons p q ps qs hq t ih =>
      intro x hx
      rcases List.mem_cons.mp hx with e | hx
      · subst e
        exact key_of ok (by rw [← hq.1]; exact hq.2.1)
      · exact ih x hx
  exact all r x hx
theorem dt_of {kvs : List (List Key × V)} (ok : HOk P w H h) (e : H a = some (.dT kvs)) : kvs.length ≤ sizeLine ∧ (a == sysModules) = false ∧
    ∃ xs, KT H kvs xs ∧ h.DictOfH (tupleKind (mixKind P w)) a xs := dt_rd ok (.inl e)
end

/-- what the dict at a holds at the key y -/
def DGet (H : Hp) (a : Addr) (y : V) (r : Option V) : Prop :=
  (∃ kvs k, Rd H a (.dK kvs) ∧ y = kV k ∧ r = valV kvs k) ∨ ∃ kvs k b, Rd H a (.dT kvs) ∧ y = .ref b ∧ H b = some (.tup (k.map kV)) ∧ r = valV kvs k
/-- the heap behind a[y] = v -/
def DPut (H : Hp) (a : Addr) (y v : V) (H' : Hp) : Prop :=
  (∃ kvs k, H a = some (.dK kvs) ∧ y = kV k ∧ kvs.length < sizeLine ∧ H' = upd H a (.dK (putK kvs k v))) ∨
  ∃ kvs k b, H a = some (.dT kvs) ∧ y = .ref b ∧ H b = some (.tup (k.map kV)) ∧ kvs.length < sizeLine ∧ H' = upd H a (.dT (putK kvs k v))
theorem DGet.k {H : Hp} {a : Addr} {kvs : List (Key × V)} {k : Key} (e : H a = some (.dK kvs)) : DGet H a (kV k) (valV kvs k) := .inl ⟨kvs, k, .inl e, rfl, rfl⟩
theorem DGet.t {H : Hp} {a b : Addr} {kvs : List (List Key × V)} {k : List Key} (e : H a = some (.dT kvs)) (eb : H b = some (.tup (k.map kV))) : DGet H a (.ref b) (valV kvs k) := .inr ⟨kvs, k, b, .inl e, rfl, eb, rfl⟩
theorem DPut.k {H : Hp} {a : Addr} {kvs : List (Key × V)} {k : Key} {v : V} (e : H a = some (.dK kvs)) (hl : kvs.length < sizeLine) : DPut H a (kV k) v (upd H a (.dK (putK kvs k v))) := .inl ⟨kvs, k, e, rfl, hl, rfl⟩
theorem DPut.t {H : Hp} {a b : Addr} {kvs : List (List Key × V)} {k : List Key} {v : V} (e : H a = some (.dT kvs)) (eb : H b = some (.tup (k.map kV))) (hl : kvs.length < sizeLine) :
    DPut H a (.ref b) v (upd H a (.dT (putK kvs k v))) := .inr ⟨kvs, k, b, e, rfl, eb, hl, rfl⟩


section
variable {X : Cx} {pins : List (Addr × Obj)} {σ : St} {H : Hp} {s : Shared} {a : Addr} {y v : V} {u r : Value} {o : Option V} {A : Around} {E : Value → Shared → Prop}

theorem Inv.big (I : Inv X pins σ H s) : sysModules < s.heap.objs.size := by
  have h : mainGlobals < s.heap.objs.size := (I.mod.glob.keeps I.bk).lt
  exact Nat.lt_trans (by decide) h

/-- d[y], there -/
theorem d_getItem {Q : Value → Shared → Prop} (hu : A.units + 1 < cLine) (I : Inv X pins σ H s) (g : DGet H a y (some v)) (ry : RelV y u) (h : ∀ w' s', Inv X pins σ H s' → RelV v w' → Q w' s') :
    wpAny (model X.prog X.w) A (getItem (.ref a) u) Q E s := by
  rcases g with ⟨kvs, k, e, ey, l⟩ | ⟨kvs, k, b, e, ey, eb, l⟩
  · subst ey
    obtain ⟨z, hd, vs, rel, dd⟩ := dk_rd I.hok e
    obtain ⟨w', hw, rw'⟩ := RelO.some_of (v := v) (o := valueAt vs k) (by rw [l]; exact rel.val k)
    exact wpAny_getItem_of (kV_is ry) dd.mapOf hw (h w' _ (I.tok _) rw')
  · subst ey
    cases (show u = Value.ref b from ry)
    obtain ⟨z, hd, xs, rel, dd⟩ := dt_rd I.hok e
    obtain ⟨w', hw, rw'⟩ := RelO.some_of (v := v) (o := (atKey xs k).map (·.2)) (by rw [l]; exact rel.val k)
    obtain ⟨p, hp, hp2⟩ := Option.map_eq_some_iff.mp hw
    refine wpAny_getItem_heap (tupleKind_room_in1 hu) (key_of I.hok eb) dd hp ?_
    rw [hp2]
    exact h w' _ (I.tok _) rw'
/-- y in d -/
theorem d_in {Q : Value → Shared → Prop} (hu : A.units + 1 < cLine) (I : Inv X pins σ H s) (g : DGet H a y o) (ry : RelV y u) (h : ∀ s', Inv X pins σ H s' → Q (.bool o.isSome) s') :
    wpAny (model X.prog X.w) A (compareOp .In u (.ref a)) Q E s := by
  rcases g with ⟨kvs, k, e, ey, l⟩ | ⟨kvs, k, b, e, ey, eb, l⟩
  · subst ey
    obtain ⟨z, hd, vs, rel, dd⟩ := dk_rd I.hok e
    refine wpAny_in_of (kV_is ry) hd dd.mapOf ?_
    rw [← (rel.val k).isSome_eq, ← l]
    exact h _ (I.tok _)
  · subst ey
    cases (show u = Value.ref b from ry)
    obtain ⟨z, hd, xs, rel, dd⟩ := dt_rd I.hok e
    refine wpAny_in_heap (tupleKind_room_in1 hu) (key_of I.hok eb) hd dd ?_
    have q := (rel.val k).isSome_eq
    rw [Option.isSome_map] at q
    rw [← q, ← l]
    exact h _ (I.tok _)
theorem d_notIn {Q : Value → Shared → Prop} (hu : A.units + 1 < cLine) (I : Inv X pins σ H s) (g : DGet H a y o) (ry : RelV y u) (h : ∀ s', Inv X pins σ H s' → Q (.bool (!o.isSome)) s') :
    wpAny (model X.prog X.w) A (compareOp .NotIn u (.ref a)) Q E s := by
  rcases g with ⟨kvs, k, e, ey, l⟩ | ⟨kvs, k, b, e, ey, eb, l⟩
  · subst ey
    obtain ⟨z, hd, vs, rel, dd⟩ := dk_rd I.hok e
    refine wpAny_notIn_of (kV_is ry) hd dd.mapOf ?_
    rw [← (rel.val k).isSome_eq, ← l]
    exact h _ (I.tok _)
  · subst ey
    cases (show u = Value.ref b from ry)
    obtain ⟨z, hd, xs, rel, dd⟩ := dt_rd I.hok e
    refine wpAny_notIn_heap (tupleKind_room_in1 hu) (key_of I.hok eb) hd dd ?_
    have q := (rel.val k).isSome_eq
    rw [Option.isSome_map] at q
    rw [← q, ← l]
    exact h _ (I.tok _)
/-- a dict's object is replaced -/
theorem d_write {h' : Heap} {t' : Nat} {ob : HO} (I : Inv X pins σ H s) (mu : Mut (H a)) (hs : Heap.SameBut a s.heap h') (he : ∃ q, h'.get? a = some q) (new : ObjOk X.prog X.w (upd H a ob) h' a ob) :
    Inv X pins σ (upd H a ob) { s with heap := h', toks := t' } :=
  I.write (x := a) (e := a) mu (.inl rfl) (fun b q hb z => (hs.2 b hb).trans z) he new
theorem dk_new {P : Program} {w : World} {H' : Hp} {h' : Heap} {kvs : List (Key × V)} {vs : List (Key × Value)} (z : kvs.length ≤ sizeLine) (hd : (a == sysModules) = false) (rel : KV kvs vs) (dd : h'.DictOf (mixKind P w) a vs) :
    ObjOk P w H' h' a (.dK kvs) := ⟨z, hd, vs, rel, dd⟩
/-- d[y] = v -/
theorem d_setItem {H' : Hp} {Q : Unit → Shared → Prop} (hu : A.units + 1 < cLine) (I : Inv X pins σ H s) (g : DPut H a y v H') (ry : RelV y u) (rv : RelV v r) (h : ∀ s', Inv X pins σ H' s' → Q () s') :
    wpAny (model X.prog X.w) A (setItem (.ref a) u r) Q E s := by
  rcases g with ⟨kvs, k, e, ey, l, eH⟩ | ⟨kvs, k, b, e, ey, eb, l, eH⟩
  · subst ey eH
    obtain ⟨z, hd, vs, rel, dd⟩ := dk_of I.hok e
    have hz : vs.length ≤ sizeLine := by rw [← rel.length]; exact z
    have hl : (putK kvs k v).length ≤ sizeLine := by have := length_putK kvs k v; omega
    refine wpAny_setItem_pairs (hsz := hz) (kV_is ry) dd fun h' dd' hs => h _ ?_
    have he : ∃ q, h'.get? a = some q := let ⟨q, _, _, hq, _⟩ := dd'; ⟨q, hq⟩
    exact d_write I (by rw [e]; exact True.intro) hs he (dk_new hl hd (rel.put k rv) dd')
  · subst ey eH
    cases (show u = Value.ref b from ry)
    obtain ⟨z, hd, xs, rel, dd⟩ := dt_of I.hok e
    have hz : xs.length ≤ sizeLine := by rw [← Paired.length rel]; exact z
    have hl : (putK kvs k v).length ≤ sizeLine := by have := length_putK kvs k v; omega
    refine wpAny_setItem_heap (hsz := hz) (tupleKind_room_in1 hu) (key_of I.hok eb) dd fun h' dd' hs => h _ ?_
    obtain ⟨q, es, ep, hq, h2, h3, h4, _, h5⟩ := dd'
    refine d_write I (by rw [e]; exact True.intro) hs ⟨q, hq⟩ ⟨hl, hd, _, (rel.put k eb rv).keeps fun c ys ec => ?_, q, es, ep, hq, h2, h3, h4, h5⟩
    rw [upd_ne (ne_of ec e (fun z => nomatch z))]
    exact ec
end

section
variable {X : Cx} {pins : List (Addr × Obj)} {σ : St} {H : Hp} {s : Shared} {a : Addr} {kvs : List (Key × V)} {k : Key} {u : Value} {A : Around} {E : Value → Shared → Prop}
/-- del d[k] -/
theorem d_delItem {Q : Unit → Shared → Prop} (I : Inv X pins σ H s) (e : H a = some (.dK kvs)) (ry : RelV (kV k) u) (l : (valV kvs k).isSome = true) (h : ∀ s', Inv X pins σ (upd H a (.dK (dropK kvs k))) s' → Q () s') :
    wpAny (model X.prog X.w) A (delItem (.ref a) u) Q E s := by
  obtain ⟨z, hd, vs, rel, dd⟩ := dk_of I.hok e
  refine wpAny_delItem_slot dd.typeIs (by decide) PySem.F.slot_dict_delitem
    (call_meetsIn PySem.F.slot_dict_delitem dd.typeIs PySem.F.entry_dict_delitem (PySem.F.args_dict_delitem_2 _ _) (meets_dict_delitem_pairs (mixKind X.prog X.w) a (kV_is ry)) ⟨vs, dd, by rw [← rel.length]; exact z, by rw [← (rel.val k).isSome_eq]; exact l, fun h' dd' hs => h _ ?_⟩)
  have he : ∃ q, h'.get? a = some q := let ⟨q, _, _, hq, _⟩ := dd'; ⟨q, hq⟩
  exact d_write I (by rw [e]; exact True.intro) hs he (dk_new (Nat.le_trans (dropK_le kvs k) z) hd (rel.drop k) dd')
/-- d.pop(k[, x]), there -/
theorem d_pop {v : V} {more : List Value} {Q : Value → Shared → Prop} (I : Inv X pins σ H s) (e : H a = some (.dK kvs)) (ry : RelV (kV k) u) (l : valV kvs k = some v) (hm : more = [] ∨ ∃ x, more = [x])
    (h : ∀ w' s', Inv X pins σ (upd H a (.dK (dropK kvs k))) s' → RelV v w' → Q w' s') : wpAny (model X.prog X.w) A (call (.builtin "dict.pop") (.ref a :: u :: more)) Q E s := by
  obtain ⟨z, hd, vs, rel, dd⟩ := dk_of I.hok e
  obtain ⟨w', hw, rw'⟩ := RelO.some_of (v := v) (o := valueAt vs k) (by rw [← l]; exact rel.val k)
  have hp : (keyPart u).isSome = true := by
    cases k with
    | inl i => obtain ⟨t, q⟩ := (show ∃ t, u = Value.int i t from ry); subst q; rfl
    | inr x => obtain ⟨t, q⟩ := (show ∃ t, u = Value.str x t from ry); subst q; rfl
  have ha : argsOk "dict.pop" ⟨.ref a :: u :: more, []⟩ := by
    rcases hm with q | ⟨x, q⟩
    · subst q; exact PySem.F.args_dict_pop_2 _ _
    · subst q; exact PySem.F.args_dict_pop_3 _ _ _
  refine call_meetsIn PySem.F.slot_dict_pop dd.typeIs PySem.F.entry_dict_pop ha (meets_dict_pop_there (mixKind X.prog X.w) a (kV_is ry) more hm hp)
    ⟨vs, w', dd, by rw [← rel.length]; exact z, hw, fun h' dd' hs => h w' _ ?_ rw'⟩
  have he : ∃ q, h'.get? a = some q := let ⟨q, _, _, hq, _⟩ := dd'; ⟨q, hq⟩
  exact d_write I (by rw [e]; exact True.intro) hs he (dk_new (Nat.le_trans (dropK_le kvs k) z) hd (rel.drop k) dd')
/-- d.pop(k, x), not there -/
theorem d_popD {r : Value} {Q : Value → Shared → Prop} (I : Inv X pins σ H s) (e : H a = some (.dK kvs)) (ry : RelV (kV k) u) (l : valV kvs k = none) (h : ∀ s', Inv X pins σ H s' → Q r s') :
    wpAny (model X.prog X.w) A (call (.builtin "dict.pop") [.ref a, u, r]) Q E s := by
  obtain ⟨z, hd, vs, rel, dd⟩ := dk_of I.hok e
  have hn : valueAt vs k = none := RelO.none_of (by rw [← l]; exact rel.val k)
  have hp : (keyPart u).isSome = true := by
    cases k with
    | inl i => obtain ⟨t, q⟩ := (show ∃ t, u = Value.int i t from ry); subst q; rfl
    | inr x => obtain ⟨t, q⟩ := (show ∃ t, u = Value.str x t from ry); subst q; rfl
  exact call_meetsIn PySem.F.slot_dict_pop dd.typeIs PySem.F.entry_dict_pop (PySem.F.args_dict_pop_3 _ _ _) (meets_dict_pop_default (mixKind X.prog X.w) a (kV_is ry) hd hp r) ⟨vs, dd, hn, h _ (I.tok _)⟩
/-- d.clear() -/
theorem d_clear {Q : Value → Shared → Prop} (I : Inv X pins σ H s) (e : H a = some (.dK kvs)) (h : ∀ s', Inv X pins σ (upd H a (.dK [])) s' → Q .none s') : wpAny (model X.prog X.w) A (call (.builtin "dict.clear") [.ref a]) Q E s := by
  obtain ⟨z, hd, vs, rel, dd⟩ := dk_of I.hok e
  refine call_meetsIn PySem.F.slot_dict_clear dd.typeIs PySem.F.entry_dict_clear (PySem.F.args_dict_clear_1 _) (meets_dict_clear (mixKind X.prog X.w) a) ⟨vs, dd, by rw [← rel.length]; exact z, fun h' dd' hs => h _ ?_⟩
  have he : ∃ q, h'.get? a = some q := let ⟨q, _, _, hq, _⟩ := dd'; ⟨q, hq⟩
  exact d_write (t' := s.toks) I (by rw [e]; exact True.intro) hs he (dk_new (Nat.zero_le _) hd .nil dd')
/-- len(d) -/
theorem d_len {Q : Value → Shared → Prop} (I : Inv X pins σ H s) (e : Rd H a (.dK kvs)) (h : ∀ t s', Inv X pins σ H s' → Q (.int kvs.length t) s') : wpAny (model X.prog X.w) A (call (.builtin "len") [.ref a]) Q E s := by
  obtain ⟨z, hd, vs, rel, dd⟩ := dk_rd I.hok e
  refine call_len_dict hd dd (by rw [← rel.length]; rw [sizeLine_eq] at z; omega) ?_
  rw [← rel.length]
  exact h _ _ (I.tok _)
/-- if d -/
theorem d_truth {Q : Bool → Shared → Prop} (I : Inv X pins σ H s) (e : Rd H a (.dK kvs)) (h : ∀ s', Inv X pins σ H s' → Q (!kvs.isEmpty) s') : wpAny (model X.prog X.w) A (truthy (.ref a)) Q E s := by
  obtain ⟨z, hd, vs, rel, dd⟩ := dk_rd I.hok e
  refine wpAny_truthy_dict hd dd (by rw [← rel.length]; rw [sizeLine_eq] at z; omega) ?_
  have q : kvs.isEmpty = vs.isEmpty := by cases rel <;> rfl
  rw [← q]
  exact h _ (I.tok _)
end


/-! ### readings and rules -/
/-- the element of a subscription, not a slice -/
def NoSl (i : Expr) : Prop := ∀ ov iv, subscripted i false ov iv = operate [ov, iv] (getItem ov iv)
theorem subD_of {prog : Program} {w : World} {A : Around} {E : Value → Shared → Prop} {s : Shared} {env : Env} {value slice : Expr} {pos : Pos} {T id : String} {Q : Value → Shared → Prop}
    (hl : typeLookup (.type T) "__getitem__" = pure (some (.builtin id))) (hs : NoSl slice)
    (h : wpAny (model prog w) A (eval value env) (fun o s₁ => wpAny (model prog w) A (eval slice env) (fun i s₂ => s₂.TypeIs o T ∧ wpAny (model prog w) A (getItem o i) Q E s₂) E s₁) E s) :
    wpAny (model prog w) A (eval (.Subscript value slice pos) env) Q E s := by
  refine Subscript_ (wpAny_mono h (fun o s₁ h₁ => wpAny_mono h₁ (fun i s₂ h₂ => ?_) fun _ _ x => x) fun _ _ x => x)
  obtain ⟨hT, h₂⟩ := h₂
  unfold subscriptTail
  refine wpAny_bind ?_
  rw [getitemInPython_of_ne hT.not_modules]
  refine wpAny_bind (wpAny_specialOf hT hl ?_)
  have fin : wpAny (model prog w) A (subscripted slice false o i) (fun r s₃ => wpAny (model prog w) A (letTemporaryGo value o r >>= fun _ => pure r) Q E s₃) E s₂ := by
    rw [hs o i]
    exact wpAny_operating (wpAny_mono h₂ (fun r s₃ h₃ => wpAny_bind (wpAny_letTemporaryGo (wpAny_pure h₃))) fun _ _ x => x)
  first
    | exact wpAny_pure (wpAny_bind fin)
    | exact wpAny_bind (wpAny_pure (wpAny_bind fin))
    | exact wpAny_bind fin

theorem dict_typeIs {X : Cx} {pins : List (Addr × Obj)} {σ : St} {H : Hp} {s : Shared} {a : Addr} {y : V} {o : Option V} (I : Inv X pins σ H s) (g : DGet H a y o) : s.TypeIs (.ref a) "dict" := by
  rcases g with ⟨kvs, k, e, _, _⟩ | ⟨kvs, k, b, e, _, _, _⟩
  · obtain ⟨_, _, vs, _, dd⟩ := dk_rd I.hok e
    exact dd.typeIs
  · obtain ⟨_, _, xs, _, dd⟩ := dt_rd I.hok e
    exact dd.typeIs
theorem dict_noDict {X : Cx} {pins : List (Addr × Obj)} {σ : St} {H : Hp} {s : Shared} {a : Addr} {y : V} {o : Option V} (I : Inv X pins σ H s) (g : DGet H a y o) :
    ∀ b, Value.ref a = .ref b → ∃ ob, s.heap.get? b = some ob ∧ ob.dict = none := fun b q => by
  cases q
  rcases g with ⟨kvs, k, e, _, _⟩ | ⟨kvs, k, b, e, _, _, _⟩
  · obtain ⟨_, _, vs, _, ob, _, _, h1, h2, _⟩ := dk_rd I.hok e
    exact ⟨ob, h1, h2.2.1⟩
  · obtain ⟨_, _, xs, _, ob, _, _, h1, h2, _⟩ := dt_rd I.hok e
    exact ⟨ob, h1, h2.2.1⟩

/-- d[y] -/
def tDGet (td ty : TE) : TE := fun σ H Q => td σ H fun x H1 => ty σ H1 fun y H2 => ∃ a v, x = .ref a ∧ DGet H2 a y (some v) ∧ Q v H2
/-- y in d, y not in d -/
def tDIn (ty td : TE) : TE := fun σ H Q => ty σ H fun y H1 => td σ H1 fun x H2 => ∃ a o, x = .ref a ∧ DGet H2 a y o ∧ Q (.bl o.isSome) H2
def tDNotIn (ty td : TE) : TE := fun σ H Q => ty σ H fun y H1 => td σ H1 fun x H2 => ∃ a o, x = .ref a ∧ DGet H2 a y o ∧ Q (.bl (!o.isSome)) H2
/-- d[y] = v -/
def sDPut (td ty tv : TE) : TS := fun D σ H => tv σ H fun v H1 => td σ H1 fun x H2 => ty σ H2 fun y H3 => ∃ a H4, x = .ref a ∧ DPut H3 a y v H4 ∧ D.nx σ H4
/-- d[y] op= v -/
def sDAug (td ty tv : TE) (rd : V → V → Hp → VK → Prop) : TS := fun D σ H => td σ H fun x H1 => ty σ H1 fun y H2 => ∃ a v, x = .ref a ∧ DGet H2 a y (some v) ∧
  tv σ H2 fun y2 H3 => rd v y2 H3 fun z H4 => ∃ H5, DPut H4 a y z H5 ∧ D.nx σ H5
/-- del d[y] -/
def sDDel (td ty : TE) : TS := fun D σ H => td σ H fun x H1 => ty σ H1 fun y H2 => ∃ a kvs k, x = .ref a ∧ H2 a = some (.dK kvs) ∧ y = kV k ∧ (valV kvs k).isSome = true ∧ D.nx σ (upd H2 a (.dK (dropK kvs k)))

section
variable {X : Cx} {o i e value : Expr} {pos pos' tpos : Pos} {td ty tv : TE}
theorem pe_dget (hu : X.A.units + 1 < cLine) (ho : PE X o td) (hi : PE X i ty) (hs : NoSl i) : PE X (.Subscript o i pos) (tDGet td ty) := by
  intro pins s σ H Q I h
  refine subD_of PySem.F.slot_dict_getitem.lookup hs (thn (ho pins s σ H _ I h) fun u s1 ⟨x, H1, I1, rx, q1⟩ => thn (hi pins s1 σ H1 _ I1 q1) fun iv s2 ⟨y, H2, I2, ry, a, v, ex, g, q2⟩ => ?_)
  subst ex
  obtain rfl : u = Value.ref a := rx
  exact ⟨dict_typeIs I2 g, d_getItem hu I2 g ry fun w' s3 I3 rw' => ⟨v, H2, I3, rw', q2⟩⟩
theorem pc_din (hu : X.A.units + 1 < cLine) (hi : PE X i ty) (ho : PE X o td) : PC X .In i o (tDIn ty td) := by
  intro pins s σ H Q I h
  refine thn (hi pins s σ H _ I h) fun iv s1 ⟨y, H1, I1, ry, q1⟩ => thn (ho pins s1 σ H1 _ I1 q1) fun u s2 ⟨x, H2, I2, rx, a, ov, ex, g, q2⟩ => ?_
  subst ex
  obtain rfl : u = Value.ref a := rx
  exact d_in hu I2 g ry fun s3 I3 => ⟨.bl ov.isSome, H2, I3, rfl, q2⟩
theorem pc_dnotin (hu : X.A.units + 1 < cLine) (hi : PE X i ty) (ho : PE X o td) : PC X .NotIn i o (tDNotIn ty td) := by
  intro pins s σ H Q I h
  refine thn (hi pins s σ H _ I h) fun iv s1 ⟨y, H1, I1, ry, q1⟩ => thn (ho pins s1 σ H1 _ I1 q1) fun u s2 ⟨x, H2, I2, rx, a, ov, ex, g, q2⟩ => ?_
  subst ex
  obtain rfl : u = Value.ref a := rx
  exact d_notIn hu I2 g ry fun s3 I3 => ⟨.bl (!ov.isSome), H2, I3, rfl, q2⟩
theorem ps_dput (hu : X.A.units + 1 < cLine) (ho : PE X o td) (hi : PE X i ty) (hv : PE X value tv) (hs : swapsWith value (some (.Subscript o i pos')) pos.line X.env = pure false) :
    PS X (.Assign [.Subscript o i pos'] value pos) (sDPut td ty tv) := by
  intro pins s σ H D I h
  refine wpAny_Assign_Subscript (thn (hv pins s σ H _ I h) fun r s1 ⟨v, H1, I1, rv, q1⟩ => thn (ho pins s1 σ H1 _ I1 q1) fun u s2 ⟨x, H2, I2, rx, q2⟩ => thn (hi pins s2 σ H2 _ I2 q2) fun iv s3 ⟨y, H3, I3, ry, a, H4, ex, g, q3⟩ => ?_) hs
  subst ex
  obtain rfl : u = Value.ref a := rx
  exact d_setItem hu I3 g ry rv fun s4 I4 => ⟨σ, H4, I4, q3⟩
theorem ps_daug {op : Operator} {rd : V → V → Hp → VK → Prop} (hu : X.A.units + 1 < cLine) (ho : PE X o td) (hi : PE X i ty) (hv : PE X value tv) (hop : InOp X op rd)
    (ha : ∀ ov iv new, augStore i ov iv new = (do holding [new, ov, iv] (setItem ov iv new); release [new, ov, iv] []; pure .next)) : PS X (.AugAssign (.Subscript o i tpos) op value pos) (sDAug td ty tv rd) := by
  intro pins s σ H D I h
  refine wpAny_AugAssign_SubscriptAny (thn (ho pins s σ H _ I h) fun u s1 ⟨x, H1, I1, rx, q1⟩ => thn (hi pins s1 σ H1 _ I1 q1) fun iv s2 ⟨y, H2, I2, ry, a, v, ex, g, q2⟩ => ?_) ha
  subst ex
  obtain rfl : u = Value.ref a := rx
  refine d_getItem hu I2 g ry fun w' s3 I3 rw' => thn (hv pins s3 σ H2 _ I3 q2) fun w2 s4 ⟨y2, H3, I4, ry2, q3⟩ => thn (hop pins s4 σ H3 v y2 w' w2 _ I4 rw' ry2 q3) fun w3 s5 ⟨z, H4, I5, rz, H5, g5, q4⟩ => ?_
  exact d_setItem hu I5 g5 ry rz fun s6 I6 => ⟨σ, H5, I6, q4⟩
theorem ps_ddel (ho : PE X o td) (hi : PE X i ty) : PS X (.Delete [.Subscript o i tpos] pos) (sDDel td ty) := by
  intro pins s σ H D I h
  refine wpAny_Delete (wpAny_deleteEach_cons (wpAny_delete_Subscript (thn (ho pins s σ H _ I h) fun u s1 ⟨x, H1, I1, rx, q1⟩ => thn (hi pins s1 σ H1 _ I1 q1) fun iv s2 ⟨y, H2, I2, ry, a, kvs, k, ex, e, ey, l, q2⟩ => ?_)))
  subst ex ey
  obtain rfl : u = Value.ref a := rx
  exact d_delItem I2 e ry l fun s3 I3 => wpAny_deleteEach_nil ⟨σ, _, I3, q2⟩
end


/-! ### displays -/
theorem dk_empty {P : Program} {w : World} {H : Hp} (h : Heap) (hb : sysModules < h.objs.size) : ObjOk P w H (h.push { cls := .type "dict", data := .dict #[] }) h.objs.size (.dK []) :=
  ⟨Nat.zero_le _, beq_eq_false_iff_ne.mpr (Ne.symm (Nat.ne_of_lt hb)), [], .nil, Heap.DictOf.new h⟩
theorem dt_empty {P : Program} {w : World} {H : Hp} (h : Heap) (hb : sysModules < h.objs.size) : ObjOk P w H (h.push { cls := .type "dict", data := .dict #[] }) h.objs.size (.dT []) :=
  ⟨Nat.zero_le _, beq_eq_false_iff_ne.mpr (Ne.symm (Nat.ne_of_lt hb)), [], .nil, _, #[], 0, Heap.get?_push_size _ rfl, ⟨rfl, rfl, rfl⟩, rfl, rfl, List.nodup_nil⟩
/-- {}, to be a dict of the kind that is wanted -/
def tDNewK : TE := fun _ H Q => ∀ p, H p = none → Q (.ref p) (upd H p (.dK []))
def tDNewT : TE := fun _ H Q => ∀ p, H p = none → Q (.ref p) (upd H p (.dT []))
section
variable {X : Cx} {pos : Pos}
theorem pe_dnewK : PE X (.Dict [] [] pos) tDNewK := fun pins s σ H Q I h =>
  wpAny_Dict_empty ⟨.ref s.heap.objs.size, _, I.laid (a := s.heap.objs.size) (o := .dK []) (t' := s.toks) (fun _ _ q => Heap.get?_push_of_some _ q) (Nat.le_refl _) (dk_empty s.heap I.big), rfl, h _ (I.hok.fresh (Nat.le_refl _))⟩
theorem pe_dnewT : PE X (.Dict [] [] pos) tDNewT := fun pins s σ H Q I h =>
  wpAny_Dict_empty ⟨.ref s.heap.objs.size, _, I.laid (a := s.heap.objs.size) (o := .dT []) (t' := s.toks) (fun _ _ q => Heap.get?_push_of_some _ q) (Nat.le_refl _) (dt_empty s.heap I.big), rfl, h _ (I.hok.fresh (Nat.le_refl _))⟩
end

/-- the pairs of a display, from the left -/
def tPairs : List (TE × TE) → St → Hp → (List (V × V) → Hp → Prop) → Prop
  | [], _, H, Q => Q [] H
  | (tk, tv) :: r, σ, H, Q => tk σ H fun x H1 => tv σ H1 fun y H2 => tPairs r σ H2 fun ps H3 => Q ((x, y) :: ps) H3
abbrev VV : List (V × V) → List (Value × Value) → Prop := Paired fun p q => RelV p.1 q.1 ∧ RelV p.2 q.2
def PPs (X : Cx) (pos : Pos) (keys : List (Option Expr)) (values : List Expr) (trs : List (TE × TE)) : Prop :=
  ∀ (pins : List (Addr × Obj)) (s : Shared) (σ : St) (H : Hp) (Q : List (V × V) → Hp → Prop), Inv X pins σ H s → tPairs trs σ H Q →
    wpAny (model X.prog X.w) X.A (evalPairs (pairTrees keys values X.env pos)) (fun vs s' => ∃ ps H', Inv X pins σ H' s' ∧ VV ps vs ∧ Q ps H') X.xe s
theorem pps_nil {X : Cx} {pos : Pos} : PPs X pos [] [] [] := fun pins s σ H Q I h => pairTrees_nil_walk ⟨[], H, I, .nil, h⟩
theorem pps_cons {X : Cx} {pos : Pos} {k v : Expr} {ks : List (Option Expr)} {vs : List Expr} {tk tv : TE} {trs : List (TE × TE)} (hk : PE X k tk) (hv : PE X v tv) (hr : PPs X pos ks vs trs) :
    PPs X pos (some k :: ks) (v :: vs) ((tk, tv) :: trs) := fun pins s σ H Q I h =>
  pairTrees_cons_walk (thn (hk pins s σ H _ I h) fun u s1 ⟨x, H1, I1, rx, q1⟩ => thn (hv pins s1 σ H1 _ I1 q1) fun w2 s2 ⟨y, H2, I2, ry, q2⟩ =>
    thn (hr pins s2 σ H2 _ I2 q2) fun ws s3 ⟨ps, H3, I3, rel, q3⟩ => ⟨(x, y) :: ps, H3, I3, .cons ⟨rx, ry⟩ rel, q3⟩)

def mergeK (kvs more : List (Key × V)) : List (Key × V) := more.foldl (fun acc kv => putK acc kv.1 kv.2) kvs
theorem KV.merge : ∀ {more : List (Key × V)} {rs : List (Key × Value)} {kvs : List (Key × V)} {vs : List (Key × Value)}, KV more rs → KV kvs vs → KV (mergeK kvs more) (merged vs rs) := by
  intro more rs kvs vs r
  unfold KV at r
  induction r generalizing kvs vs with
  | nil => intro q; exact q
  | @cons p q ps qs h t ih =>
    intro r0
    have e : KV (putK kvs p.1 p.2) (stored vs q.1 q.2) := by
      have := r0.put p.1 h.2
      rw [← h.1]; exact this
    exact ih e
theorem length_mergeK : ∀ (more kvs : List (Key × V)), (mergeK kvs more).length ≤ kvs.length + more.length
  | [], kvs => by show kvs.length ≤ kvs.length + 0; omega
  | p :: r, kvs => by
    have h1 := length_mergeK r (putK kvs p.1 p.2)
    have h2 := length_putK kvs p.1 p.2
    show (mergeK (putK kvs p.1 p.2) r).length ≤ _
    rw [List.length_cons]; omega
theorem carries_of {P : Program} {w : World} : ∀ {kvs : List (Key × V)} {ws : List (Value × Value)}, VV (kvs.map fun kv => (kV kv.1, kv.2)) ws → ∃ rs, Carries (mixKind P w) ws rs ∧ KV kvs rs
  | [], _, r => by rw [List.map_nil] at r; cases r; exact ⟨[], True.intro, .nil⟩
  | p :: kvs, _, r => by
    rw [List.map_cons] at r
    cases r with
    | @cons a b as bs h t =>
      obtain ⟨rs, c, q⟩ := carries_of (P := P) (w := w) t
      obtain ⟨b1, b2⟩ := b
      exact ⟨(p.1, b2) :: rs, ⟨kV_is h.1, rfl, c⟩, .cons ⟨rfl, h.2⟩ q⟩
/-- {k: v, ..} with keys ints and texts; the new dict stands empty while the pairs are made -/
def tDisp (trs : List (TE × TE)) : TE := fun σ H Q => ∀ p, H p = none → tPairs trs σ (upd H p (.dK [])) fun ps H2 => H2 p = some (.dK []) ∧ ∃ kvs : List (Key × V), ps = kvs.map (fun kv => (kV kv.1, kv.2)) ∧ kvs.length ≤ 15 ∧ Q (.ref p) (upd H2 p (.dK (mergeK [] kvs)))
theorem pe_disp {X : Cx} {pos : Pos} {keys : List (Option Expr)} {values : List Expr} {trs : List (TE × TE)} (h : PPs X pos keys values trs) (hall : keys.all (·.isSome) = true) (hl : keys.length = values.length) (h0 : keys ≠ [])
    (h15 : keys.length ≤ 15) : PE X (.Dict keys values pos) (tDisp trs) := by
  intro pins s σ H Q I q
  have hn := I.hok.fresh (Nat.le_refl s.heap.objs.size)
  have I1 := I.laid (a := s.heap.objs.size) (o := .dK []) (h' := s.heap.push { cls := .type "dict", data := .dict #[] }) (t' := s.toks) (fun _ _ q => Heap.get?_push_of_some _ q) (Nat.le_refl _) (dk_empty s.heap I.big)
  refine wpAny_Dict_walk (knd := mixKind X.prog X.w) hall hl h0 h15 (thn (h pins _ σ _ _ I1 (q _ hn)) fun ws s2 ⟨ps, H2, I2, rel, e, kvs, ep, lk, q2⟩ => ?_)
  subst ep
  obtain ⟨rs, c, rk⟩ := carries_of (P := X.prog) (w := X.w) rel
  obtain ⟨z, hd, vs0, r0, dd⟩ := dk_of I2.hok e
  cases r0
  refine ⟨rs, c, dd, fun h' dd' hs => ⟨.ref s.heap.objs.size, _, ?_, rfl, q2⟩⟩
  have hz : (mergeK [] kvs).length ≤ sizeLine := by
    have h1 := length_mergeK kvs []
    rw [List.length_nil] at h1
    rw [sizeLine_eq]; omega
  have he : ∃ q, h'.get? s.heap.objs.size = some q := let ⟨q, _, _, hq, _⟩ := dd'; ⟨q, hq⟩
  exact d_write I2 (by rw [e]; exact True.intro) hs he (dk_new hz hd (rk.merge .nil) dd')


/-! ### methods -/
/-- a method call o.m(e) of a built-in, with one argument: what must be seen of the text -/
structure M1 (X : Cx) (o : Expr) (m : Str) (apos : Pos) (e : Expr) (cpos : Pos) : Prop where
  base : attributeBase o m X.env (eval o X.env) = eval o X.env
  few : ((backTo cpos (starEach [e] X.env)).all (fun x => !x.1) && (backToKw cpos (keywordEach [] X.env)).all (fun x => x.1.isSome)
    && decide (([e] : List Expr).length + ([] : List Keyword).length + (if ([] : List Keyword).isEmpty then 0 else 1) < 30)) = true
  line : (apos.endLine == cpos.line) = true
  trees : backTo cpos (starEach [e] X.env) = [(false, eval e X.env)]
structure M2 (X : Cx) (o : Expr) (m : Str) (apos : Pos) (e f : Expr) (cpos : Pos) : Prop where
  base : attributeBase o m X.env (eval o X.env) = eval o X.env
  few : ((backTo cpos (starEach [e, f] X.env)).all (fun x => !x.1) && (backToKw cpos (keywordEach [] X.env)).all (fun x => x.1.isSome)
    && decide (([e, f] : List Expr).length + ([] : List Keyword).length + (if ([] : List Keyword).isEmpty then 0 else 1) < 30)) = true
  line : (apos.endLine == cpos.line) = true
  trees : backTo cpos (starEach [e, f] X.env) = [(false, eval e X.env), (false, eval f X.env)]

/-- a is a dict, whatever its keys -/
def IsD (H : Hp) (a : Addr) : Prop := (∃ kvs, Rd H a (.dK kvs)) ∨ ∃ kvs, Rd H a (.dT kvs)
theorem isD_at {X : Cx} {pins : List (Addr × Obj)} {σ : St} {H : Hp} {s : Shared} {a : Addr} (I : Inv X pins σ H s) (d : IsD H a) :
    s.TypeIs (.ref a) "dict" ∧ (∀ b, Value.ref a = .ref b → ∃ ob, s.heap.get? b = some ob ∧ ob.dict = none) ∧ (a == sysModules) = false := by
  rcases d with ⟨kvs, e⟩ | ⟨kvs, e⟩
  · obtain ⟨_, hd, vs, _, dd⟩ := dk_rd I.hok e
    refine ⟨dd.typeIs, fun b q => ?_, hd⟩
    cases q
    obtain ⟨ob, _, _, h1, h2, _⟩ := dd
    exact ⟨ob, h1, h2.2.1⟩
  · obtain ⟨_, hd, xs, _, dd⟩ := dt_rd I.hok e
    refine ⟨dd.typeIs, fun b q => ?_, hd⟩
    cases q
    obtain ⟨ob, _, _, h1, h2, _⟩ := dd
    exact ⟨ob, h1, h2.2.1⟩

section
variable {X : Cx} {pins : List (Addr × Obj)} {σ : St} {H : Hp} {s : Shared} {a : Addr} {y d : V} {u r : Value} {o : Option V} {A : Around} {E : Value → Shared → Prop}
/-- d.get(y) -/
theorem d_get1 {Q : Value → Shared → Prop} (hu : A.units + 1 < cLine) (I : Inv X pins σ H s) (g : DGet H a y o) (ry : RelV y u) (h : ∀ w' s', Inv X pins σ H s' → RelV (o.getD .non) w' → Q w' s') :
    wpAny (model X.prog X.w) A (call (.builtin "dict.get") [.ref a, u]) Q E s := by
  rcases g with ⟨kvs, k, e, ey, l⟩ | ⟨kvs, k, b, e, ey, eb, l⟩
  · subst ey
    obtain ⟨z, hd, vs, rel, dd⟩ := dk_rd I.hok e
    refine call_meetsIn PySem.F.slot_dict_get dd.typeIs PySem.F.entry_dict_get (PySem.F.args_dict_get_2 _ _) (meets_dict_get (mixKind X.prog X.w) a (kV_is ry) hd) ⟨_, dd.mapOf, h _ _ (I.tok _) ?_⟩
    rw [l]
    exact (rel.val k).getD rfl
  · subst ey
    cases (show u = Value.ref b from ry)
    obtain ⟨z, hd, xs, rel, dd⟩ := dt_rd I.hok e
    refine call_meetsIn PySem.F.slot_dict_get dd.typeIs PySem.F.entry_dict_get (PySem.F.args_dict_get_2 _ _) (meetsH_dict_get (tupleKind (mixKind X.prog X.w)) a b hd) ⟨tupleKind_room_in1 hu, k, xs, key_of I.hok eb, dd, h _ _ (I.tok _) ?_⟩
    rw [l]
    exact (rel.val k).getD rfl
/-- d.get(y, x) -/
theorem d_get2 {Q : Value → Shared → Prop} (hu : A.units + 1 < cLine) (I : Inv X pins σ H s) (g : DGet H a y o) (ry : RelV y u) (rd : RelV d r) (h : ∀ w' s', Inv X pins σ H s' → RelV (o.getD d) w' → Q w' s') :
    wpAny (model X.prog X.w) A (call (.builtin "dict.get") [.ref a, u, r]) Q E s := by
  rcases g with ⟨kvs, k, e, ey, l⟩ | ⟨kvs, k, b, e, ey, eb, l⟩
  · subst ey
    obtain ⟨z, hd, vs, rel, dd⟩ := dk_rd I.hok e
    refine call_meetsIn PySem.F.slot_dict_get dd.typeIs PySem.F.entry_dict_get (PySem.F.args_dict_get_3 _ _ _) (meets_dict_get_default (mixKind X.prog X.w) a (kV_is ry) hd r) ⟨_, dd.mapOf, h _ _ (I.tok _) ?_⟩
    rw [l]
    exact (rel.val k).getD rd
  · subst ey
    cases (show u = Value.ref b from ry)
    obtain ⟨z, hd, xs, rel, dd⟩ := dt_rd I.hok e
    refine call_meetsIn PySem.F.slot_dict_get dd.typeIs PySem.F.entry_dict_get (PySem.F.args_dict_get_3 _ _ _) (meetsH_dict_get_default (tupleKind (mixKind X.prog X.w)) a b hd r) ⟨tupleKind_room_in1 hu, k, xs, key_of I.hok eb, dd, h _ _ (I.tok _) ?_⟩
    rw [l]
    exact (rel.val k).getD rd
end

def tDGet1 (td ty : TE) : TE := fun σ H Q => td σ H fun x H1 => ∃ a, x = .ref a ∧ IsD H1 a ∧ ty σ H1 fun y H2 => ∃ o, DGet H2 a y o ∧ Q (o.getD .non) H2
def tDGet2 (td ty tx : TE) : TE := fun σ H Q => td σ H fun x H1 => ∃ a, x = .ref a ∧ IsD H1 a ∧ ty σ H1 fun y H2 => tx σ H2 fun z H3 => ∃ o, DGet H3 a y o ∧ Q (o.getD z) H3
/-- d.pop(k): there; d.pop(k, x): there or not -/
def tDPop1 (td ty : TE) : TE := fun σ H Q => td σ H fun x H1 => ∃ a, x = .ref a ∧ IsD H1 a ∧ ty σ H1 fun y H2 => ∃ kvs k v, H2 a = some (.dK kvs) ∧ y = kV k ∧ valV kvs k = some v ∧ Q v (upd H2 a (.dK (dropK kvs k)))
def tDPop2 (td ty tx : TE) : TE := fun σ H Q => td σ H fun x H1 => ∃ a, x = .ref a ∧ IsD H1 a ∧ ty σ H1 fun y H2 => tx σ H2 fun z H3 => ∃ kvs k, H3 a = some (.dK kvs) ∧ y = kV k ∧
  (∀ v, valV kvs k = some v → Q v (upd H3 a (.dK (dropK kvs k)))) ∧ (valV kvs k = none → Q z H3)
section
variable {X : Cx} {o e f : Expr} {apos cpos : Pos} {td ty tx : TE}
theorem pe_dget1 (hu : X.A.units + 1 < cLine) (ho : PE X o td) (he : PE X e ty) (m : M1 X o "get" apos e cpos) : PE X (.Call (.Attribute o "get" apos) [e] [] cpos) (tDGet1 td ty) := by
  intro pins s σ H Q I h
  refine wpAny_Call_method m.base m.few m.line PySem.F.plainAttrs_dict PySem.F.slot_dict_get PySem.F.type_dict_get (thn (ho pins s σ H _ I h) fun u s1 ⟨x, H1, I1, rx, a, ex, d, q1⟩ => ?_)
  subst ex
  obtain rfl : u = Value.ref a := rx
  obtain ⟨t1, t2, _⟩ := isD_at I1 d
  refine ⟨t1, t2, ?_⟩
  rw [m.trees]
  refine Calls.callWith_builtin rfl (Calls.evalArgs_plain (Calls.spliced_cons (thn (he pins s1 σ H1 _ I1 q1) fun iv s2 ⟨y, H2, I2, ry, ov, g, q2⟩ => Calls.spliced_nil ?_)))
  exact d_get1 hu I2 g ry fun w' s3 I3 rw' => ⟨_, H2, I3, rw', q2⟩
theorem pe_dget2 (hu : X.A.units + 1 < cLine) (ho : PE X o td) (he : PE X e ty) (hf : PE X f tx) (m : M2 X o "get" apos e f cpos) : PE X (.Call (.Attribute o "get" apos) [e, f] [] cpos) (tDGet2 td ty tx) := by
  intro pins s σ H Q I h
  refine wpAny_Call_method m.base m.few m.line PySem.F.plainAttrs_dict PySem.F.slot_dict_get PySem.F.type_dict_get (thn (ho pins s σ H _ I h) fun u s1 ⟨x, H1, I1, rx, a, ex, d, q1⟩ => ?_)
  subst ex
  obtain rfl : u = Value.ref a := rx
  obtain ⟨t1, t2, _⟩ := isD_at I1 d
  refine ⟨t1, t2, ?_⟩
  rw [m.trees]
  refine Calls.callWith_builtin rfl (Calls.evalArgs_plain (Calls.spliced_cons (thn (he pins s1 σ H1 _ I1 q1) fun iv s2 ⟨y, H2, I2, ry, q2⟩ =>
    Calls.spliced_cons (thn (hf pins s2 σ H2 _ I2 q2) fun fv s3 ⟨z, H3, I3, rz, ov, g, q3⟩ => Calls.spliced_nil ?_))))
  exact d_get2 hu I3 g ry rz fun w' s4 I4 rw' => ⟨_, H3, I4, rw', q3⟩
theorem pe_dpop1 (ho : PE X o td) (he : PE X e ty) (m : M1 X o "pop" apos e cpos) : PE X (.Call (.Attribute o "pop" apos) [e] [] cpos) (tDPop1 td ty) := by
  intro pins s σ H Q I h
  refine wpAny_Call_method m.base m.few m.line PySem.F.plainAttrs_dict PySem.F.slot_dict_pop PySem.F.type_dict_pop (thn (ho pins s σ H _ I h) fun u s1 ⟨x, H1, I1, rx, a, ex, d, q1⟩ => ?_)
  subst ex
  obtain rfl : u = Value.ref a := rx
  obtain ⟨t1, t2, _⟩ := isD_at I1 d
  refine ⟨t1, t2, ?_⟩
  rw [m.trees]
  refine Calls.callWith_builtin rfl (Calls.evalArgs_plain (Calls.spliced_cons (thn (he pins s1 σ H1 _ I1 q1) fun iv s2 ⟨y, H2, I2, ry, kvs, k, v, ea, ey, l, q2⟩ => Calls.spliced_nil ?_)))
  subst ey
  exact d_pop I2 ea ry l (.inl rfl) fun w' s3 I3 rw' => ⟨v, _, I3, rw', q2⟩
theorem pe_dpop2 (ho : PE X o td) (he : PE X e ty) (hf : PE X f tx) (m : M2 X o "pop" apos e f cpos) : PE X (.Call (.Attribute o "pop" apos) [e, f] [] cpos) (tDPop2 td ty tx) := by
  intro pins s σ H Q I h
  refine wpAny_Call_method m.base m.few m.line PySem.F.plainAttrs_dict PySem.F.slot_dict_pop PySem.F.type_dict_pop (thn (ho pins s σ H _ I h) fun u s1 ⟨x, H1, I1, rx, a, ex, d, q1⟩ => ?_)
  subst ex
  obtain rfl : u = Value.ref a := rx
  obtain ⟨t1, t2, _⟩ := isD_at I1 d
  refine ⟨t1, t2, ?_⟩
  rw [m.trees]
  refine Calls.callWith_builtin rfl (Calls.evalArgs_plain (Calls.spliced_cons (thn (he pins s1 σ H1 _ I1 q1) fun iv s2 ⟨y, H2, I2, ry, q2⟩ =>
    Calls.spliced_cons (thn (hf pins s2 σ H2 _ I2 q2) fun fv s3 ⟨z, H3, I3, rz, kvs, k, ea, ey, q3, q4⟩ => Calls.spliced_nil ?_))))
  subst ey
  cases l : valV kvs k with
  | some v => exact d_pop I3 ea ry l (.inr ⟨fv, rfl⟩) fun w' s4 I4 rw' => ⟨v, _, I4, rw', q3 v l⟩
  | none => exact d_popD I3 ea ry l fun s4 I4 => ⟨z, H3, I4, rz, q4 l⟩
end

/-! ### dict(d): a copy -/
section
variable {X : Cx} {pins : List (Addr × Obj)} {σ : St} {H : Hp} {s : Shared} {a : Addr} {kvs : List (Key × V)} {A : Around} {E : Value → Shared → Prop}
theorem d_copyOf {Q : Value → Shared → Prop} (I : Inv X pins σ H s) (e : Rd H a (.dK kvs)) (h : ∀ p s', H p = none → Inv X pins σ (upd H p (.dK kvs)) s' → Q (.ref p) s') : wpAny (model X.prog X.w) A (call (.type "dict") [.ref a]) Q E s := by
  obtain ⟨z, hd, vs, rel, dd⟩ := dk_rd I.hok e
  refine kt_call_dict hd dd (by rw [← rel.length]; exact z) fun h' dd' hs => ?_
  refine h _ _ (I.hok.fresh (Nat.le_refl _)) (I.laid (a := s.heap.objs.size) (o := .dK kvs) (t' := s.toks) (fun b q hq => ?_) (Nat.le_refl _) (dk_new z (beq_eq_false_iff_ne.mpr (Ne.symm (Nat.ne_of_lt I.big))) rel dd'))
  exact (hs.2 b (Nat.ne_of_lt (Heap.lt_size hq))).trans (Heap.get?_push_of_some _ hq)
end


section
variable {X : Cx} {pins : List (Addr × Obj)} {σ : St} {H : Hp} {s : Shared} {a : Addr} {y : V} {u : Value} {A : Around} {E : Value → Shared → Prop}
/-- d[y], not there: a KeyError -/
theorem d_missing {Q : Value → Shared → Prop} (hu : A.units + 1 < cLine) (hh : A.handled = none) (I : Inv X pins σ H s) (g : DGet H a y none) (ry : RelV y u)
    (h : ∀ h' e t', Heap.NewExc s.heap h' e "KeyError" → E (.ref e) { s with heap := h', toks := t' }) : wpAny (model X.prog X.w) A (getItem (.ref a) u) Q E s := by
  rcases g with ⟨kvs, k, e, ey, l⟩ | ⟨kvs, k, b, e, ey, eb, l⟩
  · subst ey
    obtain ⟨z, hd, vs, rel, dd⟩ := dk_rd I.hok e
    have hn : valueAt vs k = none := RelO.none_of (by rw [l]; exact rel.val k)
    exact wpAny_getItem_missing_of (kV_is ry) hd hh dd.mapOf hn fun h' ex ne => h h' ex _ ne
  · subst ey
    cases (show u = Value.ref b from ry)
    obtain ⟨z, hd, xs, rel, dd⟩ := dt_rd I.hok e
    have hn : (atKey xs k).map (·.2) = none := RelO.none_of (by rw [l]; exact rel.val k)
    exact wpAny_getItem_missing_heap (tupleKind_room_in1 hu) (key_of I.hok eb) hd hh dd (Option.map_eq_none_iff.mp hn) fun h' ex ne => h h' ex _ ne
end
end L2

namespace HT
open PySem PyProof.Rows

/-- t < u of tuples of ints -/
def lexLt : List Int → List Int → Bool
  | [], [] => false
  | [], _ :: _ => true
  | _ :: _, [] => false
  | x :: xs, y :: ys => if x = y then lexLt xs ys else decide (x < y)
theorem lexLt_cons (x y : Int) (xs ys : List Int) : lexLt (x :: xs) (y :: ys) = if x = y then lexLt xs ys else decide (x < y) := rfl
theorem lexLt_nil_nil : lexLt [] [] = false := rfl
theorem lexLt_nil_cons (y : Int) (ys : List Int) : lexLt [] (y :: ys) = true := rfl
theorem lexLt_cons_nil (x : Int) (xs : List Int) : lexLt (x :: xs) [] = false := rfl

theorem eqAt_int (A : Around) (s : Shared) (a : Int) (t : Tok) (c : Int) (u : Tok) : ∃ e, SeqAt.EqAt A s (.int a t) (.int c u) e ∧ (e = true ↔ a = c) :=
  ⟨(a == c), SeqAt.EqAt.int_int a t c u, by simp⟩
theorem rcLt_int (A : Around) (s : Shared) (a : Int) (t : Tok) (c : Int) (u : Tok) (prog : Program) (w : World) (E : Value → Shared → Prop) (Q : Value → Shared → Prop) (h : Q (.bool (decide (a < c))) s) :
    wpAny (model prog w) A (richCompare .Lt (.int a t) (.int c u)) Q E s :=
  (PyProof.Rows.lt_int h : wpAny (model prog w) A (compareOp .Lt (.int a t) (.int c u)) Q E s)

section
open PySem.SeqAt
open PySem.AutoSeq1 (wpAny_loadPart')
open PySem.MeetsSeq PySem.MeetsSeq2 PySem.MeetsSeq3

theorem tuple_lt_ints (l b : Addr) (items items2 : Array Value) (n n2 : Nat) (dd dd2 : Option Addr) (sl sl2 : Array (Option Value)) (ns ms : List Int) (hi : IntsAre items.toList ns) (hj : IntsAre items2.toList ms) :
    Meets (Builtin.«tuple.__lt__» ⟨[.ref l, .ref b], []⟩)
      (fun _ R s => s.heap.get? l = some { cls := .type "tuple", dict := dd, data := .seq items n, slots := sl } ∧ s.heap.get? b = some { cls := .type "tuple", dict := dd2, data := .seq items2 n2, slots := sl2 } ∧
        R (.ok (.ret (.bool (lexLt ns ms)))) s) :=
  .of_wp fun prog w A R s h => by
    obtain ⟨hp, g, d, tk, os⟩ := s; obtain ⟨hl, hb, h⟩ := h
    have f2 := AutoSeq1.sub_tuple_tuple
    have z1 : items.size = ns.length := by rw [← hi.length]; simp
    have z2 : items2.size = ms.length := by rw [← hj.length]; simp
    wp_walk using wpAny_loadPart' hl, wpAny_loadPart' hb, wpAny_forIn_list _ (fun rest b s' => b.1 = none ∧ s' = ⟨hp, g, d, tk, os⟩ ∧ ∃ (vs ws : List Value) (ns' ms' : List Int), rest = vs.zip ws ∧
      IntsAre vs ns' ∧ IntsAre ws ms' ∧ ns'.length + items2.size = ms'.length + items.size ∧ R (.ok (.ret (.bool (lexLt ns' ms')))) ⟨hp, g, d, tk, os⟩) _
    case turn =>
      rintro ⟨y, x⟩ rest b s' ⟨hb', rfl, vs, ws, ns', ms', hz, hvi, hwi, hlen, hR⟩
      cases hvi with
      | nil => rw [List.zip_nil_left] at hz; cases hz
      | cons a t hvi' =>
        cases hwi with
        | nil => rw [List.zip_nil_right] at hz; cases hz
        | cons c u hwi' =>
          rw [List.zip_cons_cons] at hz
          injection hz with hyx hrest
          injection hyx with hy hx
          subst hy hx
          rw [lexLt_cons] at hR
          simp only [List.length_cons] at hlen
          obtain ⟨e, he, hiff⟩ := eqAt_int A.in1 ⟨hp, g, d, tk, os⟩ a t c u
          refine wpAny_bind (he prog w _ _ ?_)
          cases e with
          | true =>
            rw [if_pos (hiff.mp rfl)] at hR
            wp_walk
            exact ⟨rfl, rfl, _, _, _, _, hrest, hvi', hwi', by omega, hR⟩
          | false =>
            rw [if_neg (fun q => absurd (hiff.mpr q) Bool.false_ne_true)] at hR
            have hri := rcLt_int A.in1 ⟨hp, g, d, tk, os⟩ a t c u prog w
            wp_walk using hri
            exact ⟨_, rfl, by simpa using hR⟩
    case fin =>
      rintro ⟨b1, b2⟩ s' ⟨hb', rfl, vs, ws, ns', ms', hz, hvi, hwi, hlen, hR⟩
      simp only at hb'
      subst hb'
      have hv : lexLt ns' ms' = decide (items.size < items2.size) := by
        cases hvi with
        | nil =>
          cases hwi with
          | nil =>
            simp only [List.length_nil] at hlen
            rw [lexLt_nil_nil]
            exact (decide_eq_false (by omega)).symm
          | cons c u hw =>
            simp only [List.length_nil, List.length_cons] at hlen
            rw [lexLt_nil_cons]
            exact (decide_eq_true (by omega)).symm
        | cons a t hv =>
          cases hwi with
          | nil =>
            simp only [List.length_nil, List.length_cons] at hlen
            rw [lexLt_cons_nil]
            exact (decide_eq_false (by omega)).symm
          | cons c u hw =>
            rw [List.zip_cons_cons] at hz
            cases hz
      rw [hv] at hR
      wp_walk
      exact ⟨_, rfl, by simpa [Builtin.Tuple.tupleCompareSizes] using hR⟩
    case h =>
      exact ⟨rfl, rfl, items.toList, items2.toList, ns, ms, rfl, hi, hj, by omega, h⟩
end

section
variable {prog : Program} {w : World} {A : Around} {E : Value → Shared → Prop} {s : Shared}

theorem lt_tupInts {l b : Addr} {items items2 : Array Value} {ns ms : List Int} {Q : Value → Shared → Prop} (hl : IsTup s.heap l items) (hb : IsTup s.heap b items2) (hi : IntsAre items.toList ns) (hj : IntsAre items2.toList ms)
    (hu : A.units < cLine) (h : Q (.bool (lexLt ns ms)) s) : wpAny (model prog w) A (compareOp .Lt (.ref l) (.ref b)) Q E s := by
  obtain ⟨⟨cls, dd, data, sl⟩, ho, hc, n, hd⟩ := id hl
  obtain ⟨⟨cls2, dd2, data2, sl2⟩, ho2, hc2, n2, hd2⟩ := id hb
  simp only at hc hd hc2 hd2
  subst hc hd hc2 hd2
  exact richCompare_meets_room (op := .Lt) ⟨_, ho, rfl⟩ ⟨_, ho2, rfl⟩ PySem.F.slot_tuple_lt PySem.F.entry_tuple_lt (PySem.F.args_tuple_lt_2 _ _) (tuple_lt_ints l b items items2 n n2 dd dd2 sl sl2 ns ms hi hj)
    ⟨ho, ho2, show Value.bool (lexLt ns ms) ≠ Value.notImplemented ∧ Q (.bool (lexLt ns ms)) s from ⟨(fun x => nomatch x), h⟩⟩ hu

/-- t + u, t not empty -/
theorem cat_tup {t b : Addr} {vs ws : List Value} {Q : Value → Shared → Prop} (ht : IsTup s.heap t vs.toArray) (hb : IsTup s.heap b ws.toArray) (hv : vs ≠ [])
    (h1 : ws = [] → Q (.ref t) s) (h2 : ws ≠ [] → Q (.ref s.heap.objs.size) { s with heap := s.heap.push { cls := .type "tuple", data := .seq (vs ++ ws).toArray } })
    (hsz : vs.length + ws.length ≤ sizeLine) : wpAny (model prog w) A (binaryOp .Add (.ref t) (.ref b)) Q E s := by
  obtain ⟨⟨cls, dd, data, sl⟩, ho, hc, n, hd⟩ := id ht
  obtain ⟨⟨cls2, dd2, data2, sl2⟩, ho2, hc2, n2, hd2⟩ := id hb
  simp only at hc hd hc2 hd2
  subst hc hd hc2 hd2
  have e : vs.toArray ++ ws.toArray = (vs ++ ws).toArray := by simp
  by_cases hw : ws = []
  · exact concat_meets ⟨_, ho, rfl⟩ ⟨_, ho2, rfl⟩ noFill_tuple_add seq_tuple_add PySem.F.slot_tuple_add PySem.F.entry_tuple_add (PySem.F.args_tuple_add_2 _ _)
      (tuple_addW1 t b vs.toArray ws.toArray n n2 dd dd2 sl sl2 (by simpa using hv) (by simp [hw])) ⟨ho, ho2, h1 hw⟩
  · refine concat_meets ⟨_, ho, rfl⟩ ⟨_, ho2, rfl⟩ noFill_tuple_add seq_tuple_add PySem.F.slot_tuple_add PySem.F.entry_tuple_add (PySem.F.args_tuple_add_2 _ _)
      (tuple_addW2 t b vs.toArray ws.toArray n n2 dd dd2 sl sl2 (by simpa using hv) (by simpa using hw) (by rw [List.size_toArray, List.size_toArray]; exact hsz)) ⟨ho, ho2, ?_⟩
    rw [e]
    exact h2 hw

/-! ### t[a:b], not the whole -/
/-- a slice's bound as a place among n (d where it is left out) -/
def sIx (n d : Nat) : Option Int → Nat
  | none => d
  | some v => if v < 0 then (v + (n : Int)).toNat else min v.toNat n
theorem sIx_none (n d : Nat) : sIx n d none = d := rfl
theorem sIx_nat (n d k : Nat) : sIx n d (some (k : Int)) = min k n := by
  show (if (k : Int) < 0 then ((k : Int) + (n : Int)).toNat else min (k : Int).toNat n) = min k n
  rw [if_neg (by omega), Int.toNat_natCast]
theorem sIx_le (n d : Nat) (hd : d ≤ n) (o : Option Int) : sIx n d o ≤ n := by
  cases o with
  | none => exact hd
  | some v =>
    show (if v < 0 then (v + (n : Int)).toNat else min v.toNat n) ≤ n
    by_cases hv : v < 0
    · rw [if_pos hv]; omega
    · rw [if_neg hv]; exact Nat.min_le_right _ _
theorem clip_eq (v : Int) (n d : Nat) : (if v < 0 then max (v + (n : Int)) 0 else min v (n : Int)) = ((sIx n d (some v) : Nat) : Int) := by
  show (if v < 0 then max (v + (n : Int)) 0 else min v (n : Int)) = (((if v < 0 then (v + (n : Int)).toNat else min v.toNat n) : Nat) : Int)
  by_cases hv : v < 0
  · simp only [if_pos hv]; omega
  · simp only [if_neg hv]; omega
theorem adjust_gen (lo hi : Option Int) (n : Nat) : Builtin.Slice.sliceAdjust lo hi 1 (n : Int) = (((sIx n 0 lo : Nat) : Int), ((sIx n n hi : Nat) : Int)) := by
  have h1 : ¬ ((1 : Int) < 0) := by omega
  unfold Builtin.Slice.sliceAdjust
  simp only [h1, if_false]
  refine Prod.ext ?_ ?_
  · cases lo with
    | none => rfl
    | some v => exact clip_eq v n 0
  · cases hi with
    | none => rfl
    | some v => exact clip_eq v n n
theorem places_gen (i j : Nat) : Builtin.Slice.slicePlaces (i : Int) (j : Int) 1 = j - i := by
  unfold Builtin.Slice.slicePlaces
  have h1 : (1 : Int) > 0 := by omega
  simp only [h1, if_true, Int.ediv_one]
  split <;> omega
theorem slicePart_ {v : Value} {o : Option Int} {Q : Option Int → Shared → Prop} (p : IsPart v o) (h : Q o s) : wpAny (model prog w) A (Builtin.Slice.slicePartIndex v) Q E s := by
  cases p with
  | none => exact slicePart_none h
  | int i t => exact slicePart_int h
theorem sliceApplied_gen {sl : Addr} {vl vu : Value} {lo hi : Option Int} {n : Nat} {Q : Int × Int × Nat → Shared → Prop} (hs : s.heap.IsSliceOf sl vl vu .none) (pl : IsPart vl lo) (pu : IsPart vu hi)
    (h : Q (((sIx n 0 lo : Nat) : Int), 1, sIx n n hi - sIx n 0 lo) s) : wpAny (model prog w) A (Builtin.Slice.sliceApplied (.ref sl) (pure (n : Int))) Q E s := by
  obtain ⟨os, hos, hcs, hds⟩ := id hs
  unfold Builtin.Slice.sliceApplied Builtin.Slice.sliceFields
  refine wpAny_bind (wpAny_bind (wpAny_field hos hds (x := vl) rfl (wpAny_bind (wpAny_field hos hds (x := vu) rfl (wpAny_bind (wpAny_field hos hds (x := .none) rfl (wpAny_pure ?_)))))))
  refine wpAny_bind (slicePart_none ?_)
  show wpAny _ _ (if ((1 : Int) == 0) = true then _ else _) _ _ s
  rw [if_neg (by decide)]
  refine wpAny_bind (slicePart_ pl (wpAny_bind (slicePart_ pu (wpAny_bind (wpAny_pure ?_)))))
  show wpAny _ _ (match Builtin.Slice.sliceAdjust lo hi 1 (n : Int) with | (lo, hi) => pure (lo, (1 : Int), Builtin.Slice.slicePlaces lo hi 1)) _ _ s
  rw [adjust_gen lo hi n]
  show wpAny _ _ (pure (((sIx n 0 lo : Nat) : Int), (1 : Int), Builtin.Slice.slicePlaces ((sIx n 0 lo : Nat) : Int) ((sIx n n hi : Nat) : Int) 1)) _ _ s
  rw [places_gen]
  exact wpAny_pure h
theorem pick_gen (xs : Array Value) (i k : Nat) : ((List.range k).filterMap fun (m : Nat) => xs[((i : Int) + (m : Int) * 1).toNat]?).toArray = ((xs.toList.drop i).take k).toArray := by
  have e : (fun (m : Nat) => xs[((i : Int) + (m : Int) * 1).toNat]?) = fun m => xs[i + m]? := by
    funext m
    have : ((i : Int) + (m : Int) * 1).toNat = i + m := by omega
    rw [this]
  rw [e]
  have := pick_run xs i k
  rw [List.filterMap_map] at this
  have e2 : ((fun x => xs[x]?) ∘ fun x => i + x) = fun m => xs[i + m]? := rfl
  rw [e2] at this
  rw [this]

theorem getItem_tuple_cut {t sl : Addr} {items : Array Value} {vl vu : Value} {lo hi : Option Int} {Q : Value → Shared → Prop} (ht : IsTup s.heap t items) (hs : s.heap.IsSliceOf sl vl vu .none) (pl : IsPart vl lo) (pu : IsPart vu hi)
    (hw : ¬ (sIx items.size 0 lo = 0 ∧ sIx items.size items.size hi = items.size))
    (h : Q (.ref s.heap.objs.size) { s with heap := s.heap.push { cls := .type "tuple", data := .seq ((items.toList.drop (sIx items.size 0 lo)).take (sIx items.size items.size hi - sIx items.size 0 lo)).toArray } })
    (hsz : items.size ≤ sizeLine) : wpAny (model prog w) A (getItem (.ref t) (.ref sl)) Q E s := by
  have htake : sizeOk (.seq ((items.toList.drop (sIx items.size 0 lo)).take (sIx items.size items.size hi - sIx items.size 0 lo)).toArray) := by
    show ((items.toList.drop (sIx items.size 0 lo)).take (sIx items.size items.size hi - sIx items.size 0 lo)).toArray.size ≤ sizeLine
    rw [List.size_toArray, List.length_take, List.length_drop, Array.length_toList]
    omega
  have hj : sIx items.size items.size hi ≤ items.size := sIx_le _ _ (Nat.le_refl _) hi
  obtain ⟨os, hos, hcs, hds⟩ := id hs
  have hTs : s.TypeIs (.ref sl) "slice" := ⟨os, hos, hcs⟩
  unfold getItem
  try with_reducible refine wpAny_holding ?_
  first | refine wpAny_bind (wpAny_pure ?_) | skip
  refine wpAny_bind (wpAny_sequenceKey ht.typeIs (by decide) ?_)
  refine wpAny_bind (wpAny_callSpecial?_slot (name := Str.ofString "__getitem__") ht.typeIs PyProof.Rows.slot_tuple_getitem
    (wpAny_call_entry PyProof.Rows.slot_tuple_getitem ht.typeIs entry_tuple_getitem ?_ (args_tuple_getitem _ _)))
  show wpAny _ _ (Builtin.Tuple.tupleItemsOf (.ref t) >>= _) _ _ s
  refine wpAny_bind (tupleItemsOf_ ht ?_)
  refine wpAny_bind (wpAny_typeOf hTs ?_)
  rw [if_pos (by decide)]
  refine wpAny_bind (sliceApplied_gen hs pl pu ?_)
  have hno : ¬ ((((sIx items.size 0 lo : Nat) : Int) == 0 && (1 : Int) == 1 && (sIx items.size items.size hi - sIx items.size 0 lo) == items.size) = true) := by
    intro q
    rw [Bool.and_eq_true, Bool.and_eq_true] at q
    have q1 : ((sIx items.size 0 lo : Nat) : Int) = 0 := eq_of_beq q.1.1
    have q2 : sIx items.size items.size hi - sIx items.size 0 lo = items.size := eq_of_beq q.2
    exact hw ⟨by omega, by omega⟩
  show wpAny _ _ (if (((sIx items.size 0 lo : Nat) : Int) == 0 && (1 : Int) == 1 && (sIx items.size items.size hi - sIx items.size 0 lo) == items.size) = true then _ else _) _ _ s
  rw [if_neg hno, pick_gen]
  first
    | exact wpAny_bind (m := Builtin.Tuple.tupleExact _) (wpAny_newObj_type (wpAny_pure ⟨_, rfl, wpAny_pure h⟩) htake)
    | exact wpAny_bind (m := Builtin.Tuple.tupleExact _) (wpAny_newObj_type (wpAny_bind (wpAny_pure (wpAny_pure ⟨_, rfl, wpAny_pure h⟩))) htake)
    | exact wpAny_bind (wpAny_bind (m := Builtin.Tuple.tupleExact _) (wpAny_newObj_type (wpAny_pure (wpAny_pure ⟨_, rfl, wpAny_pure h⟩)) htake))
    | exact wpAny_bind (wpAny_bind (m := Builtin.Tuple.tupleExact _) (wpAny_newObj_type (wpAny_pure ⟨_, rfl, wpAny_pure h⟩) htake))
end
end HT

namespace L2
open PySem PySem.Spec PyProof.Rows

/-! ### the parts of a slice -/
abbrev TO := St → Hp → (Option Int → Hp → Prop) → Prop
/-- a slice's part (left out, or an int) -/
def PO (X : Cx) (e : Option Expr) (t : TO) : Prop :=
  ∀ (pins : List (Addr × Obj)) (s : Shared) (σ : St) (H : Hp) (Q : Option Int → Hp → Prop), Inv X pins σ H s → t σ H Q →
    wpAny (model X.prog X.w) X.A (evalPart e X.env) (fun u s' => ∃ o H', Inv X pins σ H' s' ∧ IsPart u o ∧ Q o H') X.xe s
def tNoPart : TO := fun _ H Q => Q none H
def tPart (t : TE) : TO := fun σ H Q => t σ H fun x H1 => ∃ i, x = .int i ∧ Q (some i) H1

theorem intsAre_of {ns : List Int} : ∀ {us : List Value}, Vals (ns.map V.int) us → IntsAre us ns := by
  induction ns with
  | nil => intro us r; rw [List.map_nil] at r; cases r; exact .nil
  | cons n ns ih =>
    intro us r
    rw [List.map_cons] at r
    cases r with
    | cons r1 r2 =>
      obtain ⟨t, e⟩ := r1
      subst e
      exact .cons n t (ih r2)

section
variable {X : Cx} {e : Expr} {te : TE} {lo hi : Option Expr} {tl th : TO} {pos p2 : Pos}

theorem po_none : PO X none tNoPart := by
  intro pins s σ H Q I h
  rw [evalPart_none]
  exact wpAny_pure ⟨none, H, I, .none, h⟩
theorem po_some (h : PE X e te) : PO X (some e) (tPart te) := by
  intro pins s σ H Q I hw
  rw [evalPart_some]
  refine thn (h pins s σ H _ I hw) fun u s1 ⟨x, H1, I1, r1, q1⟩ => ?_
  obtain ⟨i, rfl, q⟩ := q1
  obtain ⟨t, rfl⟩ := r1
  exact ⟨some i, H1, I1, .int i t, q⟩

/-- what a slice of a value is, by values: the slice object stands at sl -/
def SlR (X : Cx) (r : V → Option Int → Option Int → Hp → VK → Prop) : Prop :=
  ∀ (pins : List (Addr × Obj)) (s : Shared) (σ : St) (H : Hp) (x : V) (v vl vu : Value) (lo hi : Option Int) (sl : Addr) (Q : VK), Inv X pins σ H s → RelV x v → s.heap.IsSliceOf sl vl vu .none → IsPart vl lo → IsPart vu hi → r x lo hi H Q →
    ∃ T id, typeLookup (.type T) "__getitem__" = pure (some (.builtin id)) ∧ s.TypeIs v T ∧ wpAny (model X.prog X.w) X.A (getItem v (.ref sl)) (EP X pins σ Q) X.xe s
theorem SlR.or {r r' : V → Option Int → Option Int → Hp → VK → Prop} (h : SlR X r) (h' : SlR X r') : SlR X (fun x lo hi H Q => r x lo hi H Q ∨ r' x lo hi H Q) := by
  intro pins s σ H x v vl vu lo hi sl Q I rx hs pl pu q
  rcases q with q | q
  · exact h pins s σ H x v vl vu lo hi sl Q I rx hs pl pu q
  · exact h' pins s σ H x v vl vu lo hi sl Q I rx hs pl pu q
def tSl (r : V → Option Int → Option Int → Hp → VK → Prop) (te : TE) (tl th : TO) : TE := fun σ H Q => te σ H fun x H1 => tl σ H1 fun l H2 => th σ H2 fun u H3 => r x l u H3 Q
/-- a[lo:hi], any a -/
theorem pe_slice {r : V → Option Int → Option Int → Hp → VK → Prop} (hr : SlR X r) (he : PE X e te) (hl : PO X lo tl) (hu : PO X hi th) : PE X (.Subscript e (.Slice lo hi none p2) pos) (tSl r te tl th) := by
  intro pins s σ H Q I h
  refine Subscript_ (thn (he pins s σ H _ I h) fun v s1 ⟨x, H1, I1, r1, q1⟩ => ?_)
  refine wpAny_Slice (thn (hl pins s1 σ H1 _ I1 q1) fun vl s2 ⟨l, H2, I2, pl, q2⟩ => thn (hu pins s2 σ H2 _ I2 q2) fun vu s3 ⟨u, H3, I3, pu, q3⟩ => ?_)
  rw [evalPart_none]
  refine wpAny_pure ?_
  have I4 : Inv X pins σ H3 { s3 with heap := s3.heap.push { cls := .type "slice", data := .fields #[vl, vu, .none] } } := I3.kept (t' := s3.toks) fun b ob q => Heap.get?_push_of_some _ q
  obtain ⟨T, id, hT, ht, hg⟩ := hr pins { s3 with heap := s3.heap.push { cls := .type "slice", data := .fields #[vl, vu, .none] } } σ H3 x v vl vu l u s3.heap.objs.size Q I4 r1 (Heap.IsSliceOf.new ..) pl pu q3
  show wpAny (model X.prog X.w) X.A (subscriptTail e (.Slice lo hi none p2) v (.ref s3.heap.objs.size)) (EP X pins σ Q) X.xe { s3 with heap := s3.heap.push { cls := .type "slice", data := .fields #[vl, vu, .none] } }
  exact tail_any (ops := [.ref s3.heap.objs.size, v]) ht hT hg (by with_unfolding_all rfl)

/-- the items of xs[lo:hi] -/
def cutV (xs : List V) (lo hi : Option Int) : List V := (xs.drop (HT.sIx xs.length 0 lo)).take (HT.sIx xs.length xs.length hi - HT.sIx xs.length 0 lo)
theorem cutV_length (xs : List V) (lo hi : Option Int) : (cutV xs lo hi).length ≤ xs.length := by
  unfold cutV
  rw [List.length_take, List.length_drop]
  omega
/-- t[lo:hi], not the whole of it (the whole would be t itself) -/
def rSlT (K : PySem.W.Frag) : V → Option Int → Option Int → Hp → VK → Prop := fun x lo hi H Q => ∃ a xs, x = .ref a ∧ SqT K H a xs ∧
  ¬ (HT.sIx xs.length 0 lo = 0 ∧ HT.sIx xs.length xs.length hi = xs.length) ∧ ∀ p, H p = none → Q (.ref p) (upd H p (.tup (cutV xs lo hi)))
theorem sl_tup : SlR X (rSlT X.K) := by
  intro pins s σ H x v vl vu lo hi sl Q I rx hs pl pu h
  obtain ⟨a, xs, rfl, hx, hw, q⟩ := h
  cases rx
  obtain ⟨its, r, ht, hz⟩ := I.tuple hx
  have hlen : its.toArray.size = xs.length := by rw [List.size_toArray]; exact r.length.symm
  refine ⟨"tuple", _, PyProof.Rows.slot_tuple_getitem.lookup, ht.typeIs, ?_⟩
  refine HT.getItem_tuple_cut ht hs pl pu (by rw [hlen]; exact hw) ?_ (by rw [hlen]; exact hz)
  rw [hlen]
  refine ⟨.ref s.heap.objs.size, _, I.laid (t' := s.toks) (o := .tup (cutV xs lo hi)) (fun b ob q => Heap.get?_push_of_some _ q) (Nat.le_refl _) ?_, rfl, q _ (I.hok.fresh (Nat.le_refl _))⟩
  exact ⟨Nat.le_trans (cutV_length xs lo hi) hz, _, (r.drop (HT.sIx xs.length 0 lo)).take (HT.sIx xs.length xs.length hi - HT.sIx xs.length 0 lo), IsTup.new _ _⟩

/-! ### t < u, t + u -/
def rLtT (K : PySem.W.Frag) : R2 := fun x y H Q => ∃ a b ns ms, x = .ref a ∧ y = .ref b ∧ SqT K H a (ns.map V.int) ∧ SqT K H b (ms.map V.int) ∧ Q (.bl (HT.lexLt ns ms)) H
theorem op_ltT (hu : X.A.units < cLine) : OpR X (compareOp .Lt) (rLtT X.K) := by
  intro pins s σ H x y v u Q I rx ry h
  obtain ⟨a, b, ns, ms, rfl, rfl, ha, hb, q⟩ := h
  cases rx
  cases ry
  obtain ⟨its, r1, p1, _⟩ := I.tuple ha
  obtain ⟨its2, r2, p2, _⟩ := I.tuple hb
  have i1 : IntsAre its.toArray.toList ns := intsAre_of r1
  have i2 : IntsAre its2.toArray.toList ms := intsAre_of r2
  exact HT.lt_tupInts p1 p2 i1 i2 hu ⟨.bl (HT.lexLt ns ms), H, I, rfl, q⟩
/-- t + u, t not empty: u empty gives t itself -/
def rCatT (K : PySem.W.Frag) : R2 := fun x y H Q => ∃ a b xs ys, x = .ref a ∧ y = .ref b ∧ SqT K H a xs ∧ SqT K H b ys ∧ xs ≠ [] ∧ xs.length + ys.length ≤ sizeLine ∧
  (ys = [] → Q (.ref a) H) ∧ (ys ≠ [] → ∀ p, H p = none → Q (.ref p) (upd H p (.tup (xs ++ ys))))
theorem Vals.nil_iff {xs : List V} {us : List Value} (r : Vals xs us) : us = [] ↔ xs = [] := by
  cases r with
  | nil => simp
  | cons _ _ => simp
theorem op_catT : OpR X (binaryOp .Add) (rCatT X.K) := by
  intro pins s σ H x y v u Q I rx ry h
  obtain ⟨a, b, xs, ys, rfl, rfl, ha, hb, hx, hz, q1, q2⟩ := h
  cases rx
  cases ry
  obtain ⟨its, r1, p1, _⟩ := I.tuple ha
  obtain ⟨its2, r2, p2, _⟩ := I.tuple hb
  refine HT.cat_tup p1 p2 (fun z => hx (r1.nil_iff.mp z)) (fun z => ⟨.ref a, H, I, rfl, q1 (r2.nil_iff.mp z)⟩) (fun z => ?_) (by rw [← r1.length, ← r2.length]; exact hz)
  refine ⟨.ref s.heap.objs.size, _, I.laid (t' := s.toks) (o := .tup (xs ++ ys)) (fun b ob q => Heap.get?_push_of_some _ q) (Nat.le_refl _) ?_, rfl, q2 (fun w => z (r2.nil_iff.mpr w)) _ (I.hok.fresh (Nat.le_refl _))⟩
  exact ⟨by rw [List.length_append]; exact hz, _, r1.append r2, IsTup.new _ _⟩
/-- tuple(t) -/
theorem call_tupleT : CallR X (.type "tuple") (fun xs H Q => ∃ a ys, xs = [.ref a] ∧ SqT X.K H a ys ∧ Q (.ref a) H) := by
  intro pins s σ H xs us Q I r h
  obtain ⟨a, ys, rfl, ha, q⟩ := h
  obtain ⟨u, rfl, ru⟩ := vals1 r
  cases ru
  obtain ⟨its, _, p1, _⟩ := I.tuple ha
  exact call_tuple_same (items := its.toArray) p1 ⟨.ref a, H, I, rfl, q⟩
end
end L2

namespace L2
open PySem PySem.Spec PyProof.Rows

/-! ### places -/
/-- the place that an index of any sign means -/
def ixN (n : Nat) (i : Int) : Option Nat := if 0 ≤ i then (if i < n then some i.toNat else none) else if -(n : Int) ≤ i then some (i + n).toNat else none
def atI {α : Type} (xs : List α) (i : Int) : Option α := (ixN xs.length i).bind fun j => xs[j]?
theorem ixN_seq {n : Nat} {i : Int} {j : Nat} (h : ixN n i = some j) : seqIndex? i n = some j ∧ j < n ∧ -(n : Int) ≤ i ∧ i < n := by
  unfold ixN at h
  by_cases h0 : 0 ≤ i
  · rw [if_pos h0] at h
    by_cases h1 : i < n
    · rw [if_pos h1] at h
      have e : i.toNat = j := Option.some.inj h
      exact ⟨by rw [seqIndex_of h0 h1, e], by omega, by omega, h1⟩
    · rw [if_neg h1] at h; cases h
  · rw [if_neg h0] at h
    by_cases h1 : -(n : Int) ≤ i
    · rw [if_pos h1] at h
      have e : (i + n).toNat = j := Option.some.inj h
      exact ⟨by rw [seqIndex_neg (by omega) h1, e], by omega, h1, by omega⟩
    · rw [if_neg h1] at h; cases h
theorem atI_get {α : Type} {xs : List α} {i : Int} {v : α} (h : atI xs i = some v) : ∃ j, seqIndex? i xs.length = some j ∧ xs[j]? = some v ∧ j < xs.length ∧ -(xs.length : Int) ≤ i ∧ i < xs.length := by
  unfold atI at h
  cases e : ixN xs.length i with
  | none => rw [e] at h; cases h
  | some j =>
    rw [e] at h
    obtain ⟨h1, h2, h3, h4⟩ := ixN_seq e
    exact ⟨j, h1, h, h2, h3, h4⟩
theorem atI_nat {α : Type} {xs : List α} {j : Nat} {v : α} (h : xs[j]? = some v) : atI xs (j : Int) = some v := by
  have hj : j < xs.length := (List.getElem?_eq_some_iff.mp h).1
  have e : ixN xs.length (j : Int) = some j := by
    unfold ixN
    rw [if_pos (by omega), if_pos (by omega)]; simp
  unfold atI; rw [e]; exact h
theorem atI_last {α : Type} (xs : List α) (v : α) : atI (xs ++ [v]) (-1) = some v := by
  have hl : (xs ++ [v]).length = xs.length + 1 := by simp
  have e : ixN (xs ++ [v]).length (-1) = some xs.length := by
    unfold ixN
    rw [hl, if_neg (by decide), if_pos (by omega)]
    congr 1
    omega
  unfold atI
  rw [e]
  show (xs ++ [v])[xs.length]? = some v
  simp

/-! ### what may be subscripted -/
/-- what stands as an index of a plain subscript -/
def PlainIx (b : Expr) : Prop := ∀ o i, subscripted b false o i = operate [o, i] (getItem o i)
/-- a subscript by values -/
def IxR (X : Cx) (r : R2) : Prop :=
  ∀ (value slice : Expr) (pins : List (Addr × Obj)) (s : Shared) (σ : St) (H : Hp) (x y : V) (v u : Value) (Q : VK), Inv X pins σ H s → RelV x v → RelV y u → r x y H Q →
    subscripted slice false v u = operate [v, u] (getItem v u) → wpAny (model X.prog X.w) X.A (subscriptTail value slice v u) (EP X pins σ Q) X.xe s
/-- a call of a builtin's method by values: the receiver, the arguments -/
def MtR (X : Cx) (id : String) (r : V → List V → Hp → VK → Prop) : Prop :=
  ∀ (pins : List (Addr × Obj)) (s : Shared) (σ : St) (H : Hp) (x : V) (xs : List V) (v : Value) (us : List Value) (Q : VK), Inv X pins σ H s → RelV x v → Vals xs us → r x xs H Q →
    wpAny (model X.prog X.w) X.A (call (.builtin id) (v :: us)) (EP X pins σ Q) X.xe s
section
variable {X : Cx} {a b : Expr} {ta tb : TE} {pos : Pos}
theorem IxR.or {r r' : R2} (h : IxR X r) (h' : IxR X r') : IxR X (fun x y H Q => r x y H Q ∨ r' x y H Q) := by
  intro value slice pins s σ H x y v u Q I rx ry q hs
  rcases q with q | q
  · exact h value slice pins s σ H x y v u Q I rx ry q hs
  · exact h' value slice pins s σ H x y v u Q I rx ry q hs
theorem MtR.or {id : String} {r r' : V → List V → Hp → VK → Prop} (h : MtR X id r) (h' : MtR X id r') : MtR X id (fun x xs H Q => r x xs H Q ∨ r' x xs H Q) := by
  intro pins s σ H x xs v us Q I rx rs q
  rcases q with q | q
  · exact h pins s σ H x xs v us Q I rx rs q
  · exact h' pins s σ H x xs v us Q I rx rs q
/-- a[b] -/
theorem pe_ix {r : R2} (hr : IxR X r) (ha : PE X a ta) (hb : PE X b tb) (hs : PlainIx b) : PE X (.Subscript a b pos) (tOp r ta tb) := by
  intro pins s σ H Q I h
  exact Subscript_ (binT ha hb I h fun v u s2 x y H2 I2 rx ry q => hr a b pins s2 σ H2 x y v u Q I2 rx ry q (hs _ _))

def rIxL (K : PySem.W.Frag) : R2 := fun x y H Q => ∃ p xs i v, x = .ref p ∧ y = .int i ∧ SqL K H p xs ∧ atI xs i = some v ∧ Q v H
def rIxT (K : PySem.W.Frag) : R2 := fun x y H Q => ∃ p xs i v, x = .ref p ∧ y = .int i ∧ SqT K H p xs ∧ atI xs i = some v ∧ Q v H
def rIxS : R2 := fun x y H Q => ∃ z i c, x = .str z ∧ y = .int i ∧ z.length ≤ sizeLine ∧ atI z.cps.toList i = some c ∧ Q (.str ⟨#[c]⟩) H
theorem ix_list : IxR X (rIxL X.K) := by
  intro value slice pins s σ H x y v u Q I rx ry h hs
  obtain ⟨p, xs, i, z, rfl, rfl, hq, he, q⟩ := h
  cases rx
  obtain ⟨t, rfl⟩ := ry
  obtain ⟨its, r, pl, hz⟩ := I.list hq
  obtain ⟨j, h1, h2, h3, h4, h5⟩ := atI_get he
  obtain ⟨w, ew, rw'⟩ := r.get h2
  have hl := r.length
  have hn := line63
  have fin : EP X pins σ Q w s := ⟨z, H, I, rw', q⟩
  by_cases h0 : 0 ≤ i
  · have hj : i.toNat = j := by
      rw [seqIndex_of h0 h5] at h1
      exact Option.some.inj h1
    exact item_listR pl.isList h0 (by omega) (by rw [hj]; simpa using ew) fin hs
  · have hj : (i + (its.toArray.size : Int)).toNat = j := by
      rw [seqIndex_neg (by omega) h4] at h1
      rw [List.size_toArray, ← hl]
      exact Option.some.inj h1
    exact subscriptTail_builtinR (x := w) pl.isList.typeIs slot_list_getitem.lookup
      (wpAny_getItem_list_neg (Q := fun r s' => r = w ∧ EP X pins σ Q r s') pl.isList (by omega) (by rw [List.size_toArray] <;> omega) (by omega) (by rw [hj]; simpa using ew) ⟨rfl, fin⟩) hs
theorem ix_tup : IxR X (rIxT X.K) := by
  intro value slice pins s σ H x y v u Q I rx ry h hs
  obtain ⟨p, xs, i, z, rfl, rfl, hq, he, q⟩ := h
  cases rx
  obtain ⟨t, rfl⟩ := ry
  obtain ⟨its, r, pl, hz⟩ := I.tuple hq
  obtain ⟨j, h1, h2, h3, h4, h5⟩ := atI_get he
  obtain ⟨w, ew, rw'⟩ := r.get h2
  have hl := r.length
  have hn := line63
  have fin : EP X pins σ Q w s := ⟨z, H, I, rw', q⟩
  exact subscriptTail_builtinR (x := w) pl.typeIs slot_tuple_getitem.lookup
    (getItem_tuple (j := j) (Q := fun r s' => r = w ∧ EP X pins σ Q r s') pl (by omega) (by omega) (by rw [List.size_toArray, ← hl]; exact h1) (by simpa using ew) ⟨rfl, fin⟩) hs
theorem ix_str : IxR X rIxS := by
  intro value slice pins s σ H x y v u Q I rx ry h hs
  obtain ⟨z, i, c, rfl, rfl, hz, he, q⟩ := h
  obtain ⟨t, rfl⟩ := rx
  obtain ⟨t', rfl⟩ := ry
  obtain ⟨j, h1, h2, h3, h4, h5⟩ := atI_get he
  have hl : z.cps.toList.length = z.length := by simp [Str.length]
  rw [hl] at h1 h4 h5
  have hn := line63
  exact tail_any (typeIs_str s z t) slot_str_getitem.lookup (getItem_str (c := c) (by
    have e1 : decide (i < -(2 ^ 63 : Int)) = false := decide_eq_false (by omega)
    have e2 : decide (i ≥ 2 ^ 63) = false := decide_eq_false (by omega)
    rw [e1, e2, Bool.or_false]) (by rw [h1]; simpa using h2) ⟨.str ⟨#[c]⟩, H, I.tok _, ⟨_, rfl⟩, q⟩) hs
/-- list, tuple or str -/
def rIx (K : PySem.W.Frag) : R2 := fun x y H Q => rIxL K x y H Q ∨ rIxT K x y H Q ∨ rIxS x y H Q
theorem ix_seq : IxR X (rIx X.K) := ix_list.or (ix_tup.or ix_str)

/-! ### xs[i] = v, any sign -/
/-- the list's object behind a store -/
theorem mapSeq_set (its : List Value) (n j : Nat) (u : Value) : Obj.mapSeq (·.setIfInBounds j u) { cls := .type "list", data := .seq its.toArray n } = { cls := .type "list", data := .seq (its.set j u).toArray n } := by
  simp [Obj.mapSeq]
theorem Inv.lst {pins : List (Addr × Obj)} {σ : St} {H : Hp} {s : Shared} {p : Addr} {xs : List V} (I : Inv X pins σ H s) (h : H p = some (.lst xs)) :
    ∃ (its : List Value) (n : Nat), Vals xs its ∧ s.heap.get? p = some { cls := .type "list", data := .seq its.toArray n } ∧ xs.length ≤ sizeLine := by
  obtain ⟨z, its, n, r, e⟩ := I.hok p _ h
  exact ⟨its, n, r, e, z⟩
/-- the list at p is written by an update of its object -/
theorem Inv.lstUpd {pins : List (Addr × Obj)} {σ : St} {H : Hp} {s : Shared} {p : Addr} {xs ys : List V} {its its' : List Value} {n n' : Nat} {f : Obj → Obj} (I : Inv X pins σ H s) (h : H p = some (.lst xs))
    (ho : s.heap.get? p = some { cls := .type "list", data := .seq its.toArray n }) (hf : f { cls := .type "list", data := .seq its.toArray n } = { cls := .type "list", data := .seq its'.toArray n' }) (r : Vals ys its') (hz : ys.length ≤ sizeLine) (t : Nat) :
    Inv X pins σ (upd H p (.lst ys)) { s with heap := s.heap.update p f, toks := t } := by
  have e : (s.heap.update p f).get? p = some { cls := .type "list", data := .seq its'.toArray n' } := by
    rw [Heap.get?_update_self f ho (by rw [hf] <;> rfl), hf]
  refine I.write (x := p) (e := p) (by rw [h]; trivial) (.inl rfl) (fun b u hb q => (Heap.get?_update_other _ _ (Ne.symm hb)).trans q) ⟨_, e⟩ ?_
  exact ⟨hz, its', n', r, e⟩
def rSetL : V → V → V → Hp → (Hp → Prop) → Prop := fun o i v H Q => ∃ p xs k j, o = .ref p ∧ i = .int k ∧ H p = some (.lst xs) ∧ ixN xs.length k = some j ∧ Q (upd H p (.lst (xs.set j v)))
theorem set_list : PSet X rSetL := by
  intro pins s σ H o i v ov iv u Q I ro ri rv h
  obtain ⟨p, xs, k, j, rfl, rfl, hp, hj, q⟩ := h
  cases ro
  obtain ⟨t, rfl⟩ := ri
  obtain ⟨its, n, r, ho, hz⟩ := I.lst hp
  obtain ⟨h1, h2, h3, h4⟩ := ixN_seq hj
  have hl := r.length
  have hn := line63
  have I' : Inv X pins σ (upd H p (.lst (xs.set j v))) { s with heap := s.heap.update p (Obj.mapSeq (·.setIfInBounds j u)) } :=
    I.lstUpd hp ho (mapSeq_set its n j u) (r.set rv j) (by rw [List.length_set]; exact hz) s.toks
  by_cases h0 : 0 ≤ k
  · have hk : k.toNat = j := by
      rw [seqIndex_of h0 h4] at h1
      exact Option.some.inj h1
    exact PySem.W.ki_setAt ho h0 (by omega) (by rw [List.size_toArray, ← hl]; exact h4) (by rw [hk]; exact ⟨_, I', q⟩)
  · have hk : (k + (its.toArray.size : Int)).toNat = j := by
      rw [seqIndex_neg (by omega) h3] at h1
      rw [List.size_toArray, ← hl]
      exact Option.some.inj h1
    exact PySem.W.ki_setBack ho (by omega) (by rw [List.size_toArray, ← hl]; exact h3) (by omega) (by rw [hk]; exact ⟨_, I', q⟩)

/-! ### slices -/
theorem slice_bounds (lo hi : Option Int) (n : Nat) : (sliceBounds lo hi none n).1 = ((HT.sIx n 0 lo : Nat) : Int) ∧ (sliceBounds lo hi none n).2.1 = ((HT.sIx n n hi : Nat) : Int) ∧ (sliceBounds lo hi none n).2.2 = 1 := by
  refine ⟨?_, ?_, rfl⟩
  · cases lo with
    | none => simp [sliceBounds, HT.sIx]
    | some i =>
      simp only [sliceBounds, HT.sIx, Option.getD_none, show (1 : Int) > 0 by decide, if_true]
      by_cases h : i < 0
      · simp only [h, if_true] <;> omega
      · simp only [h, if_false] <;> omega
  · cases hi with
    | none => simp [sliceBounds, HT.sIx]
    | some i =>
      simp only [sliceBounds, HT.sIx, Option.getD_none, show (1 : Int) > 0 by decide, if_true]
      by_cases h : i < 0
      · simp only [h, if_true] <;> omega
      · simp only [h, if_false] <;> omega
theorem slicePick_cut (its : List Value) (lo hi : Option Int) : slicePick its.toArray lo hi none = ((its.drop (HT.sIx its.length 0 lo)).take (HT.sIx its.length its.length hi - HT.sIx its.length 0 lo)).toArray := by
  obtain ⟨h1, h2, h3⟩ := slice_bounds lo hi its.toArray.size
  unfold slicePick
  rw [h1, h2, h3]
  simp only [sliceRange_one, pick_run, List.size_toArray] <;> rfl
/-- xs[lo:hi] of a list: a new list -/
def rSlL (K : PySem.W.Frag) : V → Option Int → Option Int → Hp → VK → Prop := fun x lo hi H Q => ∃ a xs, x = .ref a ∧ SqL K H a xs ∧ ∀ p, H p = none → Q (.ref p) (upd H p (.lst (cutV xs lo hi)))
theorem sl_list : SlR X (rSlL X.K) := by
  intro pins s σ H x v vl vu lo hi sl Q I rx hs pl pu h
  obtain ⟨a, xs, rfl, hx, q⟩ := h
  cases rx
  obtain ⟨its, r, ht, hz⟩ := I.list hx
  have hlen := r.length
  refine ⟨"list", _, slot_list_getitem.lookup, ht.isList.typeIs, ?_⟩
  refine wpAny_getItem_list_slice ht.isList hs pl pu .none (by simp) ?_ (by rw [List.size_toArray] <;> omega)
  rw [slicePick_cut, ← hlen]
  refine ⟨.ref s.heap.objs.size, _, I.laid (t' := s.toks) (o := .lst (cutV xs lo hi)) (fun b ob q => Heap.get?_push_of_some _ q) (Nat.le_refl _) ?_, rfl, q _ (I.hok.fresh (Nat.le_refl _))⟩
  exact ⟨Nat.le_trans (cutV_length xs lo hi) hz, _, 0, (r.drop (HT.sIx xs.length 0 lo)).take (HT.sIx xs.length xs.length hi - HT.sIx xs.length 0 lo), Heap.get?_push_size _ rfl⟩

/-! ### in, not in: flat items -/
def flatV : V → Bool
  | .non => true
  | .bl _ => true
  | .int _ => true
  | .str _ => true
  | _ => false
/-- == of flat values -/
def eqV : V → V → Bool
  | .non, .non => true
  | .bl a, .bl b => a == b
  | .bl a, .int b => (if a then 1 else 0) == b
  | .int a, .bl b => a == (if b then 1 else 0)
  | .int a, .int b => a == b
  | .str a, .str b => a == b
  | _, _ => false
theorem eqAt_V {A : Around} {s : Shared} {y x : V} {u v : Value} (ry : RelV y u) (rx : RelV x v) (fy : flatV y = true) (fx : flatV x = true) : SeqAt.EqAt A s u v (eqV y x) := by
  cases y with
  | non =>
    cases ry
    cases x with
    | non => cases rx; exact SeqAt.EqAt.same _
    | bl b => cases rx; exact SeqAt.EqAt.none_bool b
    | int b => obtain ⟨t, rfl⟩ := rx; exact SeqAt.EqAt.none_int b t
    | str b => obtain ⟨t, rfl⟩ := rx; exact SeqAt.EqAt.none_str b t
    | _ => exact absurd (show false = true from fx) Bool.false_ne_true
  | bl a =>
    cases ry
    cases x with
    | non => cases rx; exact SeqAt.EqAt.bool_none a
    | bl b => cases rx; exact SeqAt.EqAt.bool_bool a b
    | int b => obtain ⟨t, rfl⟩ := rx; exact SeqAt.EqAt.bool_int a b t
    | str b => obtain ⟨t, rfl⟩ := rx; exact SeqAt.EqAt.bool_str a b t
    | _ => exact absurd (show false = true from fx) Bool.false_ne_true
  | int a =>
    obtain ⟨t', rfl⟩ := ry
    cases x with
    | non => cases rx; exact SeqAt.EqAt.int_none a t'
    | bl b => cases rx; exact SeqAt.EqAt.int_bool a t' b
    | int b => obtain ⟨t, rfl⟩ := rx; exact SeqAt.EqAt.int_int a t' b t
    | str b => obtain ⟨t, rfl⟩ := rx; exact SeqAt.EqAt.int_str a t' b t
    | _ => exact absurd (show false = true from fx) Bool.false_ne_true
  | str a =>
    obtain ⟨t', rfl⟩ := ry
    cases x with
    | non => cases rx; exact SeqAt.EqAt.str_none a t'
    | bl b => cases rx; exact SeqAt.EqAt.str_bool a t' b
    | int b => obtain ⟨t, rfl⟩ := rx; exact SeqAt.EqAt.str_int a t' b t
    | str b => obtain ⟨t, rfl⟩ := rx; exact SeqAt.EqAt.str_str a t' b t
    | _ => exact absurd (show false = true from fx) Bool.false_ne_true
  | _ => exact absurd (show false = true from fy) Bool.false_ne_true
/-- the items' answers, read off the values (a value's own answer does not lean on its token) -/
def eqU (x : V) (u : Value) : Bool := match u with
  | .none => eqV .non x
  | .bool b => eqV (.bl b) x
  | .int i _ => eqV (.int i) x
  | .str z _ => eqV (.str z) x
  | _ => false
theorem eqU_of {x y : V} {u : Value} (r : RelV y u) (f : flatV y = true) : eqU x u = eqV y x := by
  cases y with
  | non => cases r; rfl
  | bl b => cases r; rfl
  | int i => obtain ⟨t, rfl⟩ := r; rfl
  | str z => obtain ⟨t, rfl⟩ := r; rfl
  | _ => exact absurd (show false = true from f) Bool.false_ne_true
theorem any_eqU {x : V} : ∀ {xs : List V} {us : List Value}, Vals xs us → xs.all flatV = true → us.any (eqU x) = xs.any fun y => eqV y x
  | _, _, .nil, _ => rfl
  | y :: xs, u :: us, .cons r t, f => by
    rw [List.all_cons, Bool.and_eq_true] at f
    rw [List.any_cons, List.any_cons, eqU_of r f.1, any_eqU t f.2]
theorem mem_eqAt {A : Around} {s : Shared} {x : V} {v : Value} (rx : RelV x v) (fx : flatV x = true) : ∀ {xs : List V} {us : List Value}, Vals xs us → xs.all flatV = true → ∀ u ∈ us, SeqAt.EqAt A s u v (eqU x u)
  | _, _, .nil, _ => fun u hu => by cases hu
  | y :: xs, u :: us, .cons r t, f => fun u' hu => by
    rw [List.all_cons, Bool.and_eq_true] at f
    rcases List.mem_cons.mp hu with rfl | hu
    · rw [eqU_of r f.1]; exact eqAt_V r rx f.1 fx
    · exact mem_eqAt rx fx t f.2 u' hu
def inV (x : V) (xs : List V) : Bool := xs.any fun y => eqV y x
/-- x in a list or tuple of flat items -/
def rIn (K : PySem.W.Frag) (neg : Bool) : R2 := fun x y H Q => ∃ p xs, y = .ref p ∧ (SqL K H p xs ∨ SqT K H p xs) ∧ flatV x = true ∧ xs.all flatV = true ∧ Q (.bl (if neg then !inV x xs else inV x xs)) H
theorem op_in_seq : OpR X (compareOp .In) (rIn X.K false) := by
  intro pins s σ H x y v u Q I rx ry h
  obtain ⟨p, xs, rfl, hq, fx, fs, q⟩ := h
  cases ry
  rcases hq with hq | hq
  · obtain ⟨its, r, pl, hz⟩ := I.list hq
    refine SeqAt.in_listAt (eqU x) pl.isList (fun w hw => mem_eqAt rx fx r fs w (by simpa using hw)) ⟨.bl _, H, I, rfl, ?_⟩
    rw [show its.toArray.any (eqU x) = its.any (eqU x) by simp, any_eqU r fs]
    exact q
  · obtain ⟨its, r, pl, hz⟩ := I.tuple hq
    refine SeqAt.in_tupleAt (eqU x) pl (fun w hw => mem_eqAt rx fx r fs w (by simpa using hw)) ⟨.bl _, H, I, rfl, ?_⟩
    rw [show its.toArray.any (eqU x) = its.any (eqU x) by simp, any_eqU r fs]
    exact q
theorem op_notIn_seq : OpR X (compareOp .NotIn) (rIn X.K true) := by
  intro pins s σ H x y v u Q I rx ry h
  obtain ⟨p, xs, rfl, hq, fx, fs, q⟩ := h
  cases ry
  rcases hq with hq | hq
  · obtain ⟨its, r, pl, hz⟩ := I.list hq
    refine SeqAt.notIn_listAt (eqU x) pl.isList (fun w hw => mem_eqAt rx fx r fs w (by simpa using hw)) ⟨.bl _, H, I, rfl, ?_⟩
    rw [show its.toArray.any (eqU x) = its.any (eqU x) by simp, any_eqU r fs]
    exact q
  · obtain ⟨its, r, pl, hz⟩ := I.tuple hq
    refine SeqAt.notIn_tupleAt (eqU x) pl (fun w hw => mem_eqAt rx fx r fs w (by simpa using hw)) ⟨.bl _, H, I, rfl, ?_⟩
    rw [show its.toArray.any (eqU x) = its.any (eqU x) by simp, any_eqU r fs]
    exact q
theorem op_notIn_str : OpR X (compareOp .NotIn) (fun x y H Q => ∃ i j, x = .str i ∧ y = .str j ∧ Q (.bl (!(!(Builtin.Str.occurrences j i 0 j.length 1).isEmpty))) H) := by
  intro pins s σ H x y v u Q I rx ry h
  obtain ⟨i, j, rfl, rfl, q⟩ := h
  obtain ⟨t, rfl⟩ := rx
  obtain ⟨t', rfl⟩ := ry
  exact notIn_str ⟨.bl _, H, I, rfl, q⟩

/-! ### len, list(x), tuple(x) of any list or tuple that is read -/
theorem call_len_seq : CallR X (.builtin "len") (fun xs H Q => ∃ p ys, xs = [.ref p] ∧ (SqL X.K H p ys ∨ SqT X.K H p ys) ∧ Q (.int ys.length) H) := by
  intro pins s σ H xs us Q I r h
  obtain ⟨p, ys, rfl, hq, q⟩ := h
  obtain ⟨u, rfl, rx⟩ := vals1 r
  cases rx
  have hn := line63
  rcases hq with hq | hq
  · obtain ⟨its, r', pl, hz⟩ := I.list hq
    have hlen := r'.length
    exact Calls.call_len_list pl.isList (by simp only [List.size_toArray] <;> omega) ⟨.int ys.length, H, I.tok _, ⟨s.toks + 1, by rw [List.size_toArray, hlen]⟩, q⟩
  · obtain ⟨its, r', pl, hz⟩ := I.tuple hq
    have hlen := r'.length
    exact len_tuple pl (by simp only [List.size_toArray] <;> omega) ⟨.int ys.length, H, I.tok _, ⟨s.toks + 1, by rw [List.size_toArray, hlen]⟩, q⟩
theorem call_len_str : CallR X (.builtin "len") (fun xs H Q => ∃ z, xs = [.str z] ∧ z.length ≤ sizeLine ∧ Q (.int z.length) H) := by
  intro pins s σ H xs us Q I r h
  obtain ⟨z, rfl, hz, q⟩ := h
  obtain ⟨u, rfl, t, rfl⟩ := vals1 r
  have hn := line63
  exact len_str (by omega) ⟨.int z.length, H, I.tok _, ⟨_, rfl⟩, q⟩
theorem CallR.or {f : Value} {r r' : List V → Hp → VK → Prop} (h : CallR X f r) (h' : CallR X f r') : CallR X f (fun xs H Q => r xs H Q ∨ r' xs H Q) := by
  intro pins s σ H xs us Q I rs q
  rcases q with q | q
  · exact h pins s σ H xs us Q I rs q
  · exact h' pins s σ H xs us Q I rs q
theorem call_list_of : CallR X (.type "list") (fun xs H Q => ∃ p ys, xs = [.ref p] ∧ (SqL X.K H p ys ∨ SqT X.K H p ys) ∧ ∀ l, H l = none → Q (.ref l) (upd H l (.lst ys))) := by
  intro pins s σ H xs us Q I r h
  obtain ⟨p, ys, rfl, hq, q⟩ := h
  obtain ⟨u, rfl, rx⟩ := vals1 r
  cases rx
  have fin : ∀ (its : List Value), Vals ys its → ys.length ≤ sizeLine → ∀ (h' : Heap) (c' : Nat), (∀ b o', s.heap.get? b = some o' → h'.get? b = some o') →
      h'.get? s.heap.objs.size = some { cls := .type "list", dict := none, data := .seq its.toArray c', slots := #[] } → EP X pins σ Q (.ref s.heap.objs.size) { s with heap := h' } := fun its r' hz h' c' kp e =>
    ⟨.ref s.heap.objs.size, _, I.laid (t' := s.toks) kp (Nat.le_refl _) (show ObjOk X.prog X.w _ h' _ (.lst ys) from ⟨hz, its, c', r', e⟩), rfl, q _ (I.hok.fresh (Nat.le_refl _))⟩
  rcases hq with hq | hq
  · obtain ⟨its, r', pl, hz⟩ := I.list hq
    have hlen := r'.length
    obtain ⟨o, ho, hc, n, hd⟩ := pl.isList
    exact call_list_seq p (.inl rfl) ho hc hd (fun h' c' kp e => fin its r' hz h' c' kp e) (by simp only [List.size_toArray] <;> omega)
  · obtain ⟨its, r', pl, hz⟩ := I.tuple hq
    have hlen := r'.length
    obtain ⟨o, ho, hc, n, hd⟩ := pl
    exact call_list_seq p (.inr rfl) ho hc hd (fun h' c' kp e => fin its r' hz h' c' kp e) (by simp only [List.size_toArray] <;> omega)
theorem call_tuple_of : CallR X (.type "tuple") (fun xs H Q => ∃ p ys, xs = [.ref p] ∧ ((SqL X.K H p ys ∧ ∀ l, H l = none → Q (.ref l) (upd H l (.tup ys))) ∨ (SqT X.K H p ys ∧ Q (.ref p) H))) := by
  intro pins s σ H xs us Q I r h
  obtain ⟨p, ys, rfl, h⟩ := h
  obtain ⟨u, rfl, rx⟩ := vals1 r
  cases rx
  rcases h with ⟨hq, q⟩ | ⟨hq, q⟩
  · obtain ⟨its, r', pl, hz⟩ := I.list hq
    have hlen := r'.length
    refine call_tuple_list pl.isList (fun h' kp => ?_) (by simp only [List.size_toArray] <;> omega)
    have I1 : Inv X pins σ H { s with heap := h' } := I.kept (t' := s.toks) kp
    have I2 : Inv X pins σ (upd H h'.objs.size (.tup ys)) { s with heap := h'.push { cls := .type "tuple", data := .seq its.toArray } } :=
      I1.laid (t' := s.toks) (fun b o e => Heap.get?_push_of_some _ e) (Nat.le_refl _) (show ObjOk X.prog X.w _ _ _ (.tup ys) from ⟨hz, its, r', IsTup.new _ _⟩)
    exact ⟨.ref h'.objs.size, _, I2, rfl, q _ (I1.hok.fresh (Nat.le_refl _))⟩
  · obtain ⟨its, r', pl, hz⟩ := I.tuple hq
    exact call_tuple_same pl ⟨.ref p, H, I, rfl, q⟩

/-! ### the call of a builtin's method: o.m(..) -/
/-- the value is of that builtin type -/
def tyV (K : PySem.W.Frag) (T : String) (x : V) (H : Hp) : Prop := match x with
  | .str _ => T = "str"
  | .int _ => T = "int"
  | .ref p => (T = "list" ∧ ∃ xs, SqL K H p xs) ∨ (T = "tuple" ∧ ∃ o, K.lookup p = some o ∧ o.cls = .type "tuple" ∧ o.dict = none) ∨
      (T = "dict" ∧ ((∃ kvs, H p = some (.dK kvs)) ∨ ∃ kvs, H p = some (.dT kvs))) ∨ (T = "set" ∧ ∃ S n, H p = some (.set S n))
  | _ => False
theorem tyV_is {pins : List (Addr × Obj)} {σ : St} {H : Hp} {s : Shared} {T : String} {x : V} {v : Value} (I : Inv X pins σ H s) (r : RelV x v) (ty : tyV X.K T x H) :
    s.TypeIs v T ∧ ∀ a, v = .ref a → ∃ ob, s.heap.get? a = some ob ∧ ob.dict = none := by
  cases x with
  | str z =>
    obtain ⟨t, rfl⟩ := r
    cases (show T = "str" from ty)
    exact ⟨typeIs_str s z t, fun _ e => nomatch e⟩
  | int i =>
    obtain ⟨t, rfl⟩ := r
    cases (show T = "int" from ty)
    exact ⟨typeIs_int s i t, fun _ e => nomatch e⟩
  | ref p =>
    cases r
    rcases ty with ⟨rfl, xs, hq⟩ | ⟨rfl, o, hk, hc, hd⟩ | ⟨rfl, hk⟩ | ⟨rfl, S, n, hk⟩
    · obtain ⟨its, _, pl, _⟩ := I.list hq
      refine ⟨pl.isList.typeIs, fun a e => ?_⟩
      cases e
      obtain ⟨o, n, e, c, hd, _⟩ := pl
      exact ⟨o, e, hd⟩
    · refine ⟨⟨o, I.kIn p o hk, hc⟩, fun a e => ?_⟩
      cases e
      exact ⟨o, I.kIn _ o hk, hd⟩
    · have z : ∃ o, s.heap.get? p = some o ∧ o.ExactDict := by
        rcases hk with ⟨kvs, hk⟩ | ⟨kvs, hk⟩
        · obtain ⟨_, _, _, _, o, _, _, e, ex, _⟩ := I.hok p _ hk
          exact ⟨o, e, ex⟩
        · obtain ⟨_, _, _, _, o, _, _, e, ex, _⟩ := I.hok p _ hk
          exact ⟨o, e, ex⟩
      obtain ⟨o, e, ex⟩ := z
      refine ⟨⟨o, e, ex.1⟩, fun a e2 => ?_⟩
      cases e2
      exact ⟨o, e, ex.2.1⟩
    · obtain ⟨o, _, _, _, e, ex, _⟩ := I.hok p _ hk
      refine ⟨⟨o, e, ex.1⟩, fun a e2 => ?_⟩
      cases e2
      exact ⟨o, e, ex.2.1⟩
  | _ => exact False.elim ty
def tBM0 (K : PySem.W.Frag) (T : String) (r : V → List V → Hp → VK → Prop) (to : TE) : TE := fun σ H Q => to σ H fun x H1 => tyV K T x H1 ∧ r x [] H1 Q
def tBM (K : PySem.W.Frag) (T : String) (r : V → List V → Hp → VK → Prop) (to : TE) (t : TA) : TE := fun σ H Q => to σ H fun x H1 => tyV K T x H1 ∧ t σ H1 fun xs H2 => r x xs H2 Q
variable {o e : Expr} {es : List Expr} {to : TE} {t : TA} {name : Str} {apos cpos : Pos} {T id : String} {r : V → List V → Hp → VK → Prop}
theorem pe_bm0 (pa : PlainAttrs T) (slot : Slot T name id) (hty : typeOf (.builtin id) = pure (.type "method_descriptor")) (hm : MtR X id r) (ho : PE X o to)
    (hbase : attributeBase o name X.env (eval o X.env) = eval o X.env := by rfl) (hline : (apos.endLine == cpos.line) = true := by rfl) : PE X (.Call (.Attribute o name apos) [] [] cpos) (tBM0 X.K T r to) := by
  intro pins s σ H Q I h
  refine wpAny_Call_method0_late hbase hline (thn (ho pins s σ H _ I h) fun v s1 ⟨x, H1, I1, r1, ty, q1⟩ => ?_)
  obtain ⟨h1, h2⟩ := tyV_is I1 r1 ty
  exact ⟨T, id, pa, slot, hty, h1, h2, Calls.callWith_builtin rfl (PySem.evalArgs_none (hm pins s1 σ H1 x [] v [] Q I1 r1 .nil q1))⟩
theorem pe_bm (pa : PlainAttrs T) (slot : Slot T name id) (hty : typeOf (.builtin id) = pure (.type "method_descriptor")) (hm : MtR X id r) (ho : PE X o to) (ha : PA X (e :: es) t)
    (hbase : attributeBase o name X.env (eval o X.env) = eval o X.env := by rfl)
    (hfew : ((backTo cpos (starEach (e :: es) X.env)).all (fun x => !x.1) && (backToKw cpos (keywordEach [] X.env)).all (fun x => x.1.isSome)
      && decide ((e :: es).length + ([] : List Keyword).length + (if ([] : List Keyword).isEmpty then 0 else 1) < 30)) = true := by rfl)
    (hline : (apos.endLine == cpos.line) = true := by rfl) (hs : starEach (e :: es) X.env = (false, eval e X.env) :: starEach es X.env := by rfl) (hplain : (backTo cpos (starEach es X.env)).any (·.1) = false := by rfl) :
    PE X (.Call (.Attribute o name apos) (e :: es) [] cpos) (tBM X.K T r to t) := by
  intro pins s σ H Q I h
  refine wpAny_Call_method_late hbase hfew hline rfl (thn (ho pins s σ H _ I h) fun v s1 ⟨x, H1, I1, r1, ty, q1⟩ => ?_)
  obtain ⟨h1, h2⟩ := tyV_is I1 r1 ty
  refine ⟨T, id, pa, slot, hty, h1, h2, ?_⟩
  have hA := ha cpos pins s1 σ H1 _ I1 q1
  rw [hs] at hA ⊢
  refine Calls.callWith_builtin (by show (false || (backTo cpos (starEach es X.env)).any (·.1)) = false; rw [hplain] <;> rfl) (Calls.evalArgs_plain ?_)
  exact thn hA fun us s2 ⟨vs, H2, I2, r2, q2⟩ => hm pins s2 σ H2 x vs v us Q I2 r1 r2 q2
/- xs.append(e), list.index on a module's tuple .. are MtR facts of 06m -/
end
end L2

namespace L2
open PySem PySem.Spec PyProof.Rows

def MtM (X : Cx) (id : String) (r : V → List V → Hp → VK → Prop) : Prop :=
  ∀ (pins : List (Addr × Obj)) (s : Shared) (σ : St) (H : Hp) (x : V) (xs : List V) (v : Value) (us : List Value) (Q : VK), Inv X pins σ H s → RelV x v → Vals xs us → r x xs H Q →
    wpAny (model X.prog X.w) X.A (call (.builtin id) (v :: us)) (EP X pins σ Q) X.xe s

/-! ### lists of values -/
theorem Vals.one : ∀ {x : V} {us : List Value}, Vals [x] us → ∃ u, us = [u] ∧ RelV x u
  | _, _, .cons r .nil => ⟨_, rfl, r⟩
theorem Vals.two : ∀ {x y : V} {us : List Value}, Vals [x, y] us → ∃ u v, us = [u, v] ∧ RelV x u ∧ RelV y v
  | _, _, _, .cons r (.cons q .nil) => ⟨_, _, rfl, r, q⟩
theorem Vals.zero : ∀ {us : List Value}, Vals [] us → us = []
  | _, .nil => rfl
theorem Vals.dropLast {xs : List V} {us : List Value} (h : Vals xs us) : Vals xs.dropLast us.dropLast := by
  induction h with
  | nil => exact .nil
  | cons r t ih =>
    cases t with
    | nil => exact .nil
    | cons q t' => exact .cons r ih
theorem Vals.eraseIdx : ∀ {xs : List V} {us : List Value} (i : Nat), Vals xs us → Vals (xs.eraseIdx i) (us.eraseIdx i)
  | _, _, _, .nil => .nil
  | _, _, 0, .cons _ t => t
  | _, _, i + 1, .cons r t => .cons r (Vals.eraseIdx i t)
theorem Vals.reverse {xs : List V} {us : List Value} (h : Vals xs us) : Vals xs.reverse us.reverse := by
  induction h with
  | nil => exact .nil
  | cons r t ih => rw [List.reverse_cons, List.reverse_cons]; exact Vals.append ih (.cons r .nil)
theorem Vals.rep {xs : List V} {us : List Value} (h : Vals xs us) : ∀ k : Nat, Vals (List.replicate k xs).flatten (List.replicate k us).flatten
  | 0 => .nil
  | k + 1 => by
    rw [List.replicate_succ, List.replicate_succ, List.flatten_cons, List.flatten_cons]
    exact Vals.append h (Vals.rep h k)
theorem erase_last {α : Type} (l : List α) : l.eraseIdx (l.length - 1) = l.dropLast := by
  induction l with
  | nil => rfl
  | cons a r ih =>
    cases r with
    | nil => rfl
    | cons b r =>
      have e : (a :: b :: r).length - 1 = ((b :: r).length - 1) + 1 := by
        have h1 : (a :: b :: r).length = r.length + 2 := rfl
        have h2 : (b :: r).length = r.length + 1 := rfl
        omega
      rw [e, List.eraseIdx_cons_succ, ih]
      all_goals rfl
theorem len_erase {α : Type} : ∀ (l : List α) (i : Nat), (l.eraseIdx i).length ≤ l.length
  | [], _ => Nat.le_refl _
  | _ :: _, 0 => Nat.le_succ _
  | _ :: r, i + 1 => Nat.succ_le_succ (len_erase r i)
theorem foldl_rep (its : List Value) : ∀ (k : Nat) (acc : List Value),
    List.foldl (fun x1 x2 => x1 ++ x2) acc.toArray (List.replicate k its.toArray) = (acc ++ (List.replicate k its).flatten).toArray
  | 0, acc => by simp
  | k + 1, acc => by
    have e : acc.toArray ++ its.toArray = (acc ++ its).toArray := by simp
    have e2 : (acc ++ its) ++ (List.replicate k its).flatten = acc ++ (List.replicate (k + 1) its).flatten := by
      rw [List.replicate_succ, List.flatten_cons, List.append_assoc]
    rw [← e2, ← foldl_rep its k (acc ++ its), ← e, List.replicate_succ, List.foldl_cons]

section
variable {X : Cx} {pins : List (Addr × Obj)} {σ : St} {H : Hp} {s : Shared} {l b : Addr} {xs ys zs : List V}

/-! ### the two steps: a tracked list is rewritten, a new list is laid -/
theorem Inv.lset {its its' : List Value} {n : Nat} {f : Array Value → Array Value} {t' : Nat} (I : Inv X pins σ H s) (hH : H l = some (.lst xs))
    (e : s.heap.get? l = some { cls := .type "list", data := .seq its.toArray n }) (hf : f its.toArray = its'.toArray) (hv : Vals ys its') (hz : ys.length ≤ sizeLine) :
    Inv X pins σ (upd H l (.lst ys)) { s with heap := s.heap.update l (Obj.mapSeq f), toks := t' } := by
  have q := PySem.IsL.update e f
  rw [hf] at q
  refine I.write (x := l) (e := l) (by rw [hH]; exact trivial) (.inl rfl) (fun b' u hb hu => (Heap.get?_update_other s.heap (Obj.mapSeq f) (Ne.symm hb)).trans hu) ⟨_, q⟩ ?_
  exact ⟨hz, its', _, hv, q⟩
theorem Inv.lnew {its : List Value} {t' : Nat} (I : Inv X pins σ H s) (hv : Vals ys its) (hz : ys.length ≤ sizeLine) :
    Inv X pins σ (upd H s.heap.objs.size (.lst ys)) { s with heap := s.heap.push { cls := .type "list", data := .seq its.toArray }, toks := t' } :=
  I.laid (fun _ _ q => Heap.get?_push_of_some _ q) (Nat.le_refl _) ⟨hz, its, 0, hv, Heap.get?_push_size _ rfl⟩
theorem Inv.fresh (I : Inv X pins σ H s) : H s.heap.objs.size = none := I.hok.fresh (Nat.le_refl _)
theorem Inv.lstM (I : Inv X pins σ H s) (hH : H l = some (.lst xs)) : xs.length ≤ sizeLine ∧ ∃ (its : List Value) (n : Nat), Vals xs its ∧ xs.length = its.length ∧ s.heap.get? l = some { cls := .type "list", data := .seq its.toArray n } := by
  obtain ⟨z, its, n, r, e⟩ := I.hok l _ hH
  exact ⟨z, its, n, r, r.length, e⟩

theorem notLongL {n : Nat} (h : n ≤ sizeLine) : Builtin.List.listTooLong n = false := by
  unfold Builtin.List.listTooLong
  exact decide_eq_false (by omega)
end

section
variable {X : Cx}

/-! ### methods -/
def rAppend : V → List V → Hp → VK → Prop := fun x vs H Q => ∃ l xs y, x = .ref l ∧ vs = [y] ∧ H l = some (.lst xs) ∧ xs.length < sizeLine ∧ Q .non (upd H l (.lst (xs ++ [y])))
theorem mt_append : MtM X "list.append" rAppend := by
  intro pins s σ H x vs v us Q I rx rv h
  obtain ⟨l, xs, y, rfl, rfl, hH, hz, q⟩ := h
  cases rx
  obtain ⟨u, rfl, ru⟩ := rv.one
  obtain ⟨z, its, n, r, hl, e⟩ := I.lstM hH
  refine call_meets F.slot_list_append ⟨_, e, rfl⟩ F.entry_list_append (F.args_list_append_2 _ _) (PySem.list_append l its.toArray n u (by rw [List.size_toArray]; omega)) ⟨e, ?_⟩
  refine ⟨.non, _, I.lset (its' := its ++ [u]) hH e (by simp) (r.append (.cons ru .nil)) ?_, rfl, q⟩
  rw [List.length_append, List.length_singleton]
  omega

def rExtend : V → List V → Hp → VK → Prop := fun x vs H Q => ∃ l b xs zs, x = .ref l ∧ vs = [.ref b] ∧ H l = some (.lst xs) ∧ H b = some (.lst zs) ∧ xs.length + zs.length ≤ sizeLine ∧ Q .non (upd H l (.lst (xs ++ zs)))
theorem mt_extend : MtM X "list.extend" rExtend := by
  intro pins s σ H x vs v us Q I rx rv h
  obtain ⟨l, b, xs, zs, rfl, rfl, hH, hB, hz, q⟩ := h
  cases rx
  obtain ⟨u, rfl, ru⟩ := rv.one
  cases ru
  obtain ⟨z, its, n, r, hl, e⟩ := I.lstM hH
  obtain ⟨z2, its2, n2, r2, hl2, e2⟩ := I.lstM hB
  have hsz : its.toArray.size + its2.toArray.size ≤ sizeLine := by rw [List.size_toArray, List.size_toArray]; omega
  have hlong : ¬ (!its.toArray.isEmpty && Builtin.List.listTooLong (its.toArray.size + its2.toArray.size)) = true := by
    rw [notLongL hsz, Bool.and_false]
    exact Bool.false_ne_true
  refine call_meets F.slot_list_extend ⟨_, e, rfl⟩ F.entry_list_extend (F.args_list_extend_2 _ _)
    (AutoSeq1.list_extend_list_list_0 l its.toArray n b its2.toArray n2 hlong (by rw [List.size_toArray]; omega) (by omega)) ⟨e, e2, ?_⟩
  refine ⟨.non, _, I.lset (its' := its ++ its2) hH e (by simp) (r.append r2) ?_, rfl, q⟩
  rw [List.length_append]
  omega

def rPop : V → List V → Hp → VK → Prop := fun x vs H Q => ∃ l xs y, x = .ref l ∧ vs = [] ∧ H l = some (.lst xs) ∧ xs[xs.length - 1]? = some y ∧ Q y (upd H l (.lst xs.dropLast))
theorem mt_pop : MtM X "list.pop" rPop := by
  intro pins s σ H x vs v us Q I rx rv h
  obtain ⟨l, xs, y, rfl, rfl, hH, hy, q⟩ := h
  cases rx
  have hus := rv.zero
  subst hus
  obtain ⟨z, its, n, r, hl, e⟩ := I.lstM hH
  obtain ⟨u, hu, ru⟩ := r.get hy
  have hy' : its.toArray[its.toArray.size - 1]? = some u := by
    show its.toArray[its.length - 1]? = some u
    rw [← Array.getElem?_toList, ← hl]
    exact hu
  refine call_meets F.slot_list_pop ⟨_, e, rfl⟩ F.entry_list_pop (F.args_list_pop_1 _) (MeetsSeq.list_pop_last l its.toArray n u hy' (by rw [List.size_toArray]; omega)) ⟨e, ?_⟩
  refine ⟨y, _, I.lset (its' := its.dropLast) hH e ?_ r.dropLast ?_, ru, q⟩
  · show its.toArray.eraseIdxIfInBounds (its.toArray.size - 1) = its.dropLast.toArray
    rw [List.size_toArray, List.eraseIdxIfInBounds_toArray, erase_last]
  · rw [List.length_dropLast]
    omega

def rPopAt : V → List V → Hp → VK → Prop := fun x vs H Q => ∃ l xs i k y, x = .ref l ∧ vs = [.int i] ∧ H l = some (.lst xs) ∧ -(2 ^ 63) ≤ i ∧ i < 2 ^ 63 ∧ seqIndex? i xs.length = some k ∧ xs[k]? = some y ∧ Q y (upd H l (.lst (xs.eraseIdx k)))
theorem mt_popAt : MtM X "list.pop" rPopAt := by
  intro pins s σ H x vs v us Q I rx rv h
  obtain ⟨l, xs, i, k, y, rfl, rfl, hH, h1, h2, hk, hy, q⟩ := h
  cases rx
  obtain ⟨u, rfl, ru⟩ := rv.one
  obtain ⟨t, rfl⟩ := ru
  obtain ⟨z, its, n, r, hl, e⟩ := I.lstM hH
  obtain ⟨w, hw, rw'⟩ := r.get hy
  refine call_meets F.slot_list_pop ⟨_, e, rfl⟩ F.entry_list_pop (F.args_list_pop_2 _ _)
    (MeetsSeq.list_pop_at l its.toArray n i t k w (fitsIndex_both h1 h2) (by rw [List.size_toArray, ← hl]; exact hk) (by rw [← Array.getElem?_toList]; exact hw) (by rw [List.size_toArray]; omega)) ⟨e, ?_⟩
  refine ⟨y, _, I.lset (its' := its.eraseIdx k) hH e ?_ (r.eraseIdx k) ?_, rw', q⟩
  · show its.toArray.eraseIdxIfInBounds k = (its.eraseIdx k).toArray
    rw [List.eraseIdxIfInBounds_toArray]
  · have := len_erase xs k
    omega

def rReverse : V → List V → Hp → VK → Prop := fun x vs H Q => ∃ l xs, x = .ref l ∧ vs = [] ∧ H l = some (.lst xs) ∧ Q .non (upd H l (.lst xs.reverse))
theorem mt_reverse : MtM X "list.reverse" rReverse := by
  intro pins s σ H x vs v us Q I rx rv h
  obtain ⟨l, xs, rfl, rfl, hH, q⟩ := h
  cases rx
  have hus := rv.zero
  subst hus
  obtain ⟨z, its, n, r, hl, e⟩ := I.lstM hH
  refine call_meets F.slot_list_reverse ⟨_, e, rfl⟩ F.entry_list_reverse (F.args_list_reverse_1 _) (AutoSeq1.list_reverse_list_0 l its.toArray n (by rw [List.size_toArray]; omega)) ⟨e, ?_⟩
  refine ⟨.non, _, I.lset (its' := its.reverse) hH e (by simp) r.reverse ?_, rfl, q⟩
  rw [List.length_reverse]
  omega

def rClear : V → List V → Hp → VK → Prop := fun x vs H Q => ∃ l xs, x = .ref l ∧ vs = [] ∧ H l = some (.lst xs) ∧ Q .non (upd H l (.lst []))
theorem mt_clear : MtM X "list.clear" rClear := by
  intro pins s σ H x vs v us Q I rx rv h
  obtain ⟨l, xs, rfl, rfl, hH, q⟩ := h
  cases rx
  have hus := rv.zero
  subst hus
  obtain ⟨z, its, n, r, hl, e⟩ := I.lstM hH
  refine call_meets F.slot_list_clear ⟨_, e, rfl⟩ F.entry_list_clear (F.args_list_clear_1 _) (AutoSeq1.list_clear_list_0 l its.toArray n (by rw [List.size_toArray]; omega)) ⟨e, ?_⟩
  exact ⟨.non, _, I.lset (its' := []) (ys := []) hH e rfl .nil (Nat.zero_le _), rfl, q⟩

/-! ### list + list, list += list, list * int -/
def rCat : R2 := fun x y H Q => ∃ l b xs zs, x = .ref l ∧ y = .ref b ∧ H l = some (.lst xs) ∧ H b = some (.lst zs) ∧ xs.length + zs.length ≤ sizeLine ∧ ∀ p, H p = none → Q (.ref p) (upd H p (.lst (xs ++ zs)))
theorem op_cat : OpR X (binaryOp .Add) rCat := by
  intro pins s σ H x y v u Q I rx ry h
  obtain ⟨l, b, xs, zs, rfl, rfl, hH, hB, hz, q⟩ := h
  cases rx
  cases ry
  obtain ⟨z, its, n, r, hl, e⟩ := I.lstM hH
  obtain ⟨z2, its2, n2, r2, hl2, e2⟩ := I.lstM hB
  refine PySem.P.add_list e e2 ?_ (by rw [List.size_toArray, List.size_toArray]; omega)
  have ea : its.toArray ++ its2.toArray = (its ++ its2).toArray := by simp
  rw [ea]
  exact ⟨.ref _, _, I.lnew (t' := s.toks) (r.append r2) (by rw [List.length_append]; omega), rfl, q _ I.fresh⟩
/-- a list times an int (a negative one is nothing) -/
def rRep : R2 := fun x y H Q => ∃ l k xs, x = .ref l ∧ y = .int k ∧ H l = some (.lst xs) ∧ -(2 ^ 63) ≤ k ∧ k < 2 ^ 63 ∧ xs.length * k.toNat ≤ sizeLine ∧
  ∀ p, H p = none → Q (.ref p) (upd H p (.lst (List.replicate k.toNat xs).flatten))
theorem len_rep {α : Type} (xs : List α) (k : Nat) : (List.replicate k xs).flatten.length = k * xs.length := by
  induction k with
  | zero => simp
  | succ k ih => rw [List.replicate_succ, List.flatten_cons, List.length_append, ih, Nat.succ_mul, Nat.add_comm]
theorem op_rep : OpR X (binaryOp .Mult) rRep := by
  intro pins s σ H x y v u Q I rx ry h
  obtain ⟨l, k, xs, rfl, rfl, hH, h1, h2, hz, q⟩ := h
  cases rx
  obtain ⟨t, rfl⟩ := ry
  obtain ⟨z, its, n, r, hl, e⟩ := I.lstM hH
  have hlen : its.toArray.size * k.toNat ≤ sizeLine := by rw [List.size_toArray, ← hl]; exact hz
  have hcap : ¬ its.toArray.size * k.toNat > (2 ^ 63 - 1) / 8 := by
    have : (sizeLine : Nat) ≤ (2 ^ 63 - 1) / 8 := by decide
    omega
  have hfit : ¬ (!Builtin.List.listFitsIndex k) = true := by
    rw [fitsIndex_both h1 h2]
    exact Bool.false_ne_true
  have hlong : ¬ Builtin.List.listTooLong (its.toArray.size * k.toNat) = true := by
    rw [notLongL hlen]
    exact Bool.false_ne_true
  have hnew : List.foldl (fun x1 x2 => x1 ++ x2) #[] (List.replicate (if its.toArray.isEmpty = true then 0 else k.toNat) its.toArray) = (List.replicate k.toNat its).flatten.toArray := by
    have f0 : ∀ m : Nat, List.foldl (fun x1 x2 => x1 ++ x2) #[] (List.replicate m its.toArray) = (List.replicate m its).flatten.toArray := fun m => by
      have := foldl_rep its m []
      rw [List.nil_append] at this
      exact this
    rw [f0]
    cases its with
    | nil => simp
    | cons a r' => rw [if_neg (by simp)]
  refine wpAny_binaryOp_repeat_ref (T := "list") (U := "int") (by decide) ⟨_, e, rfl⟩ (fun s' => typeIs_int s' k t) noFill_list_mul F.fills_int_mul F.slot_int_rmul repeat_list F.slot_int_index.lookup
    (call_meets F.slot_int_rmul (typeIs_int s k t) F.entry_int_rmul (F.args_int_rmul_2 _ _) (int___rmul___int_list k t l its.toArray n)
      ⟨e, rfl, ⟨_, e, rfl⟩, call_meets F.slot_list_mul ⟨_, e, rfl⟩ F.entry_list_mul (F.args_list_mul_2 _ _) (AutoListH.list___mul___list_int_3 l its.toArray n k t hfit hcap hlong) ⟨e, ?_⟩⟩)
  rw [hnew]
  exact ⟨.ref _, _, I.lnew (t' := s.toks) (r.rep k.toNat) (by rw [len_rep, Nat.mul_comm]; exact hz), rfl, q _ I.fresh⟩

/-! ### del xs[i] -/
theorem del_list {pins : List (Addr × Obj)} {s : Shared} {σ : St} {H : Hp} {l : Addr} {xs : List V} {i : Int} {t : Tok} {k : Nat} {Q : Unit → Shared → Prop} (I : Inv X pins σ H s) (hH : H l = some (.lst xs))
    (h1 : -(2 ^ 63) ≤ i) (h2 : i < 2 ^ 63) (hk : seqIndex? i xs.length = some k) (h : ∀ s', Inv X pins σ (upd H l (.lst (xs.eraseIdx k))) s' → Q () s') :
    wpAny (model X.prog X.w) X.A (delItem (.ref l) (.int i t)) Q X.xe s := by
  obtain ⟨z, its, n, r, hl, e⟩ := I.lstM hH
  refine PySem.P.delItem_list (k := k) e (fitsIndex_both h1 h2) (by rw [List.size_toArray, ← hl]; exact hk) (h _ ?_) (by rw [List.size_toArray]; omega)
  refine I.lset (its' := its.eraseIdx k) (t' := s.toks) hH e ?_ (r.eraseIdx k) ?_
  · show its.toArray.eraseIdxIfInBounds k = (its.eraseIdx k).toArray
    rw [List.eraseIdxIfInBounds_toArray]
  · have := len_erase xs k
    omega
end

/-! ### xs[a:b] = ys -/
section
variable {prog : Program} {w : World} {A : Around} {E : Value → Shared → Prop} {s : Shared}
theorem splice_eq (its its2 : List Value) (a c : Nat) : its.toArray.extract 0 a ++ its2.toArray ++ its.toArray.extract c its.toArray.size = (its.take a ++ its2 ++ its.drop c).toArray := by
  apply Array.toList_inj.mp
  first
    | (simp
       exact List.take_of_length_le (by simp))
    | simp [List.take_of_length_le]
    | simp
theorem bounds_run {a c n : Nat} (hac : a ≤ c) (hc : c ≤ n) : sliceBounds (some (a : Int)) (some (c : Int)) none n = ((a : Int), (c : Int), 1) := by
  simp only [sliceBounds, Option.getD_none]
  have h1 : ¬ ((a : Int) < 0) := by omega
  have h2 : ¬ ((c : Int) < 0) := by omega
  simp only [h1, h2, if_false, show (1 : Int) > 0 by decide, if_true]
  congr 1
  · omega
  · congr 1; omega
set_option maxRecDepth 100000 in
/-- list.__setitem__ with a slice of step one and another list -/
theorem setItem_slice {l b sl : Addr} {items new : Array Value} {n n2 : Nat} {vl vu : Value} {a c : Nat} {Q : Unit → Shared → Prop}
    (e : s.heap.get? l = some { cls := .type "list", data := .seq items n }) (e2 : s.heap.get? b = some { cls := .type "list", data := .seq new n2 }) (hne : l ≠ b)
    (hs : s.heap.IsSliceOf sl vl vu .none) (pl : IsPart vl (some (a : Int))) (pu : IsPart vu (some (c : Int))) (hac : a ≤ c) (hc : c ≤ items.size)
    (hsz : items.size + new.size ≤ sizeLine) (h : Q () { s with heap := s.heap.update l (Obj.mapSeq fun xs => xs.extract 0 a ++ new ++ xs.extract c xs.size) }) :
    wpAny (model prog w) A (setItem (.ref l) (.ref sl) (.ref b)) Q E s := by
  have hl : s.heap.IsList l items := PySem.IsL.isList e
  have hb : s.heap.IsList b new := PySem.IsL.isList e2
  obtain ⟨os, hos, hcs, hds⟩ := id hs
  have hTs : s.TypeIs (.ref sl) "slice" := ⟨os, hos, hcs⟩
  have hstep : ¬ ((rawPart none == rawInt 0) = true) := Bool.false_ne_true
  have hsame : Builtin.List.listSameRef (.ref l) (.ref b) = false := by
    unfold Builtin.List.listSameRef
    exact beq_eq_false_iff_ne.mpr hne
  have hmax : (max (a : Int) (c : Int)).toNat = c := by omega
  have hz' : ((fun xs : Array Value => xs.extract 0 a ++ new ++ xs.extract c xs.size) items).size ≤ sizeLine + 1 := by
    simp only [Array.size_append, Array.size_extract]
    omega
  unfold setItem
  try with_reducible refine wpAny_holding ?_
  first | refine wpAny_bind (wpAny_pure ?_) | skip
  refine wpAny_bind (wpAny_sequenceKey hl.typeIs (by decide) ?_)
  refine wpAny_bind (wpAny_callSpecial?_slot (name := Str.ofString "__setitem__") hl.typeIs slot_list_setitem
    (wpAny_call_entry slot_list_setitem hl.typeIs entry_list_setitem ?_ (args_list_setitem _ _ _)))
  show wpAny _ _ (Builtin.List.listSubscript? (.ref sl) >>= _) _ _ s
  refine wpAny_bind ?_
  unfold Builtin.List.listSubscript?
  refine wpAny_bind (wpAny_specialOf hTs slice_no_index ?_)
  simp only [Option.isNone_none, if_true]
  refine wpAny_pure ?_
  show wpAny _ _ (typeOf (.ref sl) >>= _) _ _ s
  refine wpAny_bind (wpAny_typeOf hTs ?_)
  first
    | rw [if_neg (by decide)]
    | refine PySem.W.KFB.if_not (by decide) ?_
  rw [listSliceParts_eq]
  refine wpAny_bind (wpAny_bind (wpAny_field hos hds (x := .none) rfl (wpAny_bind (wpAny_listPart .none ?_))))
  rw [if_neg hstep]
  refine wpAny_bind (wpAny_field hos hds (x := vl) rfl (wpAny_bind (wpAny_listPart pl ?_)))
  refine wpAny_bind (wpAny_field hos hds (x := vu) rfl (wpAny_bind (wpAny_listPart pu (wpAny_pure ?_))))
  first
    | simp only [hsame, Bool.false_eq_true, if_false]
    | refine PySem.W.KFB.if_not hsame ?_
    | (dsimp only
       rw [if_neg (by rw [hsame]; exact Bool.false_ne_true)])
  refine wpAny_bind (m := Builtin.List.listAllItems (.ref b) "must assign iterable to extended slice") ?_
  unfold Builtin.List.listAllItems
  refine wpAny_bind (wpAny_typeOf hb.typeIs ?_)
  first
    | refine PySem.W.KFB.if_so (by decide) ?_
    | rw [if_pos (by decide)]
    | simp only [beq_self_eq_true, Bool.true_or, if_true]
  unfold Builtin.List.listItems
  refine wpAny_bind (wpAny_seqItems e2 rfl (wpAny_pure ?_))
  refine wpAny_bind (wpAny_bind (wpAny_seqItems e rfl (wpAny_pure ?_)))
  refine wpAny_bind (wpAny_of_eq ((sliceIndices_raw (some (a : Int)) (some (c : Int)) none items.size (by simp)).trans (congrArg (pure : Int × Int × Int → Sem (Int × Int × Int)) (bounds_run hac hc))) ?_)
  show wpAny _ _ (if ((1 : Int) == 1) = true then _ else _) _ _ s
  rw [if_pos (by decide)]
  refine wpAny_bind (wpAny_rule ?_)
  first
    | simp only [notLongL hsz, Bool.false_eq_true, if_false]
    | refine PySem.W.KFB.if_not (notLongL hsz) ?_
  first | refine wpAny_bind (wpAny_pure ?_) | skip
  show wpAny _ _ (updateSeq l (fun xs => xs.extract 0 ((a : Int)).toNat ++ new ++ xs.extract (max (a : Int) (c : Int)).toNat xs.size) >>= _) _ _ s
  rw [hmax, Int.toNat_natCast]
  refine wpAny_bind (wpAny_updateSeq (hz := Nat.le_trans (Nat.le_add_right _ _) hsz) (_hz' := hz') e rfl ?_)
  refine wpAny_bind (wpAny_letGo ?_)
  first
    | exact wpAny_bind (wpAny_pure (wpAny_pure ⟨.none, rfl, wpAny_pure h⟩))
    | exact wpAny_pure ⟨.none, rfl, wpAny_pure h⟩
end

section
variable {X : Cx}
/-- xs[a:c] = ys of another list, at the value level: sl is the slice object that was just made -/
theorem set_slice {pins : List (Addr × Obj)} {s : Shared} {σ : St} {H : Hp} {l b sl : Addr} {xs ys : List V} {a c : Int} {vl vu : Value} {Q : Unit → Shared → Prop} (I : Inv X pins σ H s)
    (hH : H l = some (.lst xs)) (hB : H b = some (.lst ys)) (hne : l ≠ b) (hs : s.heap.IsSliceOf sl vl vu .none) (ra : RelV (.int a) vl) (rc : RelV (.int c) vu) (h0 : 0 ≤ a) (hac : a ≤ c) (hc : c ≤ xs.length)
    (hz : xs.length + ys.length ≤ sizeLine) (h : ∀ s', Inv X pins σ (upd H l (.lst (xs.take a.toNat ++ ys ++ xs.drop c.toNat))) s' → Q () s') :
    wpAny (model X.prog X.w) X.A (setItem (.ref l) (.ref sl) (.ref b)) Q X.xe s := by
  obtain ⟨ta, rfl⟩ := ra
  obtain ⟨tc, rfl⟩ := rc
  obtain ⟨z, its, n, r, hl, e⟩ := I.lstM hH
  obtain ⟨z2, its2, n2, r2, hl2, e2⟩ := I.lstM hB
  obtain ⟨a', rfl⟩ := Int.eq_ofNat_of_zero_le h0
  obtain ⟨c', rfl⟩ := Int.eq_ofNat_of_zero_le (Int.le_trans h0 hac)
  simp only [Int.toNat_natCast] at h
  refine setItem_slice (a := a') (c := c') e e2 hne hs (.int _ _) (.int _ _) (by omega) (by rw [List.size_toArray]; omega) (by rw [List.size_toArray, List.size_toArray]; omega) (h _ ?_)
  refine I.lset (its' := its.take a' ++ its2 ++ its.drop c') (t' := s.toks) hH e ?_ (Vals.append (Vals.append (r.take _) r2) (r.drop _)) ?_
  · exact splice_eq its its2 a' c'
  · rw [List.length_append, List.length_append, List.length_take, List.length_drop]
    omega
end
end L2

namespace Att
open PySem PySem.W PySem.Calls PyProof.Rows

/-! ### the script -/
theorem ints_of_wellAll {P : Params} {h : Heap} : ∀ (ns : List Int) (vs : List Value), WellAll P h vs (ns.map WData.int) → IntsAre vs ns := by
  intro ns
  induction ns with
  | nil =>
    intro vs w
    rw [List.map_nil] at w
    cases w
    exact .nil
  | cons n ns ih =>
    intro vs w
    rw [List.map_cons] at w
    cases w with
    | cons a b =>
      cases a
      exact .cons _ _ (ih _ b)

theorem script_of {l : OpenLaw} {n : Nat} (hn : l.most = some n) {P : Params} {h : Heap} {args : List WData} {vals : List Value}
    (hpre : l.row.toRowW.claim.pre args = true) (hwl : WellAll P h vals args) :
    ∃ a vs ns, vals = [Value.ref a] ∧ args = [WData.list (ns.map WData.int)] ∧ h.get? a = some { cls := .type "list", data := .seq vs.toArray } ∧ IntsAre vs ns ∧ ns.length ≤ n := by
  have hsh : WShape.hasAll [] args [.list .int] = true := (pre_splitW hpre).1
  have hc : l.pre.holds [] { args := args } = true := (pre_splitW hpre).2
  obtain ⟨d, r, rfl, h1, h2⟩ := hasAllW_cons hsh
  obtain rfl := hasAllW_nil h2
  obtain ⟨xs, rfl, h3⟩ := hasW_list h1
  obtain ⟨ns, rfl⟩ := items_int h3
  have hlen : ns.length ≤ n := by
    unfold OpenLaw.pre at hc
    have h4 : (WTm.not (.lt (.lit (.int (n : Int))) (.len (.arg 0)))).holds [] { args := [.list (ns.map .int)] } = true := by
      have h4 := (holds_andW hc).1
      rw [hn] at h4
      exact h4
    have h5 := condW_of h4 (w_not (w_lt w_lit (w_len_list (w_arg rfl))))
    rw [List.length_map] at h5
    refine Nat.le_of_not_lt fun q => ?_
    have q' : (n : Int) < ((ns.length : Nat) : Int) := by omega
    first
      | (rw [decide_eq_true q'] at h5; exact absurd h5 (by decide))
      | (simp at h5; omega)
  cases hwl with
  | cons w1 w2 =>
    cases w2
    cases w1 with
    | list ho hall => exact ⟨_, _, ns, rfl, rfl, ho, ints_of_wellAll ns _ hall, hlen⟩

theorem post_true (l : OpenLaw) (args : List WData) : l.row.toRowW.claim.post args (.bool true) args = true :=
  postW_of (r := l.row.toRowW) (X := (true == true))
    (show WShape.has [] (.bool true) .bool = true by first | rfl | decide | simp [WShape.has, WShape.arms, WShape.armsAll])
    (show (WTm.eq .res (.lit (.bool true))).value [] { args := args, res := some (.bool true), after := args } = some (.bool (true == true)) from w_eq_bool (w_res rfl) w_lit) rfl

/-! ### the attachment: holds_open's last premise (the goal 'hc' behind k_head) from a wpAny of the law's body -/
theorem attach {l : OpenLaw} {n : Nat} {q : Program} {loose : List Str} {XP : (Str → Option Value) → Heap → Prop} {YP : World → Heap → Prop} {d : DefRec} {x : Str}
    (hn : l.most = some n) (hdf : d.params.defaults = [])
    (hbind : ∀ pm cd doc v : Value, bindArgs (docDef d.name d.params d.body d.scope pm cd doc) ⟨[v], []⟩ = pure [(x, v)])
    (hx : d.scope.names.lookup x = some .local ∨ d.scope.names.lookup x = some .cell)
    (hk : d.scope.kind = .function) (hco : d.scope.isCoroutine = false) (hgen : d.scope.isGenerator = false)
    (body : ∀ (w : World) (s₀ s₁ s : Shared) (mg mb : Str → Option Value) (fa : Addr) (o : Obj) (pm cd doc : Value) (a : Addr) (vs : List Value) (ns : List Int),
      Ground q loose [] XP w s₀ mg mb s₁.heap → YP w s₁.heap →
      s₁.heap.get? fa = some o → o.data = .func (docDef d.name d.params d.body d.scope pm cd doc) → s₁.heap.CodeRec cd d.name → mg d.name = some (.ref fa) →
      s₁.heap.get? a = some { cls := .type "list", data := .seq vs.toArray } → IntsAre vs ns → ns.length ≤ n →
      s.gens = #[] → s.os = s₁.os →
      Fr s₁.heap s₁.heap.objs.size s.heap (bindL (envOfC d.name d.scope s₁.heap.objs.size fa cd).kindOf [(x, .ref a)] fun _ => none) →
      Cl s₁.heap.objs.size (cellsFrom (s₁.heap.objs.size + 1) d.scope.names []) s.heap (bindC (envOfC d.name d.scope s₁.heap.objs.size fa cd).kindOf [(x, .ref a)] fun _ => none) →
      wpAny (model l.prog w) (callerA.deeper (envOfC d.name d.scope s₁.heap.objs.size fa cd)) (execs d.body (envOfC d.name d.scope s₁.heap.objs.size fa cd))
        (fun f s' => f = .ret (.bool true) ∧ OldK s₁.heap s'.heap ∧ s'.os = s₁.os ∧ AllBare s'.gens) (fun _ _ => False) s) :
    WalkO q loose XP YP l.row.toRowW d [] (fun f vs => PySem.call f vs) := by
  intro w s₀ s₁ mg mb G Y fa o pm cd doc dV kV ho hd hcd hD hmg hg args vals as hpre hlay hrd hwl hlo
  obtain rfl : dV = .none := Dflts.none hD hdf
  obtain rfl : kV = .none := Dflts.noKw hD
  obtain ⟨a, vs, ns, rfl, rfl, hobj, hints, hlen⟩ := script_of hn hpre hwl
  refine enter_call ?_
  refine call_cells_ret (o := o) (by rw [depth_caller]; decide) ho (fd_plain hd) G.T.nolimit hcd (hbind pm cd doc (.ref a)) (fun y hy => ?_) (fun h₁ tk F X => ?_) hco hgen hk
  · obtain rfl : y = (x, Value.ref a) := List.mem_singleton.mp hy
    rcases hx with e | e
    · exact .inl e
    · exact .inr ⟨e, cellsFrom_some _ _ _ (.inl e)⟩
  · refine wpAny_mono (body w s₀ s₁ { s₁ with heap := h₁, toks := tk } mg mb fa o pm cd doc a vs ns G Y ho (fd_plain hd) hcd hmg hobj hints hlen hg rfl F X) (fun f s' hq => ?_) (fun _ _ hq => hq)
    obtain ⟨rfl, h2, h3, h4⟩ := hq
    exact ⟨.inl ⟨.bool true, .bool true, [], rfl, fun _ => rfl, .bool true, post_true l _, fun _ => ⟨List.Pairwise.nil, fun _ hm => (nomatch hm)⟩⟩, h2, h3, h4⟩

/-- the same from a codeAny of the CALL (for a layer whose function contracts speak of calls) -/
theorem attach_call {l : OpenLaw} {n : Nat} {q : Program} {loose : List Str} {XP : (Str → Option Value) → Heap → Prop} {YP : World → Heap → Prop} {d : DefRec}
    (hn : l.most = some n) (hdf : d.params.defaults = [])
    (call : ∀ (w : World) (s₀ s₁ : Shared) (mg mb : Str → Option Value) (fa : Addr) (o : Obj) (pm cd doc : Value) (a : Addr) (vs : List Value) (ns : List Int),
      Ground q loose [] XP w s₀ mg mb s₁.heap → YP w s₁.heap →
      s₁.heap.get? fa = some o → o.data = .func (docDef d.name d.params d.body d.scope pm cd doc) → s₁.heap.CodeRec cd d.name → mg d.name = some (.ref fa) →
      s₁.heap.get? a = some { cls := .type "list", data := .seq vs.toArray } → IntsAre vs ns → ns.length ≤ n → s₁.gens = #[] →
      codeAny (model l.prog w) callerA (.call (.ref fa) ⟨[.ref a], []⟩) (fun r s' => r = .ok (.ret (.bool true)) ∧ OldK s₁.heap s'.heap ∧ s'.os = s₁.os ∧ AllBare s'.gens) s₁) :
    WalkO q loose XP YP l.row.toRowW d [] (fun f vs => PySem.call f vs) := by
  intro w s₀ s₁ mg mb G Y fa o pm cd doc dV kV ho hd hcd hD hmg hg args vals as hpre hlay hrd hwl hlo
  obtain rfl : dV = .none := Dflts.none hD hdf
  obtain rfl : kV = .none := Dflts.noKw hD
  obtain ⟨a, vs, ns, rfl, rfl, hobj, hints, hlen⟩ := script_of hn hpre hwl
  refine enter_call (codeAny_mono (call w s₀ s₁ mg mb fa o pm cd doc a vs ns G Y ho (fd_plain hd) hcd hmg hobj hints hlen hg) fun r s' hq => ?_)
  obtain ⟨rfl, h2, h3, h4⟩ := hq
  exact ⟨.inl ⟨.bool true, .bool true, [], rfl, fun _ => rfl, .bool true, post_true l _, fun _ => ⟨List.Pairwise.nil, fun _ hm => (nomatch hm)⟩⟩, h2, h3, h4⟩

/-- the same where the top left finished generators (o_head chose holds_openN): nothing may have changed at all and no generator may be left -/
theorem attachN {l : OpenLaw} {n : Nat} {q : Program} {loose : List Str} {XP : (Str → Option Value) → Heap → Prop} {YP : World → Heap → Prop} {d : DefRec} {x : Str}
    (hn : l.most = some n) (hdf : d.params.defaults = [])
    (hbind : ∀ pm cd doc v : Value, bindArgs (docDef d.name d.params d.body d.scope pm cd doc) ⟨[v], []⟩ = pure [(x, v)])
    (hx : d.scope.names.lookup x = some .local ∨ d.scope.names.lookup x = some .cell)
    (hk : d.scope.kind = .function) (hco : d.scope.isCoroutine = false) (hgen : d.scope.isGenerator = false)
    (body : ∀ (w : World) (s₀ s₁ s : Shared) (mg mb : Str → Option Value) (fa : Addr) (o : Obj) (pm cd doc : Value) (a : Addr) (vs : List Value) (ns : List Int),
      Ground q loose [] XP w s₀ mg mb s₁.heap → YP w s₁.heap →
      s₁.heap.get? fa = some o → o.data = .func (docDef d.name d.params d.body d.scope pm cd doc) → s₁.heap.CodeRec cd d.name → mg d.name = some (.ref fa) →
      s₁.heap.get? a = some { cls := .type "list", data := .seq vs.toArray } → IntsAre vs ns → ns.length ≤ n →
      s.gens = #[] → s.os = s₁.os →
      Fr s₁.heap s₁.heap.objs.size s.heap (bindL (envOfC d.name d.scope s₁.heap.objs.size fa cd).kindOf [(x, .ref a)] fun _ => none) →
      Cl s₁.heap.objs.size (cellsFrom (s₁.heap.objs.size + 1) d.scope.names []) s.heap (bindC (envOfC d.name d.scope s₁.heap.objs.size fa cd).kindOf [(x, .ref a)] fun _ => none) →
      wpAny (model l.prog w) (callerA.deeper (envOfC d.name d.scope s₁.heap.objs.size fa cd)) (execs d.body (envOfC d.name d.scope s₁.heap.objs.size fa cd))
        (fun f s' => f = .ret (.bool true) ∧ (∀ b o, s₁.heap.get? b = some o → s'.heap.get? b = some o) ∧ s'.os = s₁.os ∧ s'.gens = #[]) (fun _ _ => False) s) :
    WalkN q loose XP YP l.row.toRowW d [] (fun f vs => PySem.call f vs) := by
  intro w s₀ s₁ mg mb G Y fa o pm cd doc dV kV ho hd hcd hD hmg hg args vals as hpre hlay hrd hwl hlo
  obtain rfl : dV = .none := Dflts.none hD hdf
  obtain rfl : kV = .none := Dflts.noKw hD
  obtain ⟨a, vs, ns, rfl, rfl, hobj, hints, hlen⟩ := script_of hn hpre hwl
  refine enter_callW ?_
  refine call_cells_ret (o := o) (by rw [depth_caller]; decide) ho (fd_plain hd) G.T.nolimit hcd (hbind pm cd doc (.ref a)) (fun y hy => ?_) (fun h₁ tk F X => ?_) hco hgen hk
  · obtain rfl : y = (x, Value.ref a) := List.mem_singleton.mp hy
    rcases hx with e | e
    · exact .inl e
    · exact .inr ⟨e, cellsFrom_some _ _ _ (.inl e)⟩
  · refine wpAny_mono (body w s₀ s₁ { s₁ with heap := h₁, toks := tk } mg mb fa o pm cd doc a vs ns G Y ho (fd_plain hd) hcd hmg hobj hints hlen hg rfl F X) (fun f s' hq => ?_) (fun _ _ hq => hq)
    obtain ⟨rfl, h2, h3, h4⟩ := hq
    exact ⟨.inl ⟨.bool true, .bool true, [], rfl, fun _ => rfl, .bool true, post_true l _, fun _ => ⟨List.Pairwise.nil, fun _ hm => (nomatch hm)⟩⟩, h2, h3, h4⟩

/-! ### rules over ANY heap (no ledger) from facts about the written part K: the library's own take a ledger (News) for what they write -/
section
variable {prog : Program} {w : World} {A : Around} {E : Value → Shared → Prop} {s : Shared} {K : Frag}

/-- a def of the module, or a method (qual 'C.m'), entered: the frame is the next address; cells behind it -/
theorem call_fn {R : Result → Shared → Prop} {name qual : Str} {params : Arguments} {body : List Stmt} {scope : Scope} {dV kV doc pm cdv ct oc : Value} {an od : Option Addr} {osl : Array (Option Value)} {f : Addr} {args : Args} {binds : List (Str × Value)}
    (X : K.In s.heap) (hlim : s.heap.NoLimit) (ho : K.lookup f = some ⟨oc, od, .func (fnOf name qual params body scope dV kV doc pm an cdv ct), osl⟩) (hcd : codeIn K cdv qual = true) (hroom : A.depth < recursionLimit)
    (hbind : BindsTo s (fnOf name qual params body scope dV kV doc pm an cdv ct) args binds)
    (hkind : (binds.all fun y => scope.names.lookup y.1 == some .local || scope.names.lookup y.1 == some .cell) = true)
    (h : ∀ s₁, InCallC s s.heap.objs.size (bindL (envOfC qual scope s.heap.objs.size f cdv).kindOf binds fun _ => none) (cellsFrom (s.heap.objs.size + 1) scope.names [])
        (bindC (envOfC qual scope s.heap.objs.size f cdv).kindOf binds fun _ => none) s₁ →
      wpAny (model prog w) (A.deeper (envOfC qual scope s.heap.objs.size f cdv)) (execs body (envOfC qual scope s.heap.objs.size f cdv))
        (fun fl s' => R (.ok (.ret (match fl with | .ret v => v | _ => .none))) s')
        (fun e s' => wpAny (model prog w) (A.deeper (envOfC qual scope s.heap.objs.size f cdv)) (leaving (envOfC qual scope s.heap.objs.size f cdv) e) (fun _ s'' => R (.error e) s'') (fun e' s'' => R (.error e') s'') s') s₁)
    (hco : scope.isCoroutine = false) (hgen : scope.isGenerator = false) (hk : scope.kind = .function) : codeAny (model prog w) A (.call (.ref f) args) R s := by
  refine codeAny_call_function hroom (X _ _ ho) rfl hco hgen rfl (codeRec_of X hcd) (hbind _ _ _ _ ?_)
  refine wpAny_newFunctionEnv_cells hk (kindsX hkind _) fun env he s₁ x => ?_
  subst he
  exact ⟨hlim.keeps x.toInCall.keep, codeAny_func (h s₁ x)⟩

/-- C(..): dict at size, instance at size + 1, then __init__ -/
theorem make_obj {R : Result → Shared → Prop} {C fI : Addr} {rest : List Value} {kw : List (Str × Value)}
    (X : K.In s.heap) (hm : makesIn K C = true) (hi : findIn K (.ref C) "__init__" = some (some (.ref fI))) (hf : isFn K (.ref fI) = true)
    (h : codeAny (model prog w) (A.under (.builtin "type.__call__" ⟨.ref C :: rest, kw⟩)) (.call (.ref fI) ⟨.ref (s.heap.objs.size + 1) :: rest, kw⟩) (InitBack (s.heap.objs.size + 1) R)
      { s with heap := (s.heap.push emptyDict).push (instObj C s.heap.objs.size) }) : codeAny (model prog w) A (.call (.ref C) ⟨rest, kw⟩) R s := by
  obtain ⟨hh, g, d, t, os⟩ := s
  exact make_core (makes_of X hm) (looks_findIn X hi) (fun self => bind_fn X self (beq_iff_eq.mp hf)) (.inl rfl) h

/-- x.name where the instance's dict holds the name and the class does not -/
theorem get_field {x C : Addr} {ox : Obj} {es : List DictEntry} {n : Nat} {name : Str} {expr : Bool} {v : Value} {Q : Value → Shared → Prop}
    (X : K.In s.heap) (I : PySem.W.InstAt s.heap x ox C (some (dictOf es n))) (hg : plainGet K C name = true) (hh : hasDictIn K C = true) (ha : findIn K (.ref C) name = some none)
    (hl : getL name es = some (some v)) (hv : handedIn v = true) (h : Q v { s with toks := s.toks + 1 }) : wpAny (model prog w) A (getAttr (.ref x) name expr) Q E s :=
  get_value X I (plainGet_of hg).1 (findObj_own hh ha rfl hl) hv h

/-- x.m(..): the method found in the class -/
theorem get_method {x C f : Addr} {ox : Obj} {es : List DictEntry} {n : Nat} {name : Str} {pl : Sem Bool} {Q : Value × List Value → Shared → Prop}
    (X : K.In s.heap) (I : PySem.W.InstAt s.heap x ox C (some (dictOf es n))) (hg : plainGet K C name = true) (hf : findIn K (.ref C) name = some (some (.ref f))) (ht : isFn K (.ref f) = true)
    (hl : getL name es = some none) (h : Q (.ref f, [.ref x]) s) : wpAny (model prog w) A (getMethod (.ref x) name pl) Q E s :=
  method_fn X I (plainGet_of hg).1 (plainGet_of hg).2 hf (beq_iff_eq.mp ht) (by show (lookIn name (dictOf es n)).map _ = _; rw [lookIn_dict, hl]; rfl) h

/-! the whole heap as the ledger: makes every rule that writes through a ledger a rule over any heap -/
def noObjs (h : Heap) : Heap := { h with objs := #[] }
theorem noObjs_get (h : Heap) (b : Addr) : (noObjs h).get? b = none := by
  cases e : (noObjs h).get? b with
  | none => rfl
  | some o => exact absurd (Heap.lt_size e) (Nat.not_lt_zero _)
def ledger (h : Heap) (L d : Addr) : List (Addr × Obj) := (List.range h.objs.size).filterMap fun a => if a = L ∨ a = d then none else (h.get? a).map fun o => (a, o)
theorem mem_ledger {h : Heap} {L d a : Addr} {o : Obj} : (a, o) ∈ ledger h L d ↔ a ≠ L ∧ a ≠ d ∧ h.get? a = some o := by
  unfold ledger
  rw [List.mem_filterMap]
  constructor
  · rintro ⟨b, _, e⟩
    split at e
    · cases e
    · rename_i hb
      obtain ⟨o', ho, e'⟩ := Option.map_eq_some_iff.mp e
      cases e'
      exact ⟨fun q => hb (.inl q), fun q => hb (.inr q), ho⟩
  · rintro ⟨n1, n2, ho⟩
    refine ⟨a, List.mem_range.mpr (Heap.lt_size ho), ?_⟩
    rw [if_neg (show ¬ (a = L ∨ a = d) from fun q => q.elim n1 n2), ho] <;> rfl
theorem news_ledger {h : Heap} {L d : Addr} {od : Obj} (hne : d ≠ L) (ho : h.get? d = some od) : News (noObjs h) L h ([] ++ (d, od) :: ledger h L d) := by
  rintro ⟨a, o⟩ hp
  rcases List.mem_cons.mp hp with e | hp
  · cases e
    exact ⟨ho, hne, noObjs_get _ _⟩
  · obtain ⟨n1, n2, e⟩ := mem_ledger.mp hp
    exact ⟨e, n1, noObjs_get _ _⟩
theorem fr_all {h : Heap} {L : Addr} {m : Str → Option Value} (n : h.Ns L m) : Fr (noObjs h) L h m :=
  ⟨n, fun b o e => (by rw [noObjs_get] at e; cases e), Nat.zero_le _⟩
/-- Upd of the head entry (for append_K, setItem_K ..) -/
theorem upd_ledger {h : Heap} {L d : Addr} {o o' : Obj} : Upd d o o' ((d, o) :: ledger h L d) ((d, o') :: ledger h L d) :=
  .head fun ⟨_, _⟩ hp => (mem_ledger.mp hp).2.1

/-- x.name = v over any heap: L is any namespace of the heap (the frame's, say): its map stays, its object is not told; all else but the dict stays -/
theorem set_field {x C dx L : Addr} {ox : Obj} {m : Str → Option Value} {es es' : List DictEntry} {n n' : Nat} {name : Str} {v : Value} {Q : Unit → Shared → Prop}
    (X : K.In s.heap) (I : PySem.W.InstAt s.heap x ox C (some (dictOf es n))) (hd : ox.dict = some dx) (hL : s.heap.Ns L m) (hne : dx ≠ L)
    (hs : findIn K (.ref C) "__setattr__" = some (some (.builtin "object.__setattr__"))) (hp : plainOver K C = true) (ht : takerIn K C name = some none) (hh : hasDictIn K C = true) (hl : (getL name es).isSome = true)
    (e : (putL name (PyData.keyHash w.params name) (.str name (s.toks + 1)) v es, putN name es n) = (es', n')) (hz : es'.length ≤ 1000)
    (h : ∀ h' : Heap, h'.Ns L m → h'.get? dx = some (dictOf es' n') → (∀ b o, b ≠ dx → b ≠ L → s.heap.get? b = some o → h'.get? b = some o) → Q () { s with heap := h', toks := s.toks + 2 }) :
    wpAny (model prog w) A (setAttr (.ref x) name v) Q E s := by
  obtain ⟨e1, e2⟩ := Prod.mk.inj e
  have hdx : s.heap.get? dx = some (dictOf es n) := by
    have := I.dict
    rw [hd] at this
    exact this
  refine set_plain X I hs (osa_dict (s := { s with toks := s.toks + 1 }) (h₀ := noObjs s.heap) (L := L) (m := m) (od := dictOf es n) (od' := dictOf es' n') (es := es') (n := n') (pre := []) (post := ledger s.heap L dx)
    (fr_all hL) (news_ledger hne hdx) X I hd hp ht hh hl (fun _ q => nomatch q) (fun ⟨_, _⟩ q => (mem_ledger.mp q).2.1) (by rw [putName_dict, e1, e2]) rfl hz fun h' F' N' => ?_)
  exact h h' F'.ns (N'.get (List.Mem.head _)) fun b o n1 n2 ho => N'.get (List.Mem.tail _ (mem_ledger.mpr ⟨n2, n1, ho⟩))
end
end Att

namespace L2
open PySem PySem.Spec PyProof.Rows

theorem vals_ints : ∀ {vs : List Value} {ns : List Int}, IntsAre vs ns → Vals (ns.map V.int) vs
  | _, _, .nil => .nil
  | _, _, .cons n t h => .cons ⟨t, rfl⟩ (vals_ints h)

/-- nothing is tracked but the script, known to the object (or it is an object of the module) -/
def Only (H : Hp) : Prop := ∀ b, H b = none ∨ ∃ o xs, H b = some (.frz o (.lst xs))

/-- THE HEAD: the law's promise, at the heap behind the top. F, the promise of the law's def, may use that base is part of the heap (so K.In base, base.Ns mainGlobals mg stand in Mod) -/
theorem law_call {P : Program} {w : World} {K : PySem.W.Frag} {mg mb : Str → Option Value} {CX : CXT} {k : Nat} {fa a : Addr} {fd : FuncData} {x : Str} {sp : Sp} {s₁ : Shared} {vs : List Value} {ns : List Int}
    (KX : K.In s₁.heap) (hns : s₁.heap.Ns mainGlobals mg) (hb : s₁.heap.Ns builtinsNs mb) (hbb : ∀ x : Str, x ≠ "__name__" → mb x = bootBuiltins x) (hlim : s₁.heap.NoLimit) (hg : s₁.gens = #[])
    (ha : s₁.heap.get? a = some { cls := .type "list", data := .seq vs.toArray }) (hi : IntsAre vs ns) (hl : ns.length ≤ sizeLine) (hr : Room k callerA)
    (F : ∀ base : Heap, K.In base → base.Ns mainGlobals mg → FnOk P w K mg base CX k fa fd [x] sp) (hbind : ∀ (s : Shared) (u : Value), BindsTo s fd ⟨[u], []⟩ [(x, u)])
    (hsp : ∀ H : Hp, Only H → SqL K H a (ns.map V.int) → sp [.ref a] H (fun v _ => v = .bl true) fun _ _ _ => False)
    (hCX : ∀ H e s', CX [] H s₁ (fun _ _ _ => False) e s' → False) :
    codeAny (model P w) callerA (.call (.ref fa) ⟨[.ref a], []⟩) (fun r s' => r = .ok (.ret (.bool true)) ∧ OldK s₁.heap s'.heap ∧ s'.os = s₁.os ∧ AllBare s'.gens) s₁ := by
  have rv := vals_ints hi
  have lenV := hi.length
  -- from an abstract heap in which nothing but the script may be tracked
  have core : ∀ H : Hp, Only H → SqL K H a (ns.map V.int) → HOk P w H s₁.heap → (∀ b, H b ≠ none → b = a) → (H a ≠ none → K.lookup a = none) →
      codeAny (model P w) callerA (.call (.ref fa) ⟨[.ref a], []⟩) (fun r s' => r = .ok (.ret (.bool true)) ∧ OldK s₁.heap s'.heap ∧ s'.os = s₁.os ∧ AllBare s'.gens) s₁ := by
    intro H hO hS hok hA hK
    have base_of : ∀ {b : Addr} {o : Obj}, s₁.heap.get? b = some o → H b = none → (hidT s₁.heap H).get? b = some o := fun e n => hidT_get e n
    have noA : ∀ {b : Addr} {o : Obj} {es : Array DictEntry} {ep : Nat}, s₁.heap.get? b = some o → o.data = .dict es ep → H b = none := fun {b o es ep} e d => by
      cases q : H b with
      | none => rfl
      | some u =>
        have e' : b = a := hA b (by rw [q]; simp)
        subst e'
        rw [ha] at e; cases e
        have d' : Data.seq vs.toArray _ = Data.dict es ep := d
        cases d'
    have nsK : ∀ {b : Addr} {m : Str → Option Value}, s₁.heap.Ns b m → (hidT s₁.heap H).Ns b m := fun {b m} ⟨o, es, ep, e, d, r⟩ => ⟨o, es, ep, base_of e (noA e d), d, r⟩
    have hKb : K.In (hidT s₁.heap H) := fun b o e => base_of (KX b o e) (by
      cases q : H b with
      | none => rfl
      | some u =>
        have e' : b = a := hA b (by rw [q]; simp)
        subst e'
        rw [hK (by rw [q]; simp)] at e; cases e)
    have hM : Mod K mg (hidT s₁.heap H) := ⟨hKb, nsK hns, ⟨mb, nsK hb, hbb⟩, let ⟨mc, h1, h2⟩ := hlim; ⟨mc, nsK h1, h2⟩⟩
    have e0 : Env0 P w K mg (hidT s₁.heap H) callerA [] s₁ H := ⟨rfl, hM, fun b o e => of_hidT e, Nat.le_of_eq (hidT_size _ _), trivial, fun b hb => absurd (show b ∈ ([] : List Addr) from hb) (by simp), hok, .of_eq hg⟩
    refine codeAny_mono ((F _ hKb (nsK hns)).run callerA [] s₁ H ⟨[.ref a], []⟩ [.ref a] [.ref a] _ _ hr e0 (hbind s₁ (.ref a)) (.cons rfl .nil) (hsp H hO hS)) fun r s' h => ?_
    cases r with
    | error e => exact (hCX H e s' h).elim
    | ok fl =>
      cases fl with
      | next => exact False.elim h
      | brk => exact False.elim h
      | cont => exact False.elim h
      | ret u =>
        obtain ⟨v, H', os, bare, un, hok', r', q⟩ := h
        have q' : v = .bl true := q
        subst q'
        obtain rfl : u = Value.bool true := r'
        refine ⟨rfl, OldK.of_keep fun b o e => ?_, os, bare⟩
        cases q : H b with
        | none => exact un.keep b o e q (by intro z; exact absurd (show b ∈ ([] : List Addr) from z) (by simp)) (by simp)
        | some u =>
          rcases hO b with z | ⟨ob, xs, z⟩
          · rw [q] at z; cases z
          · have z2 := un.frzs b ob _ z
            obtain ⟨e1, _⟩ := hok b _ z
            obtain ⟨e2, _⟩ := hok' b _ z2
            rw [e] at e1; cases e1
            exact e2
  cases hk : K.lookup a with
  | some o =>
    -- the script is one of the module's own objects
    have e := KX a o hk
    rw [ha] at e
    cases e
    refine core (fun _ => none) (fun _ => .inl rfl) (.inr ⟨_, vs.toArray, _, hk, rfl, rfl, rfl, by rw [List.size_toArray, lenV]; exact hl, by simpa using rv⟩) (fun b u z => by have z' : (none : Option HO) = some u := z; cases z') (fun b z => absurd rfl z) fun z => absurd rfl z
  | none =>
    refine core (fun b => if b = a then some (.frz { cls := .type "list", data := .seq vs.toArray } (.lst (ns.map V.int))) else none) (fun b => ?_) (.inl (.inr ⟨{ cls := .type "list", data := .seq vs.toArray }, if_pos rfl⟩)) (fun b u z => ?_) (fun b z => ?_) fun _ => hk
    · by_cases hb : b = a
      · exact .inr ⟨_, _, if_pos hb⟩
      · exact .inl (if_neg hb)
    · by_cases hb : b = a
      · have z' := (if_pos hb).symm.trans z
        cases z'
        subst hb
        exact ⟨ha, by rw [List.length_map]; exact hl, vs, _, rv, ha⟩
      · have z' := (if_neg hb).symm.trans z
        cases z'
    · by_cases hb : b = a
      · exact hb
      · exact absurd (if_neg hb) z
end L2

namespace L2
open PySem PySem.Spec PyProof.Rows

abbrev KOf {K : PySem.W.Frag} {h : Heap} (_ : K.In h) : PySem.W.Frag := K

/-- the goal that k_head leaves (case hc), from the law's promise. F gives the function object fd (K's own) once, then the promise over every base -/
theorem walk_of {l : PySem.W.OpenLaw} {n k : Nat} {q : Program} {loose : List Str} {XP : (Str → Option Value) → Heap → Prop} {YP : World → Heap → Prop} {d : DefRec} {K : Params → PySem.W.Frag} {CX : World → CXT} {sp : World → Sp} {x : Str}
    (hn : l.most = some n) (hn2 : n ≤ sizeLine) (hdf : d.params.defaults = []) (hr : Room k callerA)
    (hY : ∀ (w : World) (h : Heap), YP w h → (K w.params).In h)
    (F : ∀ (w : World) (mg : Str → Option Value) (fa : Addr) (h : Heap), (K w.params).In h → h.Ns mainGlobals mg → mg d.name = some (.ref fa) →
      ∃ fd : FuncData, (∀ (s : Shared) (u : Value), BindsTo s fd ⟨[u], []⟩ [(x, u)]) ∧
        ∀ base : Heap, (K w.params).In base → base.Ns mainGlobals mg → FnOk l.prog w (K w.params) mg base (CX w) k fa fd [x] (sp w))
    (hsp : ∀ (w : World) (H : Hp) (a : Addr) (ns : List Int), ns.length ≤ n → Only H → SqL (K w.params) H a (ns.map V.int) → sp w [.ref a] H (fun v _ => v = .bl true) fun _ _ _ => False)
    (hCX : ∀ (w : World) (H : Hp) (s : Shared) (e : Value) (s' : Shared), CX w [] H s (fun _ _ _ => False) e s' → False) :
    PySem.W.WalkO q loose XP YP l.row.toRowW d [] (fun f vs => PySem.call f vs) := by
  refine Att.attach_call hn hdf fun w s₀ s₁ mg mb fa o pm cd doc a vs ns G Y ho hd hcd hmg hobj hints hlen hg => ?_
  have KX := hY w _ Y
  obtain ⟨fd, hb, hF⟩ := F w mg fa _ KX G.T.g hmg
  exact law_call KX G.T.g G.T.b G.T.builtins G.T.nolimit hg hobj hints (Nat.le_trans hlen hn2) hr hF hb (fun H hO hS => hsp w H a ns hlen hO hS) fun H e s' => hCX w H s₁ e s'
/-- the same where the promise hangs on the written part alone: (sp := My.sp_law), no hole under a binder -/
theorem walk_ofK {l : PySem.W.OpenLaw} {n k : Nat} {q : Program} {loose : List Str} {XP : (Str → Option Value) → Heap → Prop} {YP : World → Heap → Prop} {d : DefRec} {K : Params → PySem.W.Frag} {CX : CXT} {sp : PySem.W.Frag → Sp} {x : Str}
    (hn : l.most = some n) (hn2 : n ≤ sizeLine) (hdf : d.params.defaults = []) (hr : Room k callerA)
    (hY : ∀ (w : World) (h : Heap), YP w h → (K w.params).In h)
    (F : ∀ (w : World) (mg : Str → Option Value) (fa : Addr) (h : Heap), (K w.params).In h → h.Ns mainGlobals mg → mg d.name = some (.ref fa) →
      ∃ fd : FuncData, (∀ (s : Shared) (u : Value), BindsTo s fd ⟨[u], []⟩ [(x, u)]) ∧
        ∀ base : Heap, (K w.params).In base → base.Ns mainGlobals mg → FnOk l.prog w (K w.params) mg base CX k fa fd [x] (sp (K w.params)))
    (hsp : ∀ (K : PySem.W.Frag) (H : Hp) (a : Addr) (ns : List Int), ns.length ≤ n → Only H → SqL K H a (ns.map V.int) → sp K [.ref a] H (fun v _ => v = .bl true) fun _ _ _ => False)
    (hCX : ∀ (H : Hp) (s : Shared) (e : Value) (s' : Shared), CX [] H s (fun _ _ _ => False) e s' → False) :
    PySem.W.WalkO q loose XP YP l.row.toRowW d [] (fun f vs => PySem.call f vs) :=
  walk_of (K := K) (CX := fun _ => CX) (sp := fun w => sp (K w.params)) hn hn2 hdf hr hY F (fun w H a ns h1 h2 h3 => hsp (K w.params) H a ns h1 h2 h3) fun _ H s e s' => hCX H s e s'
end L2

/- THE LAST THEOREM (shape; LID, My.* are yours):
   My.Adr: a structure of the addresses that your layer names (classes, functions); My.Txt K t: a structure (Prop) of the equations over K;
   My.txt_mk : {K} {implicit addresses ..} (e1 : nsIn K mainGlobals "law" = some (some (.ref f))) (e2 : K.lookup f = some ⟨oc, od, .func (fnOf "law" "law" params body scope dV kV doc pm an cdv ct), sl⟩) (e3 : codeIn K cdv "law" = true) .. : ∃ t, My.Txt K t

set_option maxRecDepth 100000 in
set_option maxHeartbeats 0 in
theorem PySem.Challenge.cw_LID_holds : PySem.Challenge.rw_LID.Holds := by
  w_on; o_law; k_head; (case hw => w_witness2)
  k_fill
  refine L2.walk_of (l := PySem.Challenge.rw_LID) (n := 63) (k := 40) (x := "script") (CX := fun w => ..) (sp := fun _ => My.sp_law) rfl (by decide) rfl ⟨rfl, by decide, by decide⟩ (fun w h Y => PySem.W.kIn_of Y) ?F ?S ?C
  case F =>
    intro w mg fa h KX G hmg
    have T : ∃ t, My.Txt (L2.KOf KX) t := by
      dsimp only [L2.KOf]                          -- K must stand as «<heap const> w.params» for k_is
      refine' My.txt_mk ?e1 ?e2 ?e3 ..
      (case e1 => PySem.W.k_is)                    -- in the order: a name -> its address -> its object -> its parts
      (case e2 => PySem.W.k_is)
      ..
    obtain ⟨t, T⟩ := T
    have e0 := hmg.symm.trans (PySem.W.mg_of KX G T.law)
    cases e0                                       -- fa is the law's own address
    exact ⟨_, fun s u => .of_eq rfl, fun base kb nb => My.law_fn T kb nb⟩     -- if «.of_eq rfl» comes too early: refine' ⟨_, ?b, fun base kb nb => My.law_fn T kb nb⟩; exact fun s u => .of_eq rfl
  case S => exact fun w H a ns hl hO hS => ..
  case C => exact ..
(the tactic k_is has no namespace: write k_is) -/

/-! SHORT WORDS over the layer: a def of the text, its body, what a loop and a test want. -/
namespace L2
open PySem PySem.Spec PyProof.Rows

/-! ### the text by places -/
/-- the j-th statement of a class's body -/
def inClass (s : Stmt) (j : Nat) : Stmt := match s with
  | .ClassDef _ _ _ body _ _ _ _ _ _ _ => body.getD j (.Pass ⟨0, 0, 0, 0⟩)
  | _ => .Pass ⟨0, 0, 0, 0⟩
def defArgs (s : Stmt) : Arguments := match s with
  | .FunctionDef _ a _ _ _ _ _ _ _ _ => a
  | _ => { posonlyargs := [], args := [], vararg := none, kwonlyargs := [], kw_defaults := [], kwarg := none, defaults := [] }
def defBody (s : Stmt) : List Stmt := match s with
  | .FunctionDef _ _ b _ _ _ _ _ _ _ => b
  | _ => []
def defScope (s : Stmt) : Scope := match s with
  | .FunctionDef _ _ _ _ _ _ sc _ _ _ => sc
  | _ => { kind := .function, names := [], isGenerator := false, isCoroutine := false }

/-! ### no exception leaves a def -/
abbrev CX0 : CXT := fun _ _ _ _ _ _ => False
abbrev E0 : XK := fun _ _ _ => False
theorem pass0 {X : Cx} : Passes CX0 X E0 := fun _ _ _ _ _ _ _ h => h.elim

/-! ### a def (or method) of the text as it stands behind the top -/
structure Fun (K : PySem.W.Frag) (x qual : Str) (st : Stmt) (f : Addr) (fd : FuncData) : Prop where
  ex : ∃ (oc : Value) (od : Option Addr) (kV doc pm : Value) (an : Option Addr) (cdv ct : Value) (osl : Array (Option Value)),
    fd = PySem.W.fnOf x qual (defArgs st) (defBody st) (defScope st) .none kV doc pm an cdv ct ∧ K.lookup f = some ⟨oc, od, .func fd, osl⟩ ∧ PySem.W.codeIn K cdv qual = true
  kp : PySem.W.keepIn K (.ref f) = true
section
variable {P : Program} {w : World} {K : PySem.W.Frag} {mg : Str → Option Value} {base : Heap}
/-- THE RULE for a def: its body as a term of rules, and the reading of that term -/
theorem Fun.ok {x qual : Str} {st : Stmt} {f : Addr} {fd : FuncData} {N ps : List Str} {k : Nat} {sp : Sp} (F : Fun K x qual st f fd) (S : FnScope N ps (defScope st)) (len : ∀ vs H Q E, sp vs H Q E → vs.length = ps.length)
    (hbody : ∀ (cdv : Value) (A : Around) (outer : List Env) (s : Shared) (H : Hp) (vs : List V) (Q : VK) (E : XK), Room k (A.deeper (envOfC qual (defScope st) s.heap.objs.size f cdv)) → sp vs H Q E →
      ∃ t, PSs (cxOf CX0 P w K mg base N qual (defScope st) f cdv A outer s H E).nox (defBody st) t ∧ t { nx := fun _ H' => Q .non H', rt := Q } (start N vs) H) : FnOk P w K mg base CX0 (k + 1) f fd ps sp := by
  obtain ⟨oc, od, kV, doc, pm, an, cdv, ct, osl, rfl, lk, hcd⟩ := F.ex
  refine fn_of lk hcd S len fun A outer s H vs Q E hr hsp => ?_
  obtain ⟨t, h, q⟩ := hbody cdv A outer s H vs Q E hr hsp
  exact ⟨t, h.nox, q⟩
/-- how its arguments bind (no defaults): h is «fun _ _ _ _ _ _ us hl => match us, hl with | [_, _], _ => rfl», one _ a parameter -/
theorem Fun.binds {x qual : Str} {st : Stmt} {f : Addr} {fd : FuncData} {ps : List Str} (F : Fun K x qual st f fd)
    (h : ∀ (kV doc pm : Value) (an : Option Addr) (cdv ct : Value) (us : List Value), us.length = ps.length → bindArgs (PySem.W.fnOf x qual (defArgs st) (defBody st) (defScope st) .none kV doc pm an cdv ct) ⟨us, []⟩ = pure (ps.zip us)) : Binds K fd ps [] := by
  obtain ⟨oc, od, kV, doc, pm, an, cdv, ct, osl, rfl, lk, hcd⟩ := F.ex
  exact .all (h kV doc pm an cdv ct)
theorem fun_mk {x qual : Str} {st : Stmt} {f : Addr} {oc : Value} {od an : Option Addr} {osl : Array (Option Value)} {kV doc pm cdv ct : Value} (l : K.lookup f = some ⟨oc, od, .func (PySem.W.fnOf x qual (defArgs st) (defBody st) (defScope st) .none kV doc pm an cdv ct), osl⟩)
    (c : PySem.W.codeIn K cdv qual = true) (k : PySem.W.keepIn K (.ref f) = true) : Fun K x qual st f (PySem.W.fnOf x qual (defArgs st) (defBody st) (defScope st) .none kV doc pm an cdv ct) := ⟨⟨oc, od, kV, doc, pm, an, cdv, ct, osl, rfl, l, c⟩, k⟩
end
theorem hu_of {A : Around} {k : Nat} (hr : Room k A) : A.units + 1 < cLine := Nat.lt_of_le_of_lt (Nat.add_le_add_left (by decide : 1 ≤ 64) _) hr.units
theorem small1000 {n : Nat} (h : n ≤ 1000) : n < sizeLine := Nat.lt_of_le_of_lt h (by decide)

/-! ### expressions in short: the name that stands in the i-th slot -/
section
variable {X : Cx}
theorem pv (i : Nat) {x : Str} {pos : Pos} (hN : X.N[i]? = some x := by rfl) (hv : Vis X.env.scope x := by first | exact Or.inl rfl | exact Or.inr (Or.inl rfl) | exact Or.inr (Or.inr rfl)) (hd : (x == ("__debug__" : Str)) = false := by decide)
    (hcd : (x == ("__classdict__" : Str)) = false := by decide) : PE X (.Name x pos) (tVar i) := pe_var hN hv hd hcd
/-- len of a dict -/
theorem call_lenD : CallR X (.builtin "len") (fun xs H Q => ∃ a kvs, xs = [V.ref a] ∧ H a = some (.dK kvs) ∧ Q (.int kvs.length) H) := by
  intro pins s σ H xs us Q I r h
  obtain ⟨a, kvs, rfl, ha, q⟩ := h
  obtain ⟨u, rfl, ru⟩ := vals1 r
  cases ru
  exact d_len I (.inl ha) fun t s' I' => ⟨.int kvs.length, H, I', ⟨t, rfl⟩, q⟩
end

/-! ### tests -/
theorem iteF {A B : Prop} (h : B) : if false = true then A else B := by
  rw [if_neg Bool.false_ne_true]
  exact h
theorem iteT {A B : Prop} (h : A) : if true = true then A else B := by
  rw [if_pos rfl]
  exact h
theorem ite2 {c A B : Prop} [Decidable c] (h1 : c → A) (h2 : ¬ c → B) : if c then A else B := by
  by_cases h : c
  · rw [if_pos h]
    exact h1 h
  · rw [if_neg h]
    exact h2 h
theorem iteNS {c A B : Prop} [Decidable c] (hc : c) (h : B) : if (!decide c) = true then A else B := by
  rw [decide_eq_true hc]
  exact iteF h

/-! ### heaps -/
/-- all that was tracked is as it was -/
def Same (H H' : Hp) : Prop := ∀ b o, H b = some o → H' b = some o
theorem Same.refl (H : Hp) : Same H H := fun _ _ h => h
theorem Same.trans {H H1 H2 : Hp} (a : Same H H1) (b : Same H1 H2) : Same H H2 := fun c o h => b c o (a c o h)
theorem Same.free {H H' : Hp} (e : Same H H') {l : Addr} (h : H' l = Option.none) : H l = Option.none := by
  cases q : H l with
  | none => rfl
  | some o =>
    rw [e l o q] at h
    cases h
theorem Same.seq {K : PySem.W.Frag} {H H' : Hp} {a : Addr} {xs : List V} (e : Same H H') (h : SqL K H a xs) : SqL K H' a xs := by
  rcases h with (h | ⟨o, h⟩) | h
  · exact .inl (.inl (e _ _ h))
  · exact .inl (.inr ⟨o, e _ _ h⟩)
  · exact .inr h

/-! ### a dict's pairs: keys that differ -/
section
variable {κ : Type} [DecidableEq κ]
theorem valV_not {kvs : List (κ × V)} {k : κ} (h : valV kvs k = none) : ¬ k ∈ kvs.map (·.1) := by
  intro m
  obtain ⟨p, hp, e⟩ := List.mem_map.mp m
  have q : (kvs.any fun kv => decide (kv.1 = k)) = true := List.any_eq_true.mpr ⟨p, hp, decide_eq_true e⟩
  rw [valV_any, h] at q
  exact absurd q (by simp)
theorem valV_in {kvs : List (κ × V)} {k : κ} {v : V} (h : valV kvs k = some v) : k ∈ kvs.map (·.1) := by
  have q : (kvs.any fun kv => decide (kv.1 = k)) = true := by
    rw [valV_any, h]
    all_goals rfl
  obtain ⟨p, hp, e⟩ := List.any_eq_true.mp q
  exact List.mem_map.mpr ⟨p, hp, of_decide_eq_true e⟩
theorem nd_snoc : ∀ {l : List κ} {k : κ}, l.Nodup → ¬ k ∈ l → (l ++ [k]).Nodup
  | [], k, _, _ => by simp
  | a :: r, k, h, hk => by
    obtain ⟨h1, h2⟩ := List.nodup_cons.mp h
    show (a :: (r ++ [k])).Nodup
    refine List.nodup_cons.mpr ⟨fun m => ?_, nd_snoc h2 fun m => hk (List.mem_cons.mpr (Or.inr m))⟩
    rcases List.mem_append.mp m with q | q
    · exact h1 q
    · exact hk (List.mem_cons.mpr (Or.inl (List.mem_singleton.mp q).symm))
theorem nd_putK {kvs : List (κ × V)} {k : κ} (v : V) (hn : (kvs.map (·.1)).Nodup) (h : valV kvs k = none) : ((putK kvs k v).map (·.1)).Nodup := by
  rw [putK_new v h, List.map_append]
  exact nd_snoc hn (valV_not h)
theorem dropK_pos {p : κ × V} {r : List (κ × V)} {k : κ} (e : p.1 = k) : dropK (p :: r) k = dropK r k := by
  unfold dropK
  rw [List.filter_cons, if_neg (by simp [e])]
theorem dropK_neg {p : κ × V} {r : List (κ × V)} {k : κ} (e : ¬ p.1 = k) : dropK (p :: r) k = p :: dropK r k := by
  unfold dropK
  rw [List.filter_cons, if_pos (by simp [e])]
theorem dropK_no : ∀ {kvs : List (κ × V)} {k : κ}, ¬ k ∈ kvs.map (·.1) → dropK kvs k = kvs
  | [], _, _ => rfl
  | p :: r, k, h => by
    have h' : ¬ k ∈ r.map (·.1) := fun m => by
      obtain ⟨q, hq, e⟩ := List.mem_map.mp m
      exact h (List.mem_map.mpr ⟨q, List.mem_cons.mpr (Or.inr hq), e⟩)
    rw [dropK_neg fun e => h (List.mem_map.mpr ⟨p, List.mem_cons.mpr (Or.inl rfl), e⟩), dropK_no h']
theorem dropK_mem {kvs : List (κ × V)} {k : κ} {p : κ × V} (h : p ∈ dropK kvs k) : p ∈ kvs := (List.mem_filter.mp h).1
theorem nd_dropK : ∀ {kvs : List (κ × V)} {k : κ}, (kvs.map (·.1)).Nodup → ((dropK kvs k).map (·.1)).Nodup
  | [], _, _ => List.nodup_nil
  | p :: r, k, h => by
    have h : (p.1 :: r.map (·.1)).Nodup := h
    obtain ⟨h1, h2⟩ := List.nodup_cons.mp h
    by_cases e : p.1 = k
    · rw [dropK_pos e]
      exact nd_dropK h2
    · rw [dropK_neg e]
      show (p.1 :: (dropK r k).map (·.1)).Nodup
      refine List.nodup_cons.mpr ⟨fun m => h1 ?_, nd_dropK h2⟩
      obtain ⟨q, hq, eq⟩ := List.mem_map.mp m
      exact List.mem_map.mpr ⟨q, dropK_mem hq, eq⟩
theorem dropK_len : ∀ {kvs : List (κ × V)} {k : κ}, (kvs.map (·.1)).Nodup → k ∈ kvs.map (·.1) → (dropK kvs k).length + 1 = kvs.length
  | [], _, _, m => by simp at m
  | p :: r, k, h, m => by
    have h : (p.1 :: r.map (·.1)).Nodup := h
    have m : k = p.1 ∨ k ∈ r.map (·.1) := List.mem_cons.mp m
    obtain ⟨h1, h2⟩ := List.nodup_cons.mp h
    by_cases e : p.1 = k
    · subst e
      rw [dropK_pos rfl, dropK_no h1]
      all_goals rfl
    · have m' : k ∈ r.map (·.1) := m.resolve_left fun z => e z.symm
      have q := dropK_len h2 m'
      rw [dropK_neg e, List.length_cons, List.length_cons]
      omega
end
end L2

/-! MY OWN RULES, part 1: freezing, dict walks, isinstance, dict(..), == of dicts -/
namespace L2
open PySem PySem.Spec PyProof.Rows

section
variable {X : Cx} {pins : List (Addr × Obj)} {σ : St} {H : Hp} {s : Shared} {a : Addr} {u u' : HO}

/-- the same object, told otherwise -/
theorem Inv.retag (I : Inv X pins σ H s) (e : H a = some u) (nw : ObjOk X.prog X.w (upd H a u') s.heap a u')
    (h1 : ∀ xs, X.H₀ a ≠ some (.tup xs)) (h2 : ∀ o z, X.H₀ a ≠ some (.frz o z)) (h3 : ∀ ps, X.H₀ a ≠ some (.tbl ps))
    (n1 : ∀ x, u ≠ .own x) (n2 : ∀ xs, u ≠ .tup xs) : Inv X pins σ (upd H a u') s := by
  have na : ∀ b, H b = none → (upd H a u') b = none := fun b q => by
    rw [upd_ne (fun z => by rw [z, e] at q; cases q)]; exact q
  have B := I.base
  refine ⟨I.ok, I.os, I.bare, ⟨B.keep, B.slot, fun b o q n x => na b (B.free b o q n x), B.there, fun b xs q => ?_, fun b o z q => ?_, fun b ps q => ?_⟩,
    I.loc, I.cell, na _ I.free, fun x c q => na _ (I.freeC x c q), fun p hp => ?_, fun b o q => ?_, I.len⟩
  · rw [upd_ne (show b ≠ a from fun z => h1 xs (by rw [← z]; exact q))]; exact B.tups b xs q
  · rw [upd_ne (show b ≠ a from fun z' => h2 o z (by rw [← z']; exact q))]; exact B.frzs b o z q
  · rw [upd_ne (show b ≠ a from fun z' => h3 ps (by rw [← z']; exact q))]; exact B.tbls b ps q
  · obtain ⟨p1, p2, p3⟩ := I.pin p hp
    exact ⟨p1, na _ p2, p3⟩
  · by_cases hb : b = a
    · subst hb
      rw [upd_same] at q
      cases q
      exact nw
    · rw [upd_ne hb] at q
      refine (I.hok b o q).stay (fun _ _ _ z => z) (fun c z => ?_) fun c xs z => ?_
      · rw [upd_ne (fun z' => by rw [z', e] at z; exact n1 b (Option.some.inj z))]; exact z
      · rw [upd_ne (fun z' => by rw [z', e] at z; exact n2 xs (Option.some.inj z))]; exact z

/-- not frozen ahead of the entry -/
def NF (X : Cx) (a : Addr) : Prop := ∀ o z, X.H₀ a ≠ some (.frz o z)
theorem Inv.nf {kvs : List (Key × V)} (I : Inv X pins σ H s) (e : H a = some (.dK kvs)) : NF X a := fun o z q => by
  have := I.base.frzs a o z q
  rw [e] at this; cases this
theorem Inv.freeze {kvs : List (Key × V)} (I : Inv X pins σ H s) (e : H a = some (.dK kvs)) : ∃ o, s.heap.get? a = some o ∧ Inv X pins σ (upd H a (.frz o (.dK kvs))) s := by
  have ok := I.hok a _ e
  obtain ⟨z, hd, vs, rel, dd⟩ := dk_of I.hok e
  obtain ⟨o, es, ep, ho, r⟩ := id dd
  refine ⟨o, ho, I.retag e ⟨ho, z, hd, vs, rel, dd⟩ (fun xs q => ?_) (I.nf e) (fun ps q => ?_) (fun x q => by cases q) fun xs q => by cases q⟩
  · have := I.base.tups a xs q
    rw [e] at this; cases this
  · obtain ⟨m, q'⟩ := I.base.tbls a ps q
    rw [e] at q'; cases q'
theorem Inv.thaw {kvs : List (Key × V)} {o : Obj} (I : Inv X pins σ H s) (e : H a = some (.frz o (.dK kvs))) (nf : NF X a) : Inv X pins σ (upd H a (.dK kvs)) s := by
  obtain ⟨ho, z, hd, vs, rel, dd⟩ := (show ObjOk X.prog X.w H s.heap a (.frz o (.dK kvs)) from I.hok a _ e)
  refine I.retag e (show ObjOk X.prog X.w _ s.heap a (.dK kvs) from ⟨z, hd, vs, rel, dd⟩) (fun xs q => ?_) nf (fun ps q => ?_) (fun x q => by cases q) fun xs q => by cases q
  · have := I.base.tups a xs q
    rw [e] at this; cases this
  · obtain ⟨m, q'⟩ := I.base.tbls a ps q
    rw [e] at q'; cases q'
theorem upd_back {o : HO} (e : H a = some o) : upd H a o = H := by
  funext b
  by_cases hb : b = a
  · subst hb; rw [upd_same, e]
  · rw [upd_ne hb]
end

/-! ### a dict's keys, one after another -/
def Itd (a : Addr) (o : Obj) (kvs : List (Key × V)) : It :=
  ⟨fun i H => H a = some (.frz o (.dK kvs)) ∧ i < kvs.length, fun i H x H' => H' = H ∧ ∃ k v, kvs[i]? = some (k, v) ∧ x = kV k, fun i H => H a = some (.frz o (.dK kvs)) ∧ kvs.length ≤ i⟩
theorem KV.get {κ : Type} : ∀ {kvs : List (κ × V)} {vs : List (κ × Value)} {i : Nat} {k : κ} {v : V}, KV kvs vs → kvs[i]? = some (k, v) → ∃ u, vs[i]? = some (k, u) ∧ RelV v u
  | _, _, _, _, _, .nil, h => by simp at h
  | _, _, 0, k, v, .cons (a := p) (b := q) r _, h => by
    have hp : p = (k, v) := by simpa using h
    subst hp
    have e : k = q.1 := r.1
    exact ⟨q.2, by rw [List.getElem?_cons_zero, e], r.2⟩
  | _, _, i + 1, _, _, .cons _ t, h => by
    simp only [List.getElem?_cons_succ] at h ⊢
    exact KV.get (kvs := _) t h
theorem rel_key {P : Program} {w : World} {k : Key} {u : Value} (h : (mixKind P w).is k u = true) : RelV (kV k) u := by
  rw [mixKind_is] at h
  rcases keyIs_shape h with ⟨i, t, rfl, rfl⟩ | ⟨x, t, rfl, rfl⟩
  · exact ⟨t, rfl⟩
  · exact ⟨t, rfl⟩
/-- the frozen dict as the iterator's rules want it -/
theorem frz_at {P : Program} {w : World} {H : Hp} {h : Heap} {a : Addr} {o : Obj} {kvs : List (Key × V)} {es : Array DictEntry} {ep : Nat} (ok : HOk P w H h) (e : H a = some (.frz o (.dK kvs))) (hd : o.data = .dict es ep) :
    ∃ vs, KV kvs vs ∧ h.DictAt (mixKind P w) a vs ep ∧ (a == sysModules) = false := by
  obtain ⟨ho, z, hs, vs, rel, dd⟩ := (show ObjOk P w H h a (.frz o (.dK kvs)) from ok a _ e)
  obtain ⟨o', es', ep', ho', ex, hd', r⟩ := dd
  rw [ho] at ho'; cases ho'
  rw [hd] at hd'; cases hd'
  exact ⟨vs, rel, ⟨o, es, ho, ex, hd, r⟩, hs⟩
theorem turn_dict {P : Program} {w : World} {K : PySem.W.Frag} {tg : Expr} (a it : Addr) (o : Obj) (kvs : List (Key × V)) {es : Array DictEntry} {ep : Nat} (hd : o.data = .dict es ep) :
    Turn P w K tg (Itd a o kvs) [it] it (fun i h => h.IsKeyIter it a i kvs.length ep) where
  mem := by simp
  obj := fun i h st b hb => by
    have e : b = it := by simpa using hb
    subst e
    obtain ⟨o, e, c, d⟩ := st
    exact ⟨o, e, fun v z => by rw [d] at z; cases z⟩
  keep := fun i h h' st k => let ⟨o, ho, r⟩ := st; ⟨o, k it (by simp) o ho, r⟩
  item := by
    intro X hP hw hK hc i pins s σ H E I hf st hg
    subst hP hw hK
    obtain ⟨hz, hi⟩ := hg
    obtain ⟨vs, rel, dd, hs⟩ := frz_at I.hok hz hd
    obtain ⟨k, v, hkv⟩ : ∃ k v, kvs[i]? = some (k, v) := ⟨kvs[i].1, kvs[i].2, by simp [hi]⟩
    obtain ⟨u, hu, ru⟩ := rel.get hkv
    obtain ⟨f0, f1, f2, f3, f4, f5⟩ := hf it (by simp)
    rw [rel.length] at st
    refine wpAny_pyNext_dict_item st dd hu fun key h' hk st' sb => ?_
    rw [← rel.length] at st'
    have I1 : Inv X pins σ H { s with heap := h' } := I.turned (t' := s.toks) (fun b o hb e => (sb.2 b hb).trans e) f0 f1 f3 f4 f5
    obtain ⟨oi, e, c, d⟩ := id st'
    exact ⟨key, rfl, go_of (s := { s with heap := h' }) e c d (by decide) ⟨kV k, H, I1, rel_key hk, ⟨rfl, k, v, hkv, rfl⟩, st', fun b hb => (hf b hb).1⟩⟩
  done := by
    intro X hP hw hK hc i pins s σ H E I hf st hg
    subst hP hw hK
    obtain ⟨hz, hi⟩ := hg
    obtain ⟨vs, rel, dd, hs⟩ := frz_at I.hok hz hd
    obtain ⟨f0, f1, f2, f3, f4, f5⟩ := hf it (by simp)
    rw [rel.length] at st hi
    exact wpAny_pyNext_dict_end (I.ok.hd hc) st dd (List.getElem?_eq_none hi) fun h' eb => ⟨rfl, I.turned (t' := s.toks) (fun b o hb e => eb b o hb e) f0 f1 f3 f4 f5⟩
  self := fun _ _ _ _ _ st h => wpAny_pyIter_keyiter st h

section
variable {X : Cx} {tg : Expr}
/-- for k in d: the dict stands frozen while it is walked -/
def iDict (X : Cx) (td : TE) : TI := fun σ H R => td σ H fun x H1 => ∃ a kvs, x = .ref a ∧ H1 a = some (.dK kvs) ∧ ∀ o, NF X a → R (Itd a o kvs) (upd H1 a (.frz o (.dK kvs)))
theorem pi_dict {l : Expr} {tl : TE} (hl : PE X l tl) : PI X tg l (iDict X tl) := by
  intro pins s σ H R I h
  refine thn (hl pins s σ H _ I h) fun v s1 ⟨x, H1, I1, r1, q1⟩ => ?_
  obtain ⟨a, kvs, e, hk, q⟩ := q1
  subst e
  cases r1
  obtain ⟨o, ho, I2⟩ := I1.freeze hk
  obtain ⟨z, hs, vs, rel, dd⟩ := dk_of I1.hok hk
  obtain ⟨ep, da⟩ := dd.dictAt
  obtain ⟨o', es, ho', ex, hd, _⟩ := id da
  rw [ho] at ho'; cases ho'
  refine wpAny_pyIter_dict hs da ?_
  refine ⟨s1.heap.objs.size, [s1.heap.objs.size], _, _, _, rfl, I2.kept (t' := s1.toks) fun b o e => Heap.get?_push_of_some _ e, turn_dict a _ o kvs hd, ?_, fun b hb => ?_, q o (I1.nf hk)⟩
  · rw [rel.length]
    exact ⟨_, Heap.get?_push_size _ rfl, rfl, rfl⟩
  · have e : b = s1.heap.objs.size := by simpa using hb
    subst e
    exact I2.fpOk (Nat.le_refl _) (I2.hok.fresh (Nat.le_refl _))

/-- where a frozen dict was left: it is thawed -/
def Th (X : Cx) (Q : Hp → Prop) (H : Hp) : Prop := ∃ a o kvs, H a = some (.frz o (.dK kvs)) ∧ NF X a ∧ Q (upd H a (.dK kvs))
def tThaw (X : Cx) (t : TS) : TS := fun D σ H => t { nx := fun σ' => Th X (D.nx σ'), rt := fun v => Th X (D.rt v), bk := fun σ' => Th X (D.bk σ'), ct := fun σ' => Th X (D.ct σ') } σ H
theorem ps_thaw {st : Stmt} {t : TS} (h : PS X st t) : PS X st (tThaw X t) := by
  intro pins s σ H D I q
  refine thn (h pins s σ H _ I q) fun f s' z => ?_
  cases f with
  | next => obtain ⟨σ', H', J, a, o, kvs, e, nf, q⟩ := z; exact ⟨σ', _, J.thaw e nf, q⟩
  | brk => obtain ⟨σ', H', J, a, o, kvs, e, nf, q⟩ := z; exact ⟨σ', _, J.thaw e nf, q⟩
  | cont => obtain ⟨σ', H', J, a, o, kvs, e, nf, q⟩ := z; exact ⟨σ', _, J.thaw e nf, q⟩
  | ret u => obtain ⟨v, σ', H', J, r, a, o, kvs, e, nf, q⟩ := z; exact ⟨v, σ', _, J.thaw e nf, r, q⟩
theorem pe_thaw {e : Expr} {t : TE} (h : PE X e t) : PE X e (fun σ H Q => t σ H fun v => Th X (Q v)) := by
  intro pins s σ H Q I q
  refine thn (h pins s σ H _ I q) fun u s' z => ?_
  obtain ⟨v, H', J, r, a, o, kvs, e, nf, q⟩ := z
  exact ⟨v, _, J.thaw e nf, r, q⟩
end
/-- the loop over a dict that the body leaves as it is: Pv speaks of the heap with the dict thawed -/
theorem for_dict {X : Cx} {a : Addr} {o : Obj} {kvs : List (Key × V)} {g : TG} {tb : TS} {D : Ends} {σ : St} {H : Hp} (nf : NF X a) (Pv : Nat → St → Hp → Prop) (h0 : Pv 0 σ H) (hl : ∀ i σ H, Pv i σ H → H a = some (.dK kvs))
    (hs : ∀ i k v σ H, kvs[i]? = some (k, v) → Pv i σ H → g (kV k) σ (upd H a (.frz o (.dK kvs))) fun σ2 H2 => tb { nx := fun σ' H' => H' a = some (.frz o (.dK kvs)) ∧ Pv (i + 1) σ' (upd H' a (.dK kvs)), ct := fun σ' H' => H' a = some (.frz o (.dK kvs)) ∧ Pv (i + 1) σ' (upd H' a (.dK kvs)), bk := fun σ' => Th X (D.nx σ'), rt := fun v => Th X (D.rt v) } σ2 H2)
    (hd : ∀ σ H, Pv kvs.length σ H → D.nx σ H) :
    ∃ W : Nat → Nat → St → Hp → Prop, (∃ m, W 0 m σ (upd H a (.frz o (.dK kvs)))) ∧ ∀ i m σ H, W i m σ H → ((Itd a o kvs).stop i H ∧ Th X (D.nx σ) H) ∨
      ((Itd a o kvs).go i H ∧ ∃ N : St → Hp → Prop, (∀ σ' H', N σ' H' → ∃ m', m' < m ∧ W (i + 1) m' σ' H') ∧ ∀ x H', (Itd a o kvs).yld i H x H' → g x σ H' fun σ2 H2 => tb { nx := N, ct := N, bk := fun σ' => Th X (D.nx σ'), rt := fun v => Th X (D.rt v) } σ2 H2) := by
  refine ⟨fun i m σ H => m + i = kvs.length ∧ H a = some (.frz o (.dK kvs)) ∧ Pv i σ (upd H a (.dK kvs)), ⟨kvs.length, by omega, upd_same, ?_⟩, ?_⟩
  · rw [upd_upd, upd_back (hl _ _ _ h0)]; exact h0
  · rintro i m σ H ⟨hm, hz, hp⟩
    by_cases hi : i < kvs.length
    · refine .inr ⟨⟨hz, hi⟩, fun σ' H' => H' a = some (.frz o (.dK kvs)) ∧ Pv (i + 1) σ' (upd H' a (.dK kvs)), fun σ' H' q => ⟨m - 1, by omega, by omega, q⟩, ?_⟩
      rintro x H' ⟨rfl, k, v, hkv, rfl⟩
      have := hs i k v σ _ hkv hp
      rw [upd_upd, upd_back hz] at this
      exact this
    · have e : i = kvs.length := by omega
      subst e
      exact .inl ⟨⟨hz, Nat.le_refl _⟩, a, o, kvs, hz, nf, hd _ _ hp⟩

/-! ### isinstance -/
def clsV : V → Option Value
  | .ty n => some (.type n)
  | .ref a => some (.ref a)
  | _ => none
theorem call_isinst {X : Cx} : CallR X (.builtin "isinstance") (fun xs H Q => ∃ x c cv t b, xs = [x, c] ∧ clsV c = some cv ∧ TyOf X.K H x t ∧ PySem.W.kitOne X.K t cv = some b ∧ Q (.bl b) H) := by
  intro pins s σ H xs us Q I r h
  obtain ⟨x, c, cv, t, b, rfl, hc, ty, e, q⟩ := h
  obtain ⟨u, v, rfl, ru, rv⟩ := vals2 r
  have hv : v = cv := by
    cases c <;> simp only [clsV, Option.some.injEq, reduceCtorEq] at hc
    · cases (show v = Value.ref _ from rv); exact hc
    · cases (show v = Value.type _ from rv); exact hc
  subst hv
  exact isinst_ok I ru ty e fun tk => ⟨.bl b, H, I.tok tk, rfl, q⟩

/-! ### dict(d) -/
theorem call_dictD {X : Cx} : CallR X (.type "dict") (fun xs H Q => ∃ a kvs, xs = [.ref a] ∧ Rd H a (.dK kvs) ∧ ∀ p, H p = none → Q (.ref p) (upd H p (.dK kvs))) := by
  intro pins s σ H xs us Q I r h
  obtain ⟨a, kvs, rfl, hk, q⟩ := h
  obtain ⟨u, rfl, ru⟩ := vals1 r
  cases ru
  exact d_copyOf I hk fun p s' hp I' => ⟨.ref p, _, I', rfl, q p hp⟩
theorem call_lenDR {X : Cx} : CallR X (.builtin "len") (fun xs H Q => ∃ a kvs, xs = [.ref a] ∧ Rd H a (.dK kvs) ∧ Q (.int kvs.length) H) := by
  intro pins s σ H xs us Q I r h
  obtain ⟨a, kvs, rfl, hk, q⟩ := h
  obtain ⟨u, rfl, ru⟩ := vals1 r
  cases ru
  exact d_len I hk fun t s' I' => ⟨.int kvs.length, H, I', ⟨t, rfl⟩, q⟩

/-- a tracked dict has each key once -/
theorem Inv.keysNd {X : Cx} {pins : List (Addr × Obj)} {σ : St} {H : Hp} {s : Shared} {a : Addr} {kvs : List (Key × V)} (I : Inv X pins σ H s) (e : Rd H a (.dK kvs)) : (kvs.map (·.1)).Nodup := by
  obtain ⟨z, hd, vs, rel, dd⟩ := dk_rd I.hok e
  obtain ⟨_, da⟩ := dd.dictAt
  rw [rel.keys]
  exact da.nodup
/-! ### == of two dicts whose values are flat -/
def hitD (kb : List (Key × V)) (p : Key × V) : Bool := match valV kb p.1 with
  | none => false
  | some y => eqV p.2 y
def eqD (ka kb : List (Key × V)) : Bool := ka.length == kb.length && ka.all (hitD kb)
def flatD (ka : List (Key × V)) : Prop := ∀ p ∈ ka, flatV p.2 = true
theorem valV_flat {kb : List (Key × V)} (hb : flatD kb) {k : Key} {y : V} (h : valV kb k = some y) : flatV y = true := by
  unfold valV at h
  cases e : kb.find? fun kv => decide (kv.1 = k) with
  | none => rw [e] at h; cases h
  | some p =>
    rw [e] at h
    cases h
    exact hb p (List.mem_of_find?_eq_some e)
theorem hits_of {A : Around} {s : Shared} {kb : List (Key × V)} {vb : List (Key × Value)} (rb : KV kb vb) (fb : flatD kb) : ∀ {ka : List (Key × V)} {va : List (Key × Value)}, KV ka va → flatD ka → PySem.W.KeqHits A s vb va (ka.all (hitD kb))
  | _, _, .nil, _ => .nil
  | (k, x) :: r, (k', u) :: r', .cons hp t, fa => by
    obtain ⟨e1, ru⟩ := hp
    have e1 : k = k' := e1
    subst e1
    have ih := hits_of (A := A) (s := s) rb fb t fun p hp => fa p (List.mem_cons_of_mem _ hp)
    have hv := rb.val k
    rw [List.all_cons]
    cases e : valV kb k with
    | none =>
      rw [e] at hv
      have : hitD kb (k, x) = false := by simp only [hitD, e]
      rw [this, Bool.false_and]
      exact .miss (RelO.none_of hv)
    | some y =>
      rw [e] at hv
      obtain ⟨uy, ey, ry⟩ := RelO.some_of hv
      have : hitD kb (k, x) = eqV x y := by simp only [hitD, e]
      rw [this]
      exact .hit ey (eqAt_V ru ry (fa (k, x) (List.mem_cons_self ..)) (valV_flat fb e)) ih
section
variable {X : Cx}
def rEqD (neg : Bool) : R2 := fun x y H Q => ∃ a b ka kb, x = .ref a ∧ y = .ref b ∧ Rd H a (.dK ka) ∧ Rd H b (.dK kb) ∧ flatD ka ∧ flatD kb ∧ ((ka.map (·.1)).Nodup → (kb.map (·.1)).Nodup → Q (.bl (neg ^^ eqD ka kb)) H)
theorem op_eqD (hu : X.A.units < cLine) : OpR X (compareOp .Eq) (rEqD false) := by
  intro pins s σ H x y v u Q I rx ry h
  obtain ⟨a, b, ka, kb, rfl, rfl, ha, hb, fa, fb, q⟩ := h
  cases rx
  cases ry
  obtain ⟨za, da, va, ra, dda⟩ := dk_rd I.hok ha
  obtain ⟨zb, db, vb, rb, ddb⟩ := dk_rd I.hok hb
  refine PySem.W.keq_eq da db dda ddb hu (fun _ => hits_of rb fb ra fa) ⟨.bl (eqD ka kb), H, I, ?_, ?_⟩
  · show Value.bool _ = Value.bool _
    rw [← ra.length, ← rb.length]
    rfl
  · have q := q (I.keysNd ha) (I.keysNd hb)
    simpa using q
theorem op_neD (hu : X.A.units < cLine) : OpR X (compareOp .NotEq) (rEqD true) := by
  intro pins s σ H x y v u Q I rx ry h
  obtain ⟨a, b, ka, kb, rfl, rfl, ha, hb, fa, fb, q⟩ := h
  cases rx
  cases ry
  obtain ⟨za, da, va, ra, dda⟩ := dk_rd I.hok ha
  obtain ⟨zb, db, vb, rb, ddb⟩ := dk_rd I.hok hb
  refine PySem.W.keq_ne da db dda ddb hu (fun _ => hits_of rb fb ra fa) ⟨.bl (!eqD ka kb), H, I, ?_, ?_⟩
  · show Value.bool _ = Value.bool _
    rw [← ra.length, ← rb.length]
    rfl
  · have q := q (I.keysNd ha) (I.keysNd hb)
    simpa using q
end
theorem eqV_self {x : V} (h : flatV x = true) : eqV x x = true := by
  cases x <;> simp_all [eqV, flatV]
theorem valV_mem : ∀ {kvs : List (Key × V)} {p : Key × V}, (kvs.map (·.1)).Nodup → p ∈ kvs → valV kvs p.1 = some p.2
  | q :: r, p, nd, hp => by
    rw [List.map_cons, List.nodup_cons] at nd
    rcases List.mem_cons.mp hp with rfl | hr
    · exact valV_pos rfl
    · rw [valV_neg (fun e => nd.1 (e ▸ List.mem_map_of_mem (f := (·.1)) hr))]
      exact valV_mem nd.2 hr
theorem eqD_self {ka : List (Key × V)} (nd : (ka.map (·.1)).Nodup) (fa : flatD ka) : eqD ka ka = true := by
  unfold eqD
  rw [beq_self_eq_true, Bool.true_and, List.all_eq_true]
  intro p hp
  unfold hitD
  rw [valV_mem nd hp]
  exact eqV_self (fa p hp)
end L2

/-! MY OWN RULES, part 2: a list comprehension of one clause -/
namespace L2
open PySem PySem.Spec PyProof.Rows

/-- the context of a comprehension's block, at its entry (its list is made, its names not yet) -/
def cxB (X : Cx) (pins : List (Addr × Obj)) (N : List Str) (scope : Scope) (cl : List (Str × Addr)) (fp : List Addr) (s : Shared) (H : Hp) : Cx where
  prog := X.prog
  w := X.w
  K := X.K
  mg := X.mg
  base := X.base
  A := X.A
  N := N
  s₀ := s
  H₀ := H
  env := compEnvC scope cl s.heap.objs.size X.env
  outer := X.stack
  stack := X.stack
  ex := fp
  fn := fun _ => false
  calm := X.calm
  pn := X.pn ++ pins
  xe := fun _ _ => False

/-- what must be seen of the text: the block's names N, of which fr tells where the outer ones stand; its cells -/
structure Blk (X : Cx) (N : List Str) (fr : List (Option Nat)) (scope : Scope) (cl : List (Str × Addr)) : Prop where
  clos : closureFor scope X.env = pure cl
  kind : scope.kind = .function
  nocell : ∀ y ∈ scope.names, y.2 ≠ .cell
  names : ∀ y ∈ scope.names, y.2 = .local → scope.names.lookup y.1 = some .local
  cells : ∀ x c, cl.lookup x = some c → X.env.cells.lookup x = some c
  has : ∀ x, ((relabel scope X.env).names.lookup x = some .cell ∨ (relabel scope X.env).names.lookup x = some .free) → ∃ c, cl.lookup x = some c
  len : fr.length = N.length
  out : ∀ (i j : Nat) (x : Str), N[i]? = some x → fr[i]? = some (some j) → X.N[j]? = some x ∧ X.env.kindOf x = some .cell ∧ ((relabel scope X.env).names.lookup x = some .cell ∨ (relabel scope X.env).names.lookup x = some .free)

end L2
namespace L2
open PySem PySem.Spec PyProof.Rows
/-- the cells that a block takes over -/
def clGo (env : Env) : List (Str × NameKind) → List (Str × Addr) → List (Str × Addr)
  | [], cs => cs
  | (n, k) :: r, cs => clGo env r (if (k == .free) = true then (n, (env.cells.lookup n).getD 0) :: cs else cs)
def clOf (scope : Scope) (env : Env) : List (Str × Addr) := clGo env scope.names []
theorem clos_go {env : Env} : ∀ {names : List (Str × NameKind)} (cs : List (Str × Addr)), (∀ y ∈ names, y.2 = .free → ∃ c, env.cells.lookup y.1 = some c) →
    (forIn names cs fun (x : Str × NameKind) cs => match x with
      | (name, kind) => if (kind == NameKind.free) = true then do let c ← cellOf env name; pure (ForInStep.yield ((name, c) :: cs)) else pure (ForInStep.yield cs) : Sem (List (Str × Addr))) = pure (clGo env names cs)
  | [], cs, _ => rfl
  | (n, k) :: r, cs, h => by
    rw [List.forIn_cons]
    dsimp only
    have ih := fun cs => clos_go (env := env) (names := r) cs fun y hy => h y (List.mem_cons_of_mem _ hy)
    by_cases hk : (k == NameKind.free) = true
    · obtain ⟨c, hc⟩ := h (n, k) (List.mem_cons_self ..) (by simpa using hk)
      rw [if_pos hk, show clGo env ((n, k) :: r) cs = clGo env r ((n, c) :: cs) by rw [clGo, if_pos hk, hc]; rfl]
      have e : cellOf env n = pure c := by unfold cellOf; rw [hc]
      rw [e]
      exact ih _
    · rw [if_neg hk, show clGo env ((n, k) :: r) cs = clGo env r cs by rw [clGo, if_neg hk]]
      exact ih _
theorem clos_of {scope : Scope} {env : Env} (h : ∀ y ∈ scope.names, y.2 = .free → ∃ c, env.cells.lookup y.1 = some c) : closureFor scope env = pure (clOf scope env) := by
  have t := clos_go (env := env) [] h
  have e : closureFor scope env = ((forIn scope.names ([] : List (Str × Addr)) fun (x : Str × NameKind) cs => match x with
      | (name, kind) => if (kind == NameKind.free) = true then do let c ← cellOf env name; pure (ForInStep.yield ((name, c) :: cs)) else pure (ForInStep.yield cs)) >>= fun cs => pure cs : Sem (List (Str × Addr))) := rfl
  rw [e, t]
  rfl
theorem clGo_cells {env : Env} : ∀ {names : List (Str × NameKind)} {cs : List (Str × Addr)}, (∀ y ∈ names, y.2 = .free → ∃ c, env.cells.lookup y.1 = some c) → (∀ x c, cs.lookup x = some c → env.cells.lookup x = some c) → ∀ x c, (clGo env names cs).lookup x = some c → env.cells.lookup x = some c
  | [], _, _, hc, x, c, h => hc x c h
  | (n, k) :: r, cs, hn, hc, x, c, h => by
    rw [clGo] at h
    refine clGo_cells (names := r) (fun y hy => hn y (List.mem_cons_of_mem _ hy)) (fun x c h => ?_) x c h
    by_cases hk : (k == NameKind.free) = true
    · rw [if_pos hk] at h
      obtain ⟨c', hc'⟩ := hn (n, k) (List.mem_cons_self ..) (by simpa using hk)
      rw [List.lookup_cons] at h
      cases e : x == n with
      | true =>
        rw [e] at h
        have ex : x = n := by simpa using e
        subst ex
        rw [hc'] at h ⊢
        exact h
      | false =>
        rw [e] at h
        exact hc x c h
    · rw [if_neg hk] at h
      exact hc x c h
theorem clGo_has {env : Env} : ∀ {names : List (Str × NameKind)} {cs : List (Str × Addr)} {x : Str}, ((x, NameKind.free) ∈ names ∨ ∃ c, cs.lookup x = some c) → ∃ c, (clGo env names cs).lookup x = some c
  | [], _, _, h => h.elim (fun z => by cases z) fun z => z
  | (n, k) :: r, cs, x, h => by
    rw [clGo]
    refine clGo_has (names := r) ?_
    by_cases hk : (k == NameKind.free) = true
    · rw [if_pos hk, List.lookup_cons]
      cases e : x == n with
      | true => exact .inr ⟨_, rfl⟩
      | false =>
        rcases h with h | h
        · rcases List.mem_cons.mp h with z | z
          · cases z
            simp at e
          · exact .inl z
        · exact .inr h
    · rw [if_neg hk]
      rcases h with h | h
      · rcases List.mem_cons.mp h with z | z
        · cases z
          exact absurd rfl hk
        · exact .inl z
      · exact .inr h
theorem relabel_lookup {env : Env} (x : Str) : ∀ names : List (Str × NameKind),
    (names.map fun (y : Str × NameKind) => match y with
      | (n, k) => if (k == NameKind.free && env.scope.kind == .function && env.kindOf n == some .cell) = true then (n, NameKind.cell) else (n, k)).lookup x
      = (names.lookup x).map fun k => if (k == NameKind.free && env.scope.kind == .function && env.kindOf x == some .cell) = true then NameKind.cell else k
  | [] => rfl
  | (n, k) :: r => by
    have ih := relabel_lookup (env := env) x r
    rw [List.map_cons, List.lookup_cons]
    by_cases e : (x == n) = true
    · have ex : x = n := by simpa using e
      subst ex
      dsimp only
      by_cases hc : (k == NameKind.free && env.scope.kind == .function && env.kindOf x == some .cell) = true
      · rw [if_pos hc, List.lookup_cons, beq_self_eq_true]
        dsimp only [Option.map]
        rw [if_pos hc]
      · rw [if_neg hc, List.lookup_cons, beq_self_eq_true]
        dsimp only [Option.map]
        rw [if_neg hc]
    · have e' : (x == n) = false := by simpa using e
      dsimp only
      by_cases hc : (k == NameKind.free && env.scope.kind == .function && env.kindOf n == some .cell) = true
      · rw [if_pos hc, List.lookup_cons, e']
        exact ih
      · rw [if_neg hc, List.lookup_cons, e']
        exact ih

/-- what must be seen of the text: closed, to be decided. NX the outer names, N the block's, fr where the outer ones of these stand -/
structure BlkS (sc scope : Scope) (NX N : List Str) (fr : List (Option Nat)) : Prop where
  okind : sc.kind = .function
  kind : scope.kind = .function
  nocell : ∀ y ∈ scope.names, y.2 ≠ .cell
  names : ∀ y ∈ scope.names, y.2 = .local → scope.names.lookup y.1 = some .local
  free : ∀ y ∈ scope.names, y.2 = .free → sc.names.lookup y.1 = some .cell
  len : fr.length = N.length
  out : ((List.range N.length).all fun i => match fr[i]? with
    | some (some j) => (match N[i]? with
      | some x => (NX[j]? == some x) && (scope.names.lookup x == some .free)
      | none => false)
    | _ => true) = true
theorem mem_of_lk {names : List (Str × NameKind)} {x : Str} {k : NameKind} (h : names.lookup x = some k) : (x, k) ∈ names := PySem.mem_of_lookup h
theorem BlkS.blk {X : Cx} {sc scope : Scope} {NX N : List Str} {fr : List (Option Nat)} (B : BlkS sc scope NX N fr) (e1 : X.env.scope = sc) (e2 : X.N = NX) (ok : X.Ok) : Blk X N fr scope (clOf scope X.env) := by
  subst e1 e2
  have fc : ∀ y ∈ scope.names, y.2 = .free → ∃ c, X.env.cells.lookup y.1 = some c := fun y hy hf => ok.has y.1 (.inl (B.free y hy hf))
  have lk : ∀ x, (relabel scope X.env).names.lookup x = (scope.names.lookup x).map fun k => if (k == NameKind.free && X.env.scope.kind == .function && X.env.kindOf x == some .cell) = true then NameKind.cell else k := fun x => relabel_lookup x scope.names
  have isfree : ∀ x, scope.names.lookup x = some .free → (relabel scope X.env).names.lookup x = some .cell := fun x hx => by
    have hk : X.env.kindOf x = some .cell := B.free (x, .free) (mem_of_lk hx) rfl
    rw [lk, hx, Option.map_some, hk, B.okind]
    rfl
  refine ⟨clos_of fc, B.kind, B.nocell, B.names, fun x c h => clGo_cells fc (fun x c h => by cases h) x c h, fun x h => clGo_has (.inl ?_), B.len, fun i j x h1 h2 => ?_⟩
  · rw [lk] at h
    cases e : scope.names.lookup x with
    | none => rw [e] at h; rcases h with h | h <;> cases h
    | some k =>
      rw [e, Option.map_some] at h
      have hm := mem_of_lk e
      cases k with
      | free => exact hm
      | cell => exact absurd rfl (B.nocell _ hm)
      | _ => rcases h with h | h <;> simp at h
  · have hi : i < N.length := (List.getElem?_eq_some_iff.mp h1).1
    have := List.all_eq_true.mp B.out i (List.mem_range.mpr hi)
    rw [h2] at this
    dsimp only at this
    rw [h1] at this
    dsimp only at this
    rw [Bool.and_eq_true] at this
    have a1 : X.N[j]? = some x := by simpa using this.1
    have a2 : scope.names.lookup x = some .free := by simpa using this.2
    exact ⟨a1, B.free (x, .free) (mem_of_lk a2) rfl, .inl (isfree x a2)⟩
end L2
namespace L2
open PySem PySem.Spec PyProof.Rows
/-- the block's names' values at its start -/
def startB (fr : List (Option Nat)) (σ : St) : St := fr.map fun o => o.bind fun j => (σ[j]?).join
theorem startB_get {fr : List (Option Nat)} {σ : St} {i : Nat} {v : V} (h : (startB fr σ)[i]? = some (some v)) : ∃ j, fr[i]? = some (some j) ∧ σ[j]? = some (some v) := by
  unfold startB at h
  rw [List.getElem?_map] at h
  cases e : fr[i]? with
  | none => rw [e] at h; cases h
  | some o =>
    rw [e] at h
    cases o with
    | none => cases h
    | some j =>
      have h' : (σ[j]?).join = some v := Option.some.inj h
      cases q : σ[j]? with
      | none => rw [q] at h'; cases h'
      | some z => rw [q] at h'; exact ⟨j, rfl, by rw [q]; exact congrArg some h'⟩

section
variable {X : Cx} {pins : List (Addr × Obj)} {σ : St} {H : Hp} {s : Shared} {N : List Str} {fr : List (Option Nat)} {scope : Scope} {cl : List (Str × Addr)} {fp : List Addr}

theorem blk_ok (B : Blk X N fr scope cl) (I : Inv X pins σ H s) (f : ∀ b ∈ fp, FpOk X pins H b ∧ b < s.heap.objs.size) : (cxB X pins N scope cl fp s H).Ok where
  mod := I.mod
  kind := B.kind
  glob := I.ok.glob
  blt := I.ok.blt
  above := Nat.le_refl _
  inj := fun x y c h1 h2 => I.ok.inj x y c (B.cells x c h1) (B.cells y c h2)
  has := fun x h => B.has x h
  cab := fun x c h => by cases h
  hd := I.ok.hd
  frames := I.ok.frames
  stk := .inl rfl
  exf := fun b hb => ⟨Nat.ne_of_lt (f b hb).2, fun x c h => (f b hb).1.2.2.2.2.1 x c (B.cells x c h)⟩
  bs := I.bs
  bsz := Nat.le_trans I.ok.bsz I.sz
  noex := fun b o e hb => by
    rcases (f b hb).1.2.2.2.1 with h | h
    · exact I.ok.noex b o e h
    · exact absurd (Nat.lt_of_lt_of_le (Heap.lt_size e) (Nat.le_trans I.ok.bsz h)) (Nat.lt_irrefl _)
  exfs := fun b hb h => by
    rcases List.mem_cons.mp (I.stkSub b h) with z | z
    · exact (f b hb).1.2.1 z
    · exact (f b hb).1.2.2.1 z
  funs := I.stack
  frf := I.stkFree

theorem blk_start {h1 : Heap} {t1 : Nat} (B : Blk X N fr scope cl) (I : Inv X pins σ H s) (f : ∀ b ∈ fp, FpOk X pins H b ∧ b < s.heap.objs.size) (hns : h1.Ns s.heap.objs.size fun _ => none)
    (hsb : ∀ b o, s.heap.get? b = some o → h1.get? b = some o) : Inv (cxB X pins N scope cl fp s H) [] (startB fr σ) H { s with heap := h1, toks := t1 } := by
  obtain ⟨m, hm, hl⟩ := I.loc
  refine ⟨blk_ok B I f, rfl, I.bare, Un.kept hsb, ⟨_, hns, fun i x v e1 e2 _ => ?_⟩, fun x c h => ?_, I.hok.fresh (Nat.le_refl _), fun x c h => I.freeC x c (B.cells x c h), fun p hp => ?_, I.hok.kept hsb, ?_⟩
  · obtain ⟨j, ej, es⟩ := startB_get e2
    obtain ⟨o1, o2, o3⟩ := B.out i j x e1 ej
    obtain ⟨u, ru, L⟩ := hl j x v o1 es (.inr (.inl o2))
    refine ⟨u, ru, .inr ⟨o3, ?_⟩⟩
    obtain ⟨c, hc⟩ := B.has x o3
    rcases L with ⟨k1, _⟩ | ⟨_, c', hc', cc⟩
    · rw [o2] at k1; cases k1
    · rw [B.cells x c hc] at hc'
      cases hc'
      exact ⟨c, hc, cc.keeps hsb⟩
  · obtain ⟨v, hv⟩ := I.cell x c (B.cells x c h)
    exact ⟨v, hv.keeps hsb⟩
  · have hp' : p ∈ X.pn ++ pins := by rw [List.append_nil] at hp; exact hp
    obtain ⟨p1, p2, p3, p4, p5⟩ := I.pin p hp'
    exact ⟨hsb _ _ p1, p2, Nat.ne_of_lt (Heap.lt_size p1), fun z => (List.mem_cons.mp (I.stkSub _ z)).elim p3 p4, p5⟩
  · show (startB fr σ).length = N.length
    unfold startB
    rw [List.length_map, B.len]
end

/-- the tests of a clause -/
def PTs (X : Cx) (cs : List Expr) (t : TT) : Prop :=
  ∀ (pins : List (Addr × Obj)) (s : Shared) (σ : St) (H : Hp) (Q : Bool → Hp → Prop), Inv X pins σ H s → t σ H Q →
    wpAny (model X.prog X.w) X.A (forIn cs true fun c r => if r = true then do let ok ← isTrue c X.env (eval c X.env); pure (ForInStep.yield ok) else pure (ForInStep.yield r)) (TP X pins σ Q) X.xe s
def tYes : TT := fun _ H Q => Q true H
theorem pts_nil {X : Cx} : PTs X [] tYes := fun pins s σ H Q I h => by
  rw [List.forIn_nil]
  exact wpAny_pure ⟨H, I, h⟩
theorem pts_one {X : Cx} {c : Expr} {t : TT} (h : PT X c t) : PTs X [c] t := fun pins s σ H Q I q => by
  rw [List.forIn_cons, if_pos rfl]
  refine wpAny_bind (wpAny_bind (thn (h pins s σ H Q I q) fun b s' z => ?_))
  refine wpAny_pure ?_
  dsimp only
  rw [List.forIn_nil]
  exact wpAny_pure z

section
variable {prog : Program} {w : World} {A : Around} {R : Result → Shared → Prop} {s : Shared}
/-- the loop of a clause, by any invariant; nothing is raised -/
theorem comp_loop {elt tg iter : Expr} {ifs : List Expr} {scope : Scope} {pos : Pos} {it acc : Value} {env : Env} (J : Nat → Shared → Prop)
    (turn : ∀ n s, J n s → wpAny (model prog w) A (pyNext it) (fun r s₁ => match r with
      | none => R (.ok .next) s₁
      | some v => wpAny (model prog w) A (letOwnedTupleGo tg it v) (fun _ sg => wpAny (model prog w) A (assign tg env v) (fun _ s₂ =>
          wpAny (model prog w) A (forIn ifs true fun c r => if r = true then do let ok ← isTrue c env (eval c env); pure (ForInStep.yield ok) else pure (ForInStep.yield r)) (fun ok s₃ =>
            if ok = true then wpAny (model prog w) A (eval elt env) (fun x s₄ => wpAny (model prog w) A (call (.builtin "list.append") [acc, x]) (fun _ s₅ => ∃ m, m < n ∧ J m s₅) (fun _ _ => False) s₄) (fun _ _ => False) s₃
            else ∃ m, m < n ∧ J m s₃) (fun _ _ => False) s₂) (fun _ _ => False) sg) (fun _ _ => False) s₁) (fun _ _ => False) s)
    (n : Nat) (h : J n s) : codeAny (model prog w) A (.compLoop (.ListComp elt [⟨tg, iter, ifs, 0⟩] scope pos) 0 it acc env) R s := by
  refine codeAny_loop rfl J (fun n s hJ => ?_) n h
  show wpAny _ A ((compTurn (.ListComp elt [⟨tg, iter, ifs, 0⟩] scope pos) 0 it acc env).onRaise (fun x => do noteFrame x env; theTreesLotGoes x)) _ _ s
  refine wpAny_noted ?_
  rw [compTurn_list]
  have no : ∀ {P : Value → Shared → Prop} (a : Value) (s : Shared), (fun (_ : Value) (_ : Shared) => False) a s → P a s := fun _ _ z => False.elim z
  refine wpAny_bind (wpAny_standAt (wpAny_bind (wpAny_mono (turn n s hJ) (fun r s₁ h₁ => ?_) no)))
  cases r with
  | none => exact wpAny_pure h₁
  | some v =>
    refine wpAny_bind (wpAny_mono h₁ (fun _ sg hg => ?_) no)
    refine wpAny_bind (wpAny_mono hg (fun _ s₂ h₂ => wpAny_bind (wpAny_mono h₂ (fun ok s₃ h₃ => ?_) no)) no)
    cases ok with
    | false => exact wpAny_pure ⟨rfl, h₃⟩
    | true => exact wpAny_bind (wpAny_bind (wpAny_mono h₃ (fun x s₄ h₄ => wpAny_bind (wpAny_mono h₄ (fun _ s₅ h₅ => wpAny_pure (wpAny_pure ⟨rfl, h₅⟩)) no)) no))
end

/-- what a comprehension reads: W, the invariant by the turn, a measure, what has been laid, the block's names; D the new list -/
def tComp (wi : TI) (fr : List (Option Nat)) (g : TG) (tt : TT) (te : TE) : TE := fun σ H Q => wi σ H fun J H1 => ∀ D, H1 D = none → ∃ W : Nat → Nat → St → Hp → Prop, (∃ m, W 0 m (startB fr σ) (upd H1 D (.lst []))) ∧ ∀ i m σ H, W i m σ H →
  (J.stop i H ∧ Q (.ref D) H) ∨ (J.go i H ∧ ∀ x H2, J.yld i H x H2 → g x σ H2 fun σ3 H3 => tt σ3 H3 fun b H4 => if b = true
    then te σ3 H4 fun y H5 => ∃ ys, H5 D = some (.lst ys) ∧ ys.length < sizeLine ∧ ∃ m', m' < m ∧ W (i + 1) m' σ3 (upd H5 D (.lst (ys ++ [y])))
    else ∃ m', m' < m ∧ W (i + 1) m' σ3 H4)

section
variable {X : Cx} {elt tg iter : Expr} {ifs : List Expr} {scope : Scope} {pos : Pos} {N : List Str} {fr : List (Option Nat)} {cl : List (Str × Addr)} {wi : TI} {g : TG} {tt : TT} {te : TE}

/-- the block's loop -/
theorem comp_in (B : Blk X N fr scope cl) (hc : X.calm = true)
    (hg : ∀ pins fp s H, PG (cxB X pins N scope cl fp s H) tg g) (ht : ∀ pins fp s H, PTs (cxB X pins N scope cl fp s H) ifs tt) (he : ∀ pins fp s H, PE (cxB X pins N scope cl fp s H) elt te)
    {pins : List (Addr × Obj)} {s3 : Shared} {σ : St} {H3 : Hp} {Q : VK} {it D : Addr} {fp : List Addr} {tn : Nat → Heap → Prop} {J : It} (I3 : Inv X pins σ H3 s3) (T : Turn X.prog X.w X.K tg J fp it tn) (st3 : tn 0 s3.heap) (f3 : ∀ b ∈ fp, FpOk X pins H3 b ∧ b < s3.heap.objs.size)
    {W : Nat → Nat → St → Hp → Prop} {m0 : Nat} (w0 : W 0 m0 (startB fr σ) H3)
    (turn : ∀ i m σ H, W i m σ H → (J.stop i H ∧ Q (.ref D) H) ∨ (J.go i H ∧ ∀ x H2, J.yld i H x H2 → g x σ H2 fun σ3 H3 => tt σ3 H3 fun b H4 => if b = true
        then te σ3 H4 fun y H5 => ∃ ys, H5 D = some (.lst ys) ∧ ys.length < sizeLine ∧ ∃ m', m' < m ∧ W (i + 1) m' σ3 (upd H5 D (.lst (ys ++ [y])))
        else ∃ m', m' < m ∧ W (i + 1) m' σ3 H4))
    {R : Result → Shared → Prop} (hR : ∀ s' H', Inv X pins σ H' s' → FpOk X pins H' s3.heap.objs.size → (∃ m, s'.heap.Ns s3.heap.objs.size m) → Q (.ref D) H' → R (.ok .next) s')
    {h₁ : Heap} {t1 : Nat} (hns : h₁.Ns s3.heap.objs.size fun _ => none) (up3 : ∀ b o, s3.heap.get? b = some o → h₁.get? b = some o) :
    codeAny (model X.prog X.w) X.A (.compLoop (.ListComp elt [⟨tg, iter, ifs, 0⟩] scope pos) 0 (.ref it) (.ref D) (compEnvC scope cl s3.heap.objs.size X.env)) R { s3 with heap := h₁, toks := t1 } := by
  have Ib := blk_start (t1 := t1) B I3 f3 hns up3
  have stat : ∀ {H' : Hp}, (∀ b ∈ fp, H' b = none) → ∀ b ∈ fp, FpOk (cxB X pins N scope cl fp s3 H3) [] H' b := fun hn b hb =>
    ⟨hn b hb, Nat.ne_of_lt (f3 b hb).2, (blk_ok B I3 f3).exfs b hb, .inl hb, fun x c h => (f3 b hb).1.2.2.2.2.1 x c (B.cells x c h), fun p hp => (f3 b hb).1.2.2.2.2.2 p (by rw [List.append_nil] at hp; exact hp)⟩
  refine comp_loop (fun n s' => ∃ i σ' H', Inv (cxB X pins N scope cl fp s3 H3) [] σ' H' s' ∧ tn i s'.heap ∧ (∀ b ∈ fp, H' b = none) ∧ W i n σ' H') ?_ m0
    ⟨0, _, _, Ib, T.keep _ _ _ st3 fun b _ o e => up3 b o e, fun b hb => (f3 b hb).1.1, w0⟩
  rintro n s4 ⟨i, σ4, H4, I4, st4, fr4, w4⟩
  rcases turn i n σ4 H4 w4 with ⟨stop, qn⟩ | ⟨go, step⟩
  · refine thn (T.done (cxB X pins N scope cl fp s3 H3) rfl rfl rfl hc i [] s4 σ4 H4 _ I4 (stat fr4) st4 stop) fun r s5 ⟨hr, I5⟩ => ?_
    subst hr
    have J5 : Inv X pins σ H4 s5 := I3.call' (ch := fp) I5.os I5.base I5.hok I5.bare fun b hb => ⟨(f3 b hb).1.2.2.2.1, (f3 b hb).1.2.1, (f3 b hb).1.2.2.2.2.1, (f3 b hb).1.2.2.2.2.2⟩
    obtain ⟨mm, hmm, _⟩ := I5.loc
    exact hR s5 H4 J5 (I3.fpOk (Nat.le_refl _) I5.free) ⟨mm, hmm⟩ qn
  · refine thn (T.item (cxB X pins N scope cl fp s3 H3) rfl rfl rfl hc i [] s4 σ4 H4 _ I4 (stat fr4) st4 go) fun r s5 ⟨u, hr, h5⟩ => ?_
    subst hr
    refine thn h5 fun _ s6 ⟨x, H6, I6, r6, y6, st6, fr6⟩ => ?_
    have I6' := I6.pinned (stat fr6) (T.obj _ _ st6)
    have back : ∀ {s7 : Shared} {σ7 : St} {H7 : Hp} {m' : Nat}, Inv (cxB X pins N scope cl fp s3 H3) ([] ++ pinsAt fp s6.heap) σ7 H7 s7 → m' < n → W (i + 1) m' σ7 H7 →
        ∃ m, m < n ∧ ∃ i σ' H', Inv (cxB X pins N scope cl fp s3 H3) [] σ' H' s7 ∧ tn i s7.heap ∧ (∀ b ∈ fp, H' b = none) ∧ W i m σ' H' := fun {s7 σ7 H7 m'} I7 hm w7 => by
      refine ⟨m', hm, i + 1, σ7, H7, I7.unpinned, T.keep _ _ _ st6 fun b hb o e => (I7.pin (b, o) (List.mem_append_right _ (List.mem_append_right _ (mem_pinsAt hb e)))).1, fun b hb => ?_, w7⟩
      obtain ⟨o, e, d⟩ := T.obj _ _ st6 b hb
      exact (I7.pin (b, o) (List.mem_append_right _ (List.mem_append_right _ (mem_pinsAt hb e)))).2.1
    refine thn (hg _ _ _ _ _ s6 σ4 H6 x u _ I6' r6 (step x H6 y6)) fun _ s7 ⟨σ7, H7, I7, q7⟩ => ?_
    refine thn (ht _ _ _ _ _ s7 σ7 H7 _ I7 q7) fun ok s8 ⟨H8, I8, q8⟩ => ?_
    cases ok with
    | false =>
      rw [if_neg (by decide)] at q8 ⊢
      obtain ⟨m', hm, w8⟩ := q8
      exact back I8 hm w8
    | true =>
      rw [if_pos rfl] at q8 ⊢
      refine thn (he _ _ _ _ _ s8 σ7 H8 _ I8 q8) fun y s9 ⟨v9, H9, I9, r9, ys, hD9, hl9, m', hm, w9⟩ => ?_
      refine thn (mt_append _ s9 σ7 H9 (.ref D) [v9] _ [y] (fun _ H' => W (i + 1) m' σ7 H') I9 rfl (.cons r9 .nil) ⟨_, ys, v9, rfl, rfl, hD9, hl9, w9⟩) fun _ s10 ⟨_, H10, I10, _, q10⟩ => ?_
      exact back I10 hm q10

/-- the block: from its iterator on -/
theorem comp_blk (B : Blk X N fr scope cl) (hc : X.calm = true)
    (hg : ∀ pins fp s H, PG (cxB X pins N scope cl fp s H) tg g) (ht : ∀ pins fp s H, PTs (cxB X pins N scope cl fp s H) ifs tt) (he : ∀ pins fp s H, PE (cxB X pins N scope cl fp s H) elt te)
    {pins : List (Addr × Obj)} {s2 : Shared} {σ : St} {H2 : Hp} {Q : VK} {E : Value → Shared → Prop} {it : Addr} {fp : List Addr} {tn : Nat → Heap → Prop} {J : It} (I2 : Inv X pins σ H2 s2) (T : Turn X.prog X.w X.K tg J fp it tn) (st2 : tn 0 s2.heap) (f2 : ∀ b ∈ fp, FpOk X pins H2 b)
    (q : ∀ D, H2 D = none → ∃ W : Nat → Nat → St → Hp → Prop, (∃ m, W 0 m (startB fr σ) (upd H2 D (.lst []))) ∧ ∀ i m σ H, W i m σ H →
      (J.stop i H ∧ Q (.ref D) H) ∨ (J.go i H ∧ ∀ x H2, J.yld i H x H2 → g x σ H2 fun σ3 H3 => tt σ3 H3 fun b H4 => if b = true
        then te σ3 H4 fun y H5 => ∃ ys, H5 D = some (.lst ys) ∧ ys.length < sizeLine ∧ ∃ m', m' < m ∧ W (i + 1) m' σ3 (upd H5 D (.lst (ys ++ [y])))
        else ∃ m', m' < m ∧ W (i + 1) m' σ3 H4))
    {RR : Value → Addr → Result → Shared → Prop}
    (hRR : ∀ D C s' H', Inv X pins σ H' s' → FpOk X pins H' C → (∃ m, s'.heap.Ns C m) → Q (.ref D) H' → RR (.ref D) C (.ok .next) s') :
    wpAny (model X.prog X.w) X.A (newList []) (fun acc s₃ => wpAny (model X.prog X.w) X.A (newFunctionEnv scope X.env.globals cl [] X.env.qual none .none (some X.env)) (fun cenv s₄ =>
      codeAny (model X.prog X.w) X.A (.compStart (.ListComp elt [⟨tg, iter, ifs, 0⟩] scope pos) 0 (.ref it) acc { cenv with scope := relabel scope X.env }) (RR acc cenv.locals) s₄) E s₃) E s2 := by
  have hD : H2 s2.heap.objs.size = none := I2.hok.fresh (Nat.le_refl _)
  obtain ⟨W, ⟨m0, w0⟩, turn⟩ := q s2.heap.objs.size hD
  have I3 := I2.lnew (ys := []) (its := []) (t' := s2.toks) .nil (by decide)
  have lt2 : ∀ b ∈ fp, b < s2.heap.objs.size := fun b hb => by
    obtain ⟨o, e, _⟩ := T.obj _ _ st2 b hb
    exact Heap.lt_size e
  refine wpAny_newObj_type (wpAny_newFunctionEnv B.nocell (by intro y hy; simp at hy) (fun h₁ hns hsb => ?_) B.kind)
  have up2 : ∀ b o, s2.heap.get? b = some o → (s2.heap.push { cls := .type "list", data := .seq ([] : List Value).toArray }).get? b = some o := fun b o e => Heap.get?_push_of_some _ e
  have up3 : ∀ b o, (s2.heap.push { cls := .type "list", data := .seq ([] : List Value).toArray }).get? b = some o → h₁.get? b = some o := fun b o e => hsb.extBut b o (Nat.ne_of_lt (Heap.lt_size e)) (Heap.get?_push_of_some _ e)
  have f3 : ∀ b ∈ fp, FpOk X pins (upd H2 s2.heap.objs.size (.lst [])) b ∧ b < (s2.heap.push { cls := .type "list", data := .seq ([] : List Value).toArray }).objs.size := fun b hb => by
    refine ⟨⟨?_, (f2 b hb).2⟩, ?_⟩
    · rw [upd_ne (Nat.ne_of_lt (lt2 b hb))]
      exact (f2 b hb).1
    · rw [Heap.size_push]
      exact Nat.lt_succ_of_lt (lt2 b hb)
  have fin := comp_in (iter := iter) (pos := pos) (D := s2.heap.objs.size) (t1 := s2.toks) (R := RR (.ref s2.heap.objs.size) (s2.heap.push { cls := .type "list", data := .seq ([] : List Value).toArray }).objs.size) B hc hg ht he I3 T (T.keep _ _ _ st2 fun b _ o e => up2 b o e) f3 w0 turn
    (fun s' H' J' f m q => hRR _ _ s' H' J' f m q) hns up3
  exact codeAny_compStart_list fin (T.self _ 0 _ _ _ (T.keep _ _ _ st2 fun b _ o e => up3 b o (up2 b o e)) fin)

/-- [elt for tg in iter if ..] as a value -/
theorem pe_comp {sc : Scope} {NX : List Str} (S : BlkS sc scope NX N fr) (e1 : X.env.scope = sc) (e2 : X.N = NX) (hc : X.calm = true) (hi : PI X tg iter wi)
    (hg : ∀ pins fp s H, PG (cxB X pins N scope (clOf scope X.env) fp s H) tg g) (ht : ∀ pins fp s H, PTs (cxB X pins N scope (clOf scope X.env) fp s H) ifs tt) (he : ∀ pins fp s H, PE (cxB X pins N scope (clOf scope X.env) fp s H) elt te)
    (hs : ∀ x, foldedSetIterable iter X.env x = pure x := by intro _; rfl) : PE X (.ListComp elt [⟨tg, iter, ifs, 0⟩] scope pos) (tComp wi fr g tt te) := by
  intro pins s σ H Q I h
  have B := S.blk e1 e2 I.ok
  rw [eval_ListComp]
  refine wpAny_comprehension_free (use := none) rfl hs B.clos B.kind B.names (thn (hi pins s σ H _ I h) fun v s1 h1 => thn h1 fun itv s2 h2 => ?_)
  obtain ⟨it, fp, tn, J, H2, e, I2, T, st2, f2, q⟩ := h2
  subst e
  refine comp_blk (RR := fun acc C => compPost (model X.prog X.w) X.A X.xe none (EP X pins σ Q) acc C) B hc hg ht he I2 T st2 f2 q ?_
  intro D C s' H' J' fC ⟨m, hm⟩ qn
  refine ⟨m, hm, fun h' hs' => ⟨.ref D, H', ?_, rfl, qn⟩⟩
  obtain ⟨f0, f1, _, f3, f4, f5⟩ := fC
  exact J'.turned (t' := s'.toks) (fun b o hb e => (hs'.2 b hb).trans e) f0 f1 f3 f4 f5
end
end L2

/-! MY OWN RULES, part 3: dict(a list of pairs), list.index, the defs of a text in bundles -/
namespace PySem
namespace F
theorem my_entry_dul : entryFor table "dict.update.loop" = some Builtin.«dict.update.loop» := entryFor_of_tree (by kernel_rfl)
theorem my_plain_dul : plainId "dict.update.loop" = true := by decide +kernel
theorem my_list_keys : typeLookup (.type "list") "keys" = pure none := by rw [typeLookup_type, builtinLookup_eq_fast]; kernel_rfl
end F
section
variable {prog : Program} {w : World} {K : Type} [DecidableEq K] {knd : KeyKind prog w K} {A : Around} {E : Value → Shared → Prop} {s : Shared}
/-- a list has no keys -/
theorem my_no_keys {a : Addr} {xs : Array Value} {k : Nat} {sl : Array (Option Value)} {Q : Option Value → Shared → Prop}
    (hx : s.heap.get? a = some { cls := .type "list", dict := none, data := .seq xs k, slots := sl }) (hA : A.handled = none)
    (h : ∀ h' tk, (∀ b o, s.heap.get? b = some o → h'.get? b = some o) → Q none { s with heap := h', toks := tk }) : wpAny (model prog w) A (getAttr? (.ref a) "keys") Q E s := by
  obtain ⟨hp, g, d, tk, os⟩ := s
  have hT : ∀ tk', (⟨hp, g, d, tk', os⟩ : Shared).TypeIs (.ref a) "list" := fun _ => ⟨_, hx, rfl⟩
  have f1 := sub_AttributeError
  have f3 := F.slot_list_getattribute.lookup
  have f4 := F.slot_list_getattribute.bind (.ref a)
  have f5 := am_list_getattr_none
  unfold getAttr? getAttrBy? getAttrBy
  repeat (any_goals (first | assumption | exact hT _ | ((with_reducible show wpAny _ _ (call (Value.builtin "list.__getattribute__") _ _) _ _ _); refine call_meets F.slot_list_getattribute (hT _) am_entry_list_getattribute (F.args_list_getattribute_2 _ _) (meets_getattribute_miss_list a xs k sl "keys" _ F.my_list_keys (by decide +kernel) (by decide +kernel)) ⟨hx, hA, fun h' tk' e hx' => ?_⟩) | wp_step))
  obtain ⟨t', u', he⟩ := hx'.there
  show wpAny _ _ (getattributeRaised _ _ _ _ _ _ _) _ _ _
  unfold getattributeRaised
  repeat (any_goals (first | assumption | wp_step))
  all_goals exact h h' tk' hx'.keeps

/-- the pairs, one after another; a pair: the tuple's place, its key, the tuple's two items -/
theorem my_dul {d it l : Addr} {res : Value} {R : Result → Shared → Prop} {ps : List (Addr × K × Value × Value)} (hh : A.handled = none) (hdl : d ≠ l) (hdi : d ≠ it) (hil : it ≠ l)
    (hps : ∀ p ∈ ps, p.1 ≠ d ∧ p.1 ≠ it ∧ knd.is p.2.1 p.2.2.1 = true) :
    ∀ (n i : Nat) (s : Shared) (kvs : List (K × Value)), ps.length - i = n → i ≤ ps.length → s.heap.IsListIter it l i → s.heap.IsList l (ps.map fun p => Value.ref p.1).toArray →
      (∀ p ∈ ps, s.heap.IsTuple p.1 #[p.2.2.1, p.2.2.2]) → s.heap.DictOf knd d kvs → kvs.length + (ps.length - i) ≤ sizeLine →
      (∀ h' tk, h'.DictOf knd d ((ps.drop i).foldl (fun acc p => stored acc p.2.1 p.2.2.2) kvs) → (∀ b o, b ≠ d → b ≠ it → s.heap.get? b = some o → h'.get? b = some o) → R (.ok (.ret res)) { s with heap := h', toks := tk }) →
      codeAny (model prog w) A (.builtin "dict.update.loop" ⟨[.ref d, .ref it, rawInt i, res], []⟩) R s := by
  intro n
  induction n with
  | zero =>
    intro i s kvs hn hi hit hl ht hd hsz hR
    refine codeAny_builtin F.my_entry_dul ?_
    rw [Around.under_plainId F.my_plain_dul _]
    show wpAny _ A.in1 (pyNext (.ref it) >>= _) _ _ s
    refine wpAny_bind (wpAny_pyNext_list_end hh hit hl (by simp; omega) fun h' eb => ?_)
    show wpAny _ A.in1 (Builtin.Dict.addKeywords d [] >>= fun _ => ret res) _ _ _
    have e : ps.drop i = [] := List.drop_eq_nil_of_le (by omega)
    rw [e] at hR
    exact wpAny_bind (wpAny_pure (wpAny_pure (hR h' s.toks (hd.extBut eb hdi) fun b o _ hb q => eb b o hb q)))
  | succ n ih =>
    intro i s kvs hn hi hit hl ht hd hsz hR
    have hlt : i < ps.length := by omega
    have hp := ps.get_mem ⟨i, hlt⟩
    have hdr : ps.drop i = ps[i] :: ps.drop (i + 1) := List.drop_eq_getElem_cons hlt
    obtain ⟨n1, n2, hk⟩ := hps _ (List.getElem_mem hlt)
    refine codeAny_builtin F.my_entry_dul ?_
    rw [Around.under_plainId F.my_plain_dul _]
    show wpAny _ A.in1 (pyNext (.ref it) >>= _) _ _ s
    refine wpAny_bind (wpAny_pyNext_list_item hit hl (x := .ref ps[i].1) (by simp [hlt]) fun h1 hit1 sb1 => ?_)
    have ht1 : ∀ p ∈ ps, h1.IsTuple p.1 #[p.2.2.1, p.2.2.2] := fun p hp => by
      obtain ⟨o, q, r⟩ := ht p hp
      exact ⟨o, (sb1.2 _ (hps p hp).2.1).trans q, r⟩
    obtain ⟨o, ho, hc, m, hdat⟩ := ht1 _ (List.getElem_mem hlt)
    have hd1 : h1.DictOf knd d kvs := hd.sameBut sb1 hdi
    have hl1 : h1.IsList l (ps.map fun p => Value.ref p.1).toArray := hl.extBut sb1.extBut (Ne.symm hil)
    show wpAny _ A.in1 (holding [Value.ref ps[i].1] _ >>= _) _ _ _
    refine wpAny_bind (wpAny_holding (wpAny_bind ?_))
    refine wpAny_tryCatch ?_
    unfold Builtin.Dict.pairItems
    refine wpAny_bind (wpAny_typeOf (T := "tuple") ⟨o, ho, hc⟩ ?_)
    rw [if_pos (by decide)]
    refine wpAny_bind (wpAny_seqItems ho hdat (wpAny_pure ?_))
    show wpAny _ A.in1 (holding [ps[i].2.2.1, ps[i].2.2.2] (dictSet d ps[i].2.2.1 ps[i].2.2.2)) _ _ _
    refine wpAny_holding (wpAny_dictSet_pairs hk hd1 (fun h2 hd2 sb2 => ?_) (by omega))
    have hc1 : ((i : Int) + 1) = ((i + 1 : Nat) : Int) := by push_cast; rfl
    have up : ∀ b o, b ≠ d → b ≠ it → s.heap.get? b = some o → h2.get? b = some o := fun b o q1 q2 q => (sb2.2 b q1).trans ((sb1.2 b q2).trans q)
    refine wpAny_pure ⟨plainId_quiet F.my_plain_dul _, ?_⟩
    show codeAny _ _ (.builtin "dict.update.loop" ⟨[.ref d, .ref it, rawInt ((i : Int) + 1), res], []⟩) _ _
    rw [hc1]
    refine ih (i + 1) _ _ (by omega) hlt ?_ ?_ ?_ hd2 ?_ ?_
    · obtain ⟨oi, q, r⟩ := hit1
      exact ⟨oi, (sb2.2 _ (Ne.symm hdi)).trans q, r⟩
    · exact hl1.extBut sb2.extBut (Ne.symm hdl)
    · intro p hp
      obtain ⟨o', q, r⟩ := ht1 p hp
      exact ⟨o', (sb2.2 _ (hps p hp).1).trans q, r⟩
    · have := stored_length_le kvs ps[i].2.1 ps[i].2.2.2
      omega
    · intro h' tk hd' keep
      refine hR h' tk ?_ fun b o q1 q2 q => keep b o q1 q2 (up b o q1 q2 q)
      rw [hdr]
      exact hd'
end
end PySem

namespace PySem
section
variable {prog : Program} {w : World} {K : Type} [DecidableEq K] {knd : KeyKind prog w K} {A : Around} {E : Value → Shared → Prop} {s : Shared}
theorem my_call_dict_pairs {l : Addr} {n : Nat} {sl : Array (Option Value)} {ps : List (Addr × K × Value × Value)} {Q : Value → Shared → Prop} (hh : A.handled = none)
    (hl : s.heap.get? l = some { cls := .type "list", dict := none, data := .seq (ps.map fun p => Value.ref p.1).toArray n, slots := sl })
    (ht : ∀ p ∈ ps, s.heap.IsTuple p.1 #[p.2.2.1, p.2.2.2] ∧ knd.is p.2.1 p.2.2.1 = true) (hsz : ps.length ≤ sizeLine)
    (h : ∀ h' tk, h'.DictOf knd s.heap.objs.size (ps.foldl (fun acc p => stored acc p.2.1 p.2.2.2) []) → (∀ b o, s.heap.get? b = some o → h'.get? b = some o) → Q (.ref s.heap.objs.size) { s with heap := h', toks := tk }) :
    wpAny (model prog w) A (call (.type "dict") [.ref l]) Q E s := by
  refine callType_codes (Q₁ := fun obj s₁ => obj = .ref s.heap.objs.size ∧ s₁ = { s with heap := s.heap.push { cls := .type "dict", data := .dict #[] } }) F.kt_called_dict (F.kt_typeCall_dict_1 _) F.entry_dict_init (kt_code_dict_new _ ⟨rfl, rfl⟩) ?_
  rintro obj s₁ ⟨rfl, rfl⟩
  have hnew : (s.heap.push { cls := .type "dict", data := .dict #[] }).DictOf knd s.heap.objs.size [] := Heap.DictOf.new s.heap
  have up : ∀ b o, s.heap.get? b = some o → (s.heap.push { cls := .type "dict", data := .dict #[] }).get? b = some o := fun b o q => Heap.get?_push_of_some _ q
  have hl1 := up _ _ hl
  refine ⟨hnew.typeIs, F.args_dict_init_2 _ _, ?_⟩
  unfold Builtin.«dict.__init__»
  refine wpAny_bind ?_
  unfold Builtin.Dict.selfAndRest
  refine wpAny_bind (wpAny_notOrdered_dict hnew.typeIs ?_)
  show wpAny _ _ (pure (s.heap.objs.size, [Value.ref l])) _ _ _
  refine wpAny_pure ?_
  show wpAny _ _ (Builtin.Dict.updateFrom "dict.__init__" s.heap.objs.size (.ref l) [] .none) _ _ _
  unfold Builtin.Dict.updateFrom
  refine wpAny_bind (wpAny_typeOf (T := "list") ⟨_, hl1, rfl⟩ ?_)
  rw [if_pos (by decide)]
  refine wpAny_bind (my_no_keys hl1 hh fun h2 tk2 k2 => ?_)
  rw [if_pos (show (none : Option Value).isNone = true from rfl)]
  refine wpAny_bind (wpAny_rule ?_)
  have hl2 := k2 _ _ hl1
  have isl : h2.IsList l (ps.map fun p => Value.ref p.1).toArray := ⟨_, hl2, rfl, n, rfl⟩
  have hlo : l < s.heap.objs.size := Heap.lt_size hl
  have sz : s.heap.objs.size + 1 ≤ h2.objs.size := by
    obtain ⟨o, es, ep, q, r⟩ := id hnew
    exact Heap.lt_size (k2 _ _ q)
  refine wpAny_bind (wpAny_pyIter_list isl ?_)
  refine wpAny_pure ⟨plainId_quiet F.my_plain_dul _, ?_⟩
  have up3 : ∀ b o, s.heap.get? b = some o → (h2.push { cls := .type "list_iterator", data := .fields #[.ref l, .int 0 0] }).get? b = some o := fun b o q => Heap.get?_push_of_some _ (k2 _ _ (up b o q))
  refine my_dul (A := A.in1) (knd := knd) (l := l) (ps := ps) hh (Nat.ne_of_gt hlo) (Nat.ne_of_lt sz) (Nat.ne_of_gt (Nat.lt_of_lt_of_le hlo (Nat.le_of_lt sz))) (fun p hp => ?_) ps.length 0 _ [] (by omega) (Nat.zero_le _) ?_ ?_ ?_ ?_ ?_ ?_
  · obtain ⟨⟨o, q, _⟩, hk⟩ := ht p hp
    have := Heap.lt_size q
    exact ⟨Nat.ne_of_lt this, Nat.ne_of_lt (Nat.lt_trans this sz), hk⟩
  · exact ⟨_, Heap.get?_push_size _ rfl, rfl, rfl⟩
  · exact ⟨_, Heap.get?_push_of_some _ hl2, rfl, n, rfl⟩
  · intro p hp
    obtain ⟨⟨o, q, r⟩, hk⟩ := ht p hp
    exact ⟨o, up3 _ _ q, r⟩
  · obtain ⟨o, es, ep, q, r⟩ := hnew
    exact ⟨o, es, ep, Heap.get?_push_of_some _ (k2 _ _ q), r⟩
  · simpa using hsz
  · intro h' tk hd' keep
    refine ⟨rfl, h h' tk hd' fun b o q => ?_⟩
    have := Heap.lt_size q
    exact keep b o (Nat.ne_of_lt this) (Nat.ne_of_lt (Nat.lt_trans this sz)) (up3 b o q)
end
end PySem

namespace L2
open PySem PySem.Spec PyProof.Rows
theorem vals_refs : ∀ {as : List Addr} {us : List Value}, Vals (as.map V.ref) us → us = as.map Value.ref
  | [], _, .nil => rfl
  | a :: r, _, .cons h t => by
    rw [vals_refs t]
    exact congrArg (· :: r.map Value.ref) (show _ = Value.ref a from h)
/-- the pairs that a list of tuples holds, with the values that stand there -/
theorem pairs_of {P : Program} {w : World} {H : Hp} {h : Heap} (ok : HOk P w H h) : ∀ {ps : List (Addr × Key × V)}, (∀ p ∈ ps, H p.1 = some (.tup [kV p.2.1, p.2.2])) →
    ∃ qs : List (Addr × Key × Value × Value), Paired (fun (p : Addr × Key × V) (q : Addr × Key × Value × Value) => p.1 = q.1 ∧ p.2.1 = q.2.1 ∧ RelV p.2.2 q.2.2.2) ps qs ∧ ∀ q ∈ qs, h.IsTuple q.1 #[q.2.2.1, q.2.2.2] ∧ (mixKind P w).is q.2.1 q.2.2.1 = true
  | [], _ => ⟨[], .nil, fun q hq => by cases hq⟩
  | (a, k, v) :: r, hp => by
    obtain ⟨qs, pr, hq⟩ := pairs_of ok (ps := r) fun p hp' => hp p (List.mem_cons_of_mem _ hp')
    obtain ⟨_, its, vs, tu⟩ := (show ObjOk P w H h a (.tup [kV k, v]) from ok a _ (hp (a, k, v) (List.mem_cons_self ..)))
    obtain ⟨u1, u2, rfl, r1, r2⟩ := vals2 vs
    refine ⟨(a, k, u1, u2) :: qs, .cons ⟨rfl, rfl, r2⟩ pr, fun q hq' => ?_⟩
    rcases List.mem_cons.mp hq' with rfl | z
    · exact ⟨tu, kV_is r1⟩
    · exact hq q z
theorem pairs_refs : ∀ {ps : List (Addr × Key × V)} {qs : List (Addr × Key × Value × Value)}, Paired (fun (p : Addr × Key × V) (q : Addr × Key × Value × Value) => p.1 = q.1 ∧ p.2.1 = q.2.1 ∧ RelV p.2.2 q.2.2.2) ps qs → (ps.map fun p => Value.ref p.1) = qs.map fun q => Value.ref q.1
  | _, _, .nil => rfl
  | _, _, .cons h t => by
    rw [List.map_cons, List.map_cons, pairs_refs t, h.1]
theorem pairs_fold : ∀ {ps : List (Addr × Key × V)} {qs : List (Addr × Key × Value × Value)} {kvs : List (Key × V)} {vs : List (Key × Value)}, Paired (fun (p : Addr × Key × V) (q : Addr × Key × Value × Value) => p.1 = q.1 ∧ p.2.1 = q.2.1 ∧ RelV p.2.2 q.2.2.2) ps qs → KV kvs vs →
    KV (mergeK kvs (ps.map (·.2))) (qs.foldl (fun acc q => stored acc q.2.1 q.2.2.2) vs)
  | _, _, _, _, .nil, h => h
  | _, _, kvs, vs, .cons (b := q) (a := p) h t, r => by
    obtain ⟨h1, h2, h3⟩ := h
    have u : KV (putK kvs p.2.1 p.2.2) (stored vs q.2.1 q.2.2.2) := by
      rw [← h2]
      exact r.put p.2.1 h3
    have z := pairs_fold t u
    exact z
theorem call_dictP {X : Cx} (hc : X.calm = true) : CallR X (.type "dict") (fun xs H Q => ∃ l, ∃ ps : List (Addr × Key × V), xs = [.ref l] ∧ H l = some (.lst (ps.map fun p => .ref p.1)) ∧ (∀ p ∈ ps, H p.1 = some (.tup [kV p.2.1, p.2.2])) ∧
    ∀ q, H q = none → Q (.ref q) (upd H q (.dK (mergeK [] (ps.map (·.2)))))) := by
  intro pins s σ H xs us Q I r h
  obtain ⟨l, ps, rfl, hl, hp, q⟩ := h
  obtain ⟨u, rfl, ru⟩ := vals1 r
  cases ru
  obtain ⟨z, its, n, vs, _, e⟩ := I.lstM hl
  obtain ⟨qs, pr, hq⟩ := pairs_of I.hok hp
  have e1 : its = qs.map fun q => Value.ref q.1 := by
    rw [← pairs_refs pr]
    have := vals_refs (as := ps.map (·.1)) (us := its) (by rw [List.map_map]; exact vs)
    rw [this, List.map_map]; rfl
  subst e1
  have zl : qs.length ≤ sizeLine := by
    rw [← pr.length]
    rwa [List.length_map] at z
  refine my_call_dict_pairs (ps := qs) (I.ok.hd hc) e hq zl fun h' tk dd keep => ?_
  have kv := pairs_fold (kvs := []) (vs := []) pr .nil
  have zz : (mergeK [] (ps.map (·.2))).length ≤ sizeLine := by
    have := length_mergeK (ps.map (·.2)) []
    rw [List.length_map] at this
    have := pr.length
    simp only [List.length_nil] at *
    omega
  exact ⟨.ref s.heap.objs.size, _, I.laid (a := s.heap.objs.size) (o := .dK (mergeK [] (ps.map (·.2)))) (t' := tk) keep (Nat.le_refl _) (dk_new zz (beq_eq_false_iff_ne.mpr (Ne.symm (Nat.ne_of_lt I.big))) kv dd), rfl, q _ (I.hok.fresh (Nat.le_refl _))⟩

/-! ### xs.index(y): flat items -/
def rIndex (K : PySem.W.Frag) : V → List V → Hp → VK → Prop := fun x vs H Q => ∃ l xs y, ∃ j : Nat, x = .ref l ∧ vs = [y] ∧ SqL K H l xs ∧ xs.all flatV = true ∧ flatV y = true ∧ xs.findIdx? (fun z => eqV z y) = some j ∧ Q (.int j) H
theorem mt_index {X : Cx} : MtR X "list.index" (rIndex X.K) := by
  intro pins s σ H x vs v us Q I rx rv h
  obtain ⟨l, xs, y, j, rfl, rfl, hS, fl, fy, hj, q⟩ := h
  cases rx
  obtain ⟨u, rfl, ru⟩ := rv.one
  obtain ⟨its, r, p, z⟩ := I.list hS
  obtain ⟨o, ho, hcl, n, hd⟩ := p.isList
  obtain ⟨c, dd, dt, sl⟩ := o
  simp only at hcl hd
  subst hcl hd
  obtain ⟨hj1, hj2, hj3⟩ := List.findIdx?_eq_some_iff_getElem.mp hj
  have hlen := r.length
  have all : ∀ i (h1 : i < xs.length) (h2 : i < its.length), eqU y its[i] = eqV xs[i] y := fun i h1 h2 => by
    obtain ⟨w', hw, rw'⟩ := r.get (List.getElem?_eq_getElem h1)
    rw [List.getElem?_eq_getElem h2] at hw
    have e : its[i] = w' := Option.some.inj hw
    rw [e]
    exact eqU_of rw' (List.all_eq_true.mp fl _ (List.getElem_mem h1))
  refine call_meets F.slot_list_index ⟨_, ho, rfl⟩ F.entry_list_index (F.args_list_index_2 _ _) (SeqAt.list_indexAt l its.toArray n dd sl u (eqU y) j (by rw [List.size_toArray]; omega) ?_ ?_ ?_) ⟨ho, ?_, ?_⟩
  · have : (sizeLine : Nat) < 2 ^ 63 := line63
    omega
  · rw [List.getElem_toArray, all j hj1 (by omega)]
    exact hj2
  · intro m hm hmj
    rw [List.size_toArray] at hm
    rw [List.getElem_toArray, all m (by omega) hm]
    have := hj3 m hmj
    simpa using this
  · intro y' hy'
    exact mem_eqAt ru fy r fl y' (by simpa using hy')
  · exact ⟨.int j, H, I.tok _, ⟨_, rfl⟩, q⟩
end L2

/-! MY OWN RULES, part 4: the defs of a text in bundles; small helps -/
namespace L2
open PySem PySem.Spec PyProof.Rows

/-- a def, with any defaults -/
structure FunD (K : PySem.W.Frag) (x qual : Str) (st : Stmt) (f : Addr) (fd : FuncData) (dV : Value) : Prop where
  ex : ∃ (oc : Value) (od : Option Addr) (kV doc pm : Value) (an : Option Addr) (cdv ct : Value) (osl : Array (Option Value)),
    fd = PySem.W.fnOf x qual (defArgs st) (defBody st) (defScope st) dV kV doc pm an cdv ct ∧ K.lookup f = some ⟨oc, od, .func fd, osl⟩ ∧ PySem.W.codeIn K cdv qual = true
  kp : PySem.W.keepIn K (.ref f) = true
section
variable {P : Program} {w : World} {K : PySem.W.Frag} {mg : Str → Option Value} {base : Heap}
theorem FunD.ok {x qual : Str} {st : Stmt} {f : Addr} {fd : FuncData} {dV : Value} {N ps : List Str} {k : Nat} {sp : Sp} (F : FunD K x qual st f fd dV) (S : FnScope N ps (defScope st)) (len : ∀ vs H Q E, sp vs H Q E → vs.length = ps.length)
    (hbody : ∀ (cdv : Value) (A : Around) (outer : List Env) (s : Shared) (H : Hp) (vs : List V) (Q : VK) (E : XK), Room k (A.deeper (envOfC qual (defScope st) s.heap.objs.size f cdv)) → sp vs H Q E →
      ∃ t, PSs (cxOf CX0 P w K mg base N qual (defScope st) f cdv A outer s H E).nox (defBody st) t ∧ t { nx := fun _ H' => Q .non H', rt := Q } (start N vs) H) : FnOk P w K mg base CX0 (k + 1) f fd ps sp := by
  obtain ⟨oc, od, kV, doc, pm, an, cdv, ct, osl, rfl, lk, hcd⟩ := F.ex
  refine fn_of lk hcd S len fun A outer s H vs Q E hr hsp => ?_
  obtain ⟨t, h, q⟩ := hbody cdv A outer s H vs Q E hr hsp
  exact ⟨t, h.nox, q⟩
theorem funD_mk {x qual : Str} {st : Stmt} {f : Addr} {oc dV : Value} {od an : Option Addr} {osl : Array (Option Value)} {kV doc pm cdv ct : Value} (l : K.lookup f = some ⟨oc, od, .func (PySem.W.fnOf x qual (defArgs st) (defBody st) (defScope st) dV kV doc pm an cdv ct), osl⟩)
    (c : PySem.W.codeIn K cdv qual = true) (k : PySem.W.keepIn K (.ref f) = true) : FunD K x qual st f (PySem.W.fnOf x qual (defArgs st) (defBody st) (defScope st) dV kV doc pm an cdv ct) dV := ⟨⟨oc, od, kV, doc, pm, an, cdv, ct, osl, rfl, l, c⟩, k⟩

/-- a def of the module, as it stands behind the top; as it may be called -/
def Def (K : PySem.W.Frag) (mg : Str → Option Value) (x q : Str) (st : Stmt) (ps : List Str) : Prop := ∃ f fd, Fun K x q st f fd ∧ Binds K fd ps [] ∧ mg x = some (.ref f)
structure Cal (P : Program) (w : World) (K : PySem.W.Frag) (mg : Str → Option Value) (base : Heap) (k : Nat) (x : Str) (ps : List Str) (sp : Sp) (f : Addr) (fd : FuncData) : Prop where
  ok : FnOk P w K mg base CX0 k f fd ps sp
  kp : PySem.W.keepIn K (.ref f) = true
  b : Binds K fd ps []
  g : mg x = some (.ref f)
def CalE (P : Program) (w : World) (K : PySem.W.Frag) (mg : Str → Option Value) (base : Heap) (k : Nat) (x : Str) (ps : List Str) (sp : Sp) : Prop := ∃ f fd, Cal P w K mg base k x ps sp f fd
theorem Def.cal {x q : Str} {st : Stmt} {N ps : List Str} {k : Nat} {sp : Sp} (D : Def K mg x q st ps) (S : FnScope N ps (defScope st)) (len : ∀ vs H Q E, sp vs H Q E → vs.length = ps.length)
    (hbody : ∀ (f : Addr) (cdv : Value) (A : Around) (outer : List Env) (s : Shared) (H : Hp) (vs : List V) (Q : VK) (E : XK), Room k (A.deeper (envOfC q (defScope st) s.heap.objs.size f cdv)) → sp vs H Q E →
      ∃ t, PSs (cxOf CX0 P w K mg base N q (defScope st) f cdv A outer s H E).nox (defBody st) t ∧ t { nx := fun _ H' => Q .non H', rt := Q } (start N vs) H) : CalE P w K mg base (k + 1) x ps sp := by
  obtain ⟨f, fd, F, b, g⟩ := D
  exact ⟨f, fd, F.ok S len (hbody f), F.kp, b, g⟩
/-- a method -/
def DefM (K : PySem.W.Frag) (C : Addr) (m q : Str) (st : Stmt) (ps : List Str) : Prop := ∃ f fd, Fun K m q st f fd ∧ Binds K fd ps [] ∧ Meth K C m f
structure CalM (P : Program) (w : World) (K : PySem.W.Frag) (mg : Str → Option Value) (base : Heap) (k : Nat) (C : Addr) (m : Str) (ps : List Str) (sp : Sp) (f : Addr) (fd : FuncData) : Prop where
  ok : FnOk P w K mg base CX0 k f fd ps sp
  m : Meth K C m f
  b : Binds K fd ps []
def CalME (P : Program) (w : World) (K : PySem.W.Frag) (mg : Str → Option Value) (base : Heap) (k : Nat) (C : Addr) (m : Str) (ps : List Str) (sp : Sp) : Prop := ∃ f fd, CalM P w K mg base k C m ps sp f fd
theorem DefM.cal {C : Addr} {m q : Str} {st : Stmt} {N ps : List Str} {k : Nat} {sp : Sp} (D : DefM K C m q st ps) (S : FnScope N ps (defScope st)) (len : ∀ vs H Q E, sp vs H Q E → vs.length = ps.length)
    (hbody : ∀ (f : Addr) (cdv : Value) (A : Around) (outer : List Env) (s : Shared) (H : Hp) (vs : List V) (Q : VK) (E : XK), Room k (A.deeper (envOfC q (defScope st) s.heap.objs.size f cdv)) → sp vs H Q E →
      ∃ t, PSs (cxOf CX0 P w K mg base N q (defScope st) f cdv A outer s H E).nox (defBody st) t ∧ t { nx := fun _ H' => Q .non H', rt := Q } (start N vs) H) : CalME P w K mg base (k + 1) C m ps sp := by
  obtain ⟨f, fd, F, b, g⟩ := D
  exact ⟨f, fd, F.ok S len (hbody f), g, b⟩
/-- a class's __init__, with int defaults ds for its last parameters: any tail of them may be left to it -/
def DefI (K : PySem.W.Frag) (C : Addr) (q : Str) (st : Stmt) (ps : List Str) (ds : List Int) : Prop := ∃ f fd dV, FunD K "__init__" q st f fd dV ∧ Mk K C f ∧ ∀ j, j ≤ ds.length → ∃ us, Vals ((ds.drop j).map V.int) us ∧ Binds K fd ps us
structure CalI (P : Program) (w : World) (K : PySem.W.Frag) (mg : Str → Option Value) (base : Heap) (k : Nat) (C : Addr) (ps : List Str) (ds : List Int) (sp : Sp) (f : Addr) (fd : FuncData) : Prop where
  ok : FnOk P w K mg base CX0 k f fd ps sp
  m : Mk K C f
  b : ∀ j, j ≤ ds.length → ∃ us, Vals ((ds.drop j).map V.int) us ∧ Binds K fd ps us
def CalIE (P : Program) (w : World) (K : PySem.W.Frag) (mg : Str → Option Value) (base : Heap) (k : Nat) (C : Addr) (ps : List Str) (ds : List Int) (sp : Sp) : Prop := ∃ f fd, CalI P w K mg base k C ps ds sp f fd
theorem DefI.cal {C : Addr} {q : Str} {st : Stmt} {N ps : List Str} {ds : List Int} {k : Nat} {sp : Sp} (D : DefI K C q st ps ds) (S : FnScope N ps (defScope st)) (len : ∀ vs H Q E, sp vs H Q E → vs.length = ps.length)
    (hbody : ∀ (f : Addr) (cdv : Value) (A : Around) (outer : List Env) (s : Shared) (H : Hp) (vs : List V) (Q : VK) (E : XK), Room k (A.deeper (envOfC q (defScope st) s.heap.objs.size f cdv)) → sp vs H Q E →
      ∃ t, PSs (cxOf CX0 P w K mg base N q (defScope st) f cdv A outer s H E).nox (defBody st) t ∧ t { nx := fun _ H' => Q .non H', rt := Q } (start N vs) H) : CalIE P w K mg base (k + 1) C ps ds sp := by
  obtain ⟨f, fd, dV, F, g, b⟩ := D
  exact ⟨f, fd, F.ok S len (hbody f), g, b⟩
end
theorem Same.new {H : Hp} {p : Addr} {o : HO} (h : H p = none) : Same H (upd H p o) := fun b q e => by
  rw [upd_ne (ne_of_none e h)]; exact e
theorem Same.not {H H' : Hp} (e : Same H H') {b p : Addr} {o : HO} (h : H b = some o) (n : H' p = none) : b ≠ p := ne_of_none (e b o h) n
/-- lists of ints, read -/
theorem int_at {ns : List Int} {i : Nat} {y : V} (h : (ns.map V.int)[i]? = some y) : ∃ z, ns[i]? = some z ∧ y = V.int z := by
  rw [List.getElem?_map] at h
  cases e : ns[i]? with
  | none => rw [e] at h; cases h
  | some z => rw [e] at h; exact ⟨z, rfl, (Option.some.inj h).symm⟩
end L2
namespace L2
open PySem
theorem bt_len : bootBuiltins "len" = some (.builtin "len") := PySem.boot_len
theorem bt_isinstance : bootBuiltins "isinstance" = some (.builtin "isinstance") := by decide +kernel
theorem bt_int : bootBuiltins "int" = some (.type "int") := by decide +kernel
theorem bt_str : bootBuiltins "str" = some (.type "str") := by decide +kernel
theorem bt_bool : bootBuiltins "bool" = some (.type "bool") := by decide +kernel
theorem bt_list : bootBuiltins "list" = some (.type "list") := by decide +kernel
theorem bt_dict : bootBuiltins "dict" = some (.type "dict") := by decide +kernel
theorem bt_sum : bootBuiltins "sum" = some (.builtin "sum") := by decide +kernel
theorem bt_tuple : bootBuiltins "tuple" = some (.type "tuple") := by decide +kernel
theorem iteP {c A B : Prop} [Decidable c] (hc : c) (h : A) : if decide c = true then A else B := by
  rw [if_pos (decide_eq_true hc)]; exact h
theorem iteN {c A B : Prop} [Decidable c] (hc : ¬ c) (h : B) : if decide c = true then A else B := by
  rw [if_neg (by rw [decide_eq_false hc]; decide)]; exact h
/-- an item of a written list at a place in its bounds -/
theorem atI_in {α : Type} {xs : List α} {i : Int} (h0 : 0 ≤ i) (h1 : i < xs.length) : ∃ v, v ∈ xs ∧ atI xs i = some v := by
  have hl : i.toNat < xs.length := by omega
  refine ⟨xs[i.toNat], List.getElem_mem hl, ?_⟩
  have := atI_nat (List.getElem?_eq_getElem hl)
  rwa [Int.toNat_of_nonneg h0] at this
theorem str_app_len (x y : Str) : (x ++ y).length = x.length + y.length := by
  show (x.cps ++ y.cps).size = _
  rw [Array.size_append]; rfl
theorem small_log {n : Int} (h1 : 0 ≤ n) (h2 : n < 2 ^ 64) : n.natAbs.log2 < 1920 := by
  by_cases h : n.natAbs = 0
  · rw [h]; decide
  · have := (Nat.log2_lt h (k := 64)).mpr (by omega)
    omega
end L2
namespace L2
open PySem PySem.Spec PyProof.Rows
/-- written constants, one after another -/
inductive CstEs : List Expr → List V → Prop where
  | nil : CstEs [] []
  | int {i : Int} {j} {pos : Pos} {es : List Expr} {vs : List V} (t : CstEs es vs) : CstEs (.Constant (.int i) j pos :: es) (.int i :: vs)
  | str {x : Str} {j} {pos : Pos} {es : List Expr} {vs : List V} (t : CstEs es vs) : CstEs (.Constant (.str x) j pos :: es) (.str x :: vs)
def tCsts (vs : List V) : TA := fun _ H Q => Q vs H
theorem pa_csts {X : Cx} {es : List Expr} {vs : List V} (h : CstEs es vs) : PA X es (tCsts vs) := by
  induction h with
  | nil => exact pa_nil
  | int t ih => exact fun pos pins s σ H Q I q => pa_cons pe_int ih rfl pos pins s σ H Q I q
  | str t ih => exact fun pos pins s σ H Q I q => pa_cons pe_str ih rfl pos pins s σ H Q I q
/-! ### isinstance's answers -/
section
variable {K : PySem.W.Frag}
theorem kit_same {T : String} : PySem.W.kitOne K (.type T) (.type T) = some true := by
  unfold PySem.W.kitOne
  rw [if_pos (by simp)]
theorem kit_bt {T U : String} {b : Bool} (h1 : (Value.type T == Value.type U) = false) (h2 : PySem.W.kitMeta U = true) (h3 : (fastBuiltinMro T).map (·.contains (Value.type U)) = some b) : PySem.W.kitOne K (.type T) (.type U) = some b := by
  unfold PySem.W.kitOne
  rw [if_neg (by rw [h1]; decide)]
  unfold PySem.W.kitCls
  dsimp only
  rw [if_pos h2]
  exact h3
theorem kit_int_bool : PySem.W.kitOne K (.type "int") (.type "bool") = some false := kit_bt (by decide +kernel) (by decide +kernel) (by decide +kernel)
theorem kit_own {C P : Addr} {cd : ClassData} (h1 : PySem.W.clsIn K P = some cd) (h2 : PySem.W.typeIn K (.ref P) = some (.type "type")) (h3 : PySem.W.mroIn K C (.ref P) = some true) : PySem.W.kitOne K (.ref C) (.ref P) = some true := by
  unfold PySem.W.kitOne
  by_cases e : (Value.ref C == Value.ref P) = true
  · rw [if_pos e]
  · rw [if_neg e]
    unfold PySem.W.kitCls
    dsimp only
    rw [if_pos (by rw [h1, h2, Option.isSome_some, Bool.true_and]; decide +kernel)]
    exact h3
end
end L2

/-! MY OWN RULES, part 5: y = [..], sum, join, == of lists -/
namespace L2
open PySem PySem.Spec PyProof.Rows
section
variable {X : Cx} {elt tg iter : Expr} {ifs : List Expr} {scope : Scope} {pos spos py : Pos} {N : List Str} {fr : List (Option Nat)} {wi : TI} {g : TG} {tt : TT} {te : TE}
/-- y = [elt for tg in iter if ..]: the name is stored ahead of the block's end -/
theorem ps_setC {i : Nat} {y : Str} {sc : Scope} {NX : List Str} (hN : X.N.Nodup) (hi' : X.N[i]? = some y) (hy : Loc X.env.scope y) (S : BlkS sc scope NX N fr) (e1 : X.env.scope = sc) (e2 : X.N = NX) (hc : X.calm = true) (hi : PI X tg iter wi)
    (hg : ∀ pins fp s H, PG (cxB X pins N scope (clOf scope X.env) fp s H) tg g) (ht : ∀ pins fp s H, PTs (cxB X pins N scope (clOf scope X.env) fp s H) ifs tt) (he : ∀ pins fp s H, PE (cxB X pins N scope (clOf scope X.env) fp s H) elt te)
    (hsw : swapsWith (.ListComp elt [⟨tg, iter, ifs, 0⟩] scope pos) (some (.Name y py)) spos.line X.env = pure true := by rfl) (hs : ∀ x, foldedSetIterable iter X.env x = pure x := by intro _; rfl)
    (hf : X.fn y = true ∨ X.env.scope.names.lookup y = some .local := by first | exact .inl rfl | exact .inr rfl | assumption) :
    PS X (.Assign [.Name y py] (.ListComp elt [⟨tg, iter, ifs, 0⟩] scope pos) spos) (tAsg (tComp wi fr g tt te) (gName i)) := by
  intro pins s σ H D I h
  have B := S.blk e1 e2 I.ok
  rw [exec_Assign_Name_used _ _ _ _ hsw]
  refine wpAny_bind (wpAny_standAt (wpAny_bind ?_))
  show wpAny _ X.A (do let _ ← comprehension (.ListComp elt [⟨tg, iter, ifs, 0⟩] scope pos) scope X.env _ (newList []) false (eval iter X.env) (some (assign (.Name y py) X.env))) _ _ s
  refine wpAny_bind (wpAny_mono (wpAny_comprehension_free (use := some (assign (.Name y py) X.env)) (Q := fun _ s' => SP X pins D .next s') rfl hs B.clos B.kind B.names (thn (hi pins s σ H _ I h) fun v s1 h1 => thn h1 fun itv s2 h2 => ?_)) (fun _ s' hq => wpAny_pure (wpAny_pure hq)) fun _ _ e => e)
  obtain ⟨it, fp, tn, J, H2, e, I2, T, st2, f2, q⟩ := h2
  subst e
  refine comp_blk (Q := fun v H' => gName i v σ H' D.nx) (RR := fun acc C => compPost (model X.prog X.w) X.A X.xe (some (assign (.Name y py) X.env)) (fun _ s' => SP X pins D .next s') acc C) B hc hg ht he I2 T st2 f2 q ?_
  intro D' C s' H' J' fC ⟨m, hm⟩ qn
  obtain ⟨f0, f1, _, f3, f4, f5⟩ := fC
  show wpAny _ X.A (assign (.Name y py) X.env (.ref D')) _ _ _
  refine wpAny_assign_Name (store_ok2 J' hN hi' hy (v := .ref D') rfl (fun s'' J'' ⟨a, sb, ha⟩ => ?_) hf)
  have hCa : C ≠ a := by
    rcases ha with z | z
    · rw [z]; exact f1
    · exact fun w' => f4 _ _ z w'.symm
  refine ⟨m, hm.sameBut sb hCa, fun h' hs' => ⟨_, H', ?_, qn⟩⟩
  exact J''.turned (t' := s''.toks) (fun b o hb e => (hs'.2 b hb).trans e) f0 f1 f3 f4 f5
end
/-- a comprehension over a list that its block leaves as it is -/
theorem comp_list {K : PySem.W.Frag} {a D : Addr} {xs : List V} {g : TG} {tt : TT} {te : TE} {Q : Hp → Prop} {σ : St} {H : Hp} (Pv : Nat → St → Hp → Prop) (h0 : Pv 0 σ H) (hl : ∀ i σ H, i ≤ xs.length → Pv i σ H → SqL K H a xs)
    (hs : ∀ i x σ H, xs[i]? = some x → Pv i σ H → ∀ N : St → Hp → Prop, (∀ σ' H', Pv (i + 1) σ' H' → N σ' H') → g x σ H fun σ3 H3 => tt σ3 H3 fun b H4 => if b = true then te σ3 H4 fun y H5 => ∃ ys, H5 D = some (.lst ys) ∧ ys.length < sizeLine ∧ N σ3 (upd H5 D (.lst (ys ++ [y]))) else N σ3 H4)
    (hd : ∀ σ H, Pv xs.length σ H → Q H) :
    ∃ W : Nat → Nat → St → Hp → Prop, (∃ m, W 0 m σ H) ∧ ∀ i m σ H, W i m σ H → ((Itl K a).stop i H ∧ Q H) ∨ ((Itl K a).go i H ∧ ∀ x H2, (Itl K a).yld i H x H2 → g x σ H2 fun σ3 H3 => tt σ3 H3 fun b H4 => if b = true
      then te σ3 H4 fun y H5 => ∃ ys, H5 D = some (.lst ys) ∧ ys.length < sizeLine ∧ ∃ m', m' < m ∧ W (i + 1) m' σ3 (upd H5 D (.lst (ys ++ [y])))
      else ∃ m', m' < m ∧ W (i + 1) m' σ3 H4) := by
  refine ⟨fun i m σ H => m + i = xs.length ∧ Pv i σ H, ⟨xs.length, rfl, h0⟩, ?_⟩
  rintro i m σ H ⟨hm, hp⟩
  have sq := hl i σ H (by omega) hp
  by_cases hi : i < xs.length
  · refine .inr ⟨⟨xs, xs[i], sq, List.getElem?_eq_getElem hi⟩, ?_⟩
    rintro x H2 ⟨rfl, hx⟩
    exact hs i x σ H2 (hx xs sq) hp _ fun σ' H' q => ⟨m - 1, by omega, by omega, q⟩
  · have e : i = xs.length := by omega
    subst e
    exact .inl ⟨⟨xs, sq, Nat.le_refl _⟩, hd σ H hp⟩
/-- in a block the reading may not hang on the block: K and the number of targets told -/
theorem pg_tupK {X : Cx} {es : List Expr} {k : Nat} {pos : Pos} {t : TGs} (K : PySem.W.Frag) (n : Nat) (hK : X.K = K) (hc : X.calm = true) (h : PGs X es t) (hn : (assignEach es X.env).length = n := by rfl) (hst : (assignEach es X.env).findIdx? (·.1) = none := by rfl) : PG X (.Tuple es k pos) (gTup K n t) := by
  subst hK
  exact pg_tup hc h hn hst
/-- a comprehension over a dict that its block leaves as it is (frozen) -/
theorem comp_dict {a D : Addr} {o : Obj} {kvs : List (Key × V)} {g : TG} {tt : TT} {te : TE} {Q : Hp → Prop} {σ : St} {H : Hp} (Pv : Nat → St → Hp → Prop) (h0 : Pv 0 σ H) (hl : ∀ i σ H, Pv i σ H → H a = some (.frz o (.dK kvs)))
    (hs : ∀ i k v σ H, kvs[i]? = some (k, v) → Pv i σ H → ∀ N : St → Hp → Prop, (∀ σ' H', Pv (i + 1) σ' H' → N σ' H') → g (kV k) σ H fun σ3 H3 => tt σ3 H3 fun b H4 => if b = true then te σ3 H4 fun y H5 => ∃ ys, H5 D = some (.lst ys) ∧ ys.length < sizeLine ∧ N σ3 (upd H5 D (.lst (ys ++ [y]))) else N σ3 H4)
    (hd : ∀ σ H, Pv kvs.length σ H → Q H) :
    ∃ W : Nat → Nat → St → Hp → Prop, (∃ m, W 0 m σ H) ∧ ∀ i m σ H, W i m σ H → ((Itd a o kvs).stop i H ∧ Q H) ∨ ((Itd a o kvs).go i H ∧ ∀ x H2, (Itd a o kvs).yld i H x H2 → g x σ H2 fun σ3 H3 => tt σ3 H3 fun b H4 => if b = true
      then te σ3 H4 fun y H5 => ∃ ys, H5 D = some (.lst ys) ∧ ys.length < sizeLine ∧ ∃ m', m' < m ∧ W (i + 1) m' σ3 (upd H5 D (.lst (ys ++ [y])))
      else ∃ m', m' < m ∧ W (i + 1) m' σ3 H4) := by
  refine ⟨fun i m σ H => m + i = kvs.length ∧ Pv i σ H, ⟨kvs.length, rfl, h0⟩, ?_⟩
  rintro i m σ H ⟨hm, hp⟩
  have hz := hl i σ H hp
  by_cases hi : i < kvs.length
  · refine .inr ⟨⟨hz, hi⟩, ?_⟩
    rintro x H2 ⟨rfl, k, v, hkv, rfl⟩
    exact hs i k v σ H2 hkv hp _ fun σ' H' q => ⟨m - 1, by omega, by omega, q⟩
  · have e : i = kvs.length := by omega
    subst e
    exact .inl ⟨⟨hz, Nat.le_refl _⟩, hd σ H hp⟩
end L2

/-! MY OWN RULES, part 6: sum, join, insert, deep ==, two ways to read one expression -/
namespace L2
open PySem PySem.Spec PyProof.Rows
section
variable {X : Cx}
def tOr2 (t u : TE) : TE := fun σ H Q => t σ H Q ∨ u σ H Q
theorem pe_or2 {e : Expr} {t u : TE} (h : PE X e t) (h' : PE X e u) : PE X e (tOr2 t u) := fun pins s σ H Q I q =>
  q.elim (fun z => h pins s σ H Q I z) fun z => h' pins s σ H Q I z
theorem call_sum (hc : X.calm = true) : CallR X (.builtin "sum") (fun xs H Q => ∃ p, ∃ ns : List Int, xs = [.ref p] ∧ SqL X.K H p (ns.map V.int) ∧ Q (.int ns.sum) H) := by
  intro pins s σ H xs us Q I r h
  obtain ⟨p, ns, rfl, hS, q⟩ := h
  obtain ⟨u, rfl, ru⟩ := vals1 r
  cases ru
  obtain ⟨its, rv, pl, hz⟩ := I.list hS
  have hi : IntsAre its ns := intsAre_of rv
  obtain ⟨ys, hy⟩ := hi.allInts.items
  have hl : s.heap.IsList p (intItems ys) := hy ▸ pl.isList
  refine sum_intListG (I.ok.hd hc) hl fun h' tk t' hk => ?_
  have e1 : ns = ys.toList.map (·.1) := by
    rw [← nums_intItems, ← hy]
    exact (show numsOf its.toArray.toList = ns from hi.numsOf).symm
  have e2 : preSum (numAt ys) ys.size = ns.sum := by rw [preSum_eq, List.take_of_length_le (by simp), e1]
  exact ⟨.int ns.sum, H, I.kept hk, ⟨_, by rw [e2]⟩, q⟩
theorem strsAre_of : ∀ {xs : List Str} {us : List Value}, Vals (xs.map V.str) us → StrsAre us xs
  | [], _, .nil => .nil
  | x :: r, _, .cons h t => by
    obtain ⟨tk, e⟩ := (show ∃ t, _ = Value.str x t from h)
    subst e
    exact .cons x tk (strsAre_of t)
/-- sep.join(a list of texts) -/
def rJoin (K : PySem.W.Frag) : V → List V → Hp → VK → Prop := fun x vs H Q => ∃ z l, ∃ ys : List Str, x = .str z ∧ vs = [.ref l] ∧ SqL K H l (ys.map V.str) ∧ (ys.map (·.length)).sum + ys.length * z.length ≤ 16777216 ∧ Q (.str (Txt.join z ys)) H
theorem mt_join : MtR X "str.join" (rJoin X.K) := by
  intro pins s σ H x vs v us Q I rx rv h
  obtain ⟨z, l, ys, rfl, rfl, hS, hz, q⟩ := h
  obtain ⟨t, e⟩ := (show ∃ t, v = Value.str z t from rx)
  subst e
  obtain ⟨u, rfl, ru⟩ := rv.one
  cases ru
  obtain ⟨its, r, p, _⟩ := I.list hS
  exact join_list p.isList (by simpa using strsAre_of r) hz fun t' k => ⟨.str (Txt.join z ys), H, I.tok k, ⟨t', rfl⟩, q⟩
/-! ### == at any depth: ints, texts, bools, lists and tuples of these -/
mutual
inductive RdD (K : PySem.W.Frag) (H : Hp) : V → PyData → Prop where
  | non : RdD K H .non .none
  | bl (b : Bool) : RdD K H (.bl b) (.bool b)
  | int (i : Int) : RdD K H (.int i) (.int i)
  | str (x : Str) : RdD K H (.str x) (.str x)
  | lst {a : Addr} {xs : List V} {ds : List PyData} (h : SqL K H a xs) (t : RdDs K H xs ds) : RdD K H (.ref a) (.list ds)
  | tup {a : Addr} {xs : List V} {ds : List PyData} (h : SqT K H a xs) (t : RdDs K H xs ds) : RdD K H (.ref a) (.tuple ds)
inductive RdDs (K : PySem.W.Frag) (H : Hp) : List V → List PyData → Prop where
  | nil : RdDs K H [] []
  | cons {x : V} {d : PyData} {xs : List V} {ds : List PyData} (h : RdD K H x d) (t : RdDs K H xs ds) : RdDs K H (x :: xs) (d :: ds)
end
mutual
theorem reads_of {pins : List (Addr × Obj)} {σ : St} {H : Hp} {s : Shared} (I : Inv X pins σ H s) {x : V} {d : PyData} (h : RdD X.K H x d) {u : Value} (r : RelV x u) : ∃ as, Reads s.heap u d as := by
  cases h with
  | non => cases (show u = Value.none from r); exact ⟨_, .none⟩
  | bl b => cases (show u = Value.bool b from r); exact ⟨_, .bool b⟩
  | int i => obtain ⟨t, rfl⟩ := (show ∃ t, u = Value.int i t from r); exact ⟨_, .int i t⟩
  | str y => obtain ⟨t, rfl⟩ := (show ∃ t, u = Value.str y t from r); exact ⟨_, .str y t⟩
  | @lst a xs ds hS t =>
    cases (show u = Value.ref a from r)
    obtain ⟨its, rv, p, _⟩ := I.list hS
    obtain ⟨o, ho, hc, n, hd⟩ := p.isList
    obtain ⟨as, ra⟩ := readsAll_of I t rv
    exact ⟨_, .list ho hc hd (by simpa using ra)⟩
  | @tup a xs ds hS t =>
    cases (show u = Value.ref a from r)
    obtain ⟨its, rv, p, _⟩ := I.tuple hS
    obtain ⟨o, ho, hc, n, hd⟩ := p
    obtain ⟨as, ra⟩ := readsAll_of I t rv
    exact ⟨_, .tuple ho hc hd (by simpa using ra)⟩
theorem readsAll_of {pins : List (Addr × Obj)} {σ : St} {H : Hp} {s : Shared} (I : Inv X pins σ H s) {xs : List V} {ds : List PyData} (h : RdDs X.K H xs ds) {us : List Value} (r : Vals xs us) : ∃ as, ReadsAll s.heap us ds as := by
  cases h with
  | nil => cases r; exact ⟨_, .nil⟩
  | cons h t =>
    cases r with
    | cons r1 r2 =>
      obtain ⟨as, ra⟩ := reads_of I h r1
      obtain ⟨bs, rb⟩ := readsAll_of I t r2
      exact ⟨_, .cons ra rb⟩
end
def rEqR (neg : Bool) (K : PySem.W.Frag) : R2 := fun x y H Q => ∃ d e, RdD K H x d ∧ RdD K H y e ∧ SeqAt.shaped d = true ∧ SeqAt.shaped e = true ∧ Q (.bl (neg ^^ PyData.eqv d e)) H
theorem op_eqR (hu : X.A.units + 64 < cLine) : OpR X (compareOp .Eq) (rEqR false X.K) := by
  intro pins s σ H x y v u Q I rx ry h
  obtain ⟨d, e, hd, he, sd, se, q⟩ := h
  obtain ⟨as, ra⟩ := reads_of I hd rx
  obtain ⟨bs, rb⟩ := reads_of I he ry
  exact SeqAt.compareEq_shaped ra rb sd se hu ⟨.bl (PyData.eqv d e), H, I, rfl, by simpa using q⟩
theorem op_neR (hu : X.A.units + 64 < cLine) : OpR X (compareOp .NotEq) (rEqR true X.K) := by
  intro pins s σ H x y v u Q I rx ry h
  obtain ⟨d, e, hd, he, sd, se, q⟩ := h
  obtain ⟨as, ra⟩ := reads_of I hd rx
  obtain ⟨bs, rb⟩ := reads_of I he ry
  exact SeqAt.compareNe_shaped ra rb sd se hu ⟨.bl (!PyData.eqv d e), H, I, rfl, by simpa using q⟩
theorem RdDs.ints {K : PySem.W.Frag} {H : Hp} : ∀ ns : List Int, RdDs K H (ns.map V.int) (ns.map PyData.int)
  | [] => .nil
  | i :: r => .cons (.int i) (RdDs.ints r)
/-- xs.insert(0, y) -/
def rInsert0 : V → List V → Hp → VK → Prop := fun x vs H Q => ∃ l xs y, x = .ref l ∧ vs = [.int 0, y] ∧ H l = some (.lst xs) ∧ xs.length < sizeLine ∧ Q .non (upd H l (.lst (y :: xs)))
theorem mt_insert0 : MtR X "list.insert" rInsert0 := by
  intro pins s σ H x vs v us Q I rx rv h
  obtain ⟨l, xs, y, rfl, rfl, hH, hz, q⟩ := h
  cases rx
  obtain ⟨u0, u, rfl, ⟨t0, rfl⟩, ru⟩ := rv.two
  obtain ⟨z, its, n, r, hl, e⟩ := I.lstM hH
  refine call_meets F.slot_list_insert ⟨_, e, rfl⟩ F.entry_list_insert (F.args_list_insert_3 _ _ _) (PySem.AutoListH.list_insert_list_int_val_1 l its.toArray n 0 t0 u (by decide) (by rw [List.size_toArray]; omega)) ⟨e, ?_⟩
  refine ⟨.non, _, I.lset (its' := u :: its) hH e (by simp) (.cons ru r) ?_, rfl, q⟩
  rw [List.length_cons]
  omega
end
end L2

/-! MY OWN RULES, part 7: ints of many bits; zip and enumerate walked; what both ways of an if leave -/
namespace L2
open PySem PySem.Spec PyProof.Rows
/-- within 2 ^ n either way -/
def Fit (n : Nat) (i : Int) : Prop := i.natAbs < 2 ^ n
theorem Fit.bits {n : Nat} {i : Int} (h : Fit n i) : Builtin.Int.intBits i ≤ n := by
  unfold Builtin.Int.intBits
  by_cases e : i = 0
  · rw [if_pos (by simp [e])]; exact Nat.zero_le _
  · rw [if_neg (by simp [e])]
    have h0 : i.natAbs ≠ 0 := by omega
    have := (Nat.log2_lt h0).mpr h
    omega
theorem Fit.mono {m n : Nat} {i : Int} (h : Fit m i) (hn : m ≤ n) : Fit n i := Nat.lt_of_lt_of_le h (Nat.pow_le_pow_right (by decide) hn)
theorem Fit.log {n : Nat} {i : Int} (h : Fit n i) (hn : 0 < n) : i.natAbs.log2 < n := by
  by_cases e : i.natAbs = 0
  · rw [e]; simpa using hn
  · exact (Nat.log2_lt e).mpr h
def CMulF (i j : Int) : Prop := CMul i j ∨ ∃ m n, Fit m i ∧ Fit n j ∧ m + n ≤ 134217728
theorem CMulF.ok {i j : Int} (h : CMulF i j) : IntMulOk i j := by
  rcases h with h | ⟨m, n, h1, h2, h3⟩
  · exact h.ok
  · have a := h1.bits
    have b := h2.bits
    have hc : Builtin.Int.intTooBig (Builtin.Int.intBits i + Builtin.Int.intBits j) = false := by
      unfold Builtin.Int.intTooBig bitsLine
      exact decide_eq_false (by omega)
    unfold IntMulOk
    rw [hc]
    simp
def CDivF (_ j : Int) : Prop := j ≠ 0 ∧ Fit 9000 j
section
variable {X : Cx}
theorem op_mulF : OpR X (binaryOp .Mult) (rI CMulF fun i j => .int (i * j)) := opI fun _ _ _ _ _ _ _ hc q => mul_int q hc.ok
theorem op_fdivF : OpR X (binaryOp .FloorDiv) (rI CDivF fun i j => .int (i.fdiv j)) := opI fun _ _ _ _ _ _ _ hc q => floordiv_int hc.1 q (.inl (PyProof.noPylong_of_log2 (hc.2.log (by decide))))
end
/-- behind an if: what both ways leave -/
theorem join_if {tt : TT} {A B r : TS} {D : Ends} {σ : St} {H : Hp} (Pm : St → Hp → Prop) (h : ∀ N : St → Hp → Prop, (∀ σ' H', Pm σ' H' → N σ' H') → tIfS tt A B { D with nx := N } σ H) (hr : ∀ σ' H', Pm σ' H' → r D σ' H') : tSeq (tIfS tt A B) r D σ H := h _ hr

/-! ### records of ours that turn, and a new object that is tracked -/
section
variable {X : Cx} {pins : List (Addr × Obj)} {σ : St} {H : Hp} {s : Shared} {h' : Heap}
theorem Inv.turnedN {t' : Nat} {ch : List Addr} {T : Addr} {o : HO} (I : Inv X pins σ H s) (k : ∀ b u, b ∉ ch → s.heap.get? b = some u → h'.get? b = some u) (hf : ∀ b ∈ ch, FpOk X pins H b)
    (hT : s.heap.objs.size ≤ T) (new : ObjOk X.prog X.w (upd H T o) h' T o) : Inv X pins σ (upd H T o) { s with heap := h', toks := t' } := by
  have hn := I.hok.fresh hT
  have nch : ∀ b u, H b = some u → b ∉ ch := fun b u e z => by rw [(hf b z).1] at e; cases e
  refine I.step (g' := s.gens) (d' := s.drawn) (ch := ch) (fun b hb => ⟨(hf b hb).2.2.2.1, (hf b hb).2.1, (hf b hb).2.2.2.2.1, (hf b hb).2.2.2.2.2⟩)
    (fun b u _ _ hc e _ => k b u hc e) (fun b u _ _ hc e _ => ⟨u.slots, k b u hc e⟩) (fun b u _ e n => ?_) (fun b u hc e => ⟨u, k b u hc e⟩)
    (fun b xs e => by rw [upd_ne (ne_of_none e hn)]; exact e) (fun b u v e => by rw [upd_ne (ne_of_none e hn)]; exact e) (fun b ps e => ⟨#[], by rw [upd_ne (ne_of_none e hn), e]; simp⟩) (fun m hm => ?_) (fun b u e => ?_) I.bare
  · rw [upd_ne (Nat.ne_of_lt (Nat.lt_of_lt_of_le (Heap.lt_size e) hT))]; exact n
  · obtain ⟨u, es, ep, ho, r⟩ := hm
    exact ⟨u, es, ep, k _ u (fun z => (hf _ z).2.1 rfl) ho, r⟩
  · by_cases hb : b = T
    · subst hb; rw [upd_same] at e; cases e; exact new
    · rw [upd_ne hb] at e
      refine (I.hok b u e).stay (fun c v hc q => k c v ?_ q) (fun c q => by rw [upd_ne (ne_of_none q hn)]; exact q) fun c xs q => by rw [upd_ne (ne_of_none q hn)]; exact q
      rcases hc with z | z
      · rw [z]; exact nch b u e
      · exact nch c _ z
theorem Inv.turnedE {t' : Nat} {ch : List Addr} (I : Inv X pins σ H s) (k : ∀ b u, b ∉ ch → s.heap.get? b = some u → h'.get? b = some u) (hf : ∀ b ∈ ch, FpOk X pins H b) : Inv X pins σ H { s with heap := h', toks := t' } := by
  have nch : ∀ b u, H b = some u → b ∉ ch := fun b u e z => by rw [(hf b z).1] at e; cases e
  refine I.step (g' := s.gens) (d' := s.drawn) (ch := ch) (fun b hb => ⟨(hf b hb).2.2.2.1, (hf b hb).2.1, (hf b hb).2.2.2.2.1, (hf b hb).2.2.2.2.2⟩)
    (fun b u _ _ hc e _ => k b u hc e) (fun b u _ _ hc e _ => ⟨u.slots, k b u hc e⟩) (fun b u _ e n => n) (fun b u hc e => ⟨u, k b u hc e⟩)
    (fun b xs e => e) (fun b u v e => e) (fun b ps e => ⟨#[], by rw [e]; simp⟩) (fun m hm => ?_) (fun b u e => ?_) I.bare
  · obtain ⟨u, es, ep, ho, r⟩ := hm
    exact ⟨u, es, ep, k _ u (fun z => (hf _ z).2.1 rfl) ho, r⟩
  · refine (I.hok b u e).stay (fun c v hc q => k c v ?_ q) (fun _ q => q) fun _ _ q => q
    rcases hc with z | z
    · rw [z]; exact nch b u e
    · exact nch c _ z
end

/-! ### zip of two lists -/
/-- the pairs of two lists, as they stand at each turn -/
def Itz (K : PySem.W.Frag) (a b : Addr) : It :=
  ⟨fun i H => ∃ xs ys x y, SqL K H a xs ∧ SqL K H b ys ∧ xs[i]? = some x ∧ ys[i]? = some y,
   fun i H v H' => ∃ p x y, H p = none ∧ H' = upd H p (.tup [x, y]) ∧ v = .ref p ∧ (∀ xs, SqL K H a xs → xs[i]? = some x) ∧ ∀ ys, SqL K H b ys → ys[i]? = some y,
   fun i H => ∃ xs ys, SqL K H a xs ∧ SqL K H b ys ∧ (xs.length ≤ i ∨ ys.length ≤ i)⟩
theorem cls_ne {h : Heap} {a b : Addr} {o u : Obj} (e : h.get? a = some o) (e' : h.get? b = some u) (n : o.cls ≠ u.cls) : a ≠ b := fun z => by
  subst z; rw [e] at e'; cases e'; exact n rfl
theorem neN {m n : Nat} (h : m < n ∨ n < m) : (m : Addr) ≠ n := fun z => by
  have : m = n := z
  omega
structure Five (z TI TO i1 i2 : Addr) : Prop where
  TIz : TI ≠ z
  TOz : TO ≠ z
  i1z : i1 ≠ z
  i2z : i2 ≠ z
  TITO : TI ≠ TO
  TIi1 : TI ≠ i1
  TIi2 : TI ≠ i2
  TOi1 : TO ≠ i1
  TOi2 : TO ≠ i2
  i12 : i1 ≠ i2
theorem apart_of {h : Heap} {z TI TO i1 i2 l1 l2 : Addr} {f0 a b : Value} {k1 k2 : Nat} {xs ys : Array Value} (F : Five z TI TO i1 i2) (hz : IsZip h z TI TO f0) (hTO : IsPair h TO a b) (h1 : h.IsListIter i1 l1 k1) (h2 : h.IsListIter i2 l2 k2)
    (e1 : h.IsList l1 xs) (e2 : h.IsList l2 ys) : ZipApart z TI TO i1 i2 l1 l2 := by
  obtain ⟨o1, q1, c1, _⟩ := e1
  obtain ⟨o2, q2, c2, _⟩ := e2
  obtain ⟨u1, r1, d1, _⟩ := h1
  obtain ⟨u2, r2, d2, _⟩ := h2
  have d : ∀ {n m : String}, n ≠ m → Value.type n ≠ Value.type m := fun h q => by cases q; exact h rfl
  exact ⟨F.TIz, F.TOz, F.i1z, F.i2z, F.TITO, F.TIi1, F.TIi2, F.TOi1, F.TOi2, F.i12,
    cls_ne q1 hz (by rw [c1]; exact d (by decide)), cls_ne q1 hTO (by rw [c1]; exact d (by decide)), cls_ne q1 r1 (by rw [c1, d1]; exact d (by decide)), cls_ne q1 r2 (by rw [c1, d2]; exact d (by decide)),
    cls_ne q2 hz (by rw [c2]; exact d (by decide)), cls_ne q2 hTO (by rw [c2]; exact d (by decide)), cls_ne q2 r1 (by rw [c2, d1]; exact d (by decide)), cls_ne q2 r2 (by rw [c2, d2]; exact d (by decide))⟩
theorem turn_zip {P : Program} {w : World} {K : PySem.W.Frag} {elts : List Expr} {x1} {tpos : Pos} (l1 l2 z TI TO i1 i2 : Addr) (F : Five z TI TO i1 i2) :
    Turn P w K (.Tuple elts x1 tpos) (Itz K l1 l2) [z, TI, TO, i1, i2] z (fun i h => IsZip h z TI TO .none ∧ IsPair h TI (.ref i1) (.ref i2) ∧ (∃ a b, IsPair h TO a b) ∧ h.IsListIter i1 l1 i ∧ h.IsListIter i2 l2 i) where
  mem := by simp
  obj := fun i h st b hb => by
    obtain ⟨hz, hTI, ⟨a, c, hTO⟩, ⟨o1, e1, c1, d1⟩, ⟨o2, e2, c2, d2⟩⟩ := st
    simp only [List.mem_cons, List.not_mem_nil, or_false] at hb
    rcases hb with e | e | e | e | e
    · subst e; exact ⟨_, hz, fun v q => by cases q⟩
    · subst e; exact ⟨_, hTI, fun v q => by cases q⟩
    · subst e; exact ⟨_, hTO, fun v q => by cases q⟩
    · subst e; exact ⟨o1, e1, fun v q => by rw [d1] at q; cases q⟩
    · subst e; exact ⟨o2, e2, fun v q => by rw [d2] at q; cases q⟩
  keep := fun i h h' st k => by
    obtain ⟨hz, hTI, ⟨a, c, hTO⟩, h1, h2⟩ := st
    exact ⟨k z (by simp) _ hz, k TI (by simp) _ hTI, ⟨a, c, k TO (by simp) _ hTO⟩, h1.at fun o e => k i1 (by simp) o e, h2.at fun o e => k i2 (by simp) o e⟩
  item := by
    intro X hP hw hK hc i pins s σ H E I hf st hg
    subst hP hw hK
    obtain ⟨xs, ys, x, y, hq1, hq2, hx, hy⟩ := hg
    obtain ⟨hz, hTI, ⟨a, c, hTO⟩, h1, h2⟩ := st
    obtain ⟨its, rv, p, hz1⟩ := I.list hq1
    obtain ⟨jts, rw', p', hz2⟩ := I.list hq2
    obtain ⟨u, hu, ru⟩ := rv.get hx
    obtain ⟨v, hv, rv'⟩ := rw'.get hy
    have D := apart_of F hz hTO h1 h2 p.isList p'.isList
    refine wpAny_pyNext_zip_item D hz hTI hTO h1 h2 p.isList p'.isList (x := u) (y := v) (by simpa using hu) (by simpa using hv) fun h' a1 a2 a3 a4 a5 a6 hk => ⟨_, rfl, ?_⟩
    refine wpAny_letOwnedTupleGo_zip (s := { s with heap := h' }) a1 fun h'' b1 b2 => ?_
    have up : ∀ e o, e ≠ z → h'.get? e = some o → h''.get? e = some o := fun e o n q => b2.extBut _ _ n q
    have ne : ∀ {e : Addr} {o}, s.heap.get? e = some o → s.heap.objs.size ≠ e := fun q => Nat.ne_of_gt (Heap.lt_size q)
    have hnew : IsPair h'' s.heap.objs.size u v := up _ _ (ne hz) a5
    have I1 : Inv X pins σ (upd H s.heap.objs.size (.tup [x, y])) { s with heap := h'', toks := s.toks } := by
      refine I.turnedN (ch := [z, TI, TO, i1, i2]) (fun b o hb e => ?_) hf (Nat.le_refl _) ⟨by show 2 ≤ sizeLine; decide, [u, v], .cons ru (.cons rv' .nil), ⟨_, hnew, rfl, _, rfl⟩⟩
      simp only [List.mem_cons, List.not_mem_nil, or_false, not_or] at hb
      exact up _ _ hb.1 (hk b o hb.1 hb.2.2.1 hb.2.2.2.1 hb.2.2.2.2 e)
    refine ⟨.ref s.heap.objs.size, _, I1, rfl, ⟨_, x, y, I.hok.fresh (Nat.le_refl _), rfl, rfl, fun zs hz => by rw [I.list_inj hz hq1]; exact hx, fun zs hz => by rw [I.list_inj hz hq2]; exact hy⟩, ?_, fun b hb => ?_⟩
    · exact ⟨b1, up _ _ F.TIz (hk _ _ F.TIz F.TITO F.TIi1 F.TIi2 hTI), ⟨_, _, up _ _ F.TOz a2⟩, a3.at fun o e => up _ _ F.i1z e, a4.at fun o e => up _ _ F.i2z e⟩
    · have hb' := hb
      rw [upd_ne ?_]
      · exact (hf b hb).1
      · simp only [List.mem_cons, List.not_mem_nil, or_false] at hb
        obtain ⟨o1, e1, _⟩ := h1
        obtain ⟨o2, e2, _⟩ := h2
        rcases hb with e | e | e | e | e
        · rw [e]; exact Ne.symm (ne hz)
        · rw [e]; exact Ne.symm (ne hTI)
        · rw [e]; exact Ne.symm (ne hTO)
        · rw [e]; exact Ne.symm (ne e1)
        · rw [e]; exact Ne.symm (ne e2)
  done := by
    intro X hP hw hK hc i pins s σ H E I hf st hg
    subst hP hw hK
    obtain ⟨xs, ys, hq1, hq2, hl⟩ := hg
    obtain ⟨hz, hTI, ⟨a, c, hTO⟩, h1, h2⟩ := st
    obtain ⟨its, rv, p, hz1⟩ := I.list hq1
    obtain ⟨jts, rw', p', hz2⟩ := I.list hq2
    have D := apart_of F hz hTO h1 h2 p.isList p'.isList
    have l1 := rv.length
    have l2 := rw'.length
    refine wpAny_pyNext_zip_end (I.ok.hd hc) D hz hTI hTO h1 h2 p.isList p'.isList ?_ fun h' hk => ⟨rfl, I.turnedE (t' := s.toks) (ch := [z, TI, TO, i1, i2]) (fun b o hb e => ?_) hf⟩
    · rcases hl with hl | hl
      · exact .inl (by simp; omega)
      · exact .inr (by simp; omega)
    · simp only [List.mem_cons, List.not_mem_nil, or_false, not_or] at hb
      exact hk b o hb.1 hb.2.2.1 hb.2.2.2.1 hb.2.2.2.2 e
  self := fun _ _ _ _ _ st h => wpAny_pyIter_zip st.1 h
theorem bt_zip : bootBuiltins "zip" = some (.type "zip") := by decide +kernel
theorem bt_enumerate : bootBuiltins "enumerate" = some (.type "enumerate") := by decide +kernel
theorem bt_abs : bootBuiltins "abs" = some (.builtin "abs") := by decide +kernel
def iZip (K : PySem.W.Frag) (ta : TA) : TI := fun σ H R => ta σ H fun vs H1 => ∃ a b, vs = [.ref a, .ref b] ∧ (∃ xs, SqL K H1 a xs) ∧ (∃ ys, SqL K H1 b ys) ∧ R (Itz K a b) H1
theorem pi_zip {X : Cx} {elts : List Expr} {x1} {tpos : Pos} {a b : Expr} {ta : TA} {p pos : Pos} (hg : Gl X "zip") (hm : X.mg "zip" = none) (ha : PA X [a, b] ta) (hs : starEach [a, b] X.env = [(false, eval a X.env), (false, eval b X.env)] := by rfl)
    (hs2 : starEach [b] X.env = [(false, eval b X.env)] := by rfl) : PI X (.Tuple elts x1 tpos) (.Call (.Name "zip" p) [a, b] [] pos) (iZip X.K ta) := by
  intro pins s σ H R I h
  refine Call_ (ld_blt I hg hm bt_zip (PyProof.Rows.callWith_type1 (thn (ha pos pins s σ H _ I h) fun us s1 ⟨vs, H1, I1, r1, q1⟩ => ?_) (by rw [hs, hs2]) (by rw [hs2]; rfl)))
  obtain ⟨l1, l2, e, ⟨xs, hq1⟩, ⟨ys, hq2⟩, q⟩ := q1
  subst e
  obtain ⟨u, v, rfl, r, r'⟩ := vals2 r1
  cases r
  cases r'
  obtain ⟨its, rv, pl, hz1⟩ := I1.list hq1
  obtain ⟨jts, rw', pl', hz2⟩ := I1.list hq2
  refine call_zip_2 pl.isList pl'.isList fun h' a1 a2 a3 a4 a5 a6 hk => wpAny_pyIter_zip (s := { s1 with heap := h' }) a1 ?_
  refine ⟨_, [s1.heap.objs.size + 4, s1.heap.objs.size + 2, s1.heap.objs.size + 3, s1.heap.objs.size, s1.heap.objs.size + 1], _, _, H1, rfl, I1.kept (t' := s1.toks) hk,
    turn_zip l1 l2 (s1.heap.objs.size + 4) (s1.heap.objs.size + 2) (s1.heap.objs.size + 3) s1.heap.objs.size (s1.heap.objs.size + 1) ⟨neN (by omega), neN (by omega), neN (by omega), neN (by omega), neN (by omega), neN (by omega), neN (by omega), neN (by omega), neN (by omega), neN (by omega)⟩,
    ⟨a1, a2, ⟨_, _, a3⟩, a4, a5⟩, fun b hb => ?_, q⟩
  have hb' : s1.heap.objs.size ≤ b := by
    simp only [List.mem_cons, List.not_mem_nil, or_false] at hb
    rcases hb with e | e | e | e | e <;> rw [e] <;> first | exact Nat.le_refl _ | exact Nat.le_add_right _ _
  exact I1.fpOk hb' (I1.hok.fresh hb')

/-! ### enumerate of a list -/
def Ite (K : PySem.W.Frag) (a : Addr) : It :=
  ⟨fun i H => ∃ xs x, SqL K H a xs ∧ xs[i]? = some x,
   fun i H v H' => ∃ p x, H p = none ∧ H' = upd H p (.tup [.int i, x]) ∧ v = .ref p ∧ ∀ xs, SqL K H a xs → xs[i]? = some x,
   fun i H => ∃ xs, SqL K H a xs ∧ xs.length ≤ i⟩
theorem turn_enum {P : Program} {w : World} {K : PySem.W.Frag} {elts : List Expr} {x1} {tpos : Pos} (l e it : Addr) (hei : e ≠ it) :
    Turn P w K (.Tuple elts x1 tpos) (Ite K l) [e, it] e (fun i h => (∃ old, IsEnum h e it (i : Nat) old) ∧ h.IsListIter it l i) where
  mem := by simp
  obj := fun i h st b hb => by
    obtain ⟨⟨old, he⟩, ⟨o1, e1, c1, d1⟩⟩ := st
    simp only [List.mem_cons, List.not_mem_nil, or_false] at hb
    rcases hb with q | q
    · subst q; exact ⟨_, he, fun v q => by cases q⟩
    · subst q; exact ⟨o1, e1, fun v q => by rw [d1] at q; cases q⟩
  keep := fun i h h' st k => by
    obtain ⟨⟨old, he⟩, h1⟩ := st
    exact ⟨⟨old, k e (by simp) _ he⟩, h1.at fun o q => k it (by simp) o q⟩
  item := by
    intro X hP hw hK hc i pins s σ H E I hf st hg
    subst hP hw hK
    obtain ⟨xs, x, hq, hx⟩ := hg
    obtain ⟨⟨old, he⟩, h1⟩ := st
    obtain ⟨its, rv, p, hz1⟩ := I.list hq
    obtain ⟨u, hu, ru⟩ := rv.get hx
    refine wpAny_pyNext_enum_item he h1 p.isList (x := u) (by simpa using hu) hei fun h' a1 a2 a3 a4 hk => ⟨_, rfl, ?_⟩
    refine wpAny_letOwnedTupleGo_enum (s := { s with heap := h', toks := s.toks + 1 }) a1 fun h'' b1 b2 => ?_
    have up : ∀ c o, c ≠ e → h'.get? c = some o → h''.get? c = some o := fun c o n q => b2.extBut _ _ n q
    have ne : ∀ {c : Addr} {o}, s.heap.get? c = some o → s.heap.objs.size ≠ c := fun q => Nat.ne_of_gt (Heap.lt_size q)
    have hnew := up _ _ (ne he) a3
    have I1 : Inv X pins σ (upd H s.heap.objs.size (.tup [.int i, x])) { s with heap := h'', toks := s.toks + 1 } := by
      refine I.turnedN (ch := [e, it]) (fun b o hb q => ?_) hf (Nat.le_refl _) ⟨by show 2 ≤ sizeLine; decide, [.int i s.toks, u], .cons ⟨_, rfl⟩ (.cons ru .nil), ⟨_, hnew, rfl, _, rfl⟩⟩
      simp only [List.mem_cons, List.not_mem_nil, or_false, not_or] at hb
      exact up _ _ hb.1 (hk b o hb.1 hb.2 q)
    refine ⟨.ref s.heap.objs.size, _, I1, rfl, ⟨_, x, I.hok.fresh (Nat.le_refl _), rfl, rfl, fun zs hz => by rw [I.list_inj hz hq]; exact hx⟩, ⟨⟨u, ?_⟩, a2.at fun o q => up _ _ (Ne.symm hei) q⟩, fun b hb => ?_⟩
    · have e1 : ((i + 1 : Nat) : Int) = (i : Int) + 1 := by push_cast; rfl
      rw [e1]; exact b1
    · rw [upd_ne ?_]
      · exact (hf b hb).1
      · simp only [List.mem_cons, List.not_mem_nil, or_false] at hb
        obtain ⟨o1, e1, _⟩ := h1
        rcases hb with q | q
        · rw [q]; exact Ne.symm (ne he)
        · rw [q]; exact Ne.symm (ne e1)
  done := by
    intro X hP hw hK hc i pins s σ H E I hf st hg
    subst hP hw hK
    obtain ⟨xs, hq, hl⟩ := hg
    obtain ⟨⟨old, he⟩, h1⟩ := st
    obtain ⟨its, rv, p, hz1⟩ := I.list hq
    have l1 := rv.length
    refine wpAny_pyNext_enum_end (I.ok.hd hc) he h1 p.isList (by simp; omega) fun h' hk => ⟨rfl, I.turnedE (t' := s.toks) (ch := [e, it]) (fun b o hb q => ?_) hf⟩
    simp only [List.mem_cons, List.not_mem_nil, or_false, not_or] at hb
    exact hk b o hb.2 q
  self := fun _ _ _ _ _ st h => by
    obtain ⟨⟨old, he⟩, _⟩ := st
    exact wpAny_pyIter_enum he h
def iEnum (K : PySem.W.Frag) (ta : TA) : TI := fun σ H R => ta σ H fun vs H1 => ∃ a, vs = [.ref a] ∧ (∃ xs, SqL K H1 a xs) ∧ R (Ite K a) H1
theorem pi_enum {X : Cx} {elts : List Expr} {x1} {tpos : Pos} {a : Expr} {ta : TA} {p pos : Pos} (hg : Gl X "enumerate") (hm : X.mg "enumerate" = none) (ha : PA X [a] ta) (hs : starEach [a] X.env = [(false, eval a X.env)] := by rfl) :
    PI X (.Tuple elts x1 tpos) (.Call (.Name "enumerate" p) [a] [] pos) (iEnum X.K ta) := by
  intro pins s σ H R I h
  refine Call_ (ld_blt I hg hm bt_enumerate (PyProof.Rows.callWith_type1 (thn (ha pos pins s σ H _ I h) fun us s1 ⟨vs, H1, I1, r1, q1⟩ => ?_) hs rfl))
  obtain ⟨l, e, ⟨xs, hq⟩, q⟩ := q1
  subst e
  obtain ⟨u, rfl, r⟩ := vals1 r1
  cases r
  obtain ⟨its, rv, pl, hz1⟩ := I1.list hq
  refine call_enumerate_list pl.isList fun h' a1 a2 a3 hk => wpAny_pyIter_enum (s := { s1 with heap := h' }) a1 ?_
  refine ⟨_, [s1.heap.objs.size + 1, s1.heap.objs.size], _, _, H1, rfl, I1.kept (t' := s1.toks) hk, turn_enum l (s1.heap.objs.size + 1) s1.heap.objs.size (neN (by omega)), ⟨⟨_, a1⟩, a2⟩, fun b hb => ?_, q⟩
  have hb' : s1.heap.objs.size ≤ b := by
    simp only [List.mem_cons, List.not_mem_nil, or_false] at hb
    rcases hb with e | e <;> rw [e] <;> first | exact Nat.le_refl _ | exact Nat.le_add_right _ _
  exact I1.fpOk hb' (I1.hok.fresh hb')

/-! ### cuts of lists -/
theorem cut_ints (ns : List Int) (lo hi : Option Int) : ∃ ms : List Int, cutV (ns.map V.int) lo hi = ms.map V.int ∧ ms.length ≤ ns.length := by
  have h : ∀ x ∈ cutV (ns.map V.int) lo hi, ∃ i, x = V.int i := fun x hx => by
    have : x ∈ ns.map V.int := List.mem_of_mem_drop (List.mem_of_mem_take hx)
    obtain ⟨i, _, e⟩ := List.mem_map.mp this
    exact ⟨i, e.symm⟩
  have hl := cutV_length (ns.map V.int) lo hi
  rw [List.length_map] at hl
  generalize cutV (ns.map V.int) lo hi = l at h hl
  refine ⟨l.map fun v => match v with | .int i => i | _ => 0, ?_, by rw [List.length_map]; exact hl⟩
  rw [List.map_map]
  clear hl
  induction l with
  | nil => rfl
  | cons x r ih =>
    obtain ⟨i, rfl⟩ := h x (List.mem_cons_self ..)
    rw [List.map_cons, ← ih fun y hy => h y (List.mem_cons_of_mem _ hy)]
    rfl
theorem cut_hd (xs : List V) (k : Nat) : cutV xs none (some (k : Int)) = xs.take k := by
  unfold cutV
  rw [HT.sIx_none, HT.sIx_nat, List.drop_zero, Nat.sub_zero]
  rcases Nat.le_total k xs.length with h | h
  · rw [Nat.min_eq_left h]
  · rw [Nat.min_eq_right h, List.take_length, List.take_of_length_le h]
theorem cut_tl (xs : List V) (k : Nat) : cutV xs (some (k : Int)) none = xs.drop k := by
  unfold cutV
  rw [HT.sIx_none, HT.sIx_nat]
  rcases Nat.le_total k xs.length with h | h
  · rw [Nat.min_eq_left h]
    exact List.take_of_length_le (by rw [List.length_drop]; exact Nat.le_refl _)
  · rw [Nat.min_eq_right h, List.drop_length, List.drop_of_length_le h]
    exact List.take_nil
theorem cut_both (xs : List V) (j k : Nat) : cutV xs (some (j : Int)) (some (k : Int)) = (xs.drop j).take (k - j) := by
  unfold cutV
  rw [HT.sIx_nat, HT.sIx_nat]
  rcases Nat.le_total j xs.length with h | h
  · rw [Nat.min_eq_left h]
    rcases Nat.le_total k xs.length with h' | h'
    · rw [Nat.min_eq_left h']
    · rw [Nat.min_eq_right h', List.take_of_length_le (by rw [List.length_drop]; exact Nat.le_refl _), List.take_of_length_le (by rw [List.length_drop]; omega)]
  · rw [Nat.min_eq_right h, List.drop_length, List.drop_of_length_le h, List.take_nil, List.take_nil]
end L2

/-! MY OWN RULES, part 8: comprehensions without a test, and loops over zip, enumerate, by words of their own -/
namespace L2
open PySem PySem.Spec PyProof.Rows
section
variable {K : PySem.W.Frag} {g : TG} {tt : TT} {te : TE} {tb : TS} {D : Ends}
/-- any iterator of n turns; what was there when the block began (H0) stays, the block's list is L -/
theorem comp_it {J : It} {L : Addr} {Q : Hp → Prop} {σ : St} {H : Hp} (n : Nat) (H0 : Hp) (S : St → Prop) (Pv : Nat → List V → Prop) (hgo : ∀ i H', i < n → Same H0 H' → J.go i H') (hstop : ∀ H', Same H0 H' → J.stop n H')
    (hn0 : H0 L = none) (hσ : S σ) (h0 : Same H0 H) (hL : H L = some (.lst [])) (p0 : Pv 0 []) (hz : n ≤ sizeLine) (hl : ∀ i ys, Pv i ys → ys.length ≤ i)
    (turn : ∀ i σ H' ys, i < n → S σ → Same H0 H' → H' L = some (.lst ys) → Pv i ys → ∀ (N : St → V → Hp → Prop) (M : St → Hp → Prop), (∀ σ3 y H5, S σ3 → Same H0 H5 → H5 L = some (.lst ys) → Pv (i + 1) (ys ++ [y]) → N σ3 y H5) →
      ∀ x H2, J.yld i H' x H2 → g x σ H2 fun σ3 H3 => tt σ3 H3 fun b H4 => if b = true then te σ3 H4 fun y H5 => N σ3 y H5 else M σ3 H4)
    (fin : ∀ H' ys, Same H0 H' → H' L = some (.lst ys) → Pv n ys → Q H') :
    ∃ W : Nat → Nat → St → Hp → Prop, (∃ m, W 0 m σ H) ∧ ∀ i m σ H, W i m σ H → (J.stop i H ∧ Q H) ∨ (J.go i H ∧ ∀ x H2, J.yld i H x H2 → g x σ H2 fun σ3 H3 => tt σ3 H3 fun b H4 => if b = true
      then te σ3 H4 fun y H5 => ∃ ys, H5 L = some (.lst ys) ∧ ys.length < sizeLine ∧ ∃ m', m' < m ∧ W (i + 1) m' σ3 (upd H5 L (.lst (ys ++ [y])))
      else ∃ m', m' < m ∧ W (i + 1) m' σ3 H4) := by
  refine ⟨fun i m σ H => m + i = n ∧ S σ ∧ Same H0 H ∧ ∃ ys, H L = some (.lst ys) ∧ Pv i ys, ⟨n, rfl, hσ, h0, [], hL, p0⟩, ?_⟩
  rintro i m σ H ⟨hm, hs, hsame, ys, hys, hp⟩
  by_cases hi : i < n
  · refine .inr ⟨hgo i H hi hsame, fun x H2 hy => turn i σ H ys hi hs hsame hys hp _ _ (fun σ3 y H5 k1 k2 k3 k4 => ?_) x H2 hy⟩
    refine ⟨ys, k3, by have := hl i ys hp; omega, m - 1, by omega, by omega, k1, fun b o e => ?_, ys ++ [y], upd_same, k4⟩
    rw [upd_ne (ne_of_none e hn0)]; exact k2 b o e
  · have e : i = n := by omega
    subst e
    exact .inl ⟨hstop H hsame, fin H ys hsame hys hp⟩
theorem comp_lst {a L : Addr} {xs : List V} {Q : Hp → Prop} {σ : St} {H : Hp} (H0 : Hp) (S : St → Prop) (Pv : Nat → List V → Prop) (ha : SqL K H0 a xs)
    (hn0 : H0 L = none) (hσ : S σ) (h0 : Same H0 H) (hL : H L = some (.lst [])) (p0 : Pv 0 []) (hz : xs.length ≤ sizeLine) (hl : ∀ i ys, Pv i ys → ys.length ≤ i)
    (turn : ∀ i x σ H' ys, xs[i]? = some x → S σ → Same H0 H' → H' L = some (.lst ys) → Pv i ys → ∀ (N : St → V → Hp → Prop) (M : St → Hp → Prop), (∀ σ3 y H5, S σ3 → Same H0 H5 → H5 L = some (.lst ys) → Pv (i + 1) (ys ++ [y]) → N σ3 y H5) →
      g x σ H' fun σ3 H3 => tt σ3 H3 fun b H4 => if b = true then te σ3 H4 fun y H5 => N σ3 y H5 else M σ3 H4)
    (fin : ∀ H' ys, Same H0 H' → H' L = some (.lst ys) → Pv xs.length ys → Q H') :
    ∃ W : Nat → Nat → St → Hp → Prop, (∃ m, W 0 m σ H) ∧ ∀ i m σ H, W i m σ H → ((Itl K a).stop i H ∧ Q H) ∨ ((Itl K a).go i H ∧ ∀ x H2, (Itl K a).yld i H x H2 → g x σ H2 fun σ3 H3 => tt σ3 H3 fun b H4 => if b = true
      then te σ3 H4 fun y H5 => ∃ ys, H5 L = some (.lst ys) ∧ ys.length < sizeLine ∧ ∃ m', m' < m ∧ W (i + 1) m' σ3 (upd H5 L (.lst (ys ++ [y])))
      else ∃ m', m' < m ∧ W (i + 1) m' σ3 H4) :=
  comp_it xs.length H0 S Pv (fun i H' hi e => ⟨xs, xs[i], e.seq ha, List.getElem?_eq_getElem hi⟩) (fun H' e => ⟨xs, e.seq ha, Nat.le_refl _⟩) hn0 hσ h0 hL p0 hz hl
    (fun i σ H' ys _ hs e k p N M hN x H2 hy => by
      obtain ⟨rfl, hx⟩ := hy
      exact turn i x σ H2 ys (hx xs (e.seq ha)) hs e k p N M hN) fin
theorem comp_rng {lo : Int} {n : Nat} {L : Addr} {Q : Hp → Prop} {σ : St} {H : Hp} (H0 : Hp) (S : St → Prop) (Pv : Nat → List V → Prop)
    (hn0 : H0 L = none) (hσ : S σ) (h0 : Same H0 H) (hL : H L = some (.lst [])) (p0 : Pv 0 []) (hz : n ≤ sizeLine) (hl : ∀ i ys, Pv i ys → ys.length ≤ i)
    (turn : ∀ i σ H' ys, i < n → S σ → Same H0 H' → H' L = some (.lst ys) → Pv i ys → ∀ (N : St → V → Hp → Prop) (M : St → Hp → Prop), (∀ σ3 y H5, S σ3 → Same H0 H5 → H5 L = some (.lst ys) → Pv (i + 1) (ys ++ [y]) → N σ3 y H5) →
      g (.int (lo + i)) σ H' fun σ3 H3 => tt σ3 H3 fun b H4 => if b = true then te σ3 H4 fun y H5 => N σ3 y H5 else M σ3 H4)
    (fin : ∀ H' ys, Same H0 H' → H' L = some (.lst ys) → Pv n ys → Q H') :
    ∃ W : Nat → Nat → St → Hp → Prop, (∃ m, W 0 m σ H) ∧ ∀ i m σ H, W i m σ H → ((Itr lo n).stop i H ∧ Q H) ∨ ((Itr lo n).go i H ∧ ∀ x H2, (Itr lo n).yld i H x H2 → g x σ H2 fun σ3 H3 => tt σ3 H3 fun b H4 => if b = true
      then te σ3 H4 fun y H5 => ∃ ys, H5 L = some (.lst ys) ∧ ys.length < sizeLine ∧ ∃ m', m' < m ∧ W (i + 1) m' σ3 (upd H5 L (.lst (ys ++ [y])))
      else ∃ m', m' < m ∧ W (i + 1) m' σ3 H4) :=
  comp_it n H0 S Pv (fun i H' hi e => hi) (fun H' e => Nat.le_refl _) hn0 hσ h0 hL p0 hz hl
    (fun i σ H' ys hi hs e k p N M hN x H2 hy => by
      obtain ⟨rfl, rfl⟩ := hy
      exact turn i σ H2 ys hi hs e k p N M hN) fin
theorem comp_zip {a c L : Addr} {xs zs : List V} {Q : Hp → Prop} {σ : St} {H : Hp} (H0 : Hp) (S : St → Prop) (Pv : Nat → List V → Prop) (ha : SqL K H0 a xs) (hc : SqL K H0 c zs)
    (hn0 : H0 L = none) (hσ : S σ) (h0 : Same H0 H) (hL : H L = some (.lst [])) (p0 : Pv 0 []) (hz : min xs.length zs.length ≤ sizeLine) (hl : ∀ i ys, Pv i ys → ys.length ≤ i)
    (turn : ∀ i x z p σ H' ys, xs[i]? = some x → zs[i]? = some z → H' p = none → S σ → Same H0 H' → H' L = some (.lst ys) → Pv i ys → ∀ (N : St → V → Hp → Prop) (M : St → Hp → Prop), (∀ σ3 y H5, S σ3 → Same H0 H5 → H5 L = some (.lst ys) → Pv (i + 1) (ys ++ [y]) → N σ3 y H5) →
      g (.ref p) σ (upd H' p (.tup [x, z])) fun σ3 H3 => tt σ3 H3 fun b H4 => if b = true then te σ3 H4 fun y H5 => N σ3 y H5 else M σ3 H4)
    (fin : ∀ H' ys, Same H0 H' → H' L = some (.lst ys) → Pv (min xs.length zs.length) ys → Q H') :
    ∃ W : Nat → Nat → St → Hp → Prop, (∃ m, W 0 m σ H) ∧ ∀ i m σ H, W i m σ H → ((Itz K a c).stop i H ∧ Q H) ∨ ((Itz K a c).go i H ∧ ∀ x H2, (Itz K a c).yld i H x H2 → g x σ H2 fun σ3 H3 => tt σ3 H3 fun b H4 => if b = true
      then te σ3 H4 fun y H5 => ∃ ys, H5 L = some (.lst ys) ∧ ys.length < sizeLine ∧ ∃ m', m' < m ∧ W (i + 1) m' σ3 (upd H5 L (.lst (ys ++ [y])))
      else ∃ m', m' < m ∧ W (i + 1) m' σ3 H4) :=
  comp_it (min xs.length zs.length) H0 S Pv
    (fun i H' hi e => ⟨xs, zs, xs[i]'(by omega), zs[i]'(by omega), e.seq ha, e.seq hc, List.getElem?_eq_getElem _, List.getElem?_eq_getElem _⟩) (fun H' e => ⟨xs, zs, e.seq ha, e.seq hc, by omega⟩) hn0 hσ h0 hL p0 hz hl
    (fun i σ H' ys _ hs e k p N M hN v H2 hy => by
      obtain ⟨t, x, z, ht, rfl, rfl, hx, hz'⟩ := hy
      exact turn i x z t σ H' ys (hx xs (e.seq ha)) (hz' zs (e.seq hc)) ht hs e k p N M hN) fin
theorem for_zip {a c : Addr} {xs zs : List V} {σ : St} {H : Hp} (Pv : Nat → St → Hp → Prop) (h0 : Pv 0 σ H) (hl : ∀ i σ H, Pv i σ H → SqL K H a xs ∧ SqL K H c zs)
    (hs : ∀ i x z p σ H, xs[i]? = some x → zs[i]? = some z → H p = none → Pv i σ H → g (.ref p) σ (upd H p (.tup [x, z])) fun σ2 H2 => tb { D with nx := Pv (i + 1), ct := Pv (i + 1), bk := D.nx } σ2 H2) (hd : ∀ σ H, Pv (min xs.length zs.length) σ H → D.nx σ H) :
    ∃ W : Nat → Nat → St → Hp → Prop, (∃ m, W 0 m σ H) ∧ ∀ i m σ H, W i m σ H →
      ((Itz K a c).stop i H ∧ D.nx σ H) ∨ ((Itz K a c).go i H ∧ ∃ N : St → Hp → Prop, (∀ σ' H', N σ' H' → ∃ m', m' < m ∧ W (i + 1) m' σ' H') ∧ ∀ x H', (Itz K a c).yld i H x H' → g x σ H' fun σ2 H2 => tb { D with nx := N, ct := N, bk := D.nx } σ2 H2) := by
  refine ⟨fun i m σ H => m + i = min xs.length zs.length ∧ Pv i σ H, ⟨min xs.length zs.length, rfl, h0⟩, ?_⟩
  rintro i m σ H ⟨hm, p⟩
  obtain ⟨q1, q2⟩ := hl i σ H p
  by_cases hlt : i < min xs.length zs.length
  · refine .inr ⟨⟨xs, zs, xs[i]'(by omega), zs[i]'(by omega), q1, q2, List.getElem?_eq_getElem _, List.getElem?_eq_getElem _⟩, Pv (i + 1), fun σ' H' p' => ⟨m - 1, by omega, by omega, p'⟩, fun v H' hy => ?_⟩
    obtain ⟨t, x, z, ht, rfl, rfl, hx, hz⟩ := hy
    exact hs i x z t σ H (hx xs q1) (hz zs q2) ht p
  · have e : i = min xs.length zs.length := by omega
    subst e
    exact .inl ⟨⟨xs, zs, q1, q2, by omega⟩, hd σ H p⟩
theorem for_enum {a : Addr} {xs : List V} {σ : St} {H : Hp} (Pv : Nat → St → Hp → Prop) (h0 : Pv 0 σ H) (hl : ∀ i σ H, Pv i σ H → SqL K H a xs)
    (hs : ∀ i x p σ H, xs[i]? = some x → H p = none → Pv i σ H → g (.ref p) σ (upd H p (.tup [.int i, x])) fun σ2 H2 => tb { D with nx := Pv (i + 1), ct := Pv (i + 1), bk := D.nx } σ2 H2) (hd : ∀ σ H, Pv xs.length σ H → D.nx σ H) :
    ∃ W : Nat → Nat → St → Hp → Prop, (∃ m, W 0 m σ H) ∧ ∀ i m σ H, W i m σ H →
      ((Ite K a).stop i H ∧ D.nx σ H) ∨ ((Ite K a).go i H ∧ ∃ N : St → Hp → Prop, (∀ σ' H', N σ' H' → ∃ m', m' < m ∧ W (i + 1) m' σ' H') ∧ ∀ x H', (Ite K a).yld i H x H' → g x σ H' fun σ2 H2 => tb { D with nx := N, ct := N, bk := D.nx } σ2 H2) := by
  refine ⟨fun i m σ H => m + i = xs.length ∧ Pv i σ H, ⟨xs.length, rfl, h0⟩, ?_⟩
  rintro i m σ H ⟨hm, p⟩
  have q1 := hl i σ H p
  by_cases hlt : i < xs.length
  · refine .inr ⟨⟨xs, xs[i], q1, List.getElem?_eq_getElem _⟩, Pv (i + 1), fun σ' H' p' => ⟨m - 1, by omega, by omega, p'⟩, fun v H' hy => ?_⟩
    obtain ⟨t, x, ht, rfl, rfl, hx⟩ := hy
    exact hs i x t σ H (hx xs q1) ht p
  · have e : i = xs.length := by omega
    subst e
    exact .inl ⟨⟨xs, q1, by omega⟩, hd σ H p⟩
end
/-- == of lists of ints -/
theorem eqv_ints (ns ms : List Int) : PyData.eqv (.list (ns.map PyData.int)) (.list (ms.map PyData.int)) = decide (ns = ms) := by
  rw [PyData.eqv, PySem.W.ked_eqvAll]
end L2

/-! MY OWN RULES, part 9: comprehensions whose block has cells of its own (a comprehension within it sees its names) -/
namespace L2
open PySem PySem.Spec PyProof.Rows
theorem cellsFrom_acc : ∀ (names : List (Str × NameKind)) (n : Nat) (acc : List (Str × Addr)), cellsFrom n names acc = cellsFrom n names [] ++ acc
  | [], _, acc => rfl
  | (x, k) :: r, n, acc => by
    unfold cellsFrom
    split
    · rw [cellsFrom_acc r (n + 1) ((x, n) :: acc), cellsFrom_acc r (n + 1) [(x, n)], List.append_assoc]; rfl
    · exact cellsFrom_acc r n acc
theorem cellsFrom_has {x : Str} : ∀ (names : List (Str × NameKind)) (n : Nat) (acc : List (Str × Addr)), ((x, NameKind.cell) ∈ names ∨ ∃ c, acc.lookup x = some c) → ∃ c, (cellsFrom n names acc).lookup x = some c
  | [], _, _, h => h.elim (fun z => by cases z) fun z => z
  | (y, k) :: r, n, acc, h => by
    unfold cellsFrom
    by_cases hk : (k == NameKind.cell) = true
    · rw [if_pos hk]
      refine cellsFrom_has r (n + 1) _ ?_
      by_cases e : x = y
      · subst e; exact .inr ⟨n, by simp⟩
      · rcases h with h | ⟨c, hc⟩
        · rcases List.mem_cons.mp h with z | z
          · cases z; exact absurd rfl e
          · exact .inl z
        · exact .inr ⟨c, by rw [List.lookup_cons, beq_eq_false_iff_ne.mpr e]; exact hc⟩
    · rw [if_neg hk]
      refine cellsFrom_has r n acc ?_
      rcases h with h | h
      · rcases List.mem_cons.mp h with z | z
        · cases z; exact absurd rfl hk
        · exact .inl z
      · exact .inr h
theorem cellsFrom_mem {x : Str} {c : Addr} : ∀ (names : List (Str × NameKind)) (n : Nat) (acc : List (Str × Addr)), (x, c) ∈ cellsFrom n names acc → (x, NameKind.cell) ∈ names ∨ (x, c) ∈ acc
  | [], _, _, h => .inr h
  | (y, k) :: r, n, acc, h => by
    unfold cellsFrom at h
    by_cases hk : (k == NameKind.cell) = true
    · rw [if_pos hk] at h
      rcases cellsFrom_mem r (n + 1) _ h with z | z
      · exact .inl (List.mem_cons_of_mem _ z)
      · rcases List.mem_cons.mp z with w | w
        · cases w
          have : k = .cell := by simpa using hk
          subst this
          exact .inl (List.mem_cons_self ..)
        · exact .inr w
    · rw [if_neg hk] at h
      rcases cellsFrom_mem r n acc h with z | z
      · exact .inl (List.mem_cons_of_mem _ z)
      · exact .inr z
/-- the block's cells: its own, and those that it takes over -/
def ownAt (scope : Scope) (s : Shared) : List (Str × Addr) := cellsFrom (s.heap.objs.size + 1) scope.names []
def clAt (scope : Scope) (env : Env) (s : Shared) : List (Str × Addr) := ownAt scope s ++ clOf scope env
def cxC (X : Cx) (pins : List (Addr × Obj)) (N : List Str) (scope : Scope) (fp : List Addr) (s : Shared) (H : Hp) : Cx where
  prog := X.prog
  w := X.w
  K := X.K
  mg := X.mg
  base := X.base
  A := X.A
  N := N
  s₀ := s
  H₀ := H
  env := compEnvC scope (clAt scope X.env s) s.heap.objs.size X.env
  outer := X.stack
  stack := X.stack
  ex := fp
  fn := fun x => scope.names.lookup x == some .cell
  calm := X.calm
  pn := X.pn ++ pins
  xe := fun _ _ => False
structure BlkC (X : Cx) (N : List Str) (fr : List (Option Nat)) (scope : Scope) : Prop where
  clos : closureFor scope X.env = pure (clOf scope X.env)
  kind : scope.kind = .function
  owned : ∀ y ∈ scope.names, y.2 = .cell → scope.names.lookup y.1 = some .cell
  names : ∀ y ∈ scope.names, y.2 = .local → scope.names.lookup y.1 = some .local
  cells : ∀ x c, (clOf scope X.env).lookup x = some c → X.env.cells.lookup x = some c
  has : ∀ x, ((relabel scope X.env).names.lookup x = some .cell ∨ (relabel scope X.env).names.lookup x = some .free) → scope.names.lookup x = some .cell ∨ ∃ c, (clOf scope X.env).lookup x = some c
  len : fr.length = N.length
  out : ∀ (i j : Nat) (x : Str), N[i]? = some x → fr[i]? = some (some j) → X.N[j]? = some x ∧ X.env.kindOf x = some .cell ∧ scope.names.lookup x = some .free ∧ ((relabel scope X.env).names.lookup x = some .cell ∨ (relabel scope X.env).names.lookup x = some .free) ∧ ∃ c, (clOf scope X.env).lookup x = some c
structure BlkSC (sc scope : Scope) (NX N : List Str) (fr : List (Option Nat)) : Prop where
  okind : sc.kind = .function
  kind : scope.kind = .function
  owned : ∀ y ∈ scope.names, y.2 = .cell → scope.names.lookup y.1 = some .cell
  names : ∀ y ∈ scope.names, y.2 = .local → scope.names.lookup y.1 = some .local
  free : ∀ y ∈ scope.names, y.2 = .free → sc.names.lookup y.1 = some .cell
  len : fr.length = N.length
  out : ((List.range N.length).all fun i => match fr[i]? with
    | some (some j) => (match N[i]? with
      | some x => (NX[j]? == some x) && (scope.names.lookup x == some .free)
      | none => false)
    | _ => true) = true
theorem BlkSC.blk {X : Cx} {sc scope : Scope} {NX N : List Str} {fr : List (Option Nat)} (B : BlkSC sc scope NX N fr) (e1 : X.env.scope = sc) (e2 : X.N = NX) (ok : X.Ok) : BlkC X N fr scope := by
  subst e1 e2
  have fc : ∀ y ∈ scope.names, y.2 = .free → ∃ c, X.env.cells.lookup y.1 = some c := fun y hy hf => ok.has y.1 (.inl (B.free y hy hf))
  have lk : ∀ x, (relabel scope X.env).names.lookup x = (scope.names.lookup x).map fun k => if (k == NameKind.free && X.env.scope.kind == .function && X.env.kindOf x == some .cell) = true then NameKind.cell else k := fun x => relabel_lookup x scope.names
  have isfree : ∀ x, scope.names.lookup x = some .free → (relabel scope X.env).names.lookup x = some .cell := fun x hx => by
    have hk : X.env.kindOf x = some .cell := B.free (x, .free) (mem_of_lk hx) rfl
    rw [lk, hx, Option.map_some, hk, B.okind]
    rfl
  refine ⟨clos_of fc, B.kind, B.owned, B.names, fun x c h => clGo_cells fc (fun x c h => by cases h) x c h, fun x h => ?_, B.len, fun i j x h1 h2 => ?_⟩
  · rw [lk] at h
    cases e : scope.names.lookup x with
    | none => rw [e] at h; rcases h with h | h <;> cases h
    | some k =>
      rw [e, Option.map_some] at h
      have hm := mem_of_lk e
      cases k with
      | free => exact .inr (clGo_has (.inl hm))
      | cell => exact .inl rfl
      | _ => rcases h with h | h <;> simp at h
  · have hi : i < N.length := (List.getElem?_eq_some_iff.mp h1).1
    have := List.all_eq_true.mp B.out i (List.mem_range.mpr hi)
    rw [h2] at this
    dsimp only at this
    rw [h1] at this
    dsimp only at this
    rw [Bool.and_eq_true] at this
    have a1 : X.N[j]? = some x := by simpa using this.1
    have a2 : scope.names.lookup x = some .free := by simpa using this.2
    exact ⟨a1, B.free (x, .free) (mem_of_lk a2) rfl, a2, .inl (isfree x a2), clGo_has (.inl (mem_of_lk a2))⟩
section
variable {X : Cx} {pins : List (Addr × Obj)} {σ : St} {H : Hp} {s : Shared} {N : List Str} {fr : List (Option Nat)} {scope : Scope} {fp : List Addr}
theorem own_gt {x : Str} {c : Addr} (h : (ownAt scope s).lookup x = some c) : s.heap.objs.size < c := by
  have ok := cellsFrom_ok scope.names (s.heap.push { cls := .type "dict", data := .dict #[] }) (s.heap.objs.size + 1) [] ⟨fun _ _ hm => (nomatch hm), List.Pairwise.nil⟩ (by rw [Heap.size_push]; exact Nat.le_refl _)
  rw [Heap.size_push] at ok
  exact (ok.empty x c (mem_of_lookup h)).2
theorem own_cell {x : Str} {c : Addr} (h : (ownAt scope s).lookup x = some c) : (pushCells (s.heap.push { cls := .type "dict", data := .dict #[] }) scope.names).IsCell c none := by
  have ok := cellsFrom_ok scope.names (s.heap.push { cls := .type "dict", data := .dict #[] }) (s.heap.objs.size + 1) [] ⟨fun _ _ hm => (nomatch hm), List.Pairwise.nil⟩ (by rw [Heap.size_push]; exact Nat.le_refl _)
  rw [Heap.size_push] at ok
  exact (ok.empty x c (mem_of_lookup h)).1
theorem own_inj {x y : Str} {c : Addr} (h : (ownAt scope s).lookup x = some c) (h' : (ownAt scope s).lookup y = some c) : x = y := by
  have ok := cellsFrom_ok scope.names (s.heap.push { cls := .type "dict", data := .dict #[] }) (s.heap.objs.size + 1) [] ⟨fun _ _ hm => (nomatch hm), List.Pairwise.nil⟩ (by rw [Heap.size_push]; exact Nat.le_refl _)
  rw [Heap.size_push] at ok
  exact name_of_addr ok.apart (mem_of_lookup h) (mem_of_lookup h')
theorem clAt_cases {env : Env} {x : Str} {c : Addr} (h : (clAt scope env s).lookup x = some c) : (ownAt scope s).lookup x = some c ∨ (ownAt scope s).lookup x = none ∧ (clOf scope env).lookup x = some c := by
  unfold clAt at h
  rw [List.lookup_append] at h
  cases e : (ownAt scope s).lookup x with
  | none => rw [e] at h; exact .inr ⟨rfl, by simpa using h⟩
  | some d => rw [e] at h; exact .inl (by simpa using h)
theorem clAt_own {env : Env} {x : Str} {c : Addr} (h : (ownAt scope s).lookup x = some c) : (clAt scope env s).lookup x = some c := by
  unfold clAt; rw [List.lookup_append, h]; rfl
theorem BlkC.clAt_free (B : BlkC X N fr scope) {x : Str} {c : Addr} (hf : scope.names.lookup x = some .free) (h : (clOf scope X.env).lookup x = some c) : (clAt scope X.env s).lookup x = some c := by
  have : (ownAt scope s).lookup x = none := by
    cases e : (ownAt scope s).lookup x with
    | none => rfl
    | some d =>
      rcases cellsFrom_mem _ _ _ (mem_of_lookup e) with z | z
      · have := B.owned _ z rfl
        rw [hf] at this; cases this
      · cases z
  unfold clAt; rw [List.lookup_append, this]; exact h
theorem blk_okC (B : BlkC X N fr scope) (I : Inv X pins σ H s) (f : ∀ b ∈ fp, FpOk X pins H b ∧ b < s.heap.objs.size) : (cxC X pins N scope fp s H).Ok where
  mod := I.mod
  kind := B.kind
  glob := I.ok.glob
  blt := I.ok.blt
  above := Nat.le_refl _
  inj := fun x y c h1 h2 => by
    have old : ∀ {x c}, (clOf scope X.env).lookup x = some c → c < s.heap.objs.size := fun h => by
      obtain ⟨v, o, ho, _⟩ := I.cell _ _ (B.cells _ _ h)
      exact Heap.lt_size ho
    rcases clAt_cases h1 with a | ⟨_, a⟩ <;> rcases clAt_cases h2 with b | ⟨_, b⟩
    · exact own_inj a b
    · exact absurd (Nat.lt_trans (own_gt a) (old b)) (Nat.lt_irrefl _)
    · exact absurd (Nat.lt_trans (own_gt b) (old a)) (Nat.lt_irrefl _)
    · exact I.ok.inj x y c (B.cells x c a) (B.cells y c b)
  has := fun x h => by
    rcases B.has x h with z | ⟨c, hc⟩
    · obtain ⟨c, hc⟩ := cellsFrom_has (x := x) scope.names (s.heap.objs.size + 1) [] (.inl (mem_of_lk z))
      exact ⟨c, clAt_own hc⟩
    · cases e : (ownAt scope s).lookup x with
      | none => exact ⟨c, by show (clAt scope X.env s).lookup x = some c; unfold clAt; rw [List.lookup_append, e]; exact hc⟩
      | some d => exact ⟨d, clAt_own e⟩
  cab := fun x c h hc => by
    have hx : scope.names.lookup x = some .cell := by simpa [cxC] using h
    obtain ⟨d, hd⟩ := cellsFrom_has (x := x) scope.names (s.heap.objs.size + 1) [] (.inl (mem_of_lk hx))
    have e : (clAt scope X.env s).lookup x = some d := clAt_own hd
    have e2 : (clAt scope X.env s).lookup x = some c := hc
    rw [e] at e2; cases e2
    exact Nat.le_of_lt (own_gt hd)
  hd := I.ok.hd
  frames := I.ok.frames
  stk := .inl rfl
  exf := fun b hb => ⟨Nat.ne_of_lt (f b hb).2, fun x c h => by
    rcases clAt_cases h with a | ⟨_, a⟩
    · exact fun z => absurd (Nat.lt_trans (own_gt a) (by rw [z]; exact (f b hb).2)) (Nat.lt_irrefl _)
    · exact (f b hb).1.2.2.2.2.1 x c (B.cells x c a)⟩
  bs := I.bs
  bsz := Nat.le_trans I.ok.bsz I.sz
  noex := fun b o e hb => by
    rcases (f b hb).1.2.2.2.1 with h | h
    · exact I.ok.noex b o e h
    · exact absurd (Nat.lt_of_lt_of_le (Heap.lt_size e) (Nat.le_trans I.ok.bsz h)) (Nat.lt_irrefl _)
  exfs := fun b hb h => by
    rcases List.mem_cons.mp (I.stkSub b h) with z | z
    · exact (f b hb).1.2.1 z
    · exact (f b hb).1.2.2.1 z
  funs := I.stack
  frf := I.stkFree
theorem blk_startC {h1 : Heap} {t1 : Nat} (B : BlkC X N fr scope) (I : Inv X pins σ H s) (f : ∀ b ∈ fp, FpOk X pins H b ∧ b < s.heap.objs.size) (hns : h1.Ns s.heap.objs.size fun _ => none)
    (hsb : ∀ b o, s.heap.get? b = some o → h1.get? b = some o) (hown : ∀ x c, (ownAt scope s).lookup x = some c → h1.IsCell c none) : Inv (cxC X pins N scope fp s H) [] (startB fr σ) H { s with heap := h1, toks := t1 } := by
  obtain ⟨m, hm, hl⟩ := I.loc
  refine ⟨blk_okC B I f, rfl, I.bare, Un.kept hsb, ⟨_, hns, fun i x v e1 e2 _ => ?_⟩, fun x c h => ?_, I.hok.fresh (Nat.le_refl _), fun x c h => ?_, fun p hp => ?_, I.hok.kept hsb, ?_⟩
  · obtain ⟨j, ej, es⟩ := startB_get e2
    obtain ⟨o1, o2, of, o3, c, hc⟩ := B.out i j x e1 ej
    obtain ⟨u, ru, L⟩ := hl j x v o1 es (.inr (.inl o2))
    refine ⟨u, ru, .inr ⟨o3, ?_⟩⟩
    rcases L with ⟨k1, _⟩ | ⟨_, c', hc', cc⟩
    · rw [o2] at k1; cases k1
    · rw [B.cells x c hc] at hc'
      cases hc'
      exact ⟨c, B.clAt_free of hc, cc.keeps hsb⟩
  · rcases clAt_cases h with a | ⟨_, a⟩
    · exact ⟨none, hown x c a⟩
    · obtain ⟨v, hv⟩ := I.cell x c (B.cells x c a)
      exact ⟨v, hv.keeps hsb⟩
  · rcases clAt_cases h with a | ⟨_, a⟩
    · exact I.hok.fresh (Nat.le_of_lt (own_gt a))
    · exact I.freeC x c (B.cells x c a)
  · have hp' : p ∈ X.pn ++ pins := by rw [List.append_nil] at hp; exact hp
    obtain ⟨p1, p2, p3, p4, p5⟩ := I.pin p hp'
    exact ⟨hsb _ _ p1, p2, Nat.ne_of_lt (Heap.lt_size p1), fun z => (List.mem_cons.mp (I.stkSub _ z)).elim p3 p4, p5⟩
  · show (startB fr σ).length = N.length
    unfold startB
    rw [List.length_map, B.len]
theorem newEnv_cells {M : Model} {A : Around} {E : Value → Shared → Prop} {globals : Addr} {cl : List (Str × Addr)} {qual : Str} {env : Env} {Q : Env → Shared → Prop}
    (hQ : Q { scope := scope, locals := s.heap.objs.size, globals := globals, cells := ownAt scope s ++ cl, qual := qual, func := none, code := env.code, frame := env.frame, builtins := env.builtins }
      { s with heap := pushCells (s.heap.push { cls := .type "dict", data := .dict #[] }) scope.names }) :
    wpAny M A (newFunctionEnv scope globals cl [] qual none .none (some env)) Q E s := by
  simp only [newFunctionEnv, Option.isSome_some, if_true]
  refine wpAny_bind (wpAny_alloc ?_)
  refine wpAny_bind (wpAny_layCells _ (fun name kind cells => by cases hkc : kind == NameKind.cell <;> simp [hkc]) _ _ _ _ ?_)
  rw [show ({ s with heap := s.heap.push { cls := .type "dict", data := .dict #[] } } : Shared).heap.objs.size = s.heap.objs.size + 1 from Heap.size_push .., cellsFrom_acc]
  rw [List.forIn_nil]
  exact wpAny_bind (wpAny_pure (wpAny_pure hQ))
end
section
variable {X : Cx} {elt tg iter : Expr} {ifs : List Expr} {scope : Scope} {pos spos py : Pos} {N : List Str} {fr : List (Option Nat)} {wi : TI} {g : TG} {tt : TT} {te : TE}
/-- the block's loop -/
theorem comp_inC (B : BlkC X N fr scope) (hc : X.calm = true)
    (hg : ∀ pins fp s H, PG (cxC X pins N scope fp s H) tg g) (ht : ∀ pins fp s H, PTs (cxC X pins N scope fp s H) ifs tt) (he : ∀ pins fp s H, PE (cxC X pins N scope fp s H) elt te)
    {pins : List (Addr × Obj)} {s3 : Shared} {σ : St} {H3 : Hp} {Q : VK} {it D : Addr} {fp : List Addr} {tn : Nat → Heap → Prop} {J : It} (I3 : Inv X pins σ H3 s3) (T : Turn X.prog X.w X.K tg J fp it tn) (st3 : tn 0 s3.heap) (f3 : ∀ b ∈ fp, FpOk X pins H3 b ∧ b < s3.heap.objs.size)
    {W : Nat → Nat → St → Hp → Prop} {m0 : Nat} (w0 : W 0 m0 (startB fr σ) H3)
    (turn : ∀ i m σ H, W i m σ H → (J.stop i H ∧ Q (.ref D) H) ∨ (J.go i H ∧ ∀ x H2, J.yld i H x H2 → g x σ H2 fun σ3 H3 => tt σ3 H3 fun b H4 => if b = true
        then te σ3 H4 fun y H5 => ∃ ys, H5 D = some (.lst ys) ∧ ys.length < sizeLine ∧ ∃ m', m' < m ∧ W (i + 1) m' σ3 (upd H5 D (.lst (ys ++ [y])))
        else ∃ m', m' < m ∧ W (i + 1) m' σ3 H4))
    {R : Result → Shared → Prop} (hR : ∀ s' H', Inv X pins σ H' s' → FpOk X pins H' s3.heap.objs.size → (∃ m, s'.heap.Ns s3.heap.objs.size m) → Q (.ref D) H' → R (.ok .next) s')
    {h₁ : Heap} {t1 : Nat} (hns : h₁.Ns s3.heap.objs.size fun _ => none) (up3 : ∀ b o, s3.heap.get? b = some o → h₁.get? b = some o) (hown : ∀ x c, (ownAt scope s3).lookup x = some c → h₁.IsCell c none) :
    codeAny (model X.prog X.w) X.A (.compLoop (.ListComp elt [⟨tg, iter, ifs, 0⟩] scope pos) 0 (.ref it) (.ref D) (compEnvC scope (clAt scope X.env s3) s3.heap.objs.size X.env)) R { s3 with heap := h₁, toks := t1 } := by
  have Ib := blk_startC (t1 := t1) B I3 f3 hns up3 hown
  have stat : ∀ {H' : Hp}, (∀ b ∈ fp, H' b = none) → ∀ b ∈ fp, FpOk (cxC X pins N scope fp s3 H3) [] H' b := fun hn b hb =>
    ⟨hn b hb, Nat.ne_of_lt (f3 b hb).2, (blk_okC B I3 f3).exfs b hb, .inl hb, ((blk_okC B I3 f3).exf b hb).2, fun p hp => (f3 b hb).1.2.2.2.2.2 p (by rw [List.append_nil] at hp; exact hp)⟩
  refine comp_loop (fun n s' => ∃ i σ' H', Inv (cxC X pins N scope fp s3 H3) [] σ' H' s' ∧ tn i s'.heap ∧ (∀ b ∈ fp, H' b = none) ∧ W i n σ' H') ?_ m0
    ⟨0, _, _, Ib, T.keep _ _ _ st3 fun b _ o e => up3 b o e, fun b hb => (f3 b hb).1.1, w0⟩
  rintro n s4 ⟨i, σ4, H4, I4, st4, fr4, w4⟩
  rcases turn i n σ4 H4 w4 with ⟨stop, qn⟩ | ⟨go, step⟩
  · refine thn (T.done (cxC X pins N scope fp s3 H3) rfl rfl rfl hc i [] s4 σ4 H4 _ I4 (stat fr4) st4 stop) fun r s5 ⟨hr, I5⟩ => ?_
    subst hr
    have J5 : Inv X pins σ H4 s5 := I3.call' (ch := fp) I5.os I5.base I5.hok I5.bare fun b hb => ⟨(f3 b hb).1.2.2.2.1, (f3 b hb).1.2.1, (f3 b hb).1.2.2.2.2.1, (f3 b hb).1.2.2.2.2.2⟩
    obtain ⟨mm, hmm, _⟩ := I5.loc
    exact hR s5 H4 J5 (I3.fpOk (Nat.le_refl _) I5.free) ⟨mm, hmm⟩ qn
  · refine thn (T.item (cxC X pins N scope fp s3 H3) rfl rfl rfl hc i [] s4 σ4 H4 _ I4 (stat fr4) st4 go) fun r s5 ⟨u, hr, h5⟩ => ?_
    subst hr
    refine thn h5 fun _ s6 ⟨x, H6, I6, r6, y6, st6, fr6⟩ => ?_
    have I6' := I6.pinned (stat fr6) (T.obj _ _ st6)
    have back : ∀ {s7 : Shared} {σ7 : St} {H7 : Hp} {m' : Nat}, Inv (cxC X pins N scope fp s3 H3) ([] ++ pinsAt fp s6.heap) σ7 H7 s7 → m' < n → W (i + 1) m' σ7 H7 →
        ∃ m, m < n ∧ ∃ i σ' H', Inv (cxC X pins N scope fp s3 H3) [] σ' H' s7 ∧ tn i s7.heap ∧ (∀ b ∈ fp, H' b = none) ∧ W i m σ' H' := fun {s7 σ7 H7 m'} I7 hm w7 => by
      refine ⟨m', hm, i + 1, σ7, H7, I7.unpinned, T.keep _ _ _ st6 fun b hb o e => (I7.pin (b, o) (List.mem_append_right _ (List.mem_append_right _ (mem_pinsAt hb e)))).1, fun b hb => ?_, w7⟩
      obtain ⟨o, e, d⟩ := T.obj _ _ st6 b hb
      exact (I7.pin (b, o) (List.mem_append_right _ (List.mem_append_right _ (mem_pinsAt hb e)))).2.1
    refine thn (hg _ _ _ _ _ s6 σ4 H6 x u _ I6' r6 (step x H6 y6)) fun _ s7 ⟨σ7, H7, I7, q7⟩ => ?_
    refine thn (ht _ _ _ _ _ s7 σ7 H7 _ I7 q7) fun ok s8 ⟨H8, I8, q8⟩ => ?_
    cases ok with
    | false =>
      rw [if_neg (by decide)] at q8 ⊢
      obtain ⟨m', hm, w8⟩ := q8
      exact back I8 hm w8
    | true =>
      rw [if_pos rfl] at q8 ⊢
      refine thn (he _ _ _ _ _ s8 σ7 H8 _ I8 q8) fun y s9 ⟨v9, H9, I9, r9, ys, hD9, hl9, m', hm, w9⟩ => ?_
      refine thn (mt_append _ s9 σ7 H9 (.ref D) [v9] _ [y] (fun _ H' => W (i + 1) m' σ7 H') I9 rfl (.cons r9 .nil) ⟨_, ys, v9, rfl, rfl, hD9, hl9, w9⟩) fun _ s10 ⟨_, H10, I10, _, q10⟩ => ?_
      exact back I10 hm q10

/-- the block: from its iterator on -/
theorem comp_blkC (B : BlkC X N fr scope) (hc : X.calm = true)
    (hg : ∀ pins fp s H, PG (cxC X pins N scope fp s H) tg g) (ht : ∀ pins fp s H, PTs (cxC X pins N scope fp s H) ifs tt) (he : ∀ pins fp s H, PE (cxC X pins N scope fp s H) elt te)
    {pins : List (Addr × Obj)} {s2 : Shared} {σ : St} {H2 : Hp} {Q : VK} {E : Value → Shared → Prop} {it : Addr} {fp : List Addr} {tn : Nat → Heap → Prop} {J : It} (I2 : Inv X pins σ H2 s2) (T : Turn X.prog X.w X.K tg J fp it tn) (st2 : tn 0 s2.heap) (f2 : ∀ b ∈ fp, FpOk X pins H2 b)
    (q : ∀ D, H2 D = none → ∃ W : Nat → Nat → St → Hp → Prop, (∃ m, W 0 m (startB fr σ) (upd H2 D (.lst []))) ∧ ∀ i m σ H, W i m σ H →
      (J.stop i H ∧ Q (.ref D) H) ∨ (J.go i H ∧ ∀ x H2, J.yld i H x H2 → g x σ H2 fun σ3 H3 => tt σ3 H3 fun b H4 => if b = true
        then te σ3 H4 fun y H5 => ∃ ys, H5 D = some (.lst ys) ∧ ys.length < sizeLine ∧ ∃ m', m' < m ∧ W (i + 1) m' σ3 (upd H5 D (.lst (ys ++ [y])))
        else ∃ m', m' < m ∧ W (i + 1) m' σ3 H4))
    {RR : Value → Addr → Result → Shared → Prop}
    (hRR : ∀ D C s' H', Inv X pins σ H' s' → FpOk X pins H' C → (∃ m, s'.heap.Ns C m) → Q (.ref D) H' → RR (.ref D) C (.ok .next) s') :
    wpAny (model X.prog X.w) X.A (newList []) (fun acc s₃ => wpAny (model X.prog X.w) X.A (newFunctionEnv scope X.env.globals (clOf scope X.env) [] X.env.qual none .none (some X.env)) (fun cenv s₄ =>
      codeAny (model X.prog X.w) X.A (.compStart (.ListComp elt [⟨tg, iter, ifs, 0⟩] scope pos) 0 (.ref it) acc { cenv with scope := relabel scope X.env }) (RR acc cenv.locals) s₄) E s₃) E s2 := by
  have hD : H2 s2.heap.objs.size = none := I2.hok.fresh (Nat.le_refl _)
  obtain ⟨W, ⟨m0, w0⟩, turn⟩ := q s2.heap.objs.size hD
  have I3 := I2.lnew (ys := []) (its := []) (t' := s2.toks) .nil (by decide)
  have lt2 : ∀ b ∈ fp, b < s2.heap.objs.size := fun b hb => by
    obtain ⟨o, e, _⟩ := T.obj _ _ st2 b hb
    exact Heap.lt_size e
  refine wpAny_newObj_type (newEnv_cells ?_)
  have up2 : ∀ b o, s2.heap.get? b = some o → (s2.heap.push { cls := .type "list", data := .seq ([] : List Value).toArray }).get? b = some o := fun b o e => Heap.get?_push_of_some _ e
  generalize hS3 : ({ s2 with heap := s2.heap.push { cls := .type "list", data := .seq ([] : List Value).toArray } } : Shared) = s3 at *
  have hh3 : s3.heap = s2.heap.push { cls := .type "list", data := .seq ([] : List Value).toArray } := by rw [← hS3]
  have up3 : ∀ b o, s3.heap.get? b = some o → (pushCells (s3.heap.push { cls := .type "dict", data := .dict #[] }) scope.names).get? b = some o := fun b o e => pushCells_keeps _ _ b o (Heap.get?_push_of_some _ e)
  have hns : (pushCells (s3.heap.push { cls := .type "dict", data := .dict #[] }) scope.names).Ns s3.heap.objs.size fun _ => none := (Heap.Ns.new s3.heap (.type "dict")).keeps (pushCells_keeps _ _)
  have f3 : ∀ b ∈ fp, FpOk X pins (upd H2 s2.heap.objs.size (.lst [])) b ∧ b < s3.heap.objs.size := fun b hb => by
    refine ⟨⟨?_, (f2 b hb).2⟩, ?_⟩
    · rw [upd_ne (Nat.ne_of_lt (lt2 b hb))]
      exact (f2 b hb).1
    · rw [hh3, Heap.size_push]
      exact Nat.lt_succ_of_lt (lt2 b hb)
  have st3 : tn 0 s3.heap := T.keep _ _ _ st2 fun b _ o e => by rw [hh3]; exact up2 b o e
  have fin := comp_inC (iter := iter) (pos := pos) (D := s2.heap.objs.size) (t1 := s3.toks) (R := RR (.ref s2.heap.objs.size) s3.heap.objs.size) B hc hg ht he I3 T st3 f3 w0 turn
    (fun s' H' J' f m q => hRR _ _ s' H' J' f m q) hns up3 fun x c h => own_cell h
  exact codeAny_compStart_list fin (T.self _ 0 _ _ _ (T.keep _ _ _ st3 fun b _ o e => up3 b o e) fin)

/-- [elt for tg in iter if ..] as a value -/
theorem pe_compC {sc : Scope} {NX : List Str} (S : BlkSC sc scope NX N fr) (e1 : X.env.scope = sc) (e2 : X.N = NX) (hc : X.calm = true) (hi : PI X tg iter wi)
    (hg : ∀ pins fp s H, PG (cxC X pins N scope fp s H) tg g) (ht : ∀ pins fp s H, PTs (cxC X pins N scope fp s H) ifs tt) (he : ∀ pins fp s H, PE (cxC X pins N scope fp s H) elt te)
    (hs : ∀ x, foldedSetIterable iter X.env x = pure x := by intro _; rfl) : PE X (.ListComp elt [⟨tg, iter, ifs, 0⟩] scope pos) (tComp wi fr g tt te) := by
  intro pins s σ H Q I h
  have B := S.blk e1 e2 I.ok
  rw [eval_ListComp]
  refine wpAny_comprehension_free (use := none) rfl hs B.clos B.kind B.names (thn (hi pins s σ H _ I h) fun v s1 h1 => thn h1 fun itv s2 h2 => ?_)
  obtain ⟨it, fp, tn, J, H2, e, I2, T, st2, f2, q⟩ := h2
  subst e
  refine comp_blkC (RR := fun acc C => compPost (model X.prog X.w) X.A X.xe none (EP X pins σ Q) acc C) B hc hg ht he I2 T st2 f2 q ?_
  intro D C s' H' J' fC ⟨m, hm⟩ qn
  refine ⟨m, hm, fun h' hs' => ⟨.ref D, H', ?_, rfl, qn⟩⟩
  obtain ⟨f0, f1, _, f3, f4, f5⟩ := fC
  exact J'.turned (t' := s'.toks) (fun b o hb e => (hs'.2 b hb).trans e) f0 f1 f3 f4 f5
/-- y = [elt for tg in iter if ..]: the name is stored ahead of the block's end -/
theorem ps_setCC {i : Nat} {y : Str} {sc : Scope} {NX : List Str} (hN : X.N.Nodup) (hi' : X.N[i]? = some y) (hy : Loc X.env.scope y) (S : BlkSC sc scope NX N fr) (e1 : X.env.scope = sc) (e2 : X.N = NX) (hc : X.calm = true) (hi : PI X tg iter wi)
    (hg : ∀ pins fp s H, PG (cxC X pins N scope fp s H) tg g) (ht : ∀ pins fp s H, PTs (cxC X pins N scope fp s H) ifs tt) (he : ∀ pins fp s H, PE (cxC X pins N scope fp s H) elt te)
    (hsw : swapsWith (.ListComp elt [⟨tg, iter, ifs, 0⟩] scope pos) (some (.Name y py)) spos.line X.env = pure true := by rfl) (hs : ∀ x, foldedSetIterable iter X.env x = pure x := by intro _; rfl)
    (hf : X.fn y = true ∨ X.env.scope.names.lookup y = some .local := by first | exact .inl rfl | exact .inr rfl | assumption) :
    PS X (.Assign [.Name y py] (.ListComp elt [⟨tg, iter, ifs, 0⟩] scope pos) spos) (tAsg (tComp wi fr g tt te) (gName i)) := by
  intro pins s σ H D I h
  have B := S.blk e1 e2 I.ok
  rw [exec_Assign_Name_used _ _ _ _ hsw]
  refine wpAny_bind (wpAny_standAt (wpAny_bind ?_))
  show wpAny _ X.A (do let _ ← comprehension (.ListComp elt [⟨tg, iter, ifs, 0⟩] scope pos) scope X.env _ (newList []) false (eval iter X.env) (some (assign (.Name y py) X.env))) _ _ s
  refine wpAny_bind (wpAny_mono (wpAny_comprehension_free (use := some (assign (.Name y py) X.env)) (Q := fun _ s' => SP X pins D .next s') rfl hs B.clos B.kind B.names (thn (hi pins s σ H _ I h) fun v s1 h1 => thn h1 fun itv s2 h2 => ?_)) (fun _ s' hq => wpAny_pure (wpAny_pure hq)) fun _ _ e => e)
  obtain ⟨it, fp, tn, J, H2, e, I2, T, st2, f2, q⟩ := h2
  subst e
  refine comp_blkC (Q := fun v H' => gName i v σ H' D.nx) (RR := fun acc C => compPost (model X.prog X.w) X.A X.xe (some (assign (.Name y py) X.env)) (fun _ s' => SP X pins D .next s') acc C) B hc hg ht he I2 T st2 f2 q ?_
  intro D' C s' H' J' fC ⟨m, hm⟩ qn
  obtain ⟨f0, f1, _, f3, f4, f5⟩ := fC
  show wpAny _ X.A (assign (.Name y py) X.env (.ref D')) _ _ _
  refine wpAny_assign_Name (store_ok2 J' hN hi' hy (v := .ref D') rfl (fun s'' J'' ⟨a, sb, ha⟩ => ?_) hf)
  have hCa : C ≠ a := by
    rcases ha with z | z
    · rw [z]; exact f1
    · exact fun w' => f4 _ _ z w'.symm
  refine ⟨m, hm.sameBut sb hCa, fun h' hs' => ⟨_, H', ?_, qn⟩⟩
  exact J''.turned (t' := s''.toks) (fun b o hb e => (hs'.2 b hb).trans e) f0 f1 f3 f4 f5
end
/-! ### in a block: readings with K told -/
section
variable {X : Cx} {tg : Expr} (K : PySem.W.Frag)
theorem pi_listK (hK : X.K = K) {l : Expr} {tl : TE} (hl : PE X l tl) : PI X tg l (iList K tl) := by subst hK; exact pi_list hl
theorem ix_listK (hK : X.K = K) : IxR X (rIxL K) := by subst hK; exact ix_list
theorem sl_listK (hK : X.K = K) : SlR X (rSlL K) := by subst hK; exact sl_list
theorem pi_zipK (hK : X.K = K) {elts : List Expr} {x1} {tpos : Pos} {a b : Expr} {ta : TA} {p pos : Pos} (hg : Gl X "zip") (hm : X.mg "zip" = none) (ha : PA X [a, b] ta) (hs : starEach [a, b] X.env = [(false, eval a X.env), (false, eval b X.env)] := by rfl)
    (hs2 : starEach [b] X.env = [(false, eval b X.env)] := by rfl) : PI X (.Tuple elts x1 tpos) (.Call (.Name "zip" p) [a, b] [] pos) (iZip K ta) := by subst hK; exact pi_zip hg hm ha hs hs2
theorem pe_fldK (hK : X.K = K) {e : Expr} {ta : TE} {f : Str} {pos : Pos} (he : PE X e ta) (hb : attributeBase e f X.env (eval e X.env) = eval e X.env) : PE X (.Attribute e f pos) (tFld K ta f) := by subst hK; exact pe_fld he hb
end
/-- a block's scope within a scope -/
def relabelS (scope sc : Scope) : Scope := { scope with names := scope.names.map fun (y : Str × NameKind) => match y with
  | (n, k) => if (k == NameKind.free && sc.kind == .function && sc.names.lookup n == some .cell) = true then (n, NameKind.cell) else (n, k) }
end L2

/-! MY OWN RULES, part 10: comprehensions whose items are new objects: what is said of them hangs on the heap -/
namespace L2
open PySem PySem.Spec PyProof.Rows
/-- all but one place kept -/
def But (L : Addr) (H H' : Hp) : Prop := ∀ b o, H b = some o → b ≠ L → H' b = some o
theorem But.of {L : Addr} {H H' : Hp} (e : Same H H') : But L H H' := fun b o h _ => e b o h
theorem But.trans {L : Addr} {H H1 H2 : Hp} (a : But L H H1) (b : But L H1 H2) : But L H H2 := fun c o h n => b c o (a c o h n) n
theorem But.upd {L : Addr} {H : Hp} {o : HO} : But L H (upd H L o) := fun b u h n => by rw [upd_ne n]; exact h
theorem But.seq {K : PySem.W.Frag} {L : Addr} {H H' : Hp} {a : Addr} {xs : List V} (e : But L H H') (h : SqL K H a xs) (n : H a ≠ none → a ≠ L) : SqL K H' a xs := by
  rcases h with (h | ⟨o, h⟩) | h
  · exact .inl (.inl (e _ _ h (n (by rw [h]; simp))))
  · exact .inl (.inr ⟨o, e _ _ h (n (by rw [h]; simp))⟩)
  · exact .inr h
section
variable {K : PySem.W.Frag} {g : TG} {tt : TT} {te : TE}
theorem comp_itH {J : It} {L : Addr} {Q : Hp → Prop} {σ : St} {H : Hp} (n : Nat) (H0 : Hp) (S : St → Prop) (Pv : Nat → List V → Hp → Prop) (hgo : ∀ i H', i < n → Same H0 H' → J.go i H') (hstop : ∀ H', Same H0 H' → J.stop n H')
    (stab : ∀ i ys H H', But L H H' → Pv i ys H → Pv i ys H')
    (hn0 : H0 L = none) (hσ : S σ) (h0 : Same H0 H) (hL : H L = some (.lst [])) (p0 : Pv 0 [] H) (hz : n ≤ sizeLine) (hl : ∀ i ys H, Pv i ys H → ys.length ≤ i)
    (turn : ∀ i σ H' ys, i < n → S σ → Same H0 H' → H' L = some (.lst ys) → Pv i ys H' → ∀ (N : St → V → Hp → Prop) (M : St → Hp → Prop), (∀ σ3 y H5, S σ3 → Same H0 H5 → H5 L = some (.lst ys) → Pv (i + 1) (ys ++ [y]) H5 → N σ3 y H5) →
      ∀ x H2, J.yld i H' x H2 → g x σ H2 fun σ3 H3 => tt σ3 H3 fun b H4 => if b = true then te σ3 H4 fun y H5 => N σ3 y H5 else M σ3 H4)
    (fin : ∀ H' ys, Same H0 H' → H' L = some (.lst ys) → Pv n ys H' → Q H') :
    ∃ W : Nat → Nat → St → Hp → Prop, (∃ m, W 0 m σ H) ∧ ∀ i m σ H, W i m σ H → (J.stop i H ∧ Q H) ∨ (J.go i H ∧ ∀ x H2, J.yld i H x H2 → g x σ H2 fun σ3 H3 => tt σ3 H3 fun b H4 => if b = true
      then te σ3 H4 fun y H5 => ∃ ys, H5 L = some (.lst ys) ∧ ys.length < sizeLine ∧ ∃ m', m' < m ∧ W (i + 1) m' σ3 (upd H5 L (.lst (ys ++ [y])))
      else ∃ m', m' < m ∧ W (i + 1) m' σ3 H4) := by
  refine ⟨fun i m σ H => m + i = n ∧ S σ ∧ Same H0 H ∧ ∃ ys, H L = some (.lst ys) ∧ Pv i ys H, ⟨n, rfl, hσ, h0, [], hL, p0⟩, ?_⟩
  rintro i m σ H ⟨hm, hs, hsame, ys, hys, hp⟩
  by_cases hi : i < n
  · refine .inr ⟨hgo i H hi hsame, fun x H2 hy => turn i σ H ys hi hs hsame hys hp _ _ (fun σ3 y H5 k1 k2 k3 k4 => ?_) x H2 hy⟩
    refine ⟨ys, k3, by have := hl i ys H hp; omega, m - 1, by omega, by omega, k1, fun b o e => ?_, ys ++ [y], upd_same, stab _ _ _ _ But.upd k4⟩
    rw [upd_ne (ne_of_none e hn0)]; exact k2 b o e
  · have e : i = n := by omega
    subst e
    exact .inl ⟨hstop H hsame, fin H ys hsame hys hp⟩
theorem comp_lstH {a L : Addr} {xs : List V} {Q : Hp → Prop} {σ : St} {H : Hp} (H0 : Hp) (S : St → Prop) (Pv : Nat → List V → Hp → Prop) (ha : SqL K H0 a xs) (stab : ∀ i ys H H', But L H H' → Pv i ys H → Pv i ys H')
    (hn0 : H0 L = none) (hσ : S σ) (h0 : Same H0 H) (hL : H L = some (.lst [])) (p0 : Pv 0 [] H) (hz : xs.length ≤ sizeLine) (hl : ∀ i ys H, Pv i ys H → ys.length ≤ i)
    (turn : ∀ i x σ H' ys, xs[i]? = some x → S σ → Same H0 H' → H' L = some (.lst ys) → Pv i ys H' → ∀ (N : St → V → Hp → Prop) (M : St → Hp → Prop), (∀ σ3 y H5, S σ3 → Same H0 H5 → H5 L = some (.lst ys) → Pv (i + 1) (ys ++ [y]) H5 → N σ3 y H5) →
      g x σ H' fun σ3 H3 => tt σ3 H3 fun b H4 => if b = true then te σ3 H4 fun y H5 => N σ3 y H5 else M σ3 H4)
    (fin : ∀ H' ys, Same H0 H' → H' L = some (.lst ys) → Pv xs.length ys H' → Q H') :
    ∃ W : Nat → Nat → St → Hp → Prop, (∃ m, W 0 m σ H) ∧ ∀ i m σ H, W i m σ H → ((Itl K a).stop i H ∧ Q H) ∨ ((Itl K a).go i H ∧ ∀ x H2, (Itl K a).yld i H x H2 → g x σ H2 fun σ3 H3 => tt σ3 H3 fun b H4 => if b = true
      then te σ3 H4 fun y H5 => ∃ ys, H5 L = some (.lst ys) ∧ ys.length < sizeLine ∧ ∃ m', m' < m ∧ W (i + 1) m' σ3 (upd H5 L (.lst (ys ++ [y])))
      else ∃ m', m' < m ∧ W (i + 1) m' σ3 H4) :=
  comp_itH xs.length H0 S Pv (fun i H' hi e => ⟨xs, xs[i], e.seq ha, List.getElem?_eq_getElem hi⟩) (fun H' e => ⟨xs, e.seq ha, Nat.le_refl _⟩) stab hn0 hσ h0 hL p0 hz hl
    (fun i σ H' ys _ hs e k p N M hN x H2 hy => by
      obtain ⟨rfl, hx⟩ := hy
      exact turn i x σ H2 ys (hx xs (e.seq ha)) hs e k p N M hN) fin
theorem comp_rngH {lo : Int} {n : Nat} {L : Addr} {Q : Hp → Prop} {σ : St} {H : Hp} (H0 : Hp) (S : St → Prop) (Pv : Nat → List V → Hp → Prop) (stab : ∀ i ys H H', But L H H' → Pv i ys H → Pv i ys H')
    (hn0 : H0 L = none) (hσ : S σ) (h0 : Same H0 H) (hL : H L = some (.lst [])) (p0 : Pv 0 [] H) (hz : n ≤ sizeLine) (hl : ∀ i ys H, Pv i ys H → ys.length ≤ i)
    (turn : ∀ i σ H' ys, i < n → S σ → Same H0 H' → H' L = some (.lst ys) → Pv i ys H' → ∀ (N : St → V → Hp → Prop) (M : St → Hp → Prop), (∀ σ3 y H5, S σ3 → Same H0 H5 → H5 L = some (.lst ys) → Pv (i + 1) (ys ++ [y]) H5 → N σ3 y H5) →
      g (.int (lo + i)) σ H' fun σ3 H3 => tt σ3 H3 fun b H4 => if b = true then te σ3 H4 fun y H5 => N σ3 y H5 else M σ3 H4)
    (fin : ∀ H' ys, Same H0 H' → H' L = some (.lst ys) → Pv n ys H' → Q H') :
    ∃ W : Nat → Nat → St → Hp → Prop, (∃ m, W 0 m σ H) ∧ ∀ i m σ H, W i m σ H → ((Itr lo n).stop i H ∧ Q H) ∨ ((Itr lo n).go i H ∧ ∀ x H2, (Itr lo n).yld i H x H2 → g x σ H2 fun σ3 H3 => tt σ3 H3 fun b H4 => if b = true
      then te σ3 H4 fun y H5 => ∃ ys, H5 L = some (.lst ys) ∧ ys.length < sizeLine ∧ ∃ m', m' < m ∧ W (i + 1) m' σ3 (upd H5 L (.lst (ys ++ [y])))
      else ∃ m', m' < m ∧ W (i + 1) m' σ3 H4) :=
  comp_itH n H0 S Pv (fun i H' hi e => hi) (fun H' e => Nat.le_refl _) stab hn0 hσ h0 hL p0 hz hl
    (fun i σ H' ys hi hs e k p N M hN x H2 hy => by
      obtain ⟨rfl, rfl⟩ := hy
      exact turn i σ H2 ys hi hs e k p N M hN) fin
end
/-! ### == of plain data with itself -/
mutual
theorem eqv_self : ∀ d : PyData, d.canLay0 = true → PyData.eqv d d = true
  | .none, _ => by simp [PyData.eqv]
  | .bool _, _ => by simp [PyData.eqv]
  | .int _, _ => by simp [PyData.eqv]
  | .str _, _ => by simp [PyData.eqv]
  | .list xs, h => by rw [PyData.eqv]; exact eqvAll_self xs (by simpa [PyData.canLay0] using h)
  | .tuple xs, h => by rw [PyData.eqv]; exact eqvAll_self xs (by simpa [PyData.canLay0] using h)
  | .dict _, h => by simp [PyData.canLay0] at h
theorem eqvAll_self : ∀ xs : List PyData, PyData.canLayAll0 xs = true → PyData.eqvAll xs xs = true
  | [], _ => by simp [PyData.eqvAll]
  | x :: xs, h => by
    have h' : x.canLay0 = true ∧ PyData.canLayAll0 xs = true := by simpa [PyData.canLayAll0] using h
    rw [PyData.eqvAll, eqv_self x h'.1, eqvAll_self xs h'.2]; rfl
end
theorem canLay_map {α : Type} (f : α → PyData) : ∀ l : List α, (∀ x ∈ l, (f x).canLay0 = true) → PyData.canLayAll0 (l.map f) = true
  | [], _ => by simp [PyData.canLayAll0]
  | x :: l, h => by
    rw [List.map_cons, PyData.canLayAll0, h x (List.mem_cons_self ..), canLay_map f l fun y hy => h y (List.mem_cons_of_mem _ hy)]; rfl
theorem depth_map {α : Type} (f : α → PyData) (n : Nat) : ∀ l : List α, (∀ x ∈ l, (f x).depth ≤ n) → PyData.depthAll (l.map f) ≤ n
  | [], _ => by simp [PyData.depthAll]
  | x :: l, h => by
    rw [List.map_cons, PyData.depthAll]
    exact Nat.max_le.mpr ⟨h x (List.mem_cons_self ..), depth_map f n l fun y hy => h y (List.mem_cons_of_mem _ hy)⟩
/-- lists of ints, lists of these -/
def dInts (ns : List Int) : PyData := .list (ns.map PyData.int)
def dCols (cs : List (List Int)) : PyData := .list (cs.map dInts)
theorem dInts_can (ns : List Int) : (dInts ns).canLay0 = true := by unfold dInts; rw [PyData.canLay0]; exact canLay_map _ ns fun _ _ => by simp [PyData.canLay0]
theorem dInts_depth (ns : List Int) : (dInts ns).depth ≤ 1 := by unfold dInts; rw [PyData.depth]; exact Nat.succ_le_succ (depth_map _ 0 ns fun _ _ => by simp [PyData.depth])
theorem dCols_can (cs : List (List Int)) : (dCols cs).canLay0 = true := by unfold dCols; rw [PyData.canLay0]; exact canLay_map _ cs fun c _ => dInts_can c
theorem dCols_depth (cs : List (List Int)) : (dCols cs).depth ≤ 2 := by unfold dCols; rw [PyData.depth]; exact Nat.succ_le_succ (depth_map _ 1 cs fun c _ => dInts_depth c)
theorem shaped_of {d : PyData} (h1 : d.canLay0 = true) (h2 : d.depth ≤ 64) : SeqAt.shaped d = true := by
  unfold SeqAt.shaped; rw [h1, decide_eq_true h2]; rfl
theorem dInts_shaped (ns : List Int) : SeqAt.shaped (dInts ns) = true := shaped_of (dInts_can ns) (by have := dInts_depth ns; omega)
theorem dCols_shaped (cs : List (List Int)) : SeqAt.shaped (dCols cs) = true := shaped_of (dCols_can cs) (by have := dCols_depth cs; omega)
theorem dPair_can {a b : PyData} (ha : a.canLay0 = true) (hb : b.canLay0 = true) : (PyData.list [a, b]).canLay0 = true := by simp [PyData.canLay0, PyData.canLayAll0, ha, hb]
theorem dPair_shaped {a b : PyData} (ha : a.canLay0 = true) (hb : b.canLay0 = true) (h1 : a.depth ≤ 10) (h2 : b.depth ≤ 10) : SeqAt.shaped (.list [a, b]) = true := by
  refine shaped_of (dPair_can ha hb) ?_
  rw [PyData.depth, PyData.depthAll, PyData.depthAll, PyData.depthAll]
  omega
theorem RdD.ints {K : PySem.W.Frag} {H : Hp} {a : Addr} {ns : List Int} (h : SqL K H a (ns.map V.int)) : RdD K H (.ref a) (dInts ns) := .lst h (RdDs.ints ns)
/-- columns: lists at these places -/
def ColsAt (K : PySem.W.Frag) (H : Hp) : List Addr → List (List Int) → Prop := Paired fun a c => SqL K H a (c.map V.int)
theorem ColsAt.same {K : PySem.W.Frag} {H H' : Hp} (e : Same H H') : ∀ {as : List Addr} {cs : List (List Int)}, ColsAt K H as cs → ColsAt K H' as cs
  | _, _, .nil => .nil
  | _, _, .cons h t => .cons (e.seq h) (ColsAt.same e t)
theorem ColsAt.get {K : PySem.W.Frag} {H : Hp} : ∀ {as : List Addr} {cs : List (List Int)} {i : Nat} {a : Addr}, ColsAt K H as cs → as[i]? = some a → ∃ c, cs[i]? = some c ∧ SqL K H a (c.map V.int)
  | _, _, 0, _, .cons h _, e => by cases e; exact ⟨_, rfl, h⟩
  | _, _, i + 1, _, .cons _ t, e => ColsAt.get (i := i) t e
theorem ColsAt.length {K : PySem.W.Frag} {H : Hp} {as : List Addr} {cs : List (List Int)} (h : ColsAt K H as cs) : as.length = cs.length := Paired.length h
theorem ColsAt.rd {K : PySem.W.Frag} {H : Hp} : ∀ {as : List Addr} {cs : List (List Int)}, ColsAt K H as cs → RdDs K H (as.map V.ref) (cs.map dInts)
  | _, _, .nil => .nil
  | _, _, .cons h t => .cons (.ints h) (ColsAt.rd t)
theorem RdD.cols {K : PySem.W.Frag} {H : Hp} {a : Addr} {as : List Addr} {cs : List (List Int)} (h : SqL K H a (as.map V.ref)) (t : ColsAt K H as cs) : RdD K H (.ref a) (dCols cs) := .lst h t.rd
/-- .. own lists, away from one place -/
def ColsO (L : Addr) (H : Hp) : List Addr → List (List Int) → Prop := Paired fun a c => H a = some (.lst (c.map V.int)) ∧ a ≠ L
theorem ColsO.but {L : Addr} {H H' : Hp} (e : But L H H') : ∀ {as : List Addr} {cs : List (List Int)}, ColsO L H as cs → ColsO L H' as cs
  | _, _, .nil => .nil
  | _, _, .cons h t => .cons ⟨e _ _ h.1 h.2, h.2⟩ (ColsO.but e t)
theorem ColsO.at {K : PySem.W.Frag} {L : Addr} {H : Hp} : ∀ {as : List Addr} {cs : List (List Int)}, ColsO L H as cs → ColsAt K H as cs
  | _, _, .nil => .nil
  | _, _, .cons h t => .cons (SqL.of h.1) (ColsO.at t)
theorem ColsO.snoc {L : Addr} {H : Hp} {a : Addr} {c : List Int} (h : H a = some (.lst (c.map V.int))) (n : a ≠ L) : ∀ {as : List Addr} {cs : List (List Int)}, ColsO L H as cs → ColsO L H (as ++ [a]) (cs ++ [c])
  | _, _, .nil => .cons ⟨h, n⟩ .nil
  | _, _, .cons k t => .cons k (ColsO.snoc h n t)
theorem ref_at {as : List Addr} {i : Nat} {y : V} (h : (as.map V.ref)[i]? = some y) : ∃ z, as[i]? = some z ∧ y = V.ref z := by
  rw [List.getElem?_map] at h
  cases e : as[i]? with
  | none => rw [e] at h; cases h
  | some z => rw [e] at h; exact ⟨z, rfl, (Option.some.inj h).symm⟩
theorem snoc_take {α : Type} {l : List α} {i : Nat} {z : α} (h : l[i]? = some z) : l.take (i + 1) = l.take i ++ [z] := by
  rw [List.take_add_one, h]; rfl
section
variable {X : Cx} (K : PySem.W.Frag)
theorem call_list_ofK (hK : X.K = K) : CallR X (.type "list") (fun xs H Q => ∃ p ys, xs = [.ref p] ∧ (SqL K H p ys ∨ SqT K H p ys) ∧ ∀ l, H l = none → Q (.ref l) (upd H l (.lst ys))) := by subst hK; exact call_list_of
theorem call_len_seqK (hK : X.K = K) : CallR X (.builtin "len") (fun xs H Q => ∃ p ys, xs = [.ref p] ∧ (SqL K H p ys ∨ SqT K H p ys) ∧ Q (.int ys.length) H) := by subst hK; exact call_len_seq
theorem call_sumK (hK : X.K = K) (hc : X.calm = true) : CallR X (.builtin "sum") (fun xs H Q => ∃ p, ∃ ns : List Int, xs = [.ref p] ∧ SqL K H p (ns.map V.int) ∧ Q (.int ns.sum) H) := by subst hK; exact call_sum hc
end
theorem ColsO.same {L : Addr} {H H' : Hp} (e : Same H H') {as : List Addr} {cs : List (List Int)} (h : ColsO L H as cs) : ColsO L H' as cs := h.but (But.of e)
/-- a new place is away from them -/
theorem ColsO.away {L L' : Addr} {H H' : Hp} (n : H L' = none) (e : Same H H') : ∀ {as : List Addr} {cs : List (List Int)}, ColsO L H as cs → ColsO L' H' as cs
  | _, _, .nil => .nil
  | _, _, .cons h t => .cons ⟨e _ _ h.1, ne_of_none h.1 n⟩ (ColsO.away n e t)
theorem ColsO.length {L : Addr} {H : Hp} {as : List Addr} {cs : List (List Int)} (h : ColsO L H as cs) : as.length = cs.length := Paired.length h
end L2

/-! MY OWN RULES, part 11: zip's comprehension whose items are new objects -/
namespace L2
open PySem PySem.Spec PyProof.Rows
section
variable {K : PySem.W.Frag} {g : TG} {tt : TT} {te : TE}
theorem comp_zipH {a c L : Addr} {xs zs : List V} {Q : Hp → Prop} {σ : St} {H : Hp} (H0 : Hp) (S : St → Prop) (Pv : Nat → List V → Hp → Prop) (ha : SqL K H0 a xs) (hc : SqL K H0 c zs) (stab : ∀ i ys H H', But L H H' → Pv i ys H → Pv i ys H')
    (hn0 : H0 L = none) (hσ : S σ) (h0 : Same H0 H) (hL : H L = some (.lst [])) (p0 : Pv 0 [] H) (hz : min xs.length zs.length ≤ sizeLine) (hl : ∀ i ys H, Pv i ys H → ys.length ≤ i)
    (turn : ∀ i x z p σ H' ys, xs[i]? = some x → zs[i]? = some z → H' p = none → S σ → Same H0 H' → H' L = some (.lst ys) → Pv i ys H' → ∀ (N : St → V → Hp → Prop) (M : St → Hp → Prop), (∀ σ3 y H5, S σ3 → Same H0 H5 → H5 L = some (.lst ys) → Pv (i + 1) (ys ++ [y]) H5 → N σ3 y H5) →
      g (.ref p) σ (upd H' p (.tup [x, z])) fun σ3 H3 => tt σ3 H3 fun b H4 => if b = true then te σ3 H4 fun y H5 => N σ3 y H5 else M σ3 H4)
    (fin : ∀ H' ys, Same H0 H' → H' L = some (.lst ys) → Pv (min xs.length zs.length) ys H' → Q H') :
    ∃ W : Nat → Nat → St → Hp → Prop, (∃ m, W 0 m σ H) ∧ ∀ i m σ H, W i m σ H → ((Itz K a c).stop i H ∧ Q H) ∨ ((Itz K a c).go i H ∧ ∀ x H2, (Itz K a c).yld i H x H2 → g x σ H2 fun σ3 H3 => tt σ3 H3 fun b H4 => if b = true
      then te σ3 H4 fun y H5 => ∃ ys, H5 L = some (.lst ys) ∧ ys.length < sizeLine ∧ ∃ m', m' < m ∧ W (i + 1) m' σ3 (upd H5 L (.lst (ys ++ [y])))
      else ∃ m', m' < m ∧ W (i + 1) m' σ3 H4) :=
  comp_itH (min xs.length zs.length) H0 S Pv
    (fun i H' hi e => ⟨xs, zs, xs[i]'(by omega), zs[i]'(by omega), e.seq ha, e.seq hc, List.getElem?_eq_getElem _, List.getElem?_eq_getElem _⟩) (fun H' e => ⟨xs, zs, e.seq ha, e.seq hc, by omega⟩) stab hn0 hσ h0 hL p0 hz hl
    (fun i σ H' ys _ hs e k p N M hN v H2 hy => by
      obtain ⟨t, x, z, ht, rfl, rfl, hx, hz'⟩ := hy
      exact turn i x z t σ H' ys (hx xs (e.seq ha)) (hz' zs (e.seq hc)) ht hs e k p N M hN) fin
end
/-- own lists away from one place, new since H0 -/
def ColsN (L : Addr) (H0 H : Hp) : List Addr → List (List Int) → Prop := Paired fun a c => H a = some (.lst (c.map V.int)) ∧ a ≠ L ∧ H0 a = none
theorem ColsN.but {L : Addr} {H0 H H' : Hp} (e : But L H H') : ∀ {as : List Addr} {cs : List (List Int)}, ColsN L H0 H as cs → ColsN L H0 H' as cs
  | _, _, .nil => .nil
  | _, _, .cons h t => .cons ⟨e _ _ h.1 h.2.1, h.2⟩ (ColsN.but e t)
theorem ColsN.length {L : Addr} {H0 H : Hp} {as : List Addr} {cs : List (List Int)} (h : ColsN L H0 H as cs) : as.length = cs.length := Paired.length h
theorem ColsN.snoc {L : Addr} {H0 H : Hp} {a : Addr} {c : List Int} (h : H a = some (.lst (c.map V.int))) (n : a ≠ L) (n0 : H0 a = none) : ∀ {as : List Addr} {cs : List (List Int)}, ColsN L H0 H as cs → ColsN L H0 H (as ++ [a]) (cs ++ [c])
  | _, _, .nil => .cons ⟨h, n, n0⟩ .nil
  | _, _, .cons k t => .cons k (ColsN.snoc h n n0 t)
theorem bt_any : bootBuiltins "any" = some (.builtin "any") := by decide +kernel
theorem bools_any (bs : List Bool) : (List.range bs.length).any (fun i => bs.getD i false) = bs.any id := by
  induction bs with
  | nil => rfl
  | cons b bs ih =>
    rw [List.length_cons, List.range_succ_eq_map, List.any_cons, List.any_map, List.any_cons]
    congr 1
theorem call_any {X : Cx} (hc : X.calm = true) : CallR X (.builtin "any") (fun xs H Q => ∃ p, ∃ bs : List Bool, xs = [.ref p] ∧ SqL X.K H p (bs.map V.bl) ∧ Q (.bl (bs.any id)) H) := by
  intro pins s σ H xs us Q I r h
  obtain ⟨p, bs, rfl, hS, q⟩ := h
  obtain ⟨u, rfl, ru⟩ := vals1 r
  cases ru
  obtain ⟨its, rv, pl, hz⟩ := I.list hS
  have ll := rv.length
  rw [List.length_map] at ll
  obtain ⟨o, ho, _⟩ := pl.isList
  have hI : p ≠ s.heap.objs.size := Nat.ne_of_lt (Heap.lt_size ho)
  refine call_any_walk (wpAny_pyIter_list pl.isList ?_)
  refine ⟨s.heap.objs.size, _, _, _, _, _, fun i => bs.getD i false, rfl, Walks.list (A := X.A.in1) (show X.A.in1.handled = none from I.ok.hd hc) s.heap.objs.size p hI its.toArray, ⟨⟨_, Heap.get?_push_size _ rfl, rfl, rfl⟩, pl.isList.push _⟩, ?_, fun h' tk hk => ?_⟩
  · intro i v s' Q' E' hP hq
    have hP : its[i]? = some v := by simpa using hP
    have hil : i < bs.length := by rw [ll]; exact (List.getElem?_eq_some_iff.mp hP).1
    obtain ⟨u, hu, ru⟩ := rv.get (i := i) (x := V.bl bs[i]) (by rw [List.getElem?_map, List.getElem?_eq_getElem hil]; rfl)
    rw [hP] at hu
    cases hu
    cases ru
    have e : bs.getD i false = bs[i] := by rw [List.getD_eq_getElem?_getD, List.getElem?_eq_getElem hil]; rfl
    have hq : Q' (bs.getD i false) s' := hq
    rw [e] at hq
    exact wpAny_truthy_bool hq
  · have e : (List.range its.toArray.size).any (fun i => bs.getD i false) = bs.any id := by
      rw [← bools_any bs, ll]; simp
    rw [e]
    exact ⟨.bl _, H, I.kept fun b o q => hk b o (fun z => by
      have z : b = s.heap.objs.size := by simpa using z
      exact absurd (Heap.lt_size q) (by rw [z]; exact Nat.lt_irrefl _)) (Heap.get?_push_of_some _ q), rfl, q⟩
end L2

/-! MY OWN RULES, part 12: sorted of ints, list(range(n)), max -/
namespace L2
open PySem PySem.Spec PyProof.Rows
theorem bt_sorted : bootBuiltins "sorted" = some (.builtin "sorted") := by decide +kernel
theorem bt_range : bootBuiltins "range" = some (.type "range") := by decide +kernel
theorem bt_max : bootBuiltins "max" = some (.builtin "max") := by decide +kernel
theorem vals_intsA : ∀ {us : List Value} {ns : List Int}, IntsAre us ns → Vals (ns.map V.int) us := by
  intro us ns h
  induction h with
  | nil => exact .nil
  | cons => exact .cons ⟨_, rfl⟩ (by assumption)
theorem vals_range : ∀ (us : List Value) (k : Nat), (∀ j v, us[j]? = some v → ∃ t, v = Value.int ((k + j : Nat) : Int) t) → Vals ((List.range' k us.length).map fun i => V.int (i : Nat)) us
  | [], _, _ => .nil
  | u :: us, k, h => by
    refine .cons (h 0 u rfl) (vals_range us (k + 1) fun j v hj => ?_)
    have := h (j + 1) v hj
    rwa [show k + 1 + j = k + (j + 1) by omega]
section
variable {X : Cx}
theorem call_sorted : CallR X (.builtin "sorted") (fun xs H Q => ∃ p, ∃ ns : List Int, xs = [.ref p] ∧ SqL X.K H p (ns.map V.int) ∧ ns.length < 64 ∧ ∀ (l : Addr) (ms : List Int), ms.Perm ns → ms.Pairwise (· ≤ ·) → H l = none → Q (.ref l) (upd H l (.lst (ms.map V.int)))) := by
  intro pins s σ H xs us Q I r h
  obtain ⟨p, ns, rfl, hS, h64, q⟩ := h
  obtain ⟨u, rfl, ru⟩ := vals1 r
  cases ru
  obtain ⟨its, rv, pl, hz⟩ := I.list hS
  have hi : IntsAre its ns := intsAre_of rv
  have ll := rv.length
  rw [List.length_map] at ll
  refine sorted_ints pl.isList hi (by omega) fun out ns' a1 a2 a3 => ?_
  obtain ⟨e, he⟩ := sortedAll_at s.heap its out
  have le : s.heap.objs.size ≤ s.heap.objs.size + 1 := Nat.le_succ _
  refine ⟨.ref (s.heap.objs.size + 1), _, I.laid (t' := s.toks) (o := .lst (ns'.map V.int)) (fun b ob q => sortedAll_old q) le ⟨?_, out.toList, e, vals_intsA a1, ?_⟩, rfl, q _ ns' a2 a3 (I.hok.fresh le)⟩
  · rw [List.length_map, a2.length_eq]
    rw [List.length_map] at hz
    exact hz
  · rw [he]
theorem call_rangeV : CallR X (.type "range") (fun xs H Q => ∃ j : Int, xs = [.int j] ∧ -(2 ^ 62) ≤ j ∧ j < 2 ^ 62 ∧ ∀ p, H p = none → Q (.ref p) (upd H p (.rng 0 j))) := by
  intro pins s σ H xs us Q I r h
  obtain ⟨j, rfl, h1, h2, q⟩ := h
  obtain ⟨u, rfl, ru⟩ := vals1 r
  obtain ⟨t, rfl⟩ := ru
  refine call_range_1 ?_
  refine ⟨.ref s.heap.objs.size, _, I.laid (o := .rng 0 j) (fun b ob q => Heap.get?_push_of_some _ q) (Nat.le_refl _) ⟨_, _, _, Heap.get?_push_size _ rfl⟩, rfl, q _ (I.hok.fresh (Nat.le_refl _))⟩
theorem call_list_rng (hc : X.calm = true) : CallR X (.type "list") (fun xs H Q => ∃ p, ∃ n : Nat, xs = [.ref p] ∧ H p = some (.rng 0 n) ∧ n ≤ 1000 ∧ ∀ l, H l = none → Q (.ref l) (upd H l (.lst ((List.range n).map fun i => V.int (i : Nat))))) := by
  intro pins s σ H xs us Q I r h
  obtain ⟨p, n, rfl, hp, hn, q⟩ := h
  obtain ⟨u, rfl, ru⟩ := vals1 r
  cases ru
  obtain ⟨t, u, v, hr⟩ := I.hok p _ hp
  refine call_list_range (I.ok.hd hc) (a := 0) (b := n) (c := 1) (n := n) hr (small_one (by omega) (by omega) (by omega) (by omega)) (by rw [rangeSize_one]; split <;> omega) (by omega) fun h' tk acc' c' hk hS' hacc => ?_
  refine ⟨.ref s.heap.objs.size, _, I.laid (o := .lst ((List.range n).map fun i => V.int (i : Nat))) hk (Nat.le_refl _) ⟨?_, acc'.toList, c', ?_, ?_⟩, rfl, q _ (I.hok.fresh (Nat.le_refl _))⟩
  · rw [List.length_map, List.length_range]
    have : (1000 : Nat) ≤ sizeLine := by decide
    omega
  · obtain ⟨h1, h2⟩ := hacc
    have := vals_range acc'.toList 0 fun j v hj => by
      obtain ⟨t, ht⟩ := h2 j v (by simpa using hj)
      exact ⟨t, by rw [ht]; congr 1; omega⟩
    rw [List.range_eq_range']
    rwa [show acc'.toList.length = n by simpa using h1] at this
  · rw [hS']
end
end L2

/-! MY OWN RULES, part 13: xs[::-1], a comprehension over a part of a list -/
namespace L2
open PySem PySem.Spec PyProof.Rows
section
variable {X : Cx}
theorem pe_rev {e k : Expr} {te tk : TE} {p2 pos : Pos} (he : PE X e te) (hk : PE X k tk) : PE X (.Subscript e (.Slice none none (some k) p2) pos) (fun σ H Q => te σ H fun x H1 => tk σ H1 fun y H2 => y = .int (-1) ∧ ∃ a xs, x = .ref a ∧ SqL X.K H2 a xs ∧ ∀ l, H2 l = none → Q (.ref l) (upd H2 l (.lst xs.reverse))) := by
  intro pins s σ H Q I h
  refine Subscript_ (thn (he pins s σ H _ I h) fun v s1 ⟨x, H1, I1, r1, q1⟩ => ?_)
  refine wpAny_Slice ?_
  rw [evalPart_none]
  refine wpAny_pure (wpAny_pure ?_)
  rw [evalPart_some]
  refine thn (hk pins s1 σ H1 _ I1 q1) fun u s3 ⟨y, H3, I3, r3, q3⟩ => ?_
  obtain ⟨rfl, a, xs, rfl, hx, q⟩ := q3
  obtain ⟨t, rfl⟩ := r3
  cases r1
  have I4 : Inv X pins σ H3 { s3 with heap := s3.heap.push { cls := .type "slice", data := .fields #[.none, .none, .int (-1) t] } } := I3.kept (t' := s3.toks) fun b ob q => Heap.get?_push_of_some _ q
  obtain ⟨its, r, ht, hz⟩ := I4.list hx
  have hlen := r.length
  show wpAny (model X.prog X.w) X.A (subscriptTail e (.Slice none none (some k) p2) (.ref a) (.ref s3.heap.objs.size)) (EP X pins σ Q) X.xe { s3 with heap := s3.heap.push { cls := .type "slice", data := .fields #[.none, .none, .int (-1) t] } }
  refine tail_any (ops := [.ref a, .ref s3.heap.objs.size]) ht.isList.typeIs slot_list_getitem.lookup ?_ (by with_unfolding_all rfl)
  refine wpAny_getItem_list_slice ht.isList (Heap.IsSliceOf.new ..) .none .none (.int (-1) t) (by simp) ?_ (by rw [List.size_toArray] <;> omega)
  rw [PySem.W.krv_pick]
  refine ⟨.ref _, _, I4.laid (o := .lst xs.reverse) (fun b ob q => Heap.get?_push_of_some _ q) (Nat.le_refl _) ?_, rfl, q _ (I4.hok.fresh (Nat.le_refl _))⟩
  exact ⟨by rw [List.length_reverse]; exact hz, _, 0, r.reverse, Heap.get?_push_size _ rfl⟩
end
end L2

/-! MY OWN RULES, part 14: the tree of questions of a sort, answered by an order: a sorted row -/
namespace L2
open PySem PySem.Spec PyProof.Rows PySem.W
section
variable {O : KeyOrd} {k : Nat → O.α} {n : Nat} {I : Shared → Prop} {cmp : Nat → Nat → (Bool → Shared → Prop) → Shared → Prop}
/-- the key at a place -/
def kat (k : Nat → O.α) (p : Array Nat) (i : Nat) : O.α := k (p.getD i 0)
def SrtTo (k : Nat → O.α) (p : Array Nat) (m : Nat) : Prop := ∀ i j, i ≤ j → j < m → O.kle (kat k p i) (kat k p j)
def DecTo (k : Nat → O.α) (p : Array Nat) (m : Nat) : Prop := ∀ i j, i ≤ j → j < m → O.kle (kat k p j) (kat k p i)
structure Row (n : Nat) (p : Array Nat) : Prop where
  perm : p.Perm (List.range n).toArray
theorem Row.size {p : Array Nat} (h : Row n p) : p.size = n := by rw [h.perm.size_eq]; simp
theorem Row.lt {p : Array Nat} (h : Row n p) (h0 : 0 < n) (i : Nat) : p.getD i 0 < n := by
  by_cases hi : i < p.size
  · have e : p.getD i 0 = p[i] := by simp [Array.getD, hi]
    rw [e]
    have hm : p[i] ∈ p.toList := by simp
    have := (Array.perm_iff_toList_perm.mp h.perm).mem_iff.mp hm
    simpa using this
  · have e : p.getD i 0 = 0 := by simp [Array.getD, hi]
    rw [e]; exact h0
theorem Row.rev {p : Array Nat} (h : Row n p) (i j : Nat) : Row n (kas_rev p i j) := ⟨(mirror_perm p i j _).trans h.perm⟩
theorem Row.bub {p : Array Nat} (h : Row n p) (i j : Nat) : Row n (bubble p i j) := ⟨(bubble_perm p i j).trans h.perm⟩
theorem getD_opt (p q : Array Nat) {i j : Nat} (h : p[i]? = q[j]?) : p.getD i 0 = q.getD j 0 := by
  rw [Array.getD_eq_getD_getElem?, Array.getD_eq_getD_getElem?, h]
theorem kat_rev {p : Array Nat} {i j : Nat} (hj : j ≤ p.size) (m : Nat) : kat k (kas_rev p i j) m = if i ≤ m ∧ m < j then kat k p (i + j - 1 - m) else kat k p m := by
  have e := getElem?_mirror_all (xs := p) (i := i) hj m
  unfold kat kas_rev
  by_cases h1 : i ≤ m ∧ m < j
  · rw [if_pos h1] at e ⊢; rw [getD_opt _ _ e]
  · rw [if_neg h1] at e ⊢; rw [getD_opt _ _ e]
theorem kat_rev_same {p : Array Nat} {i j : Nat} (hj : j ≤ p.size) (he : ∀ m, i ≤ m → m < j → kat k p m = kat k p (j - 1)) (m : Nat) : kat k (kas_rev p i j) m = kat k p m := by
  rw [kat_rev hj]
  split
  · rw [he _ (by omega) (by omega), he m (by omega) (by omega)]
  · rfl
theorem kat_bub {p : Array Nat} {src d : Nat} (hs : src < p.size) (hd : d ≤ src) (m : Nat) : kat k (bubble p src d) m = if m = src - d then kat k p src else if src - d < m ∧ m ≤ src then kat k p (m - 1) else kat k p m := by
  have e := getElem?_bubble hs d hd m
  unfold kat
  by_cases h1 : m = src - d
  · rw [if_pos h1] at e ⊢; rw [getD_opt _ _ e]
  · rw [if_neg h1] at e ⊢
    by_cases h2 : src - d < m ∧ m ≤ src
    · rw [if_pos h2] at e ⊢; rw [getD_opt _ _ e]
    · rw [if_neg h2] at e ⊢; rw [getD_opt _ _ e]
theorem SrtTo.one {p : Array Nat} {m : Nat} (h : m ≤ 1) : SrtTo k p m := fun i j a b => by
  have : i = j := by omega
  subst this; exact KeyOrd.kle_refl _
theorem SrtTo.snoc {p : Array Nat} {m : Nat} (h : SrtTo k p m) (h1 : 1 ≤ m) (e : O.kle (kat k p (m - 1)) (kat k p m)) : SrtTo k p (m + 1) := fun i j a b => by
  by_cases hj : j < m
  · exact h i j a hj
  · have : j = m := by omega
    subst this
    by_cases hi : i = j
    · subst hi; exact KeyOrd.kle_refl _
    · exact KeyOrd.kle_trans (h i (j - 1) (by omega) (by omega)) e
theorem DecTo.snoc {p : Array Nat} {m : Nat} (h : DecTo k p m) (h1 : 1 ≤ m) (e : O.kle (kat k p m) (kat k p (m - 1))) : DecTo k p (m + 1) := fun i j a b => by
  by_cases hj : j < m
  · exact h i j a hj
  · have : j = m := by omega
    subst this
    by_cases hi : i = j
    · subst hi; exact KeyOrd.kle_refl _
    · exact KeyOrd.kle_trans e (h i (j - 1) (by omega) (by omega))
/-- each question is answered by the order, and the state stays one of these -/
def Asks (O : KeyOrd) (k : Nat → O.α) (n : Nat) (I : Shared → Prop) (cmp : Nat → Nat → (Bool → Shared → Prop) → Shared → Prop) : Prop := ∀ i j C s, i < n → j < n → I s → (∀ s', I s' → C (O.blt (k i) (k j)) s') → cmp i j C s
theorem asc_ok (hc : Asks O k n I cmp) (h0 : 0 < n) {p : Array Nat} (R : Row n p) : ∀ (f a : Nat) (s : Shared) (Q : Nat → Shared → Prop), I s → 1 ≤ a → SrtTo k p a → (∀ m s', I s' → a ≤ m → m ≤ a + f → SrtTo k p m → (m = a + f ∨ O.klt (kat k p m) (kat k p (m - 1))) → Q m s') → (kas_asc p f a).kasWp cmp Q s
  | 0, a, s, Q, hI, h1, hs, q => q a s hI (Nat.le_refl _) (Nat.le_refl _) hs (.inl rfl)
  | f + 1, a, s, Q, hI, h1, hs, q => by
    refine hc _ _ _ s (R.lt h0 _) (R.lt h0 _) hI fun s' hI' => ?_
    show (if O.blt (kat k p a) (kat k p (a - 1)) = true then KasT.ret a else kas_asc p f (a + 1)).kasWp cmp Q s'
    cases e : O.blt (kat k p a) (kat k p (a - 1)) with
    | true =>
      rw [if_pos rfl]
      exact q a s' hI' (Nat.le_refl _) (by omega) hs (.inr e)
    | false =>
      rw [if_neg (by simp)]
      exact asc_ok hc h0 R f (a + 1) s' Q hI' (by omega) (hs.snoc h1 e) fun m s'' i1 i2 i3 i4 i5 => q m s'' i1 (by omega) (by omega) i4 (i5.elim (fun z => .inl (by omega)) .inr)
theorem desc_ok (hc : Asks O k n I cmp) (h0 : 0 < n) : ∀ (f : Nat) (p : Array Nat) (a q : Nat) (s : Shared) (Q : Array Nat × Nat × Nat → Shared → Prop), Row n p → I s → a + f ≤ n → q + 1 ≤ a → DecTo k p a → (∀ i, a - (q + 1) ≤ i → i < a → kat k p i = kat k p (a - 1)) →
    (∀ p' m q' s', Row n p' → I s' → a ≤ m → m ≤ a + f → q' + 1 ≤ m → DecTo k p' m → (∀ i, m - (q' + 1) ≤ i → i < m → kat k p' i = kat k p' (m - 1)) → Q (p', m, q') s') → (kas_desc f p a q).kasWp cmp Q s
  | 0, p, a, q, s, Q, R, hI, hn, hq, hd, he, k' => k' p a q s R hI (Nat.le_refl _) (Nat.le_refl _) hq hd he
  | f + 1, p, a, q, s, Q, R, hI, hn, hq, hd, he, k' => by
    refine hc _ _ _ s (R.lt h0 _) (R.lt h0 _) hI fun s' hI' => ?_
    show (if O.blt (kat k p a) (kat k p (a - 1)) = true then (if q > 0 then kas_desc f (kas_rev p (a - (q + 1)) a) (a + 1) 0 else kas_desc f p (a + 1) 0) else KasT.ask (p.getD (a - 1) 0) (p.getD a 0) fun d => if d = true then .ret (p, a, q) else kas_desc f p (a + 1) (q + 1)).kasWp cmp Q s'
    cases e : O.blt (kat k p a) (kat k p (a - 1)) with
    | true =>
      rw [if_pos rfl]
      have hd1 : DecTo k p (a + 1) := hd.snoc (by omega) (KeyOrd.kle_of_klt e)
      by_cases hq0 : q > 0
      · rw [if_pos hq0]
        have sm := kat_rev_same (k := k) (p := p) (i := a - (q + 1)) (j := a) (by rw [R.size]; omega) he
        refine desc_ok hc h0 f _ (a + 1) 0 s' Q (R.rev _ _) hI' (by omega) (by omega) (fun i j h1 h2 => by rw [sm, sm]; exact hd1 i j h1 h2) (fun i h1 h2 => by congr 1; omega) fun p' m q' s'' i1 i2 i3 i4 i5 i6 i7 => k' p' m q' s'' i1 i2 (by omega) (by omega) i5 i6 i7
      · rw [if_neg hq0]
        exact desc_ok hc h0 f p (a + 1) 0 s' Q R hI' (by omega) (by omega) hd1 (fun i h1 h2 => by congr 1; omega) fun p' m q' s'' i1 i2 i3 i4 i5 i6 i7 => k' p' m q' s'' i1 i2 (by omega) (by omega) i5 i6 i7
    | false =>
      rw [if_neg (by simp)]
      refine hc _ _ _ s' (R.lt h0 _) (R.lt h0 _) hI' fun s'' hI'' => ?_
      show (if O.blt (kat k p (a - 1)) (kat k p a) = true then KasT.ret (p, a, q) else kas_desc f p (a + 1) (q + 1)).kasWp cmp Q s''
      cases e2 : O.blt (kat k p (a - 1)) (kat k p a) with
      | true =>
        rw [if_pos rfl]
        exact k' p a q s'' R hI'' (Nat.le_refl _) (by omega) hq hd he
      | false =>
        rw [if_neg (by simp)]
        have eq : kat k p a = kat k p (a - 1) := O.total _ _ e e2
        refine desc_ok hc h0 f p (a + 1) (q + 1) s'' Q R hI'' (by omega) (by omega) (hd.snoc (by omega) e2) (fun i h1 h2 => ?_) fun p' m q' s3 i1 i2 i3 i4 i5 i6 i7 => k' p' m q' s3 i1 i2 (by omega) (by omega) i5 i6 i7
        show kat k p i = kat k p a
        by_cases hi : i < a
        · rw [he i (by omega) hi, eq]
        · have : i = a := by omega
          rw [this]
theorem tail_ok (hc : Asks O k n I cmp) (h0 : 0 < n) {p : Array Nat} (R : Row n p) {m nrem : Nat} {s : Shared} {Q : Nat × Array Nat → Shared → Prop} (hI : I s) (h1 : 1 ≤ m) (hm : m ≤ nrem) (hn : nrem ≤ n) (hd : DecTo k p m)
    (q : ∀ a p' s', Row n p' → I s' → 1 ≤ a → a ≤ nrem → SrtTo k p' a → Q (a, p') s') : (kas_tail3 m nrem p).kasWp cmp Q s := by
  unfold kas_tail3
  rw [KasT.kasWp_bind]
  have hz : m ≤ p.size := by rw [R.size]; omega
  refine asc_ok hc h0 (R.rev 0 m) (nrem - m) m s _ hI h1 (fun i j a b => ?_) fun a s' i1 i2 i3 i4 _ => q a _ s' (R.rev 0 m) i1 (by omega) (by omega) i4
  rw [kat_rev hz, kat_rev hz, if_pos (by omega), if_pos (by omega)]
  exact hd _ _ (by omega) (by omega)
theorem descPart_ok (hc : Asks O k n I cmp) (h0 : 0 < n) {p : Array Nat} (R : Row n p) {m nrem : Nat} {s : Shared} {Q : Nat × Array Nat → Shared → Prop} (hI : I s) (hm : m + 1 ≤ nrem) (hn : nrem ≤ n) (hd : DecTo k p (m + 1))
    (q : ∀ a p' s', Row n p' → I s' → 1 ≤ a → a ≤ nrem → SrtTo k p' a → Q (a, p') s') : (kas_descPart m nrem p).kasWp cmp Q s := by
  unfold kas_descPart
  rw [KasT.kasWp_bind]
  refine desc_ok hc h0 (nrem - (m + 1)) p (m + 1) 0 s _ R hI (by omega) (by omega) hd (fun i h1 h2 => by congr 1; omega) fun p' a q' s' R' hI' a1 a2 hq hd' he => ?_
  dsimp only
  by_cases hq0 : q' > 0
  · rw [if_pos hq0]
    have sm := kat_rev_same (k := k) (p := p') (i := a - (q' + 1)) (j := a) (by rw [R'.size]; omega) he
    exact tail_ok hc h0 (R'.rev _ _) hI' (by omega) (by omega) hn (fun i j h1 h2 => by rw [sm, sm]; exact hd' i j h1 h2) q
  · rw [if_neg hq0]
    exact tail_ok hc h0 R' hI' (by omega) (by omega) hn hd' q
theorem count_ok (hc : Asks O k n I cmp) (h0 : 0 < n) {p : Array Nat} (R : Row n p) {nrem : Nat} {s : Shared} {Q : Nat × Array Nat → Shared → Prop} (hI : I s) (h1 : 1 ≤ nrem) (hn : nrem ≤ n)
    (q : ∀ a p' s', Row n p' → I s' → 1 ≤ a → a ≤ nrem → SrtTo k p' a → Q (a, p') s') : (kas_count nrem p).kasWp cmp Q s := by
  unfold kas_count
  rw [KasT.kasWp_bind]
  refine asc_ok hc h0 R (nrem - 1) 1 s _ hI (Nat.le_refl _) (SrtTo.one (Nat.le_refl _)) fun a s' hI' a1 a2 hs hor => ?_
  by_cases ha : a = nrem
  · rw [if_pos (by simp [ha])]
    exact q a p s' R hI' a1 (by omega) hs
  · rw [if_neg (by simp [ha])]
    have hlt : O.klt (kat k p a) (kat k p (a - 1)) := hor.elim (fun z => absurd z (by omega)) id
    by_cases h2 : a > 1
    · rw [if_pos h2]
      refine hc _ _ _ s' (R.lt h0 _) (R.lt h0 _) hI' fun s'' hI'' => ?_
      show (if O.blt (kat k p 0) (kat k p (a - 1)) = true then KasT.ret (a, p) else kas_descPart a nrem (kas_rev p 0 a)).kasWp cmp Q s''
      cases e : O.blt (kat k p 0) (kat k p (a - 1)) with
      | true =>
        rw [if_pos rfl]
        exact q a p s'' R hI'' a1 (by omega) hs
      | false =>
        rw [if_neg (by simp)]
        have all : ∀ m, 0 ≤ m → m < a → kat k p m = kat k p (a - 1) := fun m _ hm => KeyOrd.kle_antisymm (hs m (a - 1) (by omega) (by omega)) (KeyOrd.kle_trans e (hs 0 m (by omega) hm))
        have sm := kat_rev_same (k := k) (p := p) (i := 0) (j := a) (by rw [R.size]; omega) all
        have hd : DecTo k p a := fun i j h1 h2 => by rw [all i (by omega) (by omega), all j (by omega) h2]; exact KeyOrd.kle_refl _
        have hd1 := hd.snoc a1 (KeyOrd.kle_of_klt hlt)
        exact descPart_ok hc h0 (R.rev 0 a) hI'' (by omega) hn (fun i j h1 h2 => by rw [sm, sm]; exact hd1 i j h1 h2) q
    · rw [if_neg h2]
      have e1 : a = 1 := by omega
      subst e1
      have hd : DecTo k p 1 := fun i j h1 h2 => by
        have : i = j := by omega
        subst this; exact KeyOrd.kle_refl _
      exact descPart_ok hc h0 R hI' (by omega) hn (hd.snoc (Nat.le_refl _) (KeyOrd.kle_of_klt hlt)) q
theorem place_ok (hc : Asks O k n I cmp) (h0 : 0 < n) {p : Array Nat} (R : Row n p) {m : Nat} (hs : SrtTo k p m) : ∀ (f l r : Nat) (s : Shared) (Q : Nat → Shared → Prop), I s → l ≤ r → r ≤ m → r - l ≤ f → (∀ i, i < l → O.kle (kat k p i) (kat k p m)) → (∀ i, r ≤ i → i < m → O.klt (kat k p m) (kat k p i)) →
    (∀ l s', I s' → l ≤ m → (∀ i, i < l → O.kle (kat k p i) (kat k p m)) → (∀ i, l ≤ i → i < m → O.klt (kat k p m) (kat k p i)) → Q l s') → (kas_place p m f l r).kasWp cmp Q s
  | 0, l, r, s, Q, hI, a1, a2, a3, b1, b2, q => q l s hI (by omega) b1 fun i h1 h2 => b2 i (by omega) h2
  | f + 1, l, r, s, Q, hI, a1, a2, a3, b1, b2, q => by
    show (if l ≥ r then KasT.ret l else KasT.ask (p.getD m 0) (p.getD ((l + r) / 2) 0) fun c => if c = true then kas_place p m f l ((l + r) / 2) else kas_place p m f ((l + r) / 2 + 1) r).kasWp cmp Q s
    by_cases hlr : l ≥ r
    · rw [if_pos hlr]
      exact q l s hI (by omega) b1 fun i h1 h2 => b2 i (by omega) h2
    · rw [if_neg hlr]
      refine hc _ _ _ s (R.lt h0 _) (R.lt h0 _) hI fun s' hI' => ?_
      show (if O.blt (kat k p m) (kat k p ((l + r) / 2)) = true then kas_place p m f l ((l + r) / 2) else kas_place p m f ((l + r) / 2 + 1) r).kasWp cmp Q s'
      cases e : O.blt (kat k p m) (kat k p ((l + r) / 2)) with
      | true =>
        rw [if_pos rfl]
        exact place_ok hc h0 R hs f l _ s' Q hI' (by omega) (by omega) (by omega) b1 (fun i h1 h2 => KeyOrd.klt_of_klt_of_kle e (hs _ i h1 h2)) q
      | false =>
        rw [if_neg (by simp)]
        exact place_ok hc h0 R hs f _ r s' Q hI' (by omega) (by omega) (by omega) (fun i h1 => KeyOrd.kle_trans (hs i ((l + r) / 2) (by omega) (by omega)) e) b2 q
theorem bin_ok (hc : Asks O k n I cmp) (h0 : 0 < n) : ∀ (f : Nat) (p : Array Nat) (m : Nat) (s : Shared) (Q : Array Nat → Shared → Prop), Row n p → I s → m + f ≤ n → SrtTo k p m → (∀ p' s', Row n p' → I s' → SrtTo k p' (m + f) → Q p' s') → (kas_bin f p m).kasWp cmp Q s
  | 0, p, m, s, Q, R, hI, hn, hs, q => q p s R hI hs
  | f + 1, p, m, s, Q, R, hI, hn, hs, q => by
    show ((kas_place p m m 0 m).bind fun l => kas_bin f (bubble p m (m - l)) (m + 1)).kasWp cmp Q s
    rw [KasT.kasWp_bind]
    refine place_ok hc h0 R hs m 0 m s _ hI (Nat.zero_le _) (Nat.le_refl _) (by omega) (fun i h => by omega) (fun i h1 h2 => by omega) fun l s' hI' hl b1 b2 => ?_
    refine bin_ok hc h0 f _ (m + 1) s' Q (R.bub _ _) hI' (by omega) (fun i j h1 h2 => ?_) fun p' s'' i1 i2 i3 => q p' s'' i1 i2 (by rw [show m + (f + 1) = m + 1 + f by omega]; exact i3)
    have kb := kat_bub (k := k) (p := p) (src := m) (d := m - l) (by rw [R.size]; omega) (by omega)
    rw [kb i, kb j, show m - (m - l) = l by omega]
    by_cases hj1 : j = l
    · rw [if_pos hj1]
      by_cases hi1 : i = l
      · rw [if_pos hi1]; exact KeyOrd.kle_refl _
      · rw [if_neg hi1, if_neg (by omega)]
        exact b1 i (by omega)
    · rw [if_neg hj1]
      by_cases hj2 : l < j ∧ j ≤ m
      · rw [if_pos hj2]
        by_cases hi1 : i = l
        · rw [if_pos hi1]
          exact KeyOrd.kle_of_klt (b2 (j - 1) (by omega) (by omega))
        · rw [if_neg hi1]
          by_cases hi2 : l < i ∧ i ≤ m
          · rw [if_pos hi2]; exact hs _ _ (by omega) (by omega)
          · rw [if_neg hi2]; exact hs _ _ (by omega) (by omega)
      · rw [if_neg hj2]
        rw [if_neg (by omega), if_neg (by omega)]
        exact hs _ _ h1 (by omega)
theorem sort_ok (hc : Asks O k n I cmp) (h0 : 0 < n) {s : Shared} {Q : Array Nat → Shared → Prop} (hI : I s) (q : ∀ p s', Row n p → I s' → SrtTo k p n → Q p s') : (kas_sort n).kasWp cmp Q s := by
  unfold kas_sort
  rw [KasT.kasWp_bind]
  refine count_ok hc h0 ⟨Array.Perm.refl _⟩ hI h0 (Nat.le_refl _) fun a p s' R hI' a1 a2 hs => ?_
  dsimp only
  by_cases ha : a < n
  · rw [if_pos ha]
    have e : max a 1 = a := by omega
    rw [e]
    exact bin_ok hc h0 (n - a) p a s' Q R hI' (by omega) hs fun p' s'' i1 i2 i3 => q p' s'' i1 i2 (by rw [show n = a + (n - a) by omega]; exact i3)
  · rw [if_neg ha]
    have e : a = n := by omega
    exact q p s' R hI' (e ▸ hs)
end
end L2

/-! MY OWN RULES, part 15: sorted of lists of ints -/
namespace PySem.SeqAt
open AutoSeq1 (wpAny_loadPart')
open MeetsSeq MeetsSeq2 MeetsSeq3
def RcLtAt (A : Around) (s : Shared) (y x : Value) (b : Bool) : Prop :=
  ∀ (prog : Program) (w : World) (E : Value → Shared → Prop) (Q : Value → Shared → Prop), Q (.bool b) s → wpAny (model prog w) A (richCompare .Lt y x) Q E s
def lexF (e c : Nat → Bool) : List Nat → Bool
  | [] => false
  | j :: r => if e j = true then lexF e c r else c j
theorem lt_loopAt (l b : Addr) (items items2 : Array Value) (n n2 : Nat) (dd dd2 : Option Addr) (sl sl2 : Array (Option Value)) (hsz : items.size = items2.size) (e c : Nat → Bool) (k : Nat) :
    ∀ i : Nat, items.size - i = k → Meets (Builtin.«list.__eq__.loop» ⟨[.ref l, .ref b, rawInt i, rawInt 0], []⟩)
      (fun A R s => s.heap.get? l = some { cls := .type "list", dict := dd, data := .seq items n, slots := sl } ∧ s.heap.get? b = some { cls := .type "list", dict := dd2, data := .seq items2 n2, slots := sl2 } ∧
        (∀ j (h1 : j < items.size) (h2 : j < items2.size), EqAt A.in1 s items[j] items2[j] (e j) ∧ RcLtAt A.in1 s items[j] items2[j] (c j)) ∧
        R (.ok (.ret (.bool (lexF e c ((List.range items.size).drop i))))) s) := by
  induction k with
  | zero =>
    intro i hk prog w A R s h
    obtain ⟨hp, g, d, tk, os⟩ := s; obtain ⟨hl, hb, he, h⟩ := h
    wp_walk using wpAny_loadPart' hl, wpAny_loadPart' hb
    have hi1 : items[((i : Nat) : Int).toNat]? = none := by simp; omega
    have hi2 : items2[((i : Nat) : Int).toNat]? = none := by simp; omega
    have hd : (List.range items.size).drop i = [] := by simp; omega
    rw [hd] at h
    rw [hi1, hi2]
    wp_walk using wpAny_loadPart' hl, wpAny_loadPart' hb
    show R (.ok (.ret (.bool (decide (items.size < items2.size))))) _
    rw [hsz]
    simpa [lexF] using h
  | succ k ih =>
    intro i hk prog w A R s h
    obtain ⟨hp, g, d, tk, os⟩ := s; obtain ⟨hl, hb, he, h⟩ := h
    wp_walk using wpAny_loadPart' hl, wpAny_loadPart' hb
    have hlt : i < items.size := by omega
    have hlt2 : i < items2.size := by omega
    have hi1 : items[((i : Nat) : Int).toNat]? = some items[i] := by simp [hlt]
    have hi2 : items2[((i : Nat) : Int).toNat]? = some items2[i] := by simp [hlt2]
    have hd : (List.range items.size).drop i = i :: (List.range items.size).drop (i + 1) := by simp [List.drop_eq_getElem_cons, hlt]
    have hc : ((i : Int) + 1) = ((i + 1 : Nat) : Int) := by push_cast; rfl
    rw [hd, lexF] at h
    rw [hi1, hi2]
    refine wpAny_bind ((he i hlt hlt2).1 prog w _ _ ?_)
    cases hb' : e i with
    | true =>
      rw [hb', if_pos rfl] at h
      wp_walk
      rw [hc]
      exact ⟨plainId_quiet plain_eq_loop _, codeAny_builtin entry_eq_loop (by
        rw [Around.under_plainId plain_eq_loop _]
        exact ih (i + 1) (by omega) prog w A R _ ⟨hl, hb, he, h⟩)⟩
    | false =>
      rw [hb', if_neg (by simp)] at h
      wp_walk using wpAny_loadPart' hl, wpAny_loadPart' hb
      rw [hi1, hi2]
      refine wpAny_bind ((he i hlt hlt2).2 prog w _ _ ?_)
      wp_walk
      exact h
theorem list_ltAt (l b : Addr) (items items2 : Array Value) (n n2 : Nat) (dd dd2 : Option Addr) (sl sl2 : Array (Option Value)) (hsz : items.size = items2.size) (e c : Nat → Bool) :
    Meets (Builtin.«list.__lt__» ⟨[.ref l, .ref b], []⟩)
      (fun A R s => s.heap.get? l = some { cls := .type "list", dict := dd, data := .seq items n, slots := sl } ∧ s.heap.get? b = some { cls := .type "list", dict := dd2, data := .seq items2 n2, slots := sl2 } ∧
        (∀ j (h1 : j < items.size) (h2 : j < items2.size), EqAt A.in1 s items[j] items2[j] (e j) ∧ RcLtAt A.in1 s items[j] items2[j] (c j)) ∧
        R (.ok (.ret (.bool (lexF e c (List.range items.size))))) s) := by
  intro prog w A R s h
  obtain ⟨hp, g, d, tk, os⟩ := s; obtain ⟨hl, hb, he, h⟩ := h
  have f3 := AutoSeq1.sub_list_list
  wp_walk using wpAny_loadPart' hl, wpAny_loadPart' hb
  exact ⟨plainId_quiet plain_eq_loop _, codeAny_builtin entry_eq_loop (by
    rw [Around.under_plainId plain_eq_loop _]
    exact lt_loopAt l b items items2 n n2 dd dd2 sl sl2 hsz e c _ 0 rfl prog w A R _ ⟨hl, hb, he, by simpa using h⟩)⟩
end PySem.SeqAt

namespace L2
open PySem PySem.Spec PyProof.Rows PySem.SeqAt PySem.W
@[reducible] def colOrd : KeyOrd where
  α := List Int
  blt a b := decide (a < b)
  irrefl a := by simp
  trans a b c h1 h2 := by simp only [decide_eq_true_eq] at *; exact List.lt_trans h1 h2
  negTrans a b c h := by
    simp only [decide_eq_true_eq] at *
    by_cases hab : a < b
    · exact .inl hab
    · exact .inr (List.lt_of_le_of_lt (List.not_lt.mp hab) h)
  total a b h1 h2 := by simp only [decide_eq_false_iff_not] at *; exact List.le_antisymm (List.not_lt.mp h2) (List.not_lt.mp h1)
theorem lexF_eq : ∀ (xs ys : List Int) (d : Nat) (f g : Nat → Int), xs.length = ys.length → (∀ j, j < xs.length → f (d + j) = xs.getD j 0) → (∀ j, j < xs.length → g (d + j) = ys.getD j 0) →
    lexF (fun j => f j == g j) (fun j => decide (f j < g j)) (List.range' d xs.length) = decide (xs < ys)
  | [], [], d, f, g, _, _, _ => by simp [lexF]
  | x :: xs, y :: ys, d, f, g, hl, hf, hg => by
    have h0 := hf 0 (by simp)
    have g0 := hg 0 (by simp)
    simp at h0 g0
    have ih := lexF_eq xs ys (d + 1) f g (by simpa using hl) (fun j hj => by
      have := hf (j + 1) (by simp; omega)
      rw [show d + 1 + j = d + (j + 1) by omega, this]; simp) (fun j hj => by
      have := hg (j + 1) (by simp; omega)
      rw [show d + 1 + j = d + (j + 1) by omega, this]; simp)
    rw [List.length_cons, List.range'_succ, lexF, ih, h0, g0]
    by_cases e : x = y
    · subst e
      rw [if_pos (by simp)]
      simp [List.cons_lt_cons_iff]
    · rw [if_neg (by simpa using e)]
      simp [List.cons_lt_cons_iff, e]
section
variable {prog : Program} {w : World} {A : Around} {E : Value → Shared → Prop} {s : Shared}
theorem rcLt_int (a : Int) (t : Tok) (b : Int) (u : Tok) : RcLtAt A s (.int a t) (.int b u) (decide (a < b)) := fun prog w E Q h => wpAny_lt_int h
theorem oneLt_lists {a b : Addr} {us vs : List Value} {xs ys : List Int} {Q : Bool → Shared → Prop} (ha : s.heap.IsList a us.toArray) (hb : s.heap.IsList b vs.toArray) (hx : IntsAre us xs) (hy : IntsAre vs ys) (hl : xs.length = ys.length) (hu : A.units < cLine)
    (h : Q (decide (xs < ys)) s) : wpAny (model prog w) A (oneLt' true (.ref a) (.ref b)) Q E s := by
  rw [oneLt'_eq]
  simp only [if_true]
  refine wpAny_bind (wpAny_cRoomFor hu ?_)
  obtain ⟨⟨cls, dd, data, sl⟩, ho, hc, n, hd⟩ := id ha
  obtain ⟨⟨cls2, dd2, data2, sl2⟩, ho2, hc2, n2, hd2⟩ := id hb
  simp only at hc hd hc2 hd2
  subst hc hd hc2 hd2
  have lu := hx.length
  have lv := hy.length
  have hsz : us.toArray.size = vs.toArray.size := by simp; omega
  refine wpAny_bind (wpAny_callSpecialIfBound?_slot (T := "list") (id := "list.__lt__") ⟨_, ho, rfl⟩ F.slot_list_lt (call_meets F.slot_list_lt ⟨_, ho, rfl⟩ F.entry_list_lt (F.args_list_lt_2 _ _) (list_ltAt a b us.toArray vs.toArray n n2 dd dd2 sl sl2 hsz (fun j => xs.getD j 0 == ys.getD j 0) (fun j => decide (xs.getD j 0 < ys.getD j 0))) ⟨ho, ho2, fun j h1 h2 => ?_, ?_⟩))
  · have h1' : j < us.length := by simpa using h1
    have h2' : j < vs.length := by simpa using h2
    obtain ⟨t, e1⟩ := PyProof.Rows.IntsAre.int_at hx j us[j] (List.getElem?_eq_getElem h1')
    obtain ⟨u, e2⟩ := PyProof.Rows.IntsAre.int_at hy j vs[j] (List.getElem?_eq_getElem h2')
    have e1 : us.toArray[j] = Value.int (xs.getD j 0) t := by simpa using e1
    have e2 : vs.toArray[j] = Value.int (ys.getD j 0) u := by simpa using e2
    rw [e1, e2]
    exact ⟨EqAt.int_int _ t _ u, rcLt_int _ t _ u⟩
  · have key := lexF_eq xs ys 0 (fun j => xs.getD j 0) (fun j => ys.getD j 0) hl (fun j _ => by simp) (fun j _ => by simp)
    rw [show us.toArray.size = xs.length by simpa using lu, List.range_eq_range', key]
    exact wpAny_truthy_bool h
/-- the items are lists of so many ints, none of them at a -/
structure ColVals (h : Heap) (m : Nat) (vs : List Value) (cs : List (List Int)) : Prop where
  len : vs.length = cs.length
  at' : ∀ i, i < vs.length → ∃ (b : Addr) (us : List Value), vs.getD i Value.none = .ref b ∧ h.IsList b us.toArray ∧ IntsAre us (cs.getD i []) ∧ (cs.getD i []).length = m
theorem ColVals.keep {h h' : Heap} {m : Nat} {vs : List Value} {cs : List (List Int)} (c : ColVals h m vs cs) (k : ∀ b o, h.get? b = some o → h'.get? b = some o) : ColVals h' m vs cs :=
  ⟨c.len, fun i hi => by
    obtain ⟨b, us, h1, ⟨o, ho, hc, n, hd⟩, h3, h4⟩ := c.at' i hi
    exact ⟨b, us, h1, ⟨o, k _ _ ho, hc, n, hd⟩, h3, h4⟩⟩
theorem sort_lists {a : Addr} {vs : List Value} {cs : List (List Int)} {m n : Nat} {P : PySem.Fin → Shared → Prop} (hu : A.units < cLine) (ho : s.heap.get? a = some (seqObj "list" vs.toArray n)) (h64 : vs.length < 64)
    (cv : ∀ h', (∀ b o, s.heap.get? b = some o → b ≠ a → h'.get? b = some o) → ColVals h' m vs cs)
    (h : ∀ p : Array Nat, Row vs.length p → SrtTo (O := colOrd) (fun i => cs.getD i []) p vs.length → P (.done (.ret .none)) { s with heap := sortedHeap s.heap a vs (List.toArray (p.toList.map fun i => vs.getD i Value.none)) }) :
    wpAny (model prog w) A (Builtin.«list.sort» ⟨[.ref a], []⟩) P E s := by
  rw [list_sort_plain]
  have ha : a < s.heap.objs.size := Heap.lt_size ho
  refine wpAny_bind (listItems_at ho rfl ?_)
  refine wpAny_bind (listUpdate_at ho rfl ?_)
  obtain ⟨e1, ho1⟩ : ∃ e1, (s.heap.update a (Obj.mapSeq fun _ => #[])).get? a = some (seqObj "list" #[] e1) := ⟨_, get?_update_seq ho (fun _ => #[])⟩
  refine wpAny_bind (seqEpoch_at ho1 rfl ?_)
  refine wpAny_bind (wpAny_newTuple ?_)
  refine wpAny_bind (wpAny_newList ?_)
  refine wpAny_holding ?_
  have ho6 : (((s.heap.update a (Obj.mapSeq fun _ => #[])).push (seqObj "tuple" vs.toArray 0)).push (seqObj "list" #[] 0)).get? a = some (seqObj "list" #[] e1) := by
    rw [Heap.get?_push_ne _ _ _ (by rw [size_push', Heap.size_update]; exact Nat.ne_of_lt (Nat.lt_succ_of_lt ha)), Heap.get?_push_ne _ _ _ (by rw [Heap.size_update]; exact Nat.ne_of_lt ha)]
    exact ho1
  have keep : ∀ b o, s.heap.get? b = some o → b ≠ a → (((s.heap.update a (Obj.mapSeq fun _ => #[])).push (seqObj "tuple" vs.toArray 0)).push (seqObj "list" #[] 0)).get? b = some o := fun b o hb hne =>
    Heap.get?_push_of_some _ (Heap.get?_push_of_some _ (by rw [Heap.get?_update_ne _ _ _ _ hne]; exact hb))
  have C := cv _ keep
  show wpAny (model prog w) A _ P E { s with heap := ((s.heap.update a (Obj.mapSeq fun _ => #[])).push (seqObj "tuple" vs.toArray 0)).push (seqObj "list" #[] 0) }
  dsimp only
  have hsz : vs.toArray.size = vs.length := by simp
  by_cases h2 : vs.toArray.size < 2
  · rw [if_pos h2, if_pos h2]
    refine wpAny_bind (wpAny_pure ?_)
    rw [StateT.run_pure]
    refine wpAny_bind (wpAny_pure ?_)
    dsimp only
    refine wpAny_bind (seqEpoch_at ho6 rfl ?_)
    refine wpAny_bind (listUpdate_at ho6 rfl ?_ (hsz2 := by rw [Array.size_map]; show (pairsOf vs).size ≤ _; rw [pairsOf_size, sizeLine_eq]; omega))
    simp only [bne_self_eq_false, Bool.false_eq_true, if_false]
    have hh := h (List.range vs.length).toArray ⟨Array.Perm.refl _⟩ (SrtTo.one (by omega))
    have eo : (arrOf (SortSt.mk' general' (vs.toArray.zip vs.toArray) #[] 7 none)).map (·.2) = List.toArray ((List.range vs.length).map fun i => vs.getD i Value.none) := by
      apply Array.toList_inj.mp
      show ((pairsOf vs).map (·.2)).toList = _
      have e := kas_range (pairsOf vs)
      rw [pairsOf_size] at e
      rw [← e, Array.map_map, Array.toList_map]
      exact List.map_congr_left fun i _ => by show (kas_item (pairsOf vs) i).2 = _; rw [kas_item_eq]
    refine wpAny_pure ?_
    rw [eo]
    exact hh
  · rw [if_neg h2, if_neg h2]
    have h2' : 2 ≤ vs.length := by omega
    refine wpAny_bind (kas_kind (T := Value.type "list") h2' (fun v hv => ?_) (by decide) (by decide) ?_)
    · obtain ⟨i, hi⟩ := List.getElem?_of_mem hv
      have hil := (List.getElem?_eq_some_iff.mp hi).1
      obtain ⟨b, us, e1, ⟨o, e2, e3, _⟩, _⟩ := C.at' i hil
      have : v = .ref b := by rw [← e1, List.getD_eq_getElem?_getD, hi]; rfl
      rw [this]
      exact kitAt_ty _ _ ⟨o, e2, e3⟩
    have est : SortSt.mk' oneType' (vs.toArray.zip vs.toArray) #[] 7 none = kas_st oneType' (pairsOf vs) (List.toArray (List.range vs.length)) := by
      have e := kas_range (pairsOf vs)
      rw [pairsOf_size] at e
      show SortSt.mk' oneType' (pairsOf vs) #[] 7 none = SortSt.mk' oneType' ((List.toArray (List.range vs.length)).map (kas_item (pairsOf vs))) #[] 7 none
      rw [e]
    generalize hs6 : ({ s with heap := ((s.heap.update a (Obj.mapSeq fun _ => #[])).push (seqObj "tuple" vs.toArray 0)).push (seqObj "list" #[] 0) } : Shared) = s6
    have C6 : ColVals s6.heap m vs cs := by rw [← hs6]; exact C
    have asks : Asks colOrd (fun i => cs.getD i []) vs.length (fun s' => s' = s6) (kas_cmp prog w A oneType' (pairsOf vs)) := by
      intro i j K s' hi hj e hK
      subst e
      unfold kas_cmp
      rw [kas_item_eq, kas_item_eq, keyLt'_oneType]
      obtain ⟨b, us, e1, e2, e3, e4⟩ := C6.at' i hi
      obtain ⟨b', us', e1', e2', e3', e4'⟩ := C6.at' j hj
      show wpAny _ _ (oneLt' true (vs.getD i Value.none) (vs.getD j Value.none)) _ _ _
      rw [e1, e1']
      exact oneLt_lists e2 e2' e3 e3' (by rw [e4, e4']) hu (hK _ rfl)
    have run := kas_runs (E := E) (prog := prog) (w := w) (A := A) (κ := oneType') (it := pairsOf vs) (n := vs.length) (Q := fun _ st' s' => ∃ p : Array Nat, Row vs.length p ∧ SrtTo (O := colOrd) (fun i => cs.getD i []) p vs.length ∧ arrOf st' = p.map (kas_item (pairsOf vs)) ∧ failedOf st' = none ∧ s' = s6) (G := fun p s' => Row vs.length p ∧ SrtTo (O := colOrd) (fun i => cs.getD i []) p vs.length ∧ s' = s6) (s := s6)
      h2' h64 (fun p' st' s' a1 a2 a3 a4 => ⟨p', a4.1, a4.2.1, a2, a3, a4.2.2⟩) (sort_ok asks (by omega) rfl fun p s' R hI hS => ⟨R, hS, hI⟩)
    rw [← est] at run
    refine wpAny_bind (wpAny_mono run ?_ fun _ _ e => e)
    rintro ⟨⟨⟩, st'⟩ s' ⟨p, R, hS, har, hf, rfl⟩
    subst hs6
    dsimp only
    have hout : (arrOf st').map (·.2) = List.toArray (p.toList.map fun i => vs.getD i Value.none) := by
      apply Array.toList_inj.mp
      rw [har, Array.map_map, Array.toList_map]
      exact List.map_congr_left fun i _ => by show (kas_item (pairsOf vs) i).2 = _; rw [kas_item_eq]
    rw [hout]
    refine wpAny_bind (seqEpoch_at ho6 rfl ?_)
    refine wpAny_bind (listUpdate_at ho6 rfl ?_ (hsz2 := by rw [List.size_toArray, List.length_map, Array.length_toList, R.size, sizeLine_eq]; omega))
    rw [hf]
    simp only [bne_self_eq_false, Bool.false_eq_true, if_false]
    exact wpAny_pure (h p R hS)
theorem sorted_lists {l : Addr} {vs : List Value} {cs : List (List Int)} {m : Nat} {Q : Value → Shared → Prop} (hu : A.in1.in1.units < cLine) (hl : s.heap.IsList l vs.toArray) (h64 : vs.length < 64) (cv : ColVals s.heap m vs cs)
    (h : ∀ p : Array Nat, Row vs.length p → SrtTo (O := colOrd) (fun i => cs.getD i []) p vs.length → Q (.ref (s.heap.objs.size + 1)) { s with heap := sortedAll s.heap vs (List.toArray (p.toList.map fun i => vs.getD i Value.none)) }) :
    wpAny (model prog w) A (call (.builtin "sorted") [.ref l]) Q E s := by
  refine Calls.call_function_entry kind_sorted plain_sorted entry_sorted (args_sorted1 _) ?_
  unfold Builtin.«sorted»
  refine wpAny_bind (m := checkCount "sorted" 1 1 _) (wpAny_pure ?_)
  refine wpAny_bind (collect_list hl ?_)
  refine wpAny_bind (wpAny_newList ?_)
  have hsz : ((s.heap.push (seqObj "list" #[] 0)).update s.heap.objs.size (Obj.mapSeq (· ++ vs.toArray))).objs.size = s.heap.objs.size + 1 := by
    rw [Heap.size_update, size_push']
  have hoL : (((s.heap.push (seqObj "list" #[] 0)).update s.heap.objs.size (Obj.mapSeq (· ++ vs.toArray))).push (seqObj "list" vs.toArray 0)).get? (s.heap.objs.size + 1) = some (seqObj "list" vs.toArray 0) := by
    rw [← hsz]; exact Heap.get?_push_size _ rfl
  have keep : ∀ b o, s.heap.get? b = some o → (((s.heap.push (seqObj "list" #[] 0)).update s.heap.objs.size (Obj.mapSeq (· ++ vs.toArray))).push (seqObj "list" vs.toArray 0)).get? b = some o := fun b o q => by
    have hlt : b < s.heap.objs.size := Heap.lt_size q
    rw [Heap.get?_push_ne _ _ _ (by rw [hsz]; exact Nat.ne_of_lt (Nat.lt_succ_of_lt hlt)), Heap.get?_update_ne _ _ _ _ (Nat.ne_of_lt hlt), Heap.get?_push_ne _ _ _ (Nat.ne_of_lt hlt)]
    exact q
  show wpAny _ _ _ _ _ { s with heap := ((s.heap.push (seqObj "list" #[] 0)).update s.heap.objs.size (Obj.mapSeq (· ++ vs.toArray))).push (seqObj "list" vs.toArray 0) }
  rw [hsz]
  refine wpAny_bind (wpAny_holding (wpAny_call_entry slot_list_sort ⟨_, hoL, rfl⟩ entry_list_sort (sort_lists hu hoL h64 (fun h' k => cv.keep fun b o hb => k b o (keep b o hb) (Nat.ne_of_lt (Nat.lt_succ_of_lt (Heap.lt_size hb)))) fun p a1 a2 => ⟨_, rfl, ?_⟩) (args_list_sort _)))
  exact wpAny_pure ⟨_, rfl, h p a1 a2⟩
end
section
variable {X : Cx}
theorem map_range {α : Type} (d : α) (l : List α) : (List.range l.length).map (fun i => l.getD i d) = l := by
  apply List.ext_getElem
  · simp
  · intro i h1 h2
    simp [List.getElem?_eq_getElem h2]
theorem colsAt_pick {K : PySem.W.Frag} {H : Hp} {as : List Addr} {cs : List (List Int)} (h : ColsAt K H as cs) : ∀ (ps : List Nat), (∀ i ∈ ps, i < as.length) → ColsAt K H (ps.map fun i => as.getD i 0) (ps.map fun i => cs.getD i [])
  | [], _ => .nil
  | i :: ps, hp => by
    have hi := hp i (List.mem_cons_self ..)
    obtain ⟨c, hc, hs⟩ := h.get (List.getElem?_eq_getElem hi)
    refine .cons ?_ (colsAt_pick h ps fun j hj => hp j (List.mem_cons_of_mem _ hj))
    show SqL K H (as.getD i 0) (List.map V.int (cs.getD i []))
    rw [List.getD_eq_getElem?_getD, List.getD_eq_getElem?_getD, hc, List.getElem?_eq_getElem hi]
    exact hs
theorem vals_refsL : ∀ {as : List Addr} {us : List Value}, Vals (as.map V.ref) us → us = as.map Value.ref
  | [], _, r => by cases r; rfl
  | a :: as, _, r => by
    cases r with
    | cons h t => rw [vals_refsL t, show _ = Value.ref a from h]; rfl
theorem vals_of_refs : ∀ (as : List Addr), Vals (as.map V.ref) (as.map Value.ref)
  | [] => .nil
  | a :: as => .cons rfl (vals_of_refs as)
theorem call_sortedL (hu : X.A.units + 64 < cLine) : CallR X (.builtin "sorted") (fun xs H Q => ∃ (p : Addr) (as : List Addr) (cs : List (List Int)) (m : Nat), xs = [.ref p] ∧ SqL X.K H p (as.map V.ref) ∧ ColsAt X.K H as cs ∧ (∀ c ∈ cs, c.length = m) ∧ as.length < 64 ∧
    ∀ (l : Addr) (ps : List Nat), ps.Perm (List.range as.length) → (ps.map fun i => cs.getD i []).Pairwise (fun a b => ¬ b < a) → H l = none → Q (.ref l) (upd H l (.lst ((ps.map fun i => as.getD i 0).map V.ref)))) := by
  intro pins s σ H xs us Q I r h
  obtain ⟨p, as, cs, m, rfl, hS, hco, hm, h64, q⟩ := h
  obtain ⟨u, rfl, ru⟩ := vals1 r
  cases ru
  obtain ⟨its, rv, pl, hz⟩ := I.list hS
  have ei := vals_refsL rv
  subst ei
  have lac := hco.length
  have cv : ColVals s.heap m (as.map Value.ref) cs := ⟨by rw [List.length_map, lac], fun i hi => by
    rw [List.length_map] at hi
    obtain ⟨c, hc, hs⟩ := hco.get (List.getElem?_eq_getElem hi)
    obtain ⟨ws, rw', pw, _⟩ := I.list hs
    have ec : cs.getD i [] = c := by rw [List.getD_eq_getElem?_getD, hc]; rfl
    exact ⟨as[i], ws, by rw [List.getD_eq_getElem?_getD, List.getElem?_map, List.getElem?_eq_getElem hi]; rfl, pw.isList, by rw [ec]; exact intsAre_of rw', by rw [ec]; exact hm c (List.mem_of_getElem? hc)⟩⟩
  refine sorted_lists (by show X.A.units + 1 + 1 < cLine; omega) pl.isList (by rw [List.length_map]; exact h64) cv fun pp R hS' => ?_
  rw [List.length_map] at R hS'
  have mem : ∀ i ∈ pp.toList, i < as.length := fun i hi => by
    have := (Array.perm_iff_toList_perm.mp R.perm).mem_iff.mp hi
    simpa using this
  have epp : (pp.toList.map fun i => (as.map Value.ref).getD i Value.none) = (pp.toList.map fun i => as.getD i 0).map Value.ref := by
    rw [List.map_map]
    refine List.map_congr_left fun i hi => ?_
    rw [List.getD_eq_getElem?_getD, List.getElem?_map, List.getElem?_eq_getElem (mem i hi)]
    show _ = Value.ref (as.getD i 0)
    rw [List.getD_eq_getElem?_getD, List.getElem?_eq_getElem (mem i hi)]
    rfl
  rw [epp]
  have lpp : (pp.toList.map fun i => as.getD i 0).length = as.length := by rw [List.length_map, Array.length_toList, R.size]
  have hq := q (s.heap.objs.size + 1) pp.toList (by have := Array.perm_iff_toList_perm.mp R.perm; simpa using this) ?_ (I.hok.fresh (Nat.le_succ _))
  · generalize (pp.toList.map fun i => as.getD i 0) = bs at *
    obtain ⟨e, he⟩ := sortedAll_at s.heap (as.map Value.ref) (bs.map Value.ref).toArray
    have le : s.heap.objs.size ≤ s.heap.objs.size + 1 := Nat.le_succ _
    refine ⟨.ref (s.heap.objs.size + 1), _, I.laid (t' := s.toks) (o := .lst (bs.map V.ref)) (fun b ob q => sortedAll_old q) le ⟨?_, bs.map Value.ref, e, vals_of_refs bs, ?_⟩, rfl, hq⟩
    · rw [List.length_map, lpp]
      rw [List.length_map] at hz
      exact hz
    · rw [he]
  · rw [List.pairwise_map, List.pairwise_iff_getElem]
    intro i j hi hj hij
    have hj' : j < as.length := by rw [Array.length_toList, R.size] at hj; exact hj
    have hk : (decide (kat (O := colOrd) (fun i => cs.getD i []) pp j < kat (O := colOrd) (fun i => cs.getD i []) pp i)) = false := hS' i j (by omega) hj'
    have e : ∀ {t : Nat} (ht : t < pp.toList.length), kat (O := colOrd) (fun i => cs.getD i []) pp t = cs.getD pp.toList[t] [] := fun {t} ht => by
      have ht' : t < pp.size := by simpa using ht
      unfold kat
      simp [Array.getD, ht']
    rw [e hi, e hj] at hk
    simpa using hk
end
end L2

/-! MY OWN RULES, part 16: min of a list of ints -/
namespace L2
open PySem PySem.Spec PyProof.Rows
theorem bt_min : bootBuiltins "min" = some (.builtin "min") := by decide +kernel
section
variable {X : Cx}
theorem call_minL (hc : X.calm = true) : CallR X (.builtin "min") (fun xs H Q => ∃ p, ∃ ns : List Int, xs = [.ref p] ∧ SqL X.K H p (ns.map V.int) ∧ 0 < ns.length ∧ ∀ M, M ∈ ns → (∀ a ∈ ns, M ≤ a) → Q (.int M) H) := by
  intro pins s σ H xs us Q I r h
  obtain ⟨p, ns, rfl, hS, hne, q⟩ := h
  obtain ⟨u, rfl, ru⟩ := vals1 r
  cases ru
  obtain ⟨its, rv, pl, hz⟩ := I.list hS
  have hi : IntsAre its ns := intsAre_of rv
  obtain ⟨xs, e⟩ := hi.allInts.items
  have hns : ns = xs.toList.map (·.1) := by rw [← hi.numsOf, ← nums_intItems, ← e]
  have hsz : 0 < xs.size := by
    have h3 := hne; rw [hns, List.length_map, Array.length_toList] at h3; exact h3
  have hl : s.heap.IsList p (intItems xs) := e ▸ pl.isList
  refine min_intList (I.ok.hd hc) hl hsz fun v h' tk hv hk => ?_
  obtain ⟨t, rfl⟩ := intItems_at hv
  obtain ⟨h1, h2⟩ := argBest_lt (numAt xs) (xs.size - 1)
  refine ⟨.int _, H, I.kept hk, ⟨t, rfl⟩, q _ ?_ fun a ha => ?_⟩
  · rw [hns, numAt_eq]; exact getD_mem (by rw [List.length_map, Array.length_toList]; omega)
  · rw [hns] at ha
    obtain ⟨j, hj, rfl⟩ := mem_getD ha
    rw [List.length_map, Array.length_toList] at hj
    rw [← numAt_eq]; exact h2 j (by omega)
end
theorem bt_all : bootBuiltins "all" = some (.builtin "all") := by decide +kernel
theorem bools_all (bs : List Bool) : (List.range bs.length).all (fun i => bs.getD i false) = bs.all id := by
  induction bs with
  | nil => rfl
  | cons b bs ih =>
    rw [List.length_cons, List.range_succ_eq_map, List.all_cons, List.all_map, List.all_cons]
    congr 1
theorem call_all {X : Cx} (hc : X.calm = true) : CallR X (.builtin "all") (fun xs H Q => ∃ p, ∃ bs : List Bool, xs = [.ref p] ∧ SqL X.K H p (bs.map V.bl) ∧ Q (.bl (bs.all id)) H) := by
  intro pins s σ H xs us Q I r h
  obtain ⟨p, bs, rfl, hS, q⟩ := h
  obtain ⟨u, rfl, ru⟩ := vals1 r
  cases ru
  obtain ⟨its, rv, pl, hz⟩ := I.list hS
  have ll := rv.length
  rw [List.length_map] at ll
  obtain ⟨o, ho, _⟩ := pl.isList
  have hI : p ≠ s.heap.objs.size := Nat.ne_of_lt (Heap.lt_size ho)
  refine call_all_walk (wpAny_pyIter_list pl.isList ?_)
  refine ⟨s.heap.objs.size, _, _, _, _, _, fun i => bs.getD i false, rfl, Walks.list (A := X.A.in1) (show X.A.in1.handled = none from I.ok.hd hc) s.heap.objs.size p hI its.toArray, ⟨⟨_, Heap.get?_push_size _ rfl, rfl, rfl⟩, pl.isList.push _⟩, ?_, fun h' tk hk => ?_⟩
  · intro i v s' Q' E' hP hq
    have hP : its[i]? = some v := by simpa using hP
    have hil : i < bs.length := by rw [ll]; exact (List.getElem?_eq_some_iff.mp hP).1
    obtain ⟨u, hu, ru⟩ := rv.get (i := i) (x := V.bl bs[i]) (by rw [List.getElem?_map, List.getElem?_eq_getElem hil]; rfl)
    rw [hP] at hu
    cases hu
    cases ru
    have e : bs.getD i false = bs[i] := by rw [List.getD_eq_getElem?_getD, List.getElem?_eq_getElem hil]; rfl
    have hq : Q' (bs.getD i false) s' := hq
    rw [e] at hq
    exact wpAny_truthy_bool hq
  · have e : (List.range its.toArray.size).all (fun i => bs.getD i false) = bs.all id := by
      rw [← bools_all bs, ll]; simp
    rw [e]
    exact ⟨.bl _, H, I.kept fun b o q => hk b o (fun z => by
      have z : b = s.heap.objs.size := by simpa using z
      exact absurd (Heap.lt_size q) (by rw [z]; exact Nat.lt_irrefl _)) (Heap.get?_push_of_some _ q), rfl, q⟩
theorem call_isinstK {X : Cx} (K : PySem.W.Frag) (hK : X.K = K) : CallR X (.builtin "isinstance") (fun xs H Q => ∃ x c cv t b, xs = [x, c] ∧ clsV c = some cv ∧ TyOf K H x t ∧ PySem.W.kitOne K t cv = some b ∧ Q (V.bl b) H) := by subst hK; exact call_isinst
end L2

/-! MY OWN RULES, part 17: comprehensions with a test, by words of their own -/
namespace L2
open PySem PySem.Spec PyProof.Rows
section
variable {K : PySem.W.Frag} {g : TG} {tt : TT} {te : TE}
/-- any iterator of n turns; each turn adds one, or nothing -/
theorem comp_itT {J : It} {L : Addr} {Q : Hp → Prop} {σ : St} {H : Hp} (n : Nat) (H0 : Hp) (S : St → Prop) (Pv : Nat → List V → Prop) (hgo : ∀ i H', i < n → Same H0 H' → J.go i H') (hstop : ∀ H', Same H0 H' → J.stop n H')
    (hn0 : H0 L = none) (hσ : S σ) (h0 : Same H0 H) (hL : H L = some (.lst [])) (p0 : Pv 0 []) (hz : n ≤ sizeLine) (hl : ∀ i ys, Pv i ys → ys.length ≤ i)
    (turn : ∀ i σ H' ys, i < n → S σ → Same H0 H' → H' L = some (.lst ys) → Pv i ys → ∀ (N : St → V → Hp → Prop) (M : St → Hp → Prop), (∀ σ3 y H5, S σ3 → Same H0 H5 → H5 L = some (.lst ys) → Pv (i + 1) (ys ++ [y]) → N σ3 y H5) → (∀ σ3 H4, S σ3 → Same H0 H4 → H4 L = some (.lst ys) → Pv (i + 1) ys → M σ3 H4) →
      ∀ x H2, J.yld i H' x H2 → g x σ H2 fun σ3 H3 => tt σ3 H3 fun b H4 => if b = true then te σ3 H4 fun y H5 => N σ3 y H5 else M σ3 H4)
    (fin : ∀ H' ys, Same H0 H' → H' L = some (.lst ys) → Pv n ys → Q H') :
    ∃ W : Nat → Nat → St → Hp → Prop, (∃ m, W 0 m σ H) ∧ ∀ i m σ H, W i m σ H → (J.stop i H ∧ Q H) ∨ (J.go i H ∧ ∀ x H2, J.yld i H x H2 → g x σ H2 fun σ3 H3 => tt σ3 H3 fun b H4 => if b = true
      then te σ3 H4 fun y H5 => ∃ ys, H5 L = some (.lst ys) ∧ ys.length < sizeLine ∧ ∃ m', m' < m ∧ W (i + 1) m' σ3 (upd H5 L (.lst (ys ++ [y])))
      else ∃ m', m' < m ∧ W (i + 1) m' σ3 H4) := by
  refine ⟨fun i m σ H => m + i = n ∧ S σ ∧ Same H0 H ∧ ∃ ys, H L = some (.lst ys) ∧ Pv i ys, ⟨n, rfl, hσ, h0, [], hL, p0⟩, ?_⟩
  rintro i m σ H ⟨hm, hs, hsame, ys, hys, hp⟩
  by_cases hi : i < n
  · refine .inr ⟨hgo i H hi hsame, fun x H2 hy => turn i σ H ys hi hs hsame hys hp _ _ (fun σ3 y H5 k1 k2 k3 k4 => ?_) (fun σ3 H4 k1 k2 k3 k4 => ?_) x H2 hy⟩
    · refine ⟨ys, k3, by have := hl i ys hp; omega, m - 1, by omega, by omega, k1, fun b o e => ?_, ys ++ [y], upd_same, k4⟩
      rw [upd_ne (ne_of_none e hn0)]; exact k2 b o e
    · exact ⟨m - 1, by omega, by omega, k1, k2, ys, k3, k4⟩
  · have e : i = n := by omega
    subst e
    exact .inl ⟨hstop H hsame, fin H ys hsame hys hp⟩
theorem comp_lstT {a L : Addr} {xs : List V} {Q : Hp → Prop} {σ : St} {H : Hp} (H0 : Hp) (S : St → Prop) (Pv : Nat → List V → Prop) (ha : SqL K H0 a xs)
    (hn0 : H0 L = none) (hσ : S σ) (h0 : Same H0 H) (hL : H L = some (.lst [])) (p0 : Pv 0 []) (hz : xs.length ≤ sizeLine) (hl : ∀ i ys, Pv i ys → ys.length ≤ i)
    (turn : ∀ i x σ H' ys, xs[i]? = some x → S σ → Same H0 H' → H' L = some (.lst ys) → Pv i ys → ∀ (N : St → V → Hp → Prop) (M : St → Hp → Prop), (∀ σ3 y H5, S σ3 → Same H0 H5 → H5 L = some (.lst ys) → Pv (i + 1) (ys ++ [y]) → N σ3 y H5) → (∀ σ3 H4, S σ3 → Same H0 H4 → H4 L = some (.lst ys) → Pv (i + 1) ys → M σ3 H4) →
      g x σ H' fun σ3 H3 => tt σ3 H3 fun b H4 => if b = true then te σ3 H4 fun y H5 => N σ3 y H5 else M σ3 H4)
    (fin : ∀ H' ys, Same H0 H' → H' L = some (.lst ys) → Pv xs.length ys → Q H') :
    ∃ W : Nat → Nat → St → Hp → Prop, (∃ m, W 0 m σ H) ∧ ∀ i m σ H, W i m σ H → ((Itl K a).stop i H ∧ Q H) ∨ ((Itl K a).go i H ∧ ∀ x H2, (Itl K a).yld i H x H2 → g x σ H2 fun σ3 H3 => tt σ3 H3 fun b H4 => if b = true
      then te σ3 H4 fun y H5 => ∃ ys, H5 L = some (.lst ys) ∧ ys.length < sizeLine ∧ ∃ m', m' < m ∧ W (i + 1) m' σ3 (upd H5 L (.lst (ys ++ [y])))
      else ∃ m', m' < m ∧ W (i + 1) m' σ3 H4) :=
  comp_itT xs.length H0 S Pv (fun i H' hi e => ⟨xs, xs[i], e.seq ha, List.getElem?_eq_getElem hi⟩) (fun H' e => ⟨xs, e.seq ha, Nat.le_refl _⟩) hn0 hσ h0 hL p0 hz hl
    (fun i σ H' ys _ hs e k p N M hN hM x H2 hy => by
      obtain ⟨rfl, hx⟩ := hy
      exact turn i x σ H2 ys (hx xs (e.seq ha)) hs e k p N M hN hM) fin
theorem comp_zipT {a c L : Addr} {xs zs : List V} {Q : Hp → Prop} {σ : St} {H : Hp} (H0 : Hp) (S : St → Prop) (Pv : Nat → List V → Prop) (ha : SqL K H0 a xs) (hc : SqL K H0 c zs)
    (hn0 : H0 L = none) (hσ : S σ) (h0 : Same H0 H) (hL : H L = some (.lst [])) (p0 : Pv 0 []) (hz : min xs.length zs.length ≤ sizeLine) (hl : ∀ i ys, Pv i ys → ys.length ≤ i)
    (turn : ∀ i x z p σ H' ys, xs[i]? = some x → zs[i]? = some z → H' p = none → S σ → Same H0 H' → H' L = some (.lst ys) → Pv i ys → ∀ (N : St → V → Hp → Prop) (M : St → Hp → Prop), (∀ σ3 y H5, S σ3 → Same H0 H5 → H5 L = some (.lst ys) → Pv (i + 1) (ys ++ [y]) → N σ3 y H5) → (∀ σ3 H4, S σ3 → Same H0 H4 → H4 L = some (.lst ys) → Pv (i + 1) ys → M σ3 H4) →
      g (.ref p) σ (upd H' p (.tup [x, z])) fun σ3 H3 => tt σ3 H3 fun b H4 => if b = true then te σ3 H4 fun y H5 => N σ3 y H5 else M σ3 H4)
    (fin : ∀ H' ys, Same H0 H' → H' L = some (.lst ys) → Pv (min xs.length zs.length) ys → Q H') :
    ∃ W : Nat → Nat → St → Hp → Prop, (∃ m, W 0 m σ H) ∧ ∀ i m σ H, W i m σ H → ((Itz K a c).stop i H ∧ Q H) ∨ ((Itz K a c).go i H ∧ ∀ x H2, (Itz K a c).yld i H x H2 → g x σ H2 fun σ3 H3 => tt σ3 H3 fun b H4 => if b = true
      then te σ3 H4 fun y H5 => ∃ ys, H5 L = some (.lst ys) ∧ ys.length < sizeLine ∧ ∃ m', m' < m ∧ W (i + 1) m' σ3 (upd H5 L (.lst (ys ++ [y])))
      else ∃ m', m' < m ∧ W (i + 1) m' σ3 H4) :=
  comp_itT (min xs.length zs.length) H0 S Pv
    (fun i H' hi e => ⟨xs, zs, xs[i]'(by omega), zs[i]'(by omega), e.seq ha, e.seq hc, List.getElem?_eq_getElem _, List.getElem?_eq_getElem _⟩) (fun H' e => ⟨xs, zs, e.seq ha, e.seq hc, by omega⟩) hn0 hσ h0 hL p0 hz hl
    (fun i σ H' ys _ hs e k p N M hN hM v H2 hy => by
      obtain ⟨t, x, z, ht, rfl, rfl, hx, hz'⟩ := hy
      exact turn i x z t σ H' ys (hx xs (e.seq ha)) (hz' zs (e.seq hc)) ht hs e k p N M hN hM) fin
end
section
variable {X : Cx}
theorem call_maxL (hc : X.calm = true) : CallR X (.builtin "max") (fun xs H Q => ∃ p, ∃ ns : List Int, xs = [.ref p] ∧ SqL X.K H p (ns.map V.int) ∧ 0 < ns.length ∧ ∀ M, M ∈ ns → (∀ a ∈ ns, a ≤ M) → Q (.int M) H) := by
  intro pins s σ H xs us Q I r h
  obtain ⟨p, ns, rfl, hS, hne, q⟩ := h
  obtain ⟨u, rfl, ru⟩ := vals1 r
  cases ru
  obtain ⟨its, rv, pl, hz⟩ := I.list hS
  have hi : IntsAre its ns := intsAre_of rv
  obtain ⟨xs, e⟩ := hi.allInts.items
  have hns : ns = xs.toList.map (·.1) := by rw [← hi.numsOf, ← nums_intItems, ← e]
  have hsz : 0 < xs.size := by
    have h3 := hne; rw [hns, List.length_map, Array.length_toList] at h3; exact h3
  have hl : s.heap.IsList p (intItems xs) := e ▸ pl.isList
  refine max_intList (I.ok.hd hc) hl hsz fun v h' tk hv hk => ?_
  obtain ⟨t, rfl⟩ := intItems_at hv
  obtain ⟨h1, h2⟩ := argBest_gt (numAt xs) (xs.size - 1)
  refine ⟨.int _, H, I.kept hk, ⟨t, rfl⟩, q _ ?_ fun a ha => ?_⟩
  · rw [hns, numAt_eq]; exact getD_mem (by rw [List.length_map, Array.length_toList]; omega)
  · rw [hns] at ha
    obtain ⟨j, hj, rfl⟩ := mem_getD ha
    rw [List.length_map, Array.length_toList] at hj
    rw [← numAt_eq]; exact h2 j (by omega)
end
end L2

/-! MY OWN RULES, part 18: a comprehension with a test whose items are new objects; xs[::-1] in a block; xs[:-1] -/
namespace L2
open PySem PySem.Spec PyProof.Rows
section
variable {K : PySem.W.Frag} {g : TG} {tt : TT} {te : TE}
theorem comp_rngT {lo : Int} {n : Nat} {L : Addr} {Q : Hp → Prop} {σ : St} {H : Hp} (H0 : Hp) (S : St → Prop) (Pv : Nat → List V → Prop)
    (hn0 : H0 L = none) (hσ : S σ) (h0 : Same H0 H) (hL : H L = some (.lst [])) (p0 : Pv 0 []) (hz : n ≤ sizeLine) (hl : ∀ i ys, Pv i ys → ys.length ≤ i)
    (turn : ∀ i σ H' ys, i < n → S σ → Same H0 H' → H' L = some (.lst ys) → Pv i ys → ∀ (N : St → V → Hp → Prop) (M : St → Hp → Prop), (∀ σ3 y H5, S σ3 → Same H0 H5 → H5 L = some (.lst ys) → Pv (i + 1) (ys ++ [y]) → N σ3 y H5) → (∀ σ3 H4, S σ3 → Same H0 H4 → H4 L = some (.lst ys) → Pv (i + 1) ys → M σ3 H4) →
      g (.int (lo + i)) σ H' fun σ3 H3 => tt σ3 H3 fun b H4 => if b = true then te σ3 H4 fun y H5 => N σ3 y H5 else M σ3 H4)
    (fin : ∀ H' ys, Same H0 H' → H' L = some (.lst ys) → Pv n ys → Q H') :
    ∃ W : Nat → Nat → St → Hp → Prop, (∃ m, W 0 m σ H) ∧ ∀ i m σ H, W i m σ H → ((Itr lo n).stop i H ∧ Q H) ∨ ((Itr lo n).go i H ∧ ∀ x H2, (Itr lo n).yld i H x H2 → g x σ H2 fun σ3 H3 => tt σ3 H3 fun b H4 => if b = true
      then te σ3 H4 fun y H5 => ∃ ys, H5 L = some (.lst ys) ∧ ys.length < sizeLine ∧ ∃ m', m' < m ∧ W (i + 1) m' σ3 (upd H5 L (.lst (ys ++ [y])))
      else ∃ m', m' < m ∧ W (i + 1) m' σ3 H4) :=
  comp_itT n H0 S Pv (fun i H' hi e => hi) (fun H' e => Nat.le_refl _) hn0 hσ h0 hL p0 hz hl
    (fun i σ H' ys hi hs e k p N M hN hM x H2 hy => by
      obtain ⟨rfl, rfl⟩ := hy
      exact turn i σ H2 ys hi hs e k p N M hN hM) fin
theorem comp_lstTH {a L : Addr} {xs : List V} {Q : Hp → Prop} {σ : St} {H : Hp} (H0 : Hp) (S : St → Prop) (Pv : Nat → List V → Hp → Prop) (ha : SqL K H0 a xs) (stab : ∀ i ys H H', But L H H' → Pv i ys H → Pv i ys H')
    (hn0 : H0 L = none) (hσ : S σ) (h0 : Same H0 H) (hL : H L = some (.lst [])) (p0 : Pv 0 [] H) (hz : xs.length ≤ sizeLine) (hl : ∀ i ys H, Pv i ys H → ys.length ≤ i)
    (turn : ∀ i x σ H' ys, xs[i]? = some x → S σ → Same H0 H' → H' L = some (.lst ys) → Pv i ys H' → ∀ (N : St → V → Hp → Prop) (M : St → Hp → Prop), (∀ σ3 y H5, S σ3 → Same H0 H5 → H5 L = some (.lst ys) → Pv (i + 1) (ys ++ [y]) H5 → N σ3 y H5) → (∀ σ3 H4, S σ3 → Same H0 H4 → H4 L = some (.lst ys) → Pv (i + 1) ys H4 → M σ3 H4) →
      g x σ H' fun σ3 H3 => tt σ3 H3 fun b H4 => if b = true then te σ3 H4 fun y H5 => N σ3 y H5 else M σ3 H4)
    (fin : ∀ H' ys, Same H0 H' → H' L = some (.lst ys) → Pv xs.length ys H' → Q H') :
    ∃ W : Nat → Nat → St → Hp → Prop, (∃ m, W 0 m σ H) ∧ ∀ i m σ H, W i m σ H → ((Itl K a).stop i H ∧ Q H) ∨ ((Itl K a).go i H ∧ ∀ x H2, (Itl K a).yld i H x H2 → g x σ H2 fun σ3 H3 => tt σ3 H3 fun b H4 => if b = true
      then te σ3 H4 fun y H5 => ∃ ys, H5 L = some (.lst ys) ∧ ys.length < sizeLine ∧ ∃ m', m' < m ∧ W (i + 1) m' σ3 (upd H5 L (.lst (ys ++ [y])))
      else ∃ m', m' < m ∧ W (i + 1) m' σ3 H4) := by
  refine ⟨fun i m σ H => m + i = xs.length ∧ S σ ∧ Same H0 H ∧ ∃ ys, H L = some (.lst ys) ∧ Pv i ys H, ⟨xs.length, rfl, hσ, h0, [], hL, p0⟩, ?_⟩
  rintro i m σ H ⟨hm, hs, hsame, ys, hys, hp⟩
  by_cases hi : i < xs.length
  · refine .inr ⟨⟨xs, xs[i], hsame.seq ha, List.getElem?_eq_getElem hi⟩, fun x H2 hy => ?_⟩
    obtain ⟨rfl, hx⟩ := hy
    refine turn i x σ H2 ys (hx xs (hsame.seq ha)) hs hsame hys hp _ _ (fun σ3 y H5 k1 k2 k3 k4 => ?_) (fun σ3 H4 k1 k2 k3 k4 => ?_)
    · refine ⟨ys, k3, by have := hl i ys H2 hp; omega, m - 1, by omega, by omega, k1, fun b o e => ?_, ys ++ [y], upd_same, stab _ _ _ _ But.upd k4⟩
      rw [upd_ne (ne_of_none e hn0)]; exact k2 b o e
    · exact ⟨m - 1, by omega, by omega, k1, k2, ys, k3, k4⟩
  · have e : i = xs.length := by omega
    subst e
    exact .inl ⟨⟨xs, hsame.seq ha, Nat.le_refl _⟩, fin H ys hsame hys hp⟩
end
section
variable {X : Cx}
def tRev (K : PySem.W.Frag) (te tk : TE) : TE := fun σ H Q => te σ H fun x H1 => tk σ H1 fun y H2 => y = .int (-1) ∧ ∃ a xs, x = .ref a ∧ SqL K H2 a xs ∧ ∀ l, H2 l = none → Q (.ref l) (upd H2 l (.lst xs.reverse))
theorem pe_revK (K : PySem.W.Frag) (hK : X.K = K) {e k : Expr} {te tk : TE} {p2 pos : Pos} (he : PE X e te) (hk : PE X k tk) : PE X (.Subscript e (.Slice none none (some k) p2) pos) (tRev K te tk) := by subst hK; exact pe_rev he hk
theorem call_anyK (K : PySem.W.Frag) (hK : X.K = K) (hc : X.calm = true) : CallR X (.builtin "any") (fun xs H Q => ∃ p, ∃ bs : List Bool, xs = [.ref p] ∧ SqL K H p (bs.map V.bl) ∧ Q (.bl (bs.any id)) H) := by subst hK; exact call_any hc
theorem call_allK (K : PySem.W.Frag) (hK : X.K = K) (hc : X.calm = true) : CallR X (.builtin "all") (fun xs H Q => ∃ p, ∃ bs : List Bool, xs = [.ref p] ∧ SqL K H p (bs.map V.bl) ∧ Q (.bl (bs.all id)) H) := by subst hK; exact call_all hc
end
theorem cut_last (xs : List V) : cutV xs none (some (-1)) = xs.dropLast := by
  unfold cutV
  have := HT.clip_eq (-1) xs.length xs.length
  rw [if_pos (by decide)] at this
  have e : HT.sIx xs.length xs.length (some (-1)) = xs.length - 1 := by omega
  rw [HT.sIx_none, e, List.drop_zero, Nat.sub_zero, List.dropLast_eq_take]
end L2

/-! MY OWN RULES, part 19: sorted of a dict whose keys are texts -/
namespace PySem.W
open PySem PySem.Calls PyProof.Rows PyProof.V PySem.Spec
section
variable {prog : Program} {w : World} {A : Around} {E : Value → Shared → Prop} {s : Shared} {T : String} {r d : Addr} {n : Nat} {P : Nat → Value → Prop} {OK : Heap → Prop}
/-- all of a source in a list that lies behind the heap -/
theorem gather_src {G : List Value → Shared → Prop} (S : KdlSrc prog w T r d n P OK) (hd : A.handled = none) (ok : OK s.heap) (small : n ≤ sizeLine)
    (q : ∀ (g : Heap) (k : Nat) (xs : Array Value), (∀ b o, s.heap.get? b = some o → g.get? b = some o) → s.heap.objs.size < g.objs.size → ItemsOf P xs n → G xs.toList { s with heap := g, toks := k }) :
    wpAny (model prog w) A (collect (.ref r)) G E s := by
  obtain ⟨lr, ld⟩ := S.there _ ok
  unfold collect; refine wpAny_bind (wpAny_runValue (codeAny_builtin entry_proto_collect' ?_)); rw [Around.under_plainId PySem.F.plain_proto_collect _]
  show wpAny _ A.in1 (newList [] >>= fun y => again (.builtin "list.__iadd__" ⟨[y, .ref r], []⟩)) _ _ s
  refine wpAny_bind (wpAny_newObj_type (wpAny_pure ⟨plainId_quiet PySem.F.plain_list_iadd _, codeAny_builtin entry_list_iadd' ?_⟩))
  rw [Around.under_plainId PySem.F.plain_list_iadd _]; show wpAny _ A.in1 (Builtin.List.listExtendWith (.ref s.heap.objs.size) (.ref r) (.ref s.heap.objs.size)) _ _ _
  have told := kdl_extend (A := A) (s := { s with heap := s.heap.push { cls := .type "list", data := .seq ([] : List Value).toArray } })
    (R := fun z s1 => ∃ (g : Heap) (k : Nat) (xs : Array Value) (c : Nat), z = .ok (.ret (.ref s.heap.objs.size)) ∧ s1 = { s with heap := g, toks := k } ∧ (∀ b o, s.heap.get? b = some o → g.get? b = some o) ∧
      g.get? s.heap.objs.size = some { cls := .type "list", dict := none, data := .seq xs c, slots := #[] } ∧ ItemsOf P xs n) S hd (S.keep _ _ ok fun b _ o e => Heap.get?_push_of_some _ e) s.heap.objs.size (Nat.ne_of_gt lr) (Nat.ne_of_gt ld)
    (.ref s.heap.objs.size) 0 (Heap.get?_push_size _ rfl) (fun g k xs c kp at' its => ⟨g, k, xs, c, rfl, rfl, fun b o e => kp b o (Nat.ne_of_lt (Heap.lt_size e)) (Heap.get?_push_of_some _ e), at', its⟩) small
  refine wpAny_mono told (fun z s1 y => ?_) fun z s1 y => ?_
  · cases z with
    | done f => obtain ⟨g, k, xs, c, e, rfl, kp, at', its⟩ := y; cases e; exact wpAny_bind (wpAny_load at' (wpAny_pure (q g k xs kp (Heap.lt_size at') its)))
    | again c0 =>
      refine ⟨y.1, codeAny_mono y.2 fun z1 s2 y2 => ?_⟩
      obtain ⟨g, k, xs, c, rfl, rfl, kp, at', its⟩ := y2; exact wpAny_bind (wpAny_load at' (wpAny_pure (q g k xs kp (Heap.lt_size at') its)))
  · obtain ⟨_, _, _, _, e, _⟩ := y; cases e
/-- sorted of a source of texts -/
theorem sorted_src {ss : List Str} {Q : Value → Shared → Prop} (S : KdlSrc prog w T r d n P OK) (hd : A.handled = none) (ok : OK s.heap) (hn : n < 64) (hs : ∀ xs : Array Value, ItemsOf P xs n → StrsAre xs.toList ss)
    (q : ∀ (g : Heap) (k : Nat) (a : Addr) (out : Array Value) (ss' : List Str) (e : Nat), (∀ b o, s.heap.get? b = some o → g.get? b = some o) → s.heap.objs.size ≤ a → g.get? a = some (seqObj "list" out e) → StrsAre out.toList ss' → ss'.Perm ss → Q (.ref a) { s with heap := g, toks := k }) :
    wpAny (model prog w) A (call (.builtin "sorted") [.ref r]) Q E s := by
  refine Calls.call_function_entry kind_sorted plain_sorted entry_sorted (args_sorted1 _) ?_
  unfold Builtin.«sorted»; refine wpAny_bind (m := checkCount "sorted" 1 1 _) (wpAny_pure ?_)
  have big : (64 : Nat) ≤ sizeLine := by decide
  refine wpAny_bind (gather_src (A := A.in1) S hd ok (by omega) fun g k xs kp lt its => ?_)
  have hS := hs xs its
  have hl : xs.toList.length = n := by rw [Array.length_toList]; exact its.1
  refine wpAny_bind (wpAny_newList ?_ (by rw [hl]; omega))
  have hoL : (g.push (seqObj "list" xs.toList.toArray 0)).get? g.objs.size = some (seqObj "list" xs.toList.toArray 0) := Heap.get?_push_size _ rfl
  refine wpAny_bind (wpAny_holding (wpAny_call_entry slot_list_sort ⟨_, hoL, rfl⟩ entry_list_sort (list_sort_treeK strKind_oneLt hoL hS.keysOf (fun v₁ v₂ rest e => keyKind_strs (by rw [← e]; exact hS)) (by omega) fun st' a1 a2 => ⟨_, rfl, ?_⟩) (args_list_sort _)))
  obtain ⟨ss', h1, h2, h3⟩ := sorted_out_str hS a1 a2
  obtain ⟨e, he⟩ := sortedHeap_at (out := (arrOf st').map (·.2)) hoL
  refine wpAny_pure ⟨_, rfl, q _ k g.objs.size _ ss' e (fun b o z => ?_) (by omega) he h1 h2⟩
  have hb := kp b o z
  have hlt := Heap.lt_size hb
  rw [sortedHeap_old (Nat.ne_of_lt hlt) (by rw [size_push']; exact Nat.lt_succ_of_lt hlt), Heap.get?_push_ne _ _ _ (Nat.ne_of_lt hlt)]
  exact hb
end
end PySem.W
namespace L2
open PySem PySem.Spec PyProof.Rows PySem.W
section
variable {X : Cx}
theorem vals_strsA : ∀ {us : List Value} {ss : List Str}, StrsAre us ss → Vals (ss.map V.str) us := by
  intro us ss h
  induction h with
  | nil => exact .nil
  | cons => exact .cons ⟨_, rfl⟩ (by assumption)
theorem strs_of_keys {P : Program} {w : World} : ∀ {us : List Value} {ks : List Str}, us.length = ks.length → (∀ (j : Nat) (k : Str) (u : Value), ks[j]? = some k → us[j]? = some u → (mixKind P w).is (Sum.inr k) u = true) → StrsAre us ks
  | [], [], _, _ => .nil
  | [], _ :: _, h, _ => by simp at h
  | _ :: _, [], h, _ => by simp at h
  | u :: us, k :: ks, h, q => by
    have hu := q 0 k u rfl rfl
    rw [mixKind_is] at hu
    rcases keyIs_shape hu with ⟨i, t, e, _⟩ | ⟨x, t, e, rfl⟩
    · cases e
    · cases e
      exact .cons _ _ (strs_of_keys (by simpa using h) fun j k' u' h1 h2 => q (j + 1) k' u' (by simpa using h1) (by simpa using h2))
theorem call_sortedD (hc : X.calm = true) : CallR X (.builtin "sorted") (fun xs H Q => ∃ p kvs, ∃ ks : List Str, xs = [.ref p] ∧ Rd H p (.dK kvs) ∧ kvs.map (·.1) = ks.map Sum.inr ∧ ks.length < 64 ∧ ∀ (l : Addr) (ms : List Str), ms.Perm ks → H l = none → Q (.ref l) (upd H l (.lst (ms.map V.str)))) := by
  intro pins s σ H xs us Q I r h
  obtain ⟨p, kvs, ks, rfl, hk, hks, h64, q⟩ := h
  obtain ⟨u, rfl, ru⟩ := vals1 r
  cases ru
  obtain ⟨z, lo, vs, rel, dd⟩ := dk_rd I.hok hk
  obtain ⟨ep, da⟩ := dd.dictAt
  have hlen : vs.length = ks.length := by
    have := congrArg List.length hks
    rw [List.length_map, List.length_map] at this
    rw [← rel.length]; exact this
  have key : ∀ (j : Nat) (k : Key) (x : Value), vs[j]? = some (k, x) → (ks[j]?).map Sum.inr = some k := fun j k x e => by
    have h1 : (kvs.map (·.1))[j]? = some k := by rw [rel.keys, List.getElem?_map, e]; rfl
    rw [hks, List.getElem?_map] at h1
    exact h1
  refine sorted_src (ss := ks) (kdl_dict (knd := mixKind X.prog X.w) (kvs := vs) (ep := ep) lo) (I.ok.hd hc) da (by omega) (fun ar its => ?_) fun g k a out ss' e kp le hg h1 h2 => ?_
  · refine strs_of_keys (P := X.prog) (w := X.w) (by rw [Array.length_toList, its.1, hlen]) fun j k u h1 h2 => ?_
    obtain ⟨k', x, h3, h4⟩ := its.2 j u (by simpa using h2)
    have h5 := key j k' x h3
    rw [h1] at h5
    cases h5
    exact h4
  · refine ⟨.ref a, _, I.laid (t' := k) (o := .lst (ss'.map V.str)) kp le ⟨?_, out.toList, e, vals_strsA h1, ?_⟩, rfl, q _ ss' h2 (I.hok.fresh le)⟩
    · rw [List.length_map, h2.length_eq]
      have big : (64 : Nat) ≤ sizeLine := by decide
      omega
    · rw [hg]
end
end L2

/-! MY OWN RULES, part 20: xs == [] -/
namespace L2
open PySem PySem.Spec PyProof.Rows
section
variable {X : Cx}
def rEqE (K : PySem.W.Frag) : R2 := fun x y H Q => ∃ a b xs, x = .ref a ∧ y = .ref b ∧ SqL K H a xs ∧ SqL K H b [] ∧ Q (.bl xs.isEmpty) H
theorem op_eqE (hu : X.A.units + 1 < cLine) : OpR X (compareOp .Eq) (rEqE X.K) := by
  intro pins s σ H x y v u Q I rx ry h
  obtain ⟨a, b, xs, rfl, rfl, hx, hy, q⟩ := h
  cases rx
  cases ry
  obtain ⟨its, rv, p, _⟩ := I.list hx
  obtain ⟨jts, rw', p', _⟩ := I.list hy
  cases rw'
  have hu' : X.A.units < cLine := by omega
  cases xs with
  | nil =>
    cases rv
    exact SeqAt.eq_listAt (e := fun _ => true) p.isList p'.isList rfl hu' (fun j h1 h2 => absurd h1 (by simp)) ⟨.bl true, H, I, by simp [RelV], q⟩
  | cons z zs =>
    cases rv with
    | cons r1 r2 => exact SeqAt.eq_list_lengthsAt p.isList p'.isList (by simp) hu' ⟨.bl false, H, I, rfl, q⟩
end
end L2

set_option maxHeartbeats 4000000
namespace K03
open PySem L2
/-! ### the text by places -/
def top (i : Nat) : Stmt := PySem.Challenge.pw_balancehall_k03_charges.main.body.getD i (.Pass ⟨0, 0, 0, 0⟩)
abbrev sCountShown : Stmt := top 5
abbrev sPShown : Stmt := top 7
abbrev sPCounts : Stmt := top 8
abbrev sCW : Stmt := top 9
abbrev sInit : Stmt := inClass (top 11) 0
abbrev sShown : Stmt := inClass (top 11) 1
abbrev sCounts : Stmt := inClass (top 11) 2
abbrev sPInit : Stmt := inClass (top 12) 0
abbrev sPieceShown : Stmt := inClass (top 12) 1
abbrev sPieceCounts : Stmt := inClass (top 12) 2
abbrev sChargeShown : Stmt := top 15
abbrev sFInit : Stmt := inClass (top 16) 0
abbrev sFShown : Stmt := inClass (top 16) 1
abbrev sFCounts : Stmt := inClass (top 16) 2
abbrev sFWeight : Stmt := inClass (top 16) 3
abbrev sCellAt : Stmt := top 18
abbrev sMixed : Stmt := top 19
abbrev sWhole : Stmt := top 20
abbrev sKind : Stmt := top 21
abbrev sCount : Stmt := top 22
abbrev sFigures : Stmt := top 23
abbrev sPieces : Stmt := top 24
abbrev sCharge : Stmt := top 25
abbrev sText : Stmt := top 26
abbrev sCountsL : Stmt := top 27
abbrev sCounted : Stmt := top 28
abbrev sWeights : Stmt := top 29
abbrev sLaw : Stmt := top 30
def inLaw : Scope := match (defBody sLaw).getD 3 (.Pass ⟨0, 0, 0, 0⟩) with
  | .Assign _ (.ListComp _ _ sc _) _ => sc
  | _ => defScope sLaw
/-! ### data -/
theorem nkc : ¬ (("kind" : Str) = "count") := by decide +kernel
def flds (k : Str) (n : Int) : List (Str × V) := putF "count" (.int n) (putF "kind" (.str k) [])
theorem flds_kind (k : Str) (n : Int) : (flds k n).lookup ("kind" : Str) = some (.str k) := by
  unfold flds
  rw [lookup_putF, if_neg nkc, lookup_putF, if_pos rfl]
theorem flds_count (k : Str) (n : Int) : (flds k n).lookup ("count" : Str) = some (.int n) := by
  unfold flds
  rw [lookup_putF, if_pos rfl]
theorem flds_no (k : Str) (n : Int) {m : Str} (h1 : ¬ m = "count") (h2 : ¬ m = "kind") : (flds k n).lookup m = none := by
  unfold flds
  rw [lookup_putF, if_neg h1, lookup_putF, if_neg h2]
  all_goals rfl
def AtomAt (C : Addr) (H : Hp) (p : Addr) (k : Str) (n : Int) : Prop := ∃ dx, H p = some (.ins C dx (flds k n))
theorem AtomAt.same {C : Addr} {H H' : Hp} {p : Addr} {k : Str} {n : Int} (a : AtomAt C H p k n) (e : Same H H') : AtomAt C H' p k n := let ⟨dx, h⟩ := a; ⟨dx, e _ _ h⟩
/-! ### dicts of ints: what stands at a kind; one more -/
def IntD (kvs : List (Key × V)) : Prop := ∀ p ∈ kvs, ∃ i, p.2 = V.int i
def zAt (kvs : List (Key × V)) (k : Key) : Int := match valV kvs k with
  | some (.int i) => i
  | _ => 0
theorem zAt_none {kvs : List (Key × V)} {k : Key} (h : valV kvs k = none) : zAt kvs k = 0 := by unfold zAt; rw [h]
theorem zAt_some {kvs : List (Key × V)} {k : Key} {i : Int} (h : valV kvs k = some (.int i)) : zAt kvs k = i := by unfold zAt; rw [h]
def addC (kvs : List (Key × V)) (k : Key) (n : Int) : List (Key × V) := putK kvs k (.int (zAt kvs k + n))
/-- the counts of atoms, each n times t -/
def cntF (t : Int) (acc : List (Key × V)) (as : List (Str × Int)) : List (Key × V) := as.foldl (fun acc p => addC acc (Sum.inr p.1) (p.2 * t)) acc
/-- the pairs of one dict, times c, added to another -/
def mulF (c : Int) (acc : List (Key × V)) (l : List (Key × V)) (all : List (Key × V)) : List (Key × V) := l.foldl (fun acc p => addC acc p.1 (zAt all p.1 * c)) acc
def mulV (c : Int) : V → V
  | .int i => .int (i * c)
  | v => v
def scale (c : Int) (kvs : List (Key × V)) : List (Key × V) := kvs.map fun p => (p.1, mulV c p.2)
def Bnd (B : Int) (kvs : List (Key × V)) : Prop := ∀ p ∈ kvs, ∃ i, p.2 = V.int i ∧ 0 ≤ i ∧ i ≤ B
theorem Bnd.int {B : Int} {kvs : List (Key × V)} (h : Bnd B kvs) : IntD kvs := fun p hp => let ⟨i, e, _⟩ := h p hp; ⟨i, e⟩
theorem valV_mem' {kvs : List (Key × V)} {k : Key} {v : V} (e : valV kvs k = some v) : (k, v) ∈ kvs := by
  unfold valV at e
  cases f : kvs.find? fun kv => decide (kv.1 = k) with
  | none => rw [f] at e; cases e
  | some p =>
    rw [f] at e
    cases e
    have h1 := List.mem_of_find?_eq_some f
    have h2 : p.1 = k := by simpa using List.find?_some f
    rw [← h2]; exact h1
theorem IntD.look {kvs : List (Key × V)} (h : IntD kvs) {k : Key} {v : V} (e : valV kvs k = some v) : v = .int (zAt kvs k) := by
  obtain ⟨i, hi⟩ := h _ (valV_mem' e)
  have hi : v = .int i := hi
  subst hi
  rw [zAt_some e]
theorem IntD.at {kvs : List (Key × V)} (h : IntD kvs) (k : Key) : (valV kvs k).getD (.int 0) = .int (zAt kvs k) := by
  cases e : valV kvs k with
  | none => rw [zAt_none e]; rfl
  | some v => rw [h.look e]; rfl
theorem Bnd.z_at {B : Int} {kvs : List (Key × V)} (h : Bnd B kvs) (hB : 0 ≤ B) (k : Key) : 0 ≤ zAt kvs k ∧ zAt kvs k ≤ B := by
  cases e : valV kvs k with
  | none => rw [zAt_none e]; exact ⟨Int.le_refl _, hB⟩
  | some v =>
    obtain ⟨i, hi, h0, h1⟩ := h _ (valV_mem' e)
    have hi : v = .int i := hi
    subst hi
    rw [zAt_some e]; exact ⟨h0, h1⟩
theorem Bnd.put {B B' : Int} {kvs : List (Key × V)} (h : Bnd B kvs) (hBB : B ≤ B') (k : Key) {i : Int} (h0 : 0 ≤ i) (h1 : i ≤ B') : Bnd B' (putK kvs k (.int i)) := by
  intro p hp
  unfold putK at hp
  split at hp
  · obtain ⟨q, hq, e⟩ := List.mem_map.mp hp
    subst e
    split
    · exact ⟨i, rfl, h0, h1⟩
    · obtain ⟨j, e, h2, h3⟩ := h q hq
      exact ⟨j, e, h2, Int.le_trans h3 hBB⟩
  · rcases List.mem_append.mp hp with hq | hq
    · obtain ⟨j, e, h2, h3⟩ := h p hq
      exact ⟨j, e, h2, Int.le_trans h3 hBB⟩
    · have e : p = (k, V.int i) := by simpa using hq
      exact ⟨i, by rw [e], h0, h1⟩
theorem Bnd.add {B b : Int} {kvs : List (Key × V)} (h : Bnd B kvs) (hB : 0 ≤ B) (k : Key) {n : Int} (h0 : 0 ≤ n) (h1 : n ≤ b) : Bnd (B + b) (addC kvs k n) := by
  obtain ⟨z0, z1⟩ := h.z_at hB k
  exact h.put (by omega) k (by omega) (by omega)
/-! ### each key once -/
theorem nd_put {kvs : List (Key × V)} {k : Key} {v : V} (h : (kvs.map (·.1)).Nodup) : ((putK kvs k v).map (·.1)).Nodup := by
  cases e : valV kvs k with
  | none => exact nd_putK v h e
  | some x =>
    have ha : (kvs.any fun kv => decide (kv.1 = k)) = true := by rw [valV_any, e]; rfl
    unfold putK
    rw [if_pos ha, List.map_map]
    have : ((fun (x : Key × V) => x.1) ∘ fun kv => if kv.1 = k then (kv.1, v) else kv) = fun (x : Key × V) => x.1 := by
      funext y
      simp only [Function.comp]
      split <;> rfl
    rw [this]
    exact h
theorem scale_keys (c : Int) (kvs : List (Key × V)) : (scale c kvs).map (·.1) = kvs.map (·.1) := by
  unfold scale
  rw [List.map_map]
  rfl
theorem scale_val (c : Int) (k : Key) : ∀ kvs : List (Key × V), valV (scale c kvs) k = (valV kvs k).map (mulV c)
  | [] => rfl
  | p :: r => by
    have ih := scale_val c k r
    show valV ((p.1, mulV c p.2) :: scale c r) k = _
    by_cases e : p.1 = k
    · refine (valV_pos (p := (p.1, mulV c p.2)) (r := scale c r) e).trans ?_
      rw [valV_pos e]
      rfl
    · refine (valV_neg (p := (p.1, mulV c p.2)) (r := scale c r) e).trans ?_
      rw [valV_neg e]
      exact ih
theorem scale_put (c : Int) (kvs : List (Key × V)) (k : Key) (i : Int) : scale c (putK kvs k (.int i)) = putK (scale c kvs) k (.int (i * c)) := by
  have ha : ((scale c kvs).any fun kv => decide (kv.1 = k)) = kvs.any fun kv => decide (kv.1 = k) := by
    unfold scale
    rw [List.any_map]; rfl
  unfold putK
  rw [ha]
  split
  · unfold scale
    rw [List.map_map, List.map_map]
    apply List.map_congr_left
    intro p _
    simp only [Function.comp]
    split <;> rfl
  · unfold scale
    rw [List.map_append]; rfl
theorem scale_zAt {kvs : List (Key × V)} (h : IntD kvs) (c : Int) (k : Key) : zAt (scale c kvs) k = zAt kvs k * c := by
  cases e : valV kvs k with
  | none => rw [zAt_none e, zAt_none (by rw [scale_val, e]; rfl), Int.zero_mul]
  | some v =>
    have := h.look e
    subst this
    exact zAt_some (by rw [scale_val, e]; rfl)
theorem IntD.put {kvs : List (Key × V)} (h : IntD kvs) (k : Key) (i : Int) : IntD (putK kvs k (.int i)) := by
  intro p hp
  unfold putK at hp
  split at hp
  · obtain ⟨q, hq, e⟩ := List.mem_map.mp hp
    subst e
    split
    · exact ⟨i, rfl⟩
    · exact h q hq
  · rcases List.mem_append.mp hp with hq | hq
    · exact h p hq
    · have e : p = (k, V.int i) := by simpa using hq
      exact ⟨i, by rw [e]⟩
theorem scale_add {kvs : List (Key × V)} (h : IntD kvs) (c : Int) (k : Key) (n : Int) : scale c (addC kvs k n) = addC (scale c kvs) k (n * c) := by
  unfold addC
  rw [scale_put, scale_zAt h, Int.add_mul]
theorem IntD.add {kvs : List (Key × V)} (h : IntD kvs) (k : Key) (n : Int) : IntD (addC kvs k n) := h.put k _
theorem scale_cnt (t c : Int) : ∀ (as : List (Str × Int)) (acc : List (Key × V)), IntD acc → scale c (cntF t acc as) = cntF (t * c) (scale c acc) as
  | [], _, _ => rfl
  | p :: r, acc, h => by
    show scale c (cntF t (addC acc (Sum.inr p.1) (p.2 * t)) r) = cntF (t * c) (addC (scale c acc) (Sum.inr p.1) (p.2 * (t * c))) r
    rw [scale_cnt t c r _ (h.add _ _), scale_add h, Int.mul_assoc]
/-- a dict's pairs added to nothing, times c -/
theorem mul_scale {all : List (Key × V)} (hI : IntD all) (hn : (all.map (·.1)).Nodup) (c : Int) : ∀ (done todo : List (Key × V)), all = done ++ todo → mulF c (scale c done) todo all = scale c all
  | done, [], e => by rw [List.append_nil] at e; rw [e]; rfl
  | done, (k, v) :: r, e => by
    have hk : valV all k = some v := by
      rw [e]
      have hm : (k, v) ∈ all := by rw [e]; exact List.mem_append_right _ (List.mem_cons_self ..)
      rw [← e]
      exact valV_mem hn hm
    have hv := hI.look hk
    have hd : valV (scale c done) k = none := by
      rw [scale_val]
      cases f : valV done k with
      | none => rfl
      | some x =>
        exfalso
        rw [e, List.map_append, List.nodup_append] at hn
        exact hn.2.2 k (valV_in f) k (by simp) rfl
    show mulF c (addC (scale c done) k (zAt all k * c)) r all = _
    have e2 : addC (scale c done) k (zAt all k * c) = scale c (done ++ [(k, v)]) := by
      unfold addC
      rw [zAt_none hd, Int.zero_add, putK_new _ hd]
      unfold scale
      rw [List.map_append]
      rw [hv]
      rfl
    rw [e2]
    exact mul_scale hI hn c (done ++ [(k, v)]) r (by rw [e, List.append_assoc]; rfl)
theorem cnt_int (t : Int) : ∀ (as : List (Str × Int)) (acc : List (Key × V)), IntD acc → IntD (cntF t acc as)
  | [], _, h => h
  | _ :: r, _, h => cnt_int t r _ (h.add _ _)
theorem cnt_nd (t : Int) : ∀ (as : List (Str × Int)) (acc : List (Key × V)), (acc.map (·.1)).Nodup → ((cntF t acc as).map (·.1)).Nodup
  | [], _, h => h
  | _ :: r, _, h => cnt_nd t r _ (nd_put h)
theorem cnt_len (t : Int) : ∀ (as : List (Str × Int)) (acc : List (Key × V)), (cntF t acc as).length ≤ acc.length + as.length
  | [], _ => Nat.le_refl _
  | p :: r, acc => by
    have := cnt_len t r (addC acc (Sum.inr p.1) (p.2 * t))
    have h2 := length_putK acc (Sum.inr p.1 : Key) (.int (zAt acc (Sum.inr p.1) + p.2 * t))
    have e : (addC acc (Sum.inr p.1) (p.2 * t)).length ≤ acc.length + 1 := h2
    show (cntF t (addC acc (Sum.inr p.1) (p.2 * t)) r).length ≤ _
    rw [List.length_cons]
    omega
theorem cnt_bnd {t b : Int} (hb : 0 ≤ b) : ∀ (as : List (Str × Int)) (acc : List (Key × V)) (B : Int), 0 ≤ B → Bnd B acc → (∀ p ∈ as, 0 ≤ p.2 * t ∧ p.2 * t ≤ b) → Bnd (B + as.length * b) (cntF t acc as)
  | [], acc, B, _, h, _ => by
    have e : B + (([] : List (Str × Int)).length : Int) * b = B := by simp
    rw [e]; exact h
  | p :: r, acc, B, hB, h, hp => by
    obtain ⟨p0, p1⟩ := hp p (List.mem_cons_self ..)
    have := cnt_bnd hb r _ (B + b) (by omega) (h.add hB (Sum.inr p.1) p0 p1) fun q hq => hp q (List.mem_cons_of_mem _ hq)
    have e : B + b + (r.length : Int) * b = B + ((p :: r).length : Int) * b := by
      rw [List.length_cons]
      push_cast
      rw [Int.add_mul, Int.one_mul]
      omega
    rw [← e]
    exact this
/-- the piece's counts by the program are those by the law -/
theorem piece_cnt (c1 c2 : Int) (as bs : List (Str × Int)) : cntF c2 (mulF c2 [] (cntF c1 [] as) (cntF c1 [] as)) bs = cntF c2 (cntF (c1 * c2) [] as) bs := by
  have hI : IntD (cntF c1 [] as) := cnt_int c1 as [] fun p hp => by cases hp
  have hn : ((cntF c1 [] as).map (·.1)).Nodup := cnt_nd c1 as [] List.nodup_nil
  have := mul_scale hI hn c2 [] _ rfl
  rw [show mulF c2 [] (cntF c1 [] as) (cntF c1 [] as) = scale c2 (cntF c1 [] as) from this, scale_cnt c1 c2 as [] (fun p hp => by cases hp)]
  rfl
/-- the figures of a count -/
def figs (n : Int) : Str := if n = 1 then "" else (toString n : Str)
theorem figs_short : ∀ n : Nat, n < 1000 → (figs (n : Int)).length ≤ 3 := by decide +kernel
theorem figs_len {n : Int} (h : 1 ≤ n) (h' : n ≤ 999) : (figs n).length ≤ 3 := by
  have := figs_short n.toNat (by omega)
  rwa [Int.toNat_of_nonneg (by omega)] at this
/-! ### atoms, groups, pieces -/
abbrev At := Str × Int
def okA (a : At) : Prop := a.1.length ≤ 3 ∧ 1 ≤ a.2 ∧ a.2 ≤ 999
def atx (a : At) : Str := a.1 ++ figs a.2
def jn (ys : List Str) : Str := Str.join ⟨#[]⟩ ys
theorem atx_len {a : At} (h : okA a) : (atx a).length ≤ 6 := by
  obtain ⟨h1, h2, h3⟩ := h
  have := figs_len h2 h3
  unfold atx
  rw [str_app_len]
  omega
theorem join_eq (ys : List Str) : Txt.join "" ys = jn ys := by
  have h := PyProof.Rows.join_closes (sep := "") (sep' := ⟨#[]⟩) (ys := ys) (by decide +kernel)
  unfold jn
  simpa using h
theorem jn_cons (x : Str) (r : List Str) : jn (x :: r) = x ++ jn r := PyProof.Rows.join_nil_cons x r
theorem jn_len : ∀ {ys : List Str} {b : Nat}, (∀ y ∈ ys, y.length ≤ b) → (jn ys).length ≤ ys.length * b
  | [], _, _ => Nat.zero_le _
  | y :: r, b, h => by
    rw [jn_cons, str_app_len, List.length_cons, Nat.succ_mul]
    have h1 := h y (List.mem_cons_self ..)
    have h2 := jn_len (ys := r) (b := b) fun z hz => h z (List.mem_cons_of_mem _ hz)
    omega
theorem sum_len : ∀ {ys : List Str} {b : Nat}, (∀ y ∈ ys, y.length ≤ b) → (ys.map (·.length)).sum ≤ ys.length * b
  | [], _, _ => Nat.zero_le _
  | y :: r, b, h => by
    rw [List.map_cons, List.sum_cons, List.length_cons, Nat.succ_mul]
    have h1 := h y (List.mem_cons_self ..)
    have h2 := sum_len (ys := r) (b := b) fun z hz => h z (List.mem_cons_of_mem _ hz)
    omega
theorem str_assoc (x y z : Str) : x ++ y ++ z = x ++ (y ++ z) := by
  show (⟨(x.cps ++ y.cps) ++ z.cps⟩ : Str) = ⟨x.cps ++ (y.cps ++ z.cps)⟩
  rw [Array.append_assoc]
theorem npc : ¬ (("parts" : Str) = "count") := by decide +kernel
def gflds (l : Addr) (n : Int) : List (Str × V) := putF "count" (.int n) (putF "parts" (.ref l) [])
theorem gflds_parts (l : Addr) (n : Int) : (gflds l n).lookup ("parts" : Str) = some (.ref l) := by
  unfold gflds
  rw [lookup_putF, if_neg npc, lookup_putF, if_pos rfl]
theorem gflds_count (l : Addr) (n : Int) : (gflds l n).lookup ("count" : Str) = some (.int n) := by
  unfold gflds
  rw [lookup_putF, if_pos rfl]
theorem gflds_no (l : Addr) (n : Int) {m : Str} (h1 : ¬ m = "count") (h2 : ¬ m = "parts") : (gflds l n).lookup m = none := by
  unfold gflds
  rw [lookup_putF, if_neg h1, lookup_putF, if_neg h2]
  all_goals rfl
def AtomsAt (C : Addr) (H : Hp) (ps : List Addr) (as : List At) : Prop := Paired (fun p (a : At) => AtomAt C H p a.1 a.2) ps as
theorem AtomsAt.same {C : Addr} {H H' : Hp} : ∀ {ps : List Addr} {as : List At}, AtomsAt C H ps as → Same H H' → AtomsAt C H' ps as
  | _, _, .nil, _ => .nil
  | _, _, .cons h t, e => .cons (h.same e) (AtomsAt.same t e)
def GroupAt (C G : Addr) (H : Hp) (g : Addr) (as : List At) (c : Int) : Prop := ∃ dx l ps, H g = some (.ins G dx (gflds l c)) ∧ H l = some (.lst (ps.map V.ref)) ∧ AtomsAt C H ps as
theorem GroupAt.same {C G : Addr} {H H' : Hp} {g : Addr} {as : List At} {c : Int} (h : GroupAt C G H g as c) (e : Same H H') : GroupAt C G H' g as c :=
  let ⟨dx, l, ps, h1, h2, h3⟩ := h; ⟨dx, l, ps, e _ _ h1, e _ _ h2, h3.same e⟩
def spCellAt (K : PySem.W.Frag) : Sp := fun vs H Q _ => ∃ (a : Addr) (ns : List Int) (k : Nat), vs = [.ref a, .int k] ∧ SqL K H a (ns.map V.int) ∧ ns.length ≤ 63 ∧ ∀ n, Q (.int n) H
def primes : List Int := [999979, 999983, 1000003, 1000033, 1000037, 1000081, 1000099]
def spMixed : Sp := fun vs H Q _ => ∃ (c p : Int) (j : Nat), vs = [.int c, .int p] ∧ j < 7 ∧ primes[j]? = some p ∧ ∀ n H', Same H H' → Q (.int n) H'
def spWhole : Sp := fun vs H Q _ => ∃ i : Int, vs = [.int i] ∧ Q (.bl true) H
def spKind : Sp := fun vs H Q _ => ∃ n : Int, vs = [.int n] ∧ ∀ (k : Str) H', k.length ≤ 3 → Same H H' → Q (.str k) H'
def spFigs : Sp := fun vs H Q _ => ∃ n : Int, vs = [.int n] ∧ 1 ≤ n ∧ n ≤ 999 ∧ Q (.str (figs n)) H
def spInit (C : Addr) : Sp := fun vs H Q _ => ∃ (p dx : Addr) (k : Str) (n : Int), vs = [.ref p, .str k, .int n] ∧ H p = some (.ins C dx []) ∧ ∀ H', H' p = some (.ins C dx (flds k n)) → (∀ b o, H b = some o → b ≠ p → H' b = some o) → Q .non H'
def spShown (C : Addr) : Sp := fun vs H Q _ => ∃ (p : Addr) (k : Str) (n : Int), vs = [.ref p] ∧ AtomAt C H p k n ∧ k.length ≤ 3 ∧ 1 ≤ n ∧ n ≤ 999 ∧ Q (.str (k ++ figs n)) H
def spCounts (C : Addr) : Sp := fun vs H Q _ => ∃ (p : Addr) (k : Str) (n : Int), vs = [.ref p] ∧ AtomAt C H p k n ∧ ∀ d, H d = none → Q (.ref d) (upd H d (.dK [(Sum.inr k, .int n)]))
def spPShown0 (C : Addr) : Sp := fun vs H Q _ => ∃ (l : Addr) (ps : List Addr) (as : List At), vs = [.ref l] ∧ H l = some (.lst (ps.map V.ref)) ∧ AtomsAt C H ps as ∧ (∀ a ∈ as, okA a) ∧ as.length ≤ 100 ∧ ∀ H', Same H H' → Q (.str (jn (as.map atx))) H'
def okG (as : List At) (c : Int) : Prop := (∀ a ∈ as, okA a) ∧ as.length ≤ 100 ∧ 1 ≤ c ∧ c ≤ 999
def spPCounts0 (C : Addr) : Sp := fun vs H Q _ => ∃ (l : Addr) (ps : List Addr) (as : List At) (t : Int), vs = [.ref l, .int t] ∧ H l = some (.lst (ps.map V.ref)) ∧ AtomsAt C H ps as ∧ as.length ≤ 100 ∧ 1 ≤ t ∧ t ≤ 999 ∧ ∀ d H', H d = none → H' d = some (.dK (cntF t [] as)) → Same H H' → Q (.ref d) H'
def spGCounts (C G : Addr) : Sp := fun vs H Q _ => ∃ (g : Addr) (as : List At) (c : Int), vs = [.ref g] ∧ GroupAt C G H g as c ∧ okG as c ∧ ∀ d H', H d = none → H' d = some (.dK (cntF c [] as)) → Same H H' → Q (.ref d) H'
/-- what is asked of the top for atoms, by every law over formulas -/
structure TxtA (K : PySem.W.Frag) (mg : Str → Option Value) (C : Addr) : Prop where
  c_Atom : Cls K C
  na_kind : NoAttr K C "kind"
  na_count : NoAttr K C "count"
  g_Atom : mg "Atom" = some (.ref C)
  n_len : mg "len" = none
  n_str : mg "str" = none
  n_int : mg "int" = none
  n_bool : mg "bool" = none
  n_range : mg "range" = none
  n_isinstance : mg "isinstance" = none
  k1 : PySem.W.kitOne K (.type "int") (.type "int") = some true
  k2 : PySem.W.kitOne K (.type "int") (.type "bool") = some false
  k3 : PySem.W.kitOne K (.type "dict") (.type "dict") = some true
  k4 : PySem.W.kitOne K (.type "str") (.type "str") = some true
  k6 : PySem.W.kitOne K (.type "list") (.type "list") = some true
/-! ### a dict of ints is its keys in their order and what stands at them; one dict added to another -/
instance memKey (k : Key) (K : List Key) : Decidable (k ∈ K) := decidable_of_iff ((K.any fun x => decide (x = k)) = true) (by simp)
def addAll (acc : List (Key × V)) (l : List (Key × Int)) : List (Key × V) := l.foldl (fun acc p => addC acc p.1 p.2) acc
def insK (K : List Key) (k : Key) : List Key := if k ∈ K then K else K ++ [k]
def insL (K L : List Key) : List Key := L.foldl insK K
def sumK (l : List (Key × Int)) (j : Key) : Int := (l.map fun p => if p.1 = j then p.2 else 0).sum
theorem zAt_put (D : List (Key × V)) (k j : Key) (n : Int) : zAt (putK D k (.int n)) j = if j = k then n else zAt D j := by
  unfold zAt
  rw [valV_put]
  by_cases h : j = k
  · rw [if_pos h, if_pos h]
  · rw [if_neg h, if_neg h]
theorem zAt_add (D : List (Key × V)) (k j : Key) (n : Int) : zAt (addC D k n) j = zAt D j + if k = j then n else 0 := by
  unfold addC
  rw [zAt_put]
  by_cases h : j = k
  · rw [if_pos h, if_pos h.symm, h]
  · rw [if_neg h, if_neg (Ne.symm h), Int.add_zero]
theorem keys_put (D : List (Key × V)) (k : Key) (v : V) : (putK D k v).map (·.1) = insK (D.map (·.1)) k := by
  unfold insK
  cases e : valV D k with
  | none => rw [if_neg (valV_not e), putK_new v e, List.map_append]; rfl
  | some x =>
    rw [if_pos (valV_in e)]
    have ha : (D.any fun kv => decide (kv.1 = k)) = true := by rw [valV_any, e]; rfl
    unfold putK
    rw [if_pos ha, List.map_map]
    apply List.map_congr_left
    intro p _
    simp only [Function.comp]
    split <;> rfl
theorem keys_all : ∀ (l : List (Key × Int)) (acc : List (Key × V)), (addAll acc l).map (·.1) = insL (acc.map (·.1)) (l.map (·.1))
  | [], _ => rfl
  | p :: r, acc => by
    show (addAll (addC acc p.1 p.2) r).map (·.1) = insL (insK (acc.map (·.1)) p.1) (r.map (·.1))
    rw [keys_all r]
    unfold addC
    rw [keys_put]
theorem zAt_all : ∀ (l : List (Key × Int)) (acc : List (Key × V)) (j : Key), zAt (addAll acc l) j = zAt acc j + sumK l j
  | [], acc, j => by show zAt acc j = zAt acc j + 0; rw [Int.add_zero]
  | p :: r, acc, j => by
    show zAt (addAll (addC acc p.1 p.2) r) j = zAt acc j + ((if p.1 = j then p.2 else 0) + sumK r j)
    rw [zAt_all r, zAt_add, Int.add_assoc]
theorem int_all : ∀ (l : List (Key × Int)) (acc : List (Key × V)), IntD acc → IntD (addAll acc l)
  | [], _, h => h
  | _ :: r, _, h => int_all r _ (h.add _ _)
theorem nd_all : ∀ (l : List (Key × Int)) (acc : List (Key × V)), (acc.map (·.1)).Nodup → ((addAll acc l).map (·.1)).Nodup
  | [], _, h => h
  | _ :: r, _, h => nd_all r _ (nd_put h)
theorem len_all : ∀ (l : List (Key × Int)) (acc : List (Key × V)), (addAll acc l).length ≤ acc.length + l.length
  | [], _ => Nat.le_refl _
  | p :: r, acc => by
    have h1 := len_all r (addC acc p.1 p.2)
    have h2 : (addC acc p.1 p.2).length ≤ acc.length + 1 := length_putK _ _ _
    show (addAll (addC acc p.1 p.2) r).length ≤ _
    rw [List.length_cons]
    omega
theorem own_map {D : List (Key × V)} (hI : IntD D) (hn : (D.map (·.1)).Nodup) : D = (D.map (·.1)).map fun k => (k, V.int (zAt D k)) := by
  rw [List.map_map]
  refine (List.map_id D).symm.trans ?_
  apply List.map_congr_left
  intro p hp
  have e := valV_mem hn hp
  have := hI.look e
  show p = (p.1, V.int (zAt D p.1))
  rw [← this]
theorem dict_ext {A B : List (Key × V)} (hA : IntD A) (hB : IntD B) (nA : (A.map (·.1)).Nodup) (hk : A.map (·.1) = B.map (·.1)) (hz : ∀ k, zAt A k = zAt B k) : A = B := by
  rw [own_map hA nA, own_map hB (hk ▸ nA), ← hk]
  apply List.map_congr_left
  intro k _
  rw [hz k]
theorem mem_insK {K : List Key} {k j : Key} : j ∈ insK K k ↔ j ∈ K ∨ j = k := by
  unfold insK
  split
  · rename_i h
    exact ⟨.inl, fun z => z.elim id fun e => e ▸ h⟩
  · simp
theorem mem_insL : ∀ {L K : List Key} {j : Key}, j ∈ insL K L ↔ j ∈ K ∨ j ∈ L
  | [], K, j => by show j ∈ K ↔ _; simp
  | x :: L, K, j => by
    show j ∈ insL (insK K x) L ↔ _
    rw [mem_insL, mem_insK, List.mem_cons, or_assoc]
theorem insL_insK (K M : List Key) (x : Key) : insL K (insK M x) = insK (insL K M) x := by
  unfold insK
  by_cases h : x ∈ M
  · rw [if_pos h, if_pos (mem_insL.mpr (.inr h))]
  · rw [if_neg h]
    unfold insL
    rw [List.foldl_append]
    rfl
theorem insL_insL (K : List Key) : ∀ (L M : List Key), insL K (insL M L) = insL (insL K M) L
  | [], M => rfl
  | x :: L, M => by
    show insL K (insL (insK M x) L) = insL (insK (insL K M) x) L
    rw [insL_insL K L, insL_insK]
theorem sum_one (f : Key → Int) (j : Key) : ∀ {Ks : List Key}, Ks.Nodup → (Ks.map fun k => if k = j then f k else 0).sum = if j ∈ Ks then f j else 0
  | [], _ => by simp
  | k :: Ks, h => by
    rw [List.nodup_cons] at h
    rw [List.map_cons, List.sum_cons, sum_one f j h.2]
    by_cases e : k = j
    · subst e
      rw [if_pos rfl, if_neg h.1, if_pos (List.mem_cons_self ..), Int.add_zero]
    · rw [if_neg e, Int.zero_add]
      have : (j ∈ k :: Ks) ↔ j ∈ Ks := by rw [List.mem_cons]; exact ⟨fun z => z.elim (fun w => absurd w.symm e) id, .inr⟩
      by_cases hj : j ∈ Ks
      · rw [if_pos hj, if_pos (this.mpr hj)]
      · rw [if_neg hj, if_neg (fun z => hj (this.mp z))]
theorem zAt_out {D : List (Key × V)} {j : Key} (h : ¬ j ∈ D.map (·.1)) : zAt D j = 0 := by
  cases e : valV D j with
  | none => exact zAt_none e
  | some x => exact absurd (valV_in e) h
theorem sumK_mul (c : Int) (j : Key) : ∀ l : List (Key × Int), sumK (l.map fun p => (p.1, p.2 * c)) j = sumK l j * c
  | [] => by show (0 : Int) = 0 * c; rw [Int.zero_mul]
  | p :: r => by
    show (if p.1 = j then p.2 * c else 0) + sumK (r.map fun p => (p.1, p.2 * c)) j = ((if p.1 = j then p.2 else 0) + sumK r j) * c
    rw [sumK_mul c j r, Int.add_mul]
    split
    · rfl
    · rw [Int.zero_mul]
/-- what was gathered in a dict of its own, and then added c times, is as if added one by one -/
theorem add_dict (c : Int) {acc : List (Key × V)} (hI : IntD acc) (hn : (acc.map (·.1)).Nodup) (l : List (Key × Int)) :
    addAll acc ((addAll [] l).map fun p => (p.1, zAt (addAll [] l) p.1 * c)) = addAll acc (l.map fun p => (p.1, p.2 * c)) := by
  have hD : IntD (addAll [] l) := int_all l [] fun p hp => by cases hp
  have nD : ((addAll [] l).map (·.1)).Nodup := nd_all l [] List.nodup_nil
  refine dict_ext (int_all _ _ hI) (int_all _ _ hI) (nd_all _ _ hn) ?_ fun j => ?_
  · rw [keys_all, keys_all, List.map_map, List.map_map]
    show insL (acc.map (·.1)) ((addAll [] l).map (·.1)) = insL (acc.map (·.1)) (l.map (·.1))
    rw [keys_all, insL_insL]
    rfl
  · rw [zAt_all, zAt_all, sumK_mul]
    congr 1
    have e := sum_one (fun k => zAt (addAll [] l) k * c) j nD
    rw [List.map_map] at e
    have e2 : sumK ((addAll [] l).map fun p => (p.1, zAt (addAll [] l) p.1 * c)) j = if j ∈ (addAll [] l).map (·.1) then zAt (addAll [] l) j * c else 0 := by
      rw [← e]
      unfold sumK
      rw [List.map_map]
      rfl
    have e3 : zAt (addAll [] l) j = sumK l j := by
      rw [zAt_all]
      show (0 : Int) + _ = _
      rw [Int.zero_add]
    rw [e2]
    split
    · rw [e3]
    · rename_i h
      rw [← e3, zAt_out h, Int.zero_mul]
theorem cnt_all (t : Int) : ∀ (as : List (Str × Int)) (acc : List (Key × V)), cntF t acc as = addAll acc (as.map fun p => ((Sum.inr p.1 : Key), p.2 * t))
  | [], _ => rfl
  | p :: r, acc => cnt_all t r _
theorem mul_all (c : Int) (all : List (Key × V)) : ∀ (l acc : List (Key × V)), mulF c acc l all = addAll acc (l.map fun p => (p.1, zAt all p.1 * c))
  | [], _ => rfl
  | p :: r, acc => mul_all c all r _
/-- the counts of atoms, added t times -/
theorem mul_cnt (c t : Int) (as : List (Str × Int)) {acc : List (Key × V)} (hI : IntD acc) (hn : (acc.map (·.1)).Nodup) : mulF c acc (cntF t [] as) (cntF t [] as) = cntF (t * c) acc as := by
  rw [mul_all, cnt_all, cnt_all, add_dict c hI hn, List.map_map]
  congr 1
  apply List.map_congr_left
  intro p _
  show ((Sum.inr p.1 : Key), p.2 * t * c) = (Sum.inr p.1, p.2 * (t * c))
  rw [Int.mul_assoc]
def PairsAt (H : Hp) (ts : List Addr) (as : List At) : Prop := Paired (fun t (a : At) => H t = some (.tup [.str a.1, .int a.2])) ts as
theorem PairsAt.same {H H' : Hp} : ∀ {ts : List Addr} {as : List At}, PairsAt H ts as → Same H H' → PairsAt H' ts as
  | _, _, .nil, _ => .nil
  | _, _, .cons h t, e => .cons (e _ _ h) (PairsAt.same t e)
theorem PairsAt.keep {H H' : Hp} (k : ∀ b xs, H b = some (.tup xs) → H' b = some (.tup xs)) : ∀ {ts : List Addr} {as : List At}, PairsAt H ts as → PairsAt H' ts as
  | _, _, .nil => .nil
  | _, _, .cons h t => .cons (k _ _ h) (PairsAt.keep k t)
theorem PairsAt.len {H : Hp} {ts : List Addr} {as : List At} (h : PairsAt H ts as) : ts.length = as.length := Paired.length h
theorem PairsAt.get {H : Hp} : ∀ {ts : List Addr} {as : List At} {i : Nat} {x : V}, PairsAt H ts as → (ts.map V.ref)[i]? = some x → ∃ t a, x = .ref t ∧ as[i]? = some a ∧ H t = some (.tup [.str a.1, .int a.2])
  | _, _, _, _, .nil, h => by simp at h
  | _, _, 0, _, .cons h _, e => ⟨_, _, (Option.some.inj e).symm, rfl, h⟩
  | _, _, i + 1, _, .cons _ t, e => PairsAt.get (i := i) t e
theorem PairsAt.snoc {H : Hp} {p : Addr} {a : At} (hp : H p = some (.tup [.str a.1, .int a.2])) : ∀ {ts : List Addr} {as : List At}, PairsAt H ts as → PairsAt H (ts ++ [p]) (as ++ [a])
  | _, _, .nil => .cons hp .nil
  | _, _, .cons h t => .cons h (PairsAt.snoc hp t)
theorem AtomsAt.but {C D : Addr} {H H' : Hp} {ys : List V} (hD : H D = some (.lst ys)) (e : ∀ b o, H b = some o → b ≠ D → H' b = some o) : ∀ {ps : List Addr} {as : List At}, AtomsAt C H ps as → AtomsAt C H' ps as
  | _, _, .nil => .nil
  | _, _, .cons ⟨dx, h⟩ t => .cons ⟨dx, e _ _ h fun z => by rw [z, hD] at h; cases h⟩ (AtomsAt.but hD e t)
theorem PairsAt.but {D : Addr} {H H' : Hp} {ys : List V} (hD : H D = some (.lst ys)) (e : ∀ b o, H b = some o → b ≠ D → H' b = some o) : ∀ {ps : List Addr} {as : List At}, PairsAt H ps as → PairsAt H' ps as
  | _, _, .nil => .nil
  | _, _, .cons h t => .cons (e _ _ h fun z => by rw [z, hD] at h; cases h) (PairsAt.but hD e t)
theorem seq_but {K : PySem.W.Frag} {D a : Addr} {H0 H H' : Hp} {xs : List V} (h : SqL K H0 a xs) (f : Same H0 H) (hD : H0 D = none) (e : ∀ b o, H b = some o → b ≠ D → H' b = some o) : SqL K H' a xs := by
  rcases h with (h | ⟨o, h⟩) | h
  · exact .inl (.inl (e _ _ (f _ _ h) (ne_of_none h hD)))
  · exact .inl (.inr ⟨o, e _ _ (f _ _ h) (ne_of_none h hD)⟩)
  · exact .inr h
theorem none_back {H H' : Hp} {D : Addr} (e : Same H H') (h : H' D = none) : H D = none := by
  cases hh : H D with
  | none => rfl
  | some o => rw [e _ _ hh] at h; cases h
theorem AtomsAt.keep {C : Addr} {H H' : Hp} (e : ∀ b dx fs, H b = some (.ins C dx fs) → H' b = some (.ins C dx fs)) : ∀ {ps : List Addr} {as : List At}, AtomsAt C H ps as → AtomsAt C H' ps as
  | _, _, .nil => .nil
  | _, _, .cons ⟨dx, h⟩ t => .cons ⟨dx, e _ _ _ h⟩ (AtomsAt.keep e t)
theorem PairsAt.keepT {H H' : Hp} (e : ∀ b xs, H b = some (.tup xs) → H' b = some (.tup xs)) : ∀ {ps : List Addr} {as : List At}, PairsAt H ps as → PairsAt H' ps as
  | _, _, .nil => .nil
  | _, _, .cons h t => .cons (e _ _ h) (PairsAt.keepT e t)
/-! ### pieces and formulas -/
abbrev Pi := Int × List At
def okP (x : Pi) : Prop := okG x.2 x.1 ∧ x.2.length ≤ 3
def ptx (x : Pi) : Str := figs x.1 ++ jn (x.2.map atx)
def PiecesAt (C Pc : Addr) (H : Hp) (ps : List Addr) (xs : List Pi) : Prop := Paired (fun p (x : Pi) => GroupAt C Pc H p x.2 x.1) ps xs
theorem PiecesAt.same {C Pc : Addr} {H H' : Hp} : ∀ {ps : List Addr} {xs : List Pi}, PiecesAt C Pc H ps xs → Same H H' → PiecesAt C Pc H' ps xs
  | _, _, .nil, _ => .nil
  | _, _, .cons h t, e => .cons (h.same e) (PiecesAt.same t e)
theorem PiecesAt.len {C Pc : Addr} {H : Hp} {ps : List Addr} {xs : List Pi} (h : PiecesAt C Pc H ps xs) : ps.length = xs.length := Paired.length h
theorem PiecesAt.get {C Pc : Addr} {H : Hp} : ∀ {ps : List Addr} {xs : List Pi} {i : Nat} {v : V}, PiecesAt C Pc H ps xs → (ps.map V.ref)[i]? = some v → ∃ p x, v = .ref p ∧ xs[i]? = some x ∧ GroupAt C Pc H p x.2 x.1
  | _, _, _, _, .nil, h => by simp at h
  | _, _, 0, _, .cons h _, e => ⟨_, _, (Option.some.inj e).symm, rfl, h⟩
  | _, _, i + 1, _, .cons _ t, e => PiecesAt.get (i := i) t e
theorem PiecesAt.snoc {C Pc : Addr} {H : Hp} {p : Addr} {x : Pi} (hp : GroupAt C Pc H p x.2 x.1) : ∀ {ps : List Addr} {xs : List Pi}, PiecesAt C Pc H ps xs → PiecesAt C Pc H (ps ++ [p]) (xs ++ [x])
  | _, _, .nil => .cons hp .nil
  | _, _, .cons h t => .cons h (PiecesAt.snoc hp t)
/-- all but one list, which is no piece's, kept -/
theorem GroupAt.but {C G D : Addr} {H H' : Hp} {g : Addr} {as : List At} {c : Int} {ys : List V} (hD : H D = some (.lst ys)) (e : ∀ b o, H b = some o → b ≠ D → H' b = some o) (hl : ∀ dx l n, H g = some (.ins G dx (gflds l n)) → l ≠ D) (h : GroupAt C G H g as c) : GroupAt C G H' g as c := by
  obtain ⟨dx, l, ps, h1, h2, h3⟩ := h
  exact ⟨dx, l, ps, e _ _ h1 (fun z => by rw [z, hD] at h1; cases h1), e _ _ h2 (hl dx l c h1), AtomsAt.but hD e h3⟩
theorem npch : ¬ (("pieces" : Str) = "charge") := by decide +kernel
def fflds (l : Addr) (n : Int) : List (Str × V) := putF "charge" (.int n) (putF "pieces" (.ref l) [])
theorem fflds_pieces (l : Addr) (n : Int) : (fflds l n).lookup ("pieces" : Str) = some (.ref l) := by
  unfold fflds
  rw [lookup_putF, if_neg npch, lookup_putF, if_pos rfl]
theorem fflds_charge (l : Addr) (n : Int) : (fflds l n).lookup ("charge" : Str) = some (.int n) := by
  unfold fflds
  rw [lookup_putF, if_pos rfl]
theorem fflds_no (l : Addr) (n : Int) {m : Str} (h1 : ¬ m = "charge") (h2 : ¬ m = "pieces") : (fflds l n).lookup m = none := by
  unfold fflds
  rw [lookup_putF, if_neg h1, lookup_putF, if_neg h2]
  all_goals rfl
def FormAt (C Pc Fo : Addr) (H : Hp) (f : Addr) (xs : List Pi) (n : Int) : Prop := ∃ dx l ps, H f = some (.ins Fo dx (fflds l n)) ∧ H l = some (.lst (ps.map V.ref)) ∧ PiecesAt C Pc H ps xs
theorem FormAt.same {C Pc Fo : Addr} {H H' : Hp} {f : Addr} {xs : List Pi} {n : Int} (h : FormAt C Pc Fo H f xs n) (e : Same H H') : FormAt C Pc Fo H' f xs n :=
  let ⟨dx, l, ps, h1, h2, h3⟩ := h; ⟨dx, l, ps, e _ _ h1, e _ _ h2, h3.same e⟩
/-! ### the texts -/
def ab (i : Int) : Int := if i < 0 then -i else i
theorem ab_in {n : Int} (h1 : -999 ≤ n) (h2 : n ≤ 999) (h0 : ¬ n = 0) : 1 ≤ ab n ∧ ab n ≤ 999 := by
  unfold ab
  split <;> omega
def sgn (n : Int) : Str := if 0 < n then "+" else "-"
def ctx (n : Int) : Str := if n = 0 then "" else "^" ++ figs (ab n) ++ sgn n
def ftx (xs : List Pi) (n : Int) : Str := if xs.isEmpty then "e^-" else Txt.join "." (xs.map ptx) ++ ctx n
theorem str_nil (x : Str) : x ++ ("" : Str) = x := by
  show (⟨x.cps ++ ("" : Str).cps⟩ : Str) = x
  have : ("" : Str).cps = #[] := by decide +kernel
  rw [this, Array.append_empty]
theorem sgn_len (n : Int) : (sgn n).length = 1 := by
  unfold sgn
  split <;> decide +kernel
theorem ctx_len {n : Int} (h1 : -999 ≤ n) (h2 : n ≤ 999) : (ctx n).length ≤ 5 := by
  unfold ctx
  split
  · decide +kernel
  · rename_i h0
    obtain ⟨a, b⟩ := ab_in h1 h2 h0
    have := figs_len a b
    have e : ("^" : Str).length = 1 := by decide +kernel
    rw [str_app_len, str_app_len, e, sgn_len]
    omega
theorem jn_at_len {as : List At} (h : ∀ a ∈ as, okA a) : (jn (as.map atx)).length ≤ as.length * 6 := by
  have b6 : ∀ y ∈ as.map atx, y.length ≤ 6 := fun y hy => by
    obtain ⟨a, ha, rfl⟩ := List.mem_map.mp hy
    exact atx_len (h a ha)
  have := jn_len b6
  rwa [List.length_map] at this
theorem ptx_len {x : Pi} (h : okP x) : (ptx x).length ≤ 21 := by
  obtain ⟨⟨o1, o2, o3, o4⟩, o5⟩ := h
  have := jn_at_len o1
  have := figs_len o3 o4
  unfold ptx
  rw [str_app_len]
  omega
theorem join_dot_len : ∀ {ys : List Str} {b : Nat}, (∀ y ∈ ys, y.length ≤ b) → (Str.join "." ys).length ≤ ys.length * (b + 1)
  | [], _, _ => Nat.zero_le _
  | [y], b, h => by
    have := h y (List.mem_cons_self ..)
    show y.length ≤ 1 * (b + 1)
    omega
  | y :: z :: r, b, h => by
    have h1 := h y (List.mem_cons_self ..)
    have h2 := join_dot_len (ys := z :: r) (b := b) fun x hx => h x (List.mem_cons_of_mem _ hx)
    have e : (("." : Str)).length = 1 := by decide +kernel
    show (y ++ "." ++ Str.join "." (z :: r)).length ≤ _
    rw [str_app_len, str_app_len, e, List.length_cons, Nat.succ_mul]
    omega
theorem dots_len {xs : List Pi} (h : ∀ x ∈ xs, okP x) (h4 : xs.length ≤ 4) : (Txt.join "." (xs.map ptx)).length ≤ 100 := by
  have e := PyProof.Rows.join_closes (sep := ".") (sep' := ".") (ys := xs.map ptx) rfl
  have e : Txt.join "." (xs.map ptx) = Str.join "." (xs.map ptx) := by simpa using e
  rw [e]
  have := join_dot_len (ys := xs.map ptx) (b := 21) fun y hy => by
    obtain ⟨x, hx, rfl⟩ := List.mem_map.mp hy
    exact ptx_len (h x hx)
  rw [List.length_map] at this
  omega
/-! ### the counts -/
def cnts (xs : List Pi) : List (Key × V) := xs.foldl (fun acc x => cntF x.1 acc x.2) []
theorem cnts_snoc {xs : List Pi} {i : Nat} {x : Pi} (h : xs[i]? = some x) : cnts (xs.take (i + 1)) = cntF x.1 (cnts (xs.take i)) x.2 := by
  unfold cnts
  rw [List.take_add_one, h]
  show List.foldl _ _ (xs.take i ++ [x]) = _
  rw [List.foldl_append]
  rfl
theorem fold_int : ∀ (xs : List Pi) (acc : List (Key × V)), IntD acc → IntD (xs.foldl (fun acc x => cntF x.1 acc x.2) acc)
  | [], _, h => h
  | x :: r, _, h => fold_int r _ (cnt_int x.1 x.2 _ h)
theorem fold_nd : ∀ (xs : List Pi) (acc : List (Key × V)), (acc.map (·.1)).Nodup → ((xs.foldl (fun acc x => cntF x.1 acc x.2) acc).map (·.1)).Nodup
  | [], _, h => h
  | x :: r, _, h => fold_nd r _ (cnt_nd x.1 x.2 _ h)
theorem fold_len : ∀ (xs : List Pi) (acc : List (Key × V)), (∀ x ∈ xs, okP x) → (xs.foldl (fun acc x => cntF x.1 acc x.2) acc).length ≤ acc.length + xs.length * 3
  | [], _, _ => by simp
  | x :: r, acc, h => by
    have h1 := fold_len r (cntF x.1 acc x.2) fun y hy => h y (List.mem_cons_of_mem _ hy)
    have h2 := cnt_len x.1 x.2 acc
    have h3 := (h x (List.mem_cons_self ..)).2
    show (r.foldl (fun acc x => cntF x.1 acc x.2) (cntF x.1 acc x.2)).length ≤ _
    rw [List.length_cons]
    omega
theorem fold_bnd : ∀ (xs : List Pi) (acc : List (Key × V)) (B : Int), 0 ≤ B → Bnd B acc → (∀ x ∈ xs, okP x) → Bnd (B + xs.length * 3000000) (xs.foldl (fun acc x => cntF x.1 acc x.2) acc)
  | [], acc, B, _, h, _ => by
    have e : B + (([] : List Pi).length : Int) * 3000000 = B := by simp
    rw [e]; exact h
  | x :: r, acc, B, hB, h, hp => by
    obtain ⟨⟨o1, o2, o3, o4⟩, o5⟩ := hp x (List.mem_cons_self ..)
    have h1 := cnt_bnd (t := x.1) (b := 1000000) (by decide) x.2 acc B hB h fun p hp => by
      obtain ⟨_, a2, a3⟩ := o1 p hp
      have m1 : p.2 * x.1 ≤ 999 * 999 := Int.mul_le_mul a3 o4 (by omega) (by decide)
      have m0 : 0 ≤ p.2 * x.1 := Int.mul_nonneg (by omega) (by omega)
      omega
    have h2 : Bnd (B + 3000000) (cntF x.1 acc x.2) := fun p hp => by
      obtain ⟨i, e, b0, b1⟩ := h1 p hp
      exact ⟨i, e, b0, by omega⟩
    have := fold_bnd r _ (B + 3000000) (by omega) h2 fun y hy => hp y (List.mem_cons_of_mem _ hy)
    have e : B + 3000000 + (r.length : Int) * 3000000 = B + ((x :: r).length : Int) * 3000000 := by
      rw [List.length_cons]
      push_cast
      omega
    rw [← e]
    exact this
theorem cnts_int (xs : List Pi) : IntD (cnts xs) := fold_int xs [] fun p hp => by cases hp
theorem cnts_nd (xs : List Pi) : ((cnts xs).map (·.1)).Nodup := fold_nd xs [] List.nodup_nil
theorem cnts_len {xs : List Pi} (h : ∀ x ∈ xs, okP x) (h4 : xs.length ≤ 4) : (cnts xs).length ≤ 12 := by
  have := fold_len xs [] h
  unfold cnts
  simp only [List.length_nil] at this
  omega
theorem cnts_bnd {xs : List Pi} (h : ∀ x ∈ xs, okP x) (h4 : xs.length ≤ 4) : Bnd (2 ^ 63) (cnts xs) := by
  have := fold_bnd xs [] 0 (Int.le_refl _) (fun p hp => by cases hp) h
  intro p hp
  obtain ⟨i, e, b0, b1⟩ := this p hp
  refine ⟨i, e, b0, ?_⟩
  have : (2 : Int) ^ 63 = 9223372036854775808 := by decide
  omega
theorem ins_inr : ∀ (L ks : List Str), ∃ ks' : List Str, insL (ks.map Sum.inr) (L.map Sum.inr) = ks'.map Sum.inr
  | [], ks => ⟨ks, rfl⟩
  | x :: L, ks => by
    have e : ∃ k1 : List Str, insK (ks.map Sum.inr) (Sum.inr x : Key) = k1.map Sum.inr := by
      unfold insK
      split
      · exact ⟨ks, rfl⟩
      · exact ⟨ks ++ [x], by rw [List.map_append]; rfl⟩
    obtain ⟨k1, h1⟩ := e
    obtain ⟨k2, h2⟩ := ins_inr L k1
    exact ⟨k2, by rw [← h2, ← h1]; rfl⟩
theorem fold_keys : ∀ (xs : List Pi) (acc : List (Key × V)) (ks : List Str), acc.map (·.1) = ks.map Sum.inr → ∃ ks' : List Str, (xs.foldl (fun acc x => cntF x.1 acc x.2) acc).map (·.1) = ks'.map Sum.inr
  | [], acc, ks, h => ⟨ks, h⟩
  | x :: r, acc, ks, h => by
    obtain ⟨k1, h1⟩ := ins_inr (x.2.map (·.1)) ks
    refine fold_keys r _ k1 ?_
    show (cntF x.1 acc x.2).map (·.1) = _
    rw [cnt_all, keys_all, h, List.map_map, ← h1, List.map_map]
    rfl
theorem cnts_keys (xs : List Pi) : ∃ ks : List Str, (cnts xs).map (·.1) = ks.map Sum.inr := fold_keys xs [] [] rfl
/-! ### the promises -/
def wsum (kc kw : List (Key × V)) (l : List (Key × V)) : Int := (l.map fun p => zAt kc p.1 * zAt kw p.1).sum
def spPieceShown (C Pc : Addr) : Sp := fun vs H Q _ => ∃ (q : Addr) (x : Pi), vs = [.ref q] ∧ GroupAt C Pc H q x.2 x.1 ∧ okP x ∧ ∀ H', Same H H' → Q (.str (ptx x)) H'
def spChargeS : Sp := fun vs H Q _ => ∃ n : Int, vs = [.int n] ∧ -999 ≤ n ∧ n ≤ 999 ∧ Q (.str (ctx n)) H
def spPCounts2 (C Pc : Addr) : Sp := fun vs H Q _ => ∃ (l : Addr) (ps : List Addr) (xs : List Pi), vs = [.ref l, .int 1] ∧ H l = some (.lst (ps.map V.ref)) ∧ PiecesAt C Pc H ps xs ∧ (∀ x ∈ xs, okP x) ∧ xs.length ≤ 4 ∧ ∀ d H', H d = none → H' d = some (.dK (cnts xs)) → Same H H' → Q (.ref d) H'
def spFInit (X : Addr) : Sp := fun vs H Q _ => ∃ (p dx l : Addr) (c : Int) (xs : List V), vs = [.ref p, .ref l, .int c] ∧ H p = some (.ins X dx []) ∧ H l = some (.lst xs) ∧
  ∀ n H', H n = none → H' p = some (.ins X dx (fflds n c)) → H' n = some (.lst xs) → (∀ b o, H b = some o → b ≠ p → H' b = some o) → Q .non H'
def okF (xs : List Pi) (n : Int) : Prop := (∀ x ∈ xs, okP x) ∧ xs.length ≤ 4 ∧ -999 ≤ n ∧ n ≤ 999
def spFShown (C Pc Fo : Addr) : Sp := fun vs H Q _ => ∃ (f : Addr) (xs : List Pi) (n : Int), vs = [.ref f] ∧ FormAt C Pc Fo H f xs n ∧ okF xs n ∧ ∀ H', Same H H' → Q (.str (ftx xs n)) H'
def spFCounts (C Pc Fo : Addr) : Sp := fun vs H Q _ => ∃ (f : Addr) (xs : List Pi) (n : Int), vs = [.ref f] ∧ FormAt C Pc Fo H f xs n ∧ okF xs n ∧ ∀ d H', H d = none → H' d = some (.dK (cnts xs)) → Same H H' → Q (.ref d) H'
def spFWeight (C Pc Fo : Addr) : Sp := fun vs H Q _ => ∃ (f u : Addr) (xs : List Pi) (n : Int) (kw : List (Key × V)), vs = [.ref f, .ref u] ∧ FormAt C Pc Fo H f xs n ∧ okF xs n ∧ H u = some (.dK kw) ∧ IntD kw ∧
  ∀ H', Same H H' → Q (.int (wsum (cnts xs) kw (cnts xs) + n * zAt kw (Sum.inr "+"))) H'
/-- what the law knows: pairs of a count and a list of pairs -/
def TupAt (H : Hp) (t : Addr) (x : Pi) : Prop := ∃ m us, H t = some (.tup [.int x.1, .ref m]) ∧ H m = some (.lst (us.map V.ref)) ∧ PairsAt H us x.2
def TupsAt (H : Hp) (ts : List Addr) (xs : List Pi) : Prop := Paired (fun t (x : Pi) => TupAt H t x) ts xs
theorem TupAt.same {H H' : Hp} {t : Addr} {x : Pi} (h : TupAt H t x) (e : Same H H') : TupAt H' t x := let ⟨m, us, h1, h2, h3⟩ := h; ⟨m, us, e _ _ h1, e _ _ h2, h3.same e⟩
theorem TupsAt.same {H H' : Hp} : ∀ {ts : List Addr} {xs : List Pi}, TupsAt H ts xs → Same H H' → TupsAt H' ts xs
  | _, _, .nil, _ => .nil
  | _, _, .cons h t, e => .cons (TupAt.same h e) (TupsAt.same t e)
theorem TupsAt.len {H : Hp} {ts : List Addr} {xs : List Pi} (h : TupsAt H ts xs) : ts.length = xs.length := Paired.length h
theorem TupsAt.get {H : Hp} : ∀ {ts : List Addr} {xs : List Pi} {i : Nat} {v : V}, TupsAt H ts xs → (ts.map V.ref)[i]? = some v → ∃ t x, v = .ref t ∧ xs[i]? = some x ∧ TupAt H t x
  | _, _, _, _, .nil, h => by simp at h
  | _, _, 0, _, .cons h _, e => ⟨_, _, (Option.some.inj e).symm, rfl, h⟩
  | _, _, i + 1, _, .cons _ t, e => TupsAt.get (i := i) t e
theorem TupsAt.snoc {H : Hp} {p : Addr} {x : Pi} (hp : TupAt H p x) : ∀ {ts : List Addr} {xs : List Pi}, TupsAt H ts xs → TupsAt H (ts ++ [p]) (xs ++ [x])
  | _, _, .nil => .cons hp .nil
  | _, _, .cons h t => .cons h (TupsAt.snoc hp t)
def spPieces (K : PySem.W.Frag) : Sp := fun vs H Q _ => ∃ (a : Addr) (ns : List Int), vs = [.ref a] ∧ SqL K H a (ns.map V.int) ∧ ns.length ≤ 63 ∧
  ∀ (l : Addr) (ts : List Addr) (xs : List Pi) H', H' l = some (.lst (ts.map V.ref)) → TupsAt H' ts xs → (∀ x ∈ xs, okP x) → xs.length ≤ 4 → Same H H' → Q (.ref l) H'
def spCharge : Sp := fun vs H Q _ => ∃ n : Int, vs = [.int n] ∧ ∀ c H', -999 ≤ c → c ≤ 999 → Same H H' → Q (.int c) H'
def spText : Sp := fun vs H Q _ => ∃ (l : Addr) (ts : List Addr) (xs : List Pi) (n : Int), vs = [.ref l, .int n] ∧ H l = some (.lst (ts.map V.ref)) ∧ TupsAt H ts xs ∧ okF xs n ∧ ∀ H', Same H H' → Q (.str (ftx xs n)) H'
def spCountsL : Sp := fun vs H Q _ => ∃ (l : Addr) (ts : List Addr) (xs : List Pi), vs = [.ref l] ∧ H l = some (.lst (ts.map V.ref)) ∧ TupsAt H ts xs ∧ (∀ x ∈ xs, okP x) ∧ xs.length ≤ 4 ∧ ∀ d H', H d = none → H' d = some (.dK (cnts xs)) → Same H H' → Q (.ref d) H'
def spCounted (C Pc Fo : Addr) : Sp := fun vs H Q _ => ∃ (f u : Addr) (xs : List Pi) (n : Int), vs = [.ref f, .ref u] ∧ FormAt C Pc Fo H f xs n ∧ okF xs n ∧ H u = some (.dK (cnts xs)) ∧ ∀ H', Same H H' → Q (.bl true) H'
def spWeights (K : PySem.W.Frag) : Sp := fun vs H Q _ => ∃ (a u : Addr) (ns : List Int) (kvs : List (Key × V)) (ks : List Str), vs = [.ref a, .ref u] ∧ SqL K H a (ns.map V.int) ∧ ns.length ≤ 63 ∧ H u = some (.dK kvs) ∧ kvs.map (·.1) = ks.map Sum.inr ∧ kvs.length ≤ 12 ∧
  ∀ d kw H', H d = none → H' d = some (.dK kw) → IntD kw → kw.length ≤ 13 → Same H H' → Q (.ref d) H'
/-- what is asked of the top -/
structure Txt (K : PySem.W.Frag) (mg : Str → Option Value) (C Pc Fo : Addr) (uD uC uP uM uE : Tok) : Prop extends TxtA K mg C where
  c_Piece : Cls K Pc
  c_Formula : Cls K Fo
  na_pparts : NoAttr K Pc "parts"
  na_pcount : NoAttr K Pc "count"
  na_fpieces : NoAttr K Fo "pieces"
  na_fcharge : NoAttr K Fo "charge"
  g_Piece : mg "Piece" = some (.ref Pc)
  g_Formula : mg "Formula" = some (.ref Fo)
  g_PIECE_DOT : mg "PIECE_DOT" = some (.str "." uD)
  g_CHARGE_MARK : mg "CHARGE_MARK" = some (.str "^" uC)
  g_PLUS : mg "PLUS" = some (.str "+" uP)
  g_MINUS : mg "MINUS" = some (.str "-" uM)
  g_ELECTRON : mg "ELECTRON" = some (.str "e^-" uE)
  n_dict : mg "dict" = none
  n_list : mg "list" = none
  n_sum : mg "sum" = none
  n_abs : mg "abs" = none
  n_sorted : mg "sorted" = none
  n_enumerate : mg "enumerate" = none
section
seal PSs PS PE PT PW PA PG PGs PI PC PTs
variable {P : Program} {w : World} {K : PySem.W.Frag} {mg : Str → Option Value} {base : Heap} {C Pc Fo : Addr} {uD uC uP uM uE : Tok}
theorem scCountShown : FnScope ["count"] ["count"] (defScope sCountShown) := ⟨rfl, rfl, rfl, by decide +kernel, rfl, by decide +kernel, by decide +kernel⟩
theorem ok_count_shown (D : Def K mg "count_shown" "count_shown" sCountShown ["count"]) (T : TxtA K mg C) : CalE P w K mg base 1 "count_shown" ["count"] spFigs := by
  refine D.cal scCountShown (fun vs H Q E h => ?_) (fun f cdv A outer s H vs Q E hr h => ?_)
  · obtain ⟨n, rfl, _⟩ := h
    rfl
  · obtain ⟨n, rfl, h1, h2, k⟩ := h
    refine ⟨_, (pss_cons
          (ps_if (pt_cmpR op_eq (pv 0) pe_int (nomark _))
            (pss_one
              (ps_ret pe_str))
            pss_nil)
        (pss_one
          (ps_ret (pe_callTy call_str_int rfl T.n_str bt_str (pa_cons (pv 0) pa_nil))))), ?_⟩
    refine ⟨_, rfl, rfl, _, rfl, ite2 (fun e => ?_) fun e => ?_⟩
    · have e : n = 1 := by simpa using e
      subst e
      exact k
    · have e : ¬ n = 1 := by simpa using e
      refine ⟨_, rfl, _, rfl, small_log (by omega) (by omega), ?_⟩
      unfold figs at k
      rw [if_neg e] at k
      exact k
theorem scFigures : FnScope ["_law_count_here"] ["_law_count_here"] (defScope sFigures) := ⟨rfl, rfl, rfl, by decide +kernel, rfl, by decide +kernel, by decide +kernel⟩
theorem ok_figures (D : Def K mg "_law_figures" "_law_figures" sFigures ["_law_count_here"]) (T : TxtA K mg C) : CalE P w K mg base 1 "_law_figures" ["_law_count_here"] spFigs := by
  refine D.cal scFigures (fun vs H Q E h => ?_) (fun f cdv A outer s H vs Q E hr h => ?_)
  · obtain ⟨n, rfl, _⟩ := h
    rfl
  · obtain ⟨n, rfl, h1, h2, k⟩ := h
    refine ⟨_, (pss_cons
          (ps_if (pt_cmpR op_eq (pv 0) pe_int (nomark _))
            (pss_one
              (ps_ret pe_str))
            pss_nil)
        (pss_one
          (ps_ret (pe_callTy call_str_int rfl T.n_str bt_str (pa_cons (pv 0) pa_nil))))), ?_⟩
    refine ⟨_, rfl, rfl, _, rfl, ite2 (fun e => ?_) fun e => ?_⟩
    · have e : n = 1 := by simpa using e
      subst e
      exact k
    · have e : ¬ n = 1 := by simpa using e
      refine ⟨_, rfl, _, rfl, small_log (by omega) (by omega), ?_⟩
      unfold figs at k
      rw [if_neg e] at k
      exact k
theorem scInit : FnScope ["self", "kind", "count"] ["self", "kind", "count"] (defScope sInit) := ⟨rfl, rfl, rfl, by decide +kernel, rfl, by decide +kernel, by decide +kernel⟩
theorem ok_init (D : DefI K C "Atom.__init__" sInit ["self", "kind", "count"] [1]) (T : TxtA K mg C) : CalIE P w K mg base 1 C ["self", "kind", "count"] [1] (spInit C) := by
  refine D.cal scInit (fun vs H Q E h => ?_) (fun f cdv A outer s H vs Q E hr h => ?_)
  · obtain ⟨p, dx, k, n, rfl, _⟩ := h
    rfl
  · obtain ⟨p, dx, k, n, rfl, hp, q⟩ := h
    refine ⟨_, (pss_cons
          (ps_fld (pv 0) (pv 1) rfl)
        (pss_one
          (ps_fld (pv 0) (pv 2) rfl))), ?_⟩
    refine ⟨_, rfl, _, rfl, p, C, dx, [], rfl, hp, T.c_Atom, T.na_kind, (by show 0 < 1000; decide), _, rfl, _, rfl, p, C, dx, _, rfl, upd_same, T.c_Atom, T.na_count, (by show 1 < 1000; decide), ?_⟩
    refine q _ upd_same fun b o e hb => ?_
    rw [upd_ne hb, upd_ne hb]
    exact e
theorem scShown : FnScope ["self"] ["self"] (defScope sShown) := ⟨rfl, rfl, rfl, by decide +kernel, rfl, by decide +kernel, by decide +kernel⟩
theorem ok_shown (D : DefM K C "shown" "Atom.shown" sShown ["self"]) (T : TxtA K mg C) (c1 : CalE P w K mg base 1 "count_shown" ["count"] spFigs) : CalME P w K mg base 2 C "shown" ["self"] (spShown C) := by
  obtain ⟨_, _, c_count_shown⟩ := c1
  refine D.cal scShown (fun vs H Q E h => ?_) (fun f cdv A outer s H vs Q E hr h => ?_)
  · obtain ⟨p, k, n, rfl, _⟩ := h
    rfl
  · obtain ⟨p, k, n, rfl, ⟨dx, hp⟩, hk, h1, h2, q⟩ := h
    refine ⟨_, (pss_one
          (ps_ret (pe_op op_add_str (pe_fld (pv 0) rfl) (pe_call c_count_shown.ok (hr.mono (by decide)) rfl c_count_shown.g c_count_shown.kp c_count_shown.b .nil pass0 (pa_cons (pe_fld (pv 0) rfl) pa_nil))))), ?_⟩
    refine ⟨_, rfl, p, C, dx, _, _, rfl, hp, T.c_Atom, T.na_kind, flds_kind _ _, _, rfl, p, C, dx, _, _, rfl, hp, T.c_Atom, T.na_count, flds_count _ _, n, rfl, h1, h2, _, _, rfl, rfl, ?_, q⟩
    have := figs_len h1 h2
    have : (100 : Nat) ≤ sizeLine := by decide
    omega
theorem scCounts : FnScope ["self"] ["self"] (defScope sCounts) := ⟨rfl, rfl, rfl, by decide +kernel, rfl, by decide +kernel, by decide +kernel⟩
theorem ok_counts (D : DefM K C "counts" "Atom.counts" sCounts ["self"]) (T : TxtA K mg C) : CalME P w K mg base 1 C "counts" ["self"] (spCounts C) := by
  refine D.cal scCounts (fun vs H Q E h => ?_) (fun f cdv A outer s H vs Q E hr h => ?_)
  · obtain ⟨p, k, n, rfl, _⟩ := h
    rfl
  · obtain ⟨p, k, n, rfl, ⟨dx, hp⟩, q⟩ := h
    refine ⟨_, (pss_one
          (ps_ret (pe_disp (pps_cons (pe_fld (pv 0) rfl) (pe_fld (pv 0) rfl) pps_nil) rfl rfl (by intro z; cases z) (by decide)))), ?_⟩
    intro d hd
    have hp' : ∀ o, (upd H d o) p = some (.ins C dx (flds k n)) := fun o => by rw [upd_ne (ne_of_none hp hd)]; exact hp
    refine ⟨_, rfl, p, C, dx, _, _, rfl, hp' _, T.c_Atom, T.na_kind, flds_kind _ _, _, rfl, p, C, dx, _, _, rfl, hp' _, T.c_Atom, T.na_count, flds_count _ _, upd_same, [(Sum.inr k, .int n)], rfl, (by show 1 ≤ 15; decide), ?_⟩
    rw [upd_upd]
    exact q d hd
theorem scCellAt : FnScope ["_law_script", "_law_k"] ["_law_script", "_law_k"] (defScope sCellAt) := ⟨rfl, rfl, rfl, by decide +kernel, rfl, by decide +kernel, by decide +kernel⟩
theorem ok_cell_at (D : Def K mg "_law_cell_at" "_law_cell_at" sCellAt ["_law_script", "_law_k"]) (T : TxtA K mg C) : CalE P w K mg base 1 "_law_cell_at" ["_law_script", "_law_k"] (spCellAt K) := by
  refine D.cal scCellAt (fun vs H Q E h => ?_) (fun f cdv A outer s H vs Q E hr h => ?_)
  · obtain ⟨a, ns, k, rfl, _⟩ := h
    rfl
  · obtain ⟨a, ns, k, rfl, hS, hl, q⟩ := h
    refine ⟨_, (pss_cons
          (ps_if (pt_cmpR op_lt (pv 1) (pe_callB call_len_seq rfl T.n_len bt_len (pa_cons (pv 0) pa_nil)) (nomark _))
            (pss_one
              (ps_ret (pe_ix ix_list (pv 0) (pv 1) (fun _ _ => rfl))))
            pss_nil)
        (pss_one
          (ps_ret pe_int))), ?_⟩
    refine ⟨_, rfl, _, rfl, a, _, rfl, .inl hS, _, _, rfl, rfl, _, rfl, ite2 (fun e => ?_) fun e => ?_⟩
    · have e : k < ns.length := by simpa using e
      exact ⟨_, rfl, _, rfl, a, _, _, V.int ns[k], rfl, rfl, hS, atI_nat (by rw [List.getElem?_map, List.getElem?_eq_getElem e]; rfl), q _⟩
    · exact q 0
theorem scMixed : FnScope ["_law_cell", "_law_prime", "_law_digits", "_law_step", "_law_number"] ["_law_cell", "_law_prime"] (defScope sMixed) := ⟨rfl, rfl, rfl, by decide +kernel, rfl, by decide +kernel, by decide +kernel⟩
theorem primes_pos {j : Nat} {p : Int} (h : primes[j]? = some p) : 0 < p := by
  have all : ∀ q ∈ primes, (0 : Int) < q := by decide
  exact all p (List.mem_of_getElem? h)
theorem primes_ix : ∀ j : Nat, j < 7 → ∀ p, primes[j]? = some p → (primes.map V.int).findIdx? (fun z => eqV z (.int p)) = some j := by
  intro j hj p hp
  match j, hj with
  | 0, _ => cases hp; rfl
  | 1, _ => cases hp; rfl
  | 2, _ => cases hp; rfl
  | 3, _ => cases hp; rfl
  | 4, _ => cases hp; rfl
  | 5, _ => cases hp; rfl
  | 6, _ => cases hp; rfl
theorem ok_mixed (D : Def K mg "_law_mixed" "_law_mixed" sMixed ["_law_cell", "_law_prime"]) (T : TxtA K mg C) : CalE P w K mg base 1 "_law_mixed" ["_law_cell", "_law_prime"] spMixed := by
  refine D.cal scMixed (fun vs H Q E h => ?_) (fun f cdv A outer s H vs Q E hr h => ?_)
  · obtain ⟨c, p, j, rfl, _⟩ := h
    rfl
  · obtain ⟨c, p, j, rfl, hj, hp, q⟩ := h
    have pp := primes_pos hp
    refine ⟨_, (pss_cons
          (ps_if (PW.pt (pw_and (pt_cmpR op_eq (pe_op op_mod (pv 0) pe_int) pe_int (nomark _)) (pw_and1 (pt_cmpR op_gt (pv 0) (pe_op op_pow pe_int pe_int) (nomark _)))))
            (pss_cons
              (ps_set (i := 2) scMixed.nd rfl (Or.inl rfl) (pe_op op_fdiv (pv 0) pe_int))
            (pss_cons
              (ps_for PassesOwn.never rfl (pi_range1 rfl T.n_range (pa_cons (pe_bm PySem.F.plainAttrs_list PySem.F.slot_list_index PySem.F.type_list_index mt_index (pe_lst (pa_csts (.int (.int (.int (.int (.int (.int (.int .nil))))))))) (pa_cons (pv 1) pa_nil)) pa_nil)) (pg_name (i := 3) scMixed.nd rfl (Or.inl rfl))
                (pss_one
                  (ps_set (i := 2) scMixed.nd rfl (Or.inl rfl) (pe_op op_fdiv (pv 2) pe_int))))
            (pss_one
              (ps_ret (pe_op op_mod (pe_op op_mod (pv 2) pe_int) (pv 1))))))
            pss_nil)
        (pss_cons
          (ps_set (i := 4) scMixed.nd rfl (Or.inl rfl) (pe_op op_add (pe_op op_mod (pv 0) pe_int) pe_int))
        (pss_one
          (ps_ret (pe_op op_mod (pe_op op_add (pe_op op_mul (pe_op op_mul (pv 4) (pv 4)) pe_int) (pv 4)) (pv 1)))))), ?_⟩
    have low : ∀ H' : Hp, Same H H' → tSeq (tAsg (tOp (rI0 fun i j => .int (i + j)) (tOp (rI (fun _ j => 0 < j) fun i j => .int (i % j)) (tVar 0) (tC (.int 2147483647))) (tC (.int 7))) (gName 4))
        (tRet (tOp (rI (fun _ j => 0 < j) fun i j => .int (i % j)) (tOp (rI0 fun i j => .int (i + j)) (tOp (rI CMul fun i j => .int (i * j)) (tOp (rI CMul fun i j => .int (i * j)) (tVar 4) (tVar 4)) (tC (.int 48271))) (tVar 4)) (tVar 1)))
        { nx := fun _ H' => Q .non H', rt := Q } [some (.int c), some (.int p), none, none, none] H' := fun H' e => by
      have b0 : 0 ≤ c % 2147483647 := Int.emod_nonneg _ (by decide)
      have b1 : c % 2147483647 < 2147483647 := Int.emod_lt_of_pos _ (by decide)
      exact ⟨_, rfl, _, _, rfl, rfl, (by show (0 : Int) < 2147483647; decide), _, _, rfl, rfl, _, rfl, _, rfl, _, _, rfl, rfl, .inl ⟨by omega, by omega⟩, _, _, rfl, rfl, .inr ⟨by decide, by decide⟩, _, rfl, _, _, rfl, rfl, _, rfl, _, _, rfl, rfl, pp, q _ _ e⟩
    refine ⟨_, rfl, _, _, rfl, rfl, (by show (0 : Int) < 2; decide), rfl, _, rfl, ite2 (fun _ => ?_) fun _ => low H (Same.refl H)⟩
    refine ⟨_, rfl, _, _, rfl, rfl, ⟨by decide, by decide, by decide⟩, _, _, rfl, rfl, _, rfl, ite2 (fun _ => ?_) fun _ => low H (Same.refl H)⟩
    refine ⟨_, rfl, _, _, rfl, rfl, ⟨by decide, by decide⟩, (by show 7 ≤ sizeLine; decide), fun l hl => ⟨.inl ⟨rfl, _, SqL.of upd_same⟩, _, rfl, l, primes.map V.int, _, j, rfl, rfl, SqL.of upd_same, rfl, rfl, primes_ix j hj p hp, ?_⟩⟩
    refine ⟨_, rfl, by omega, by omega, for_range (fun i σ H' => ∃ (z : Int) (v : Option V), σ = [some (.int c), some (.int p), some (.int z), v, none] ∧ Same H H') ⟨_, none, rfl, Same.new hl⟩ ?_ ?_⟩
    · rintro i σ H' hi ⟨z, v, rfl, e⟩
      exact ⟨_, rfl, _, _, rfl, rfl, ⟨by decide, by decide⟩, _, _, rfl, e⟩
    · rintro σ H' ⟨z, v, rfl, e⟩
      exact ⟨_, rfl, _, _, rfl, rfl, (by show (0 : Int) < 1000003; decide), _, rfl, _, _, rfl, rfl, pp, q _ _ e⟩
theorem scWhole : FnScope ["_law_found"] ["_law_found"] (defScope sWhole) := ⟨rfl, rfl, rfl, by decide +kernel, rfl, by decide +kernel, by decide +kernel⟩
theorem ok_whole (D : Def K mg "_law_whole" "_law_whole" sWhole ["_law_found"]) (T : TxtA K mg C) : CalE P w K mg base 1 "_law_whole" ["_law_found"] spWhole := by
  refine D.cal scWhole (fun vs H Q E h => ?_) (fun f cdv A outer s H vs Q E hr h => ?_)
  · obtain ⟨i, rfl, _⟩ := h
    rfl
  · obtain ⟨i, rfl, q⟩ := h
    refine ⟨_, (pss_one
          (ps_ret (pe_and (pe_callB call_isinst rfl T.n_isinstance bt_isinstance (pa_cons (pv 0) (pa_cons (pe_bltn (v := .ty "int") rfl T.n_int bt_int rfl) pa_nil))) (pe_one (pe_not (pe_callB call_isinst rfl T.n_isinstance bt_isinstance (pa_cons (pv 0) (pa_cons (pe_bltn (v := .ty "bool") rfl T.n_bool bt_bool rfl) pa_nil)))))))), ?_⟩
    exact ⟨_, rfl, _, _, _, _, _, rfl, rfl, .int i, T.k1, _, rfl, iteT ⟨_, rfl, _, _, _, _, _, rfl, rfl, .int i, T.k2, _, rfl, q⟩⟩
abbrev great : Str := "ABCDEFGHIJKLMNOPQRSTUVWXYZ"
abbrev small : Str := "abcdefghijklmnopqrstuvwxyz"
theorem great_len : great.cps.toList.length = 26 := by decide +kernel
theorem small_len : small.cps.toList.length = 26 := by decide +kernel
def ten : List Str := ["C", "Co", "O", "Cob", "H", "N", "No", "B", "Ob", "Nob"]
theorem ten_short : ∀ x ∈ ten, x.length ≤ 3 := by decide +kernel
theorem scKind : FnScope ["_law_number", "_law_great", "_law_small", "_law_kind_here", "_law_k"] ["_law_number"] (defScope sKind) := ⟨rfl, rfl, rfl, by decide +kernel, rfl, by decide +kernel, by decide +kernel⟩
theorem ok_kind (D : Def K mg "_law_kind" "_law_kind" sKind ["_law_number"]) (T : TxtA K mg C) : CalE P w K mg base 1 "_law_kind" ["_law_number"] spKind := by
  refine D.cal scKind (fun vs H Q E h => ?_) (fun f cdv A outer s H vs Q E hr h => ?_)
  · obtain ⟨n, rfl, _⟩ := h
    rfl
  · obtain ⟨n, rfl, q⟩ := h
    refine ⟨_, (pss_cons
          (ps_set (i := 1) scKind.nd rfl (Or.inl rfl) pe_str)
        (pss_cons
          (ps_set (i := 2) scKind.nd rfl (Or.inl rfl) pe_str)
        (pss_cons
          (ps_if (pt_cmpR op_eq (pe_op op_mod (pv 0) pe_int) pe_int (nomark _))
            (pss_one
              (ps_ret (pe_ix ix_list (pe_lst (pa_csts (.str (.str (.str (.str (.str (.str (.str (.str (.str (.str .nil)))))))))))) (pe_op op_mod (pe_op op_fdiv (pv 0) pe_int) pe_int) (fun _ _ => rfl))))
            pss_nil)
        (pss_cons
          (ps_set (i := 0) scKind.nd rfl (Or.inl rfl) (pe_op op_fdiv (pv 0) pe_int))
        (pss_cons
          (ps_set (i := 3) scKind.nd rfl (Or.inl rfl) (pe_ix ix_str (pv 1) (pe_op op_mod (pv 0) pe_int) (fun _ _ => rfl)))
        (pss_cons
          (ps_for PassesOwn.never rfl (pi_range1 rfl T.n_range (pa_cons (pe_op op_mod (pe_op op_fdiv (pv 0) pe_int) pe_int) pa_nil)) (pg_name (i := 4) scKind.nd rfl (Or.inl rfl))
            (pss_one
              (ps_set (i := 3) scKind.nd rfl (Or.inl rfl) (pe_op op_add_str (pv 3) (pe_ix ix_str (pv 2) (pe_op op_mod (pe_op op_fdiv (pv 0) (pe_op op_add pe_int (pe_op op_mul pe_int (pv 4)))) pe_int) (fun _ _ => rfl))))))
        (pss_one
          (ps_ret (pv 3))))))))), ?_⟩
    refine ⟨_, rfl, _, _, rfl, rfl, (by show (0 : Int) < 2; decide), rfl, _, rfl, ite2 (fun _ => ?_) fun _ => ?_⟩
    · have b0 : 0 ≤ n / 2 % 10 := Int.emod_nonneg _ (by decide)
      have b1 : n / 2 % 10 < 10 := Int.emod_lt_of_pos _ (by decide)
      obtain ⟨v, hv, hat⟩ := atI_in (xs := ten.map V.str) b0 b1
      obtain ⟨k, hk, rfl⟩ := List.mem_map.mp hv
      exact ⟨(by show 10 ≤ sizeLine; decide), fun l hl => ⟨_, rfl, _, _, rfl, rfl, ⟨by decide, by decide⟩, _, _, rfl, rfl, (by show (0 : Int) < 10; decide), l, ten.map V.str, _, _, rfl, rfl, SqL.of upd_same, hat, q k _ (ten_short k hk) (Same.new hl)⟩⟩
    · have b0 : 0 ≤ n / 2 % 26 := Int.emod_nonneg _ (by decide)
      have b1 : n / 2 % 26 < 26 := Int.emod_lt_of_pos _ (by decide)
      have b2 : 0 ≤ n / 2 / 26 % 3 := Int.emod_nonneg _ (by decide)
      have b3 : n / 2 / 26 % 3 < 3 := Int.emod_lt_of_pos _ (by decide)
      obtain ⟨c, _, hat⟩ := atI_in (xs := great.cps.toList) b0 (by rw [great_len]; exact b1)
      refine ⟨_, rfl, _, _, rfl, rfl, ⟨by decide, by decide⟩, _, rfl, _, rfl, _, _, rfl, rfl, (by show (0 : Int) < 26; decide), great, _, c, rfl, rfl, (by decide +kernel), hat, ?_⟩
      refine ⟨_, rfl, _, _, rfl, rfl, ⟨by decide, by decide⟩, _, _, rfl, rfl, (by show (0 : Int) < 3; decide), _, rfl, by omega, by omega,
        for_range (fun i σ H' => ∃ (k : Str) (v : Option V), σ = [some (.int (n / 2)), some (.str great), some (.str small), some (.str k), v] ∧ k.length ≤ 1 + i ∧ H' = H) ⟨⟨#[c]⟩, none, rfl, Nat.le_refl _, rfl⟩ ?_ ?_⟩
      · rintro i σ H' hi ⟨k, v, rfl, hk, rfl⟩
        have c0 : 0 ≤ n / 2 / (78 + 1950 * (0 + (i : Int))) % 26 := Int.emod_nonneg _ (by decide)
        have c1 : n / 2 / (78 + 1950 * (0 + (i : Int))) % 26 < 26 := Int.emod_lt_of_pos _ (by decide)
        obtain ⟨c2, _, hat2⟩ := atI_in (xs := small.cps.toList) c0 (by rw [small_len]; exact c1)
        refine ⟨_, rfl, _, rfl, _, rfl, _, rfl, _, _, rfl, rfl, .inl ⟨by decide, by decide⟩, _, _, rfl, rfl, _, _, rfl, rfl, ⟨by omega, by omega⟩, _, _, rfl, rfl, (by show (0 : Int) < 26; decide), small, _, c2, rfl, rfl, (by decide +kernel), hat2, _, _, rfl, rfl, ?_, ?_⟩
        · have : (100 : Nat) ≤ sizeLine := by decide
          have : (⟨#[c2]⟩ : Str).length = 1 := rfl
          omega
        · refine ⟨_, _, rfl, ?_, rfl⟩
          rw [str_app_len]
          have : (⟨#[c2]⟩ : Str).length = 1 := rfl
          omega
      · rintro σ H' ⟨k, v, rfl, hk, rfl⟩
        exact ⟨_, rfl, q k _ (by omega) (Same.refl _)⟩
theorem scPShown : FnScope ["parts"] ["parts"] (defScope sPShown) := ⟨rfl, rfl, rfl, by decide +kernel, rfl, by decide +kernel, by decide +kernel⟩
theorem atoms_get {C : Addr} {H : Hp} : ∀ {ps : List Addr} {as : List At} {i : Nat} {a : At}, AtomsAt C H ps as → as[i]? = some a → ∃ p, ps[i]? = some p ∧ AtomAt C H p a.1 a.2
  | _, _, _, _, .nil, h => by simp at h
  | _, _, 0, _, .cons h _, e => by
    have e := Option.some.inj e
    subst e
    exact ⟨_, rfl, h⟩
  | _, _, i + 1, _, .cons _ t, e => atoms_get (i := i) t e
theorem AtomsAt.len {C : Addr} {H : Hp} {ps : List Addr} {as : List At} (h : AtomsAt C H ps as) : ps.length = as.length := Paired.length h
/-- the i-th of the places is an atom -/
theorem atoms_at {C : Addr} {H : Hp} {ps : List Addr} {as : List At} (h : AtomsAt C H ps as) {i : Nat} {x : V} (e : (ps.map V.ref)[i]? = some x) : ∃ p a, x = .ref p ∧ as[i]? = some a ∧ AtomAt C H p a.1 a.2 := by
  rw [List.getElem?_map] at e
  cases q : ps[i]? with
  | none => rw [q] at e; cases e
  | some p =>
    rw [q] at e
    have hi : i < as.length := by rw [← h.len]; exact (List.getElem?_eq_some_iff.mp q).1
    obtain ⟨p', hp, ha⟩ := atoms_get h (List.getElem?_eq_getElem hi)
    rw [q] at hp
    cases hp
    exact ⟨p, as[i], (Option.some.inj e).symm, List.getElem?_eq_getElem hi, ha⟩
theorem take_snoc {α : Type} {l : List α} {i : Nat} {a : α} (h : l[i]? = some a) : l.take (i + 1) = l.take i ++ [a] := by
  rw [List.take_add_one, h]
  rfl
theorem ok_pshown0 (D : Def K mg "parts_shown" "parts_shown" sPShown ["parts"]) (T : TxtA K mg C) (c1 : CalME P w K mg base 2 C "shown" ["self"] (spShown C)) : CalE P w K mg base 3 "parts_shown" ["parts"] (spPShown0 C) := by
  obtain ⟨_, _, c_Atom_shown⟩ := c1
  refine D.cal scPShown (fun vs H Q E h => ?_) (fun f cdv A outer s H vs Q E hr h => ?_)
  · obtain ⟨l, ps, as, rfl, _⟩ := h
    rfl
  · obtain ⟨l, ps, as, rfl, hl, hA, hok, hz, q⟩ := h
    have big : (100 : Nat) < sizeLine := by decide
    refine ⟨_, (pss_one
          (ps_ret (pe_bm PySem.F.plainAttrs_str PySem.F.slot_str_join PySem.F.type_str_join mt_join pe_str (pa_cons (pe_comp (sc := (defScope sPShown)) (NX := ["parts"]) (N := ["part"]) (fr := [none]) ⟨by rfl, by rfl, by decide +kernel, by decide +kernel, by decide +kernel, by rfl, by decide +kernel⟩ rfl rfl rfl (pi_list (pv 0)) (fun _ _ _ _ => (pg_name (i := 0) (show (["part"] : List Str).Nodup by decide +kernel) rfl (Or.inl rfl) (Or.inr rfl))) (fun _ _ _ _ => pts_nil) (fun _ _ _ _ => (pe_meth0 (pv 0) T.c_Atom c_Atom_shown.m c_Atom_shown.ok (hr.mono (by decide)) c_Atom_shown.b .nil pass0))) pa_nil)))), ?_⟩
    refine ⟨rfl, _, rfl, l, rfl, ⟨_, SqL.of hl⟩, fun D hD => comp_list (K := K) (a := l) (D := D) (xs := ps.map V.ref) (fun i σ H' => ∃ v : Option V, σ = [v] ∧ Same H H' ∧ H' D = some (.lst ((as.take i).map fun a => V.str (atx a))))
      ?_ (fun i σ H' _ ⟨_, _, e, _⟩ => SqL.of (e _ _ hl)) ?_ ?_⟩
    · exact ⟨none, rfl, Same.new hD, upd_same⟩
    · rintro i x σ H' hi ⟨v, rfl, e, hD'⟩ N hN
      obtain ⟨p, a, rfl, ha, ⟨dx, hp⟩⟩ := atoms_at (hA.same e) hi
      obtain ⟨o1, o2, o3⟩ := hok a (List.mem_of_getElem? ha)
      refine ⟨_, rfl, p, dx, _, rfl, hp, flds_no _ _ (by decide +kernel) (by decide +kernel), p, a.1, a.2, rfl, ⟨dx, hp⟩, o1, o2, o3, _, hD', ?_, hN _ _ ⟨_, rfl, fun b o z => ?_, ?_⟩⟩
      · rw [List.length_map]
        exact Nat.lt_of_le_of_lt (Nat.le_trans (List.length_take_le' _ _) hz) big
      · rw [upd_ne (ne_of_none z hD)]
        exact e _ _ z
      · rw [upd_same, take_snoc ha, List.map_append]
        rfl
    · rintro σ H' ⟨v, rfl, e, hD'⟩
      rw [List.length_map, hA.len, List.take_length] at hD'
      have b6 : ∀ y ∈ as.map atx, y.length ≤ 6 := fun y hy => by
        obtain ⟨a, ha, rfl⟩ := List.mem_map.mp hy
        exact atx_len (hok a ha)
      refine ⟨_, D, as.map atx, rfl, rfl, SqL.of (by rw [hD', List.map_map]; rfl), ?_, ?_⟩
      · have := sum_len b6
        rw [List.length_map] at this ⊢
        have e0 : ("" : Str).length = 0 := by decide +kernel
        rw [e0]
        omega
      · rw [join_eq]
        exact q _ e
theorem upd_four {H : Hp} {d e : Addr} {A F B E : HO} (hne : d ≠ e) (he : H e = some E) : upd (upd (upd (upd H d A) e F) d B) e E = upd H d B := by
  funext b
  by_cases h1 : b = e
  · subst h1
    rw [upd_same, upd_ne (Ne.symm hne), he]
  · rw [upd_ne h1]
    by_cases h2 : b = d
    · subst h2
      rw [upd_same, upd_same]
    · rw [upd_ne h2, upd_ne h1, upd_ne h2, upd_ne h2]
theorem mul_int (c : Int) (all : List (Key × V)) : ∀ (l acc : List (Key × V)), IntD acc → IntD (mulF c acc l all)
  | [], _, h => h
  | _ :: r, _, h => mul_int c all r _ (h.add _ _)
theorem mul_len (c : Int) (all : List (Key × V)) : ∀ (l acc : List (Key × V)), (mulF c acc l all).length ≤ acc.length + l.length
  | [], _ => Nat.le_refl _
  | p :: r, acc => by
    have h1 := mul_len c all r (addC acc p.1 (zAt all p.1 * c))
    have h2 : (addC acc p.1 (zAt all p.1 * c)).length ≤ acc.length + 1 := length_putK _ _ _
    show (mulF c (addC acc p.1 (zAt all p.1 * c)) r all).length ≤ _
    rw [List.length_cons]
    omega
theorem mul_snoc (c : Int) (all acc : List (Key × V)) {i : Nat} {p : Key × V} (h : all[i]? = some p) : mulF c acc (all.take (i + 1)) all = addC (mulF c acc (all.take i) all) p.1 (zAt all p.1 * c) := by
  unfold mulF
  rw [take_snoc h, List.foldl_append]
  rfl
theorem IntD.val_mem {kvs : List (Key × V)} (h : IntD kvs) {k : Key} {v : V} (hm : (k, v) ∈ kvs) : valV kvs k = some (.int (zAt kvs k)) := by
  cases f : valV kvs k with
  | none => exact absurd (List.mem_map_of_mem (f := (·.1)) hm) (valV_not f)
  | some x => rw [h.look f]
/-- the inner loop: a dict's pairs, times t, added to the dict at d -/
theorem inner_ok {X : Cx} {D : Ends} {l d e : Addr} {t : Int} {v3 v5 : Option V} {H : Hp} {acc kin : List (Key × V)} (hu : X.A.units + 1 < cLine) (hd : H d = some (.dK acc)) (he : H e = some (.dK kin)) (hne : d ≠ e) (hI : IntD acc) (hI2 : IntD kin) (hl : acc.length + kin.length ≤ 1000) (t1 : 1 ≤ t) (t2 : t ≤ 999)
    (fin : ∀ z : Option V, D.nx [some (.ref l), some (.int t), some (.ref d), v3, some (.ref e), z] (upd H d (.dK (mulF t acc kin kin)))) :
    tThaw X (tFor (iDict X (tVar 4)) (gName 5) (sDPut (tVar 2) (tVar 5) (tOp (rI0 fun i j => .int (i + j)) (tDGet2 (tVar 2) (tVar 5) (tC (.int 0))) (tOp (rI CMul fun i j => .int (i * j)) (tDGet (tVar 4) (tVar 5)) (tVar 1))))) D [some (.ref l), some (.int t), some (.ref d), v3, some (.ref e), v5] H := by
  refine ⟨_, rfl, e, kin, rfl, he, fun o nf => for_dict nf (fun j σ H' => ∃ z : Option V, σ = [some (.ref l), some (.int t), some (.ref d), v3, some (.ref e), z] ∧ H' = upd H d (.dK (mulF t acc (kin.take j) kin))) ?_ ?_ ?_ ?_⟩
  · exact ⟨v5, rfl, (upd_back hd).symm⟩
  · rintro i σ H' ⟨_, _, rfl⟩
    rw [upd_ne (Ne.symm hne)]
    exact he
  · rintro i k v σ H' hi ⟨z, rfl, rfl⟩
    have hdi : ∀ o', (upd (upd H d (.dK (mulF t acc (kin.take i) kin))) e o') d = some (.dK (mulF t acc (kin.take i) kin)) := fun o' => by rw [upd_ne hne]; exact upd_same
    have hv := hI2.val_mem (List.mem_of_getElem? hi)
    have hIi : IntD (mulF t acc (kin.take i) kin) := mul_int t kin _ _ hI
    have hli := mul_len t kin (kin.take i) acc
    have hti : (kin.take i).length ≤ kin.length := List.length_take_le' _ _
    refine ⟨_, rfl, d, rfl, .inl ⟨_, .inl (hdi _)⟩, _, rfl, _, DGet.k (k := k) (hdi _), _, rfl, _, rfl, e, V.int (zAt kin k), rfl, .inl ⟨_, k, .inr ⟨o, upd_same⟩, rfl, hv.symm⟩, _, rfl, _, _, rfl, rfl, .inr ⟨by omega, by omega⟩, _, _, hIi.at k, rfl, _, rfl, _, rfl, d, _, rfl, DPut.k (k := k) (hdi _) (small1000 ?_), ?_⟩
    · omega
    · refine ⟨by rw [upd_ne (Ne.symm hne)]; exact upd_same, some (kV k), rfl, ?_⟩
      rw [upd_four hne he, mul_snoc t kin acc hi]
      rfl
  · rintro σ H' ⟨z, rfl, rfl⟩
    rw [List.take_length]
    exact fin z
theorem scPCounts : FnScope ["parts", "times", "total", "part", "inner", "kind"] ["parts", "times"] (defScope sPCounts) := ⟨rfl, rfl, rfl, by decide +kernel, rfl, by decide +kernel, by decide +kernel⟩
theorem cnt_snoc (t : Int) (acc : List (Key × V)) {as : List At} {i : Nat} {a : At} (h : as[i]? = some a) : cntF t acc (as.take (i + 1)) = addC (cntF t acc (as.take i)) (Sum.inr a.1) (a.2 * t) := by
  unfold cntF
  rw [take_snoc h, List.foldl_append]
  rfl
theorem int_one (k : Str) (n : Int) : IntD [((Sum.inr k : Key), V.int n)] := fun p hp => ⟨n, by rw [List.mem_singleton.mp hp]⟩
theorem mul_one (t : Int) (acc : List (Key × V)) (k : Str) (n : Int) : mulF t acc [((Sum.inr k : Key), V.int n)] [((Sum.inr k : Key), V.int n)] = addC acc (Sum.inr k) (n * t) := by
  have h : zAt [((Sum.inr k : Key), V.int n)] (Sum.inr k) = n := zAt_some (valV_pos (p := ((Sum.inr k : Key), V.int n)) (r := []) rfl)
  show addC acc (Sum.inr k) (zAt [((Sum.inr k : Key), V.int n)] (Sum.inr k) * t) = _
  rw [h]
theorem no_int : IntD [] := fun p hp => by cases hp
theorem ok_pcounts0 (D : Def K mg "parts_counts" "parts_counts" sPCounts ["parts", "times"]) (T : TxtA K mg C) (c1 : CalME P w K mg base 1 C "counts" ["self"] (spCounts C)) : CalE P w K mg base 2 "parts_counts" ["parts", "times"] (spPCounts0 C) := by
  obtain ⟨_, _, c_Atom_counts⟩ := c1
  refine D.cal scPCounts (fun vs H Q E h => ?_) (fun f cdv A outer s H vs Q E hr h => ?_)
  · obtain ⟨l, ps, as, t, rfl, _⟩ := h
    rfl
  · obtain ⟨l, ps, as, t, rfl, hl, hA, hz, t1, t2, q⟩ := h
    have hu := hu_of hr
    refine ⟨_, (pss_cons
          (ps_set (i := 2) scPCounts.nd rfl (Or.inl rfl) pe_dnewK)
        (pss_cons
          (ps_for PassesOwn.never rfl (pi_list (pv 0)) (pg_name (i := 3) scPCounts.nd rfl (Or.inl rfl))
            (pss_cons
              (ps_set (i := 4) scPCounts.nd rfl (Or.inl rfl) (pe_meth0 (pv 3) T.c_Atom c_Atom_counts.m c_Atom_counts.ok (hr.mono (by decide)) c_Atom_counts.b .nil pass0))
            (pss_one
              (ps_thaw (ps_for PassesOwn.never rfl (pi_dict (pv 4)) (pg_name (i := 5) scPCounts.nd rfl (Or.inl rfl))
                (pss_one
                  (ps_dput hu (pv 2) (pv 5) (pe_op op_add (pe_dget2 hu (pv 2) (pv 5) pe_int ⟨rfl, rfl, rfl, rfl⟩) (pe_op op_mul (pe_dget hu (pv 4) (pv 5) (fun _ _ => rfl)) (pv 1))) rfl)))))))
        (pss_one
          (ps_ret (pv 2))))), ?_⟩
    intro d hd
    refine ⟨_, rfl, l, rfl, ⟨_, SqL.of (Same.new hd _ _ hl)⟩, for_list (K := K) (a := l) (xs := ps.map V.ref) (fun i σ H' => ∃ v u z : Option V, σ = [some (.ref l), some (.int t), some (.ref d), v, u, z] ∧ Same H H' ∧ H' d = some (.dK (cntF t [] (as.take i)))) ?_ (fun i σ H' _ ⟨_, _, _, _, e, _⟩ => SqL.of (e _ _ hl)) ?_ ?_⟩
    · exact ⟨none, none, none, rfl, Same.new hd, upd_same⟩
    · rintro i x σ H' hi ⟨v, u, z, rfl, e, hd'⟩
      obtain ⟨p, a, rfl, ha, ⟨dx, hp⟩⟩ := atoms_at (hA.same e) hi
      refine ⟨_, rfl, p, dx, _, rfl, hp, flds_no _ _ (by decide +kernel) (by decide +kernel), p, a.1, a.2, rfl, ⟨dx, hp⟩, fun c hc => ?_⟩
      have ndc : d ≠ c := ne_of_none hd' hc
      have hlen := cnt_len t (as.take i) []
      have hti : (as.take i).length ≤ as.length := List.length_take_le' _ _
      refine inner_ok hu (by rw [upd_ne ndc]; exact hd') upd_same ndc (cnt_int t _ _ no_int) (int_one _ _) ?_ t1 t2 fun z' => ⟨_, _, _, rfl, fun b o w' => ?_, ?_⟩
      · simp only [List.length_nil, List.length_cons] at *
        omega
      · rw [upd_ne (ne_of_none w' hd), upd_ne (ne_of_none (e _ _ w') hc)]
        exact e _ _ w'
      · rw [upd_same, mul_one, cnt_snoc t [] ha]
    · rintro σ H' ⟨v, u, z, rfl, e, hd'⟩
      rw [List.length_map, hA.len, List.take_length] at hd'
      exact ⟨_, rfl, q d H' hd hd' e⟩
def spCW : Sp := fun vs H Q _ => ∃ (c w : Addr) (kc kw : List (Key × V)), vs = [.ref c, .ref w] ∧ H c = some (.dK kc) ∧ H w = some (.dK kw) ∧ c ≠ w ∧ IntD kw ∧ Bnd (2 ^ 63) kc ∧ Q (.int (wsum kc kw kc)) H
theorem scCW : FnScope ["counts", "weights", "total", "kind"] ["counts", "weights"] (defScope sCW) := ⟨rfl, rfl, rfl, by decide +kernel, rfl, by decide +kernel, by decide +kernel⟩
theorem wsum_snoc (kc kw : List (Key × V)) {l : List (Key × V)} {i : Nat} {p : Key × V} (h : l[i]? = some p) : wsum kc kw (l.take (i + 1)) = wsum kc kw (l.take i) + zAt kc p.1 * zAt kw p.1 := by
  unfold wsum
  rw [take_snoc h, List.map_append, List.sum_append]
  simp
theorem ok_cw (D : Def K mg "counts_weight" "counts_weight" sCW ["counts", "weights"]) : CalE P w K mg base 1 "counts_weight" ["counts", "weights"] spCW := by
  refine D.cal scCW (fun vs H Q E h => ?_) (fun f cdv A outer s H vs Q E hr h => ?_)
  · obtain ⟨c, w, kc, kw, rfl, _⟩ := h
    rfl
  · obtain ⟨c, w, kc, kw, rfl, hc, hw, ncw, hI, hB, q⟩ := h
    have hu := hu_of hr
    refine ⟨_, (pss_cons
          (ps_set (i := 2) scCW.nd rfl (Or.inl rfl) pe_int)
        (pss_cons
          (ps_thaw (ps_for PassesOwn.never rfl (pi_dict (pv 0)) (pg_name (i := 3) scCW.nd rfl (Or.inl rfl))
            (pss_one
              (ps_aug (i := 2) scCW.nd rfl (Or.inl rfl) (pe_op op_mul (pe_dget hu (pv 0) (pv 3) (fun _ _ => rfl)) (pe_dget2 hu (pv 1) (pv 3) pe_int ⟨rfl, rfl, rfl, rfl⟩)) ip_add))))
        (pss_one
          (ps_ret (pv 2))))), ?_⟩
    refine ⟨_, rfl, c, _, rfl, hc, fun o nf => for_dict nf (fun i σ H' => ∃ v : Option V, σ = [some (.ref c), some (.ref w), some (.int (wsum kc kw (kc.take i))), v] ∧ H' = H) ?_ (fun i σ H' ⟨_, _, e⟩ => by rw [e]; exact hc) ?_ ?_⟩
    · exact ⟨none, rfl, rfl⟩
    · rintro i k v σ H' hi ⟨u, rfl, rfl⟩
      have hw' : (upd H' c (.frz o (.dK kc))) w = some (.dK kw) := by rw [upd_ne (Ne.symm ncw)]; exact hw
      have hv := hB.int.val_mem (List.mem_of_getElem? hi)
      obtain ⟨z0, z1⟩ := hB.z_at (by decide) k
      refine ⟨_, rfl, _, rfl, _, rfl, c, V.int (zAt kc k), rfl, .inl ⟨_, k, .inr ⟨o, upd_same⟩, rfl, hv.symm⟩, _, rfl, w, rfl, .inl ⟨_, .inl hw'⟩, _, rfl, _, DGet.k (k := k) hw', _, _, rfl, hI.at k, .inl ⟨by omega, by omega⟩, _, _, rfl, rfl, ?_⟩
      refine ⟨upd_same, some (kV k), ?_, by rw [upd_upd, upd_back hc]⟩
      rw [wsum_snoc kc kw hi]
      rfl
    · rintro σ H' ⟨v, rfl, rfl⟩
      rw [List.take_length]
      exact ⟨_, rfl, q⟩
theorem cnt_b {as : List At} {c : Int} (h : okG as c) : Bnd (2 ^ 63) (cntF c [] as) := by
  obtain ⟨h1, h2, h3, h4⟩ := h
  have := cnt_bnd (t := c) (b := 1000000) (by decide) as [] 0 (Int.le_refl _) (fun p hp => by cases hp) fun p hp => by
    obtain ⟨_, a2, a3⟩ := h1 p hp
    have m1 : p.2 * c ≤ 999 * 999 := Int.mul_le_mul a3 h4 (by omega) (by decide)
    have m0 : 0 ≤ p.2 * c := Int.mul_nonneg (by omega) (by omega)
    omega
  intro p hp
  obtain ⟨i, e, b0, b1⟩ := this p hp
  refine ⟨i, e, b0, ?_⟩
  have : (2 : Int) ^ 63 = 9223372036854775808 := by decide
  omega
def spCount : Sp := fun vs H Q _ => ∃ n : Int, vs = [.int n] ∧ ∀ c H', 1 ≤ c → c ≤ 999 → Same H H' → Q (.int c) H'
theorem scCount : FnScope ["_law_number"] ["_law_number"] (defScope sCount) := ⟨rfl, rfl, rfl, by decide +kernel, rfl, by decide +kernel, by decide +kernel⟩
theorem ok_count (D : Def K mg "_law_count" "_law_count" sCount ["_law_number"]) : CalE P w K mg base 1 "_law_count" ["_law_number"] spCount := by
  refine D.cal scCount (fun vs H Q E h => ?_) (fun f cdv A outer s H vs Q E hr h => ?_)
  · obtain ⟨n, rfl, _⟩ := h
    rfl
  · obtain ⟨n, rfl, q⟩ := h
    refine ⟨_, (pss_one
          (ps_ret (pe_ix ix_list (pe_lst (pa_cons pe_int (pa_cons pe_int (pa_cons (pe_op op_add pe_int (pe_op op_mod (pe_op op_fdiv (pv 0) pe_int) pe_int)) (pa_cons (pe_op op_add pe_int (pe_op op_mod (pe_op op_fdiv (pv 0) pe_int) pe_int)) pa_nil))))) (pe_op op_mod (pv 0) pe_int) (fun _ _ => rfl)))), ?_⟩
    have b0 : 0 ≤ n % 4 := Int.emod_nonneg _ (by decide)
    have b1 : n % 4 < 4 := Int.emod_lt_of_pos _ (by decide)
    have d0 : 0 ≤ n / 4 % 11 := Int.emod_nonneg _ (by decide)
    have d1 : n / 4 % 11 < 11 := Int.emod_lt_of_pos _ (by decide)
    have e0 : 0 ≤ n / 4 % 999 := Int.emod_nonneg _ (by decide)
    have e1 : n / 4 % 999 < 999 := Int.emod_lt_of_pos _ (by decide)
    obtain ⟨v, hv, hat⟩ := atI_in (xs := [V.int 1, V.int 1, V.int (2 + n / 4 % 11), V.int (1 + n / 4 % 999)]) b0 b1
    have hc : ∃ c, v = V.int c ∧ 1 ≤ c ∧ c ≤ 999 := by
      simp only [List.mem_cons, List.not_mem_nil, or_false] at hv
      rcases hv with rfl | rfl | rfl | rfl
      · exact ⟨1, rfl, by decide, by decide⟩
      · exact ⟨1, rfl, by decide, by decide⟩
      · exact ⟨_, rfl, by omega, by omega⟩
      · exact ⟨_, rfl, by omega, by omega⟩
    obtain ⟨c, rfl, c0, c1⟩ := hc
    exact ⟨_, rfl, _, _, rfl, rfl, ⟨by decide, by decide⟩, _, _, rfl, rfl, (by show (0 : Int) < 11; decide), _, _, rfl, rfl, _, rfl, _, _, rfl, rfl, ⟨by decide, by decide⟩, _, _, rfl, rfl, (by show (0 : Int) < 999; decide), _, _, rfl, rfl, (by show 4 ≤ sizeLine; decide),
      fun l hl => ⟨_, rfl, _, _, rfl, rfl, (by show (0 : Int) < 4; decide), l, _, _, _, rfl, rfl, SqL.of upd_same, hat, q c _ c0 c1 (Same.new hl)⟩⟩
def spGInit (X : Addr) : Sp := fun vs H Q _ => ∃ (p dx l : Addr) (c : Int) (xs : List V), vs = [.ref p, .ref l, .int c] ∧ H p = some (.ins X dx []) ∧ H l = some (.lst xs) ∧
  ∀ n H', H n = none → H' p = some (.ins X dx (gflds n c)) → H' n = some (.lst xs) → (∀ b o, H b = some o → b ≠ p → H' b = some o) → Q .non H'
theorem scPInit : FnScope ["self", "parts", "count"] ["self", "parts", "count"] (defScope sPInit) := ⟨rfl, rfl, rfl, by decide +kernel, rfl, by decide +kernel, by decide +kernel⟩
theorem ok_pinit (D : DefI K Pc "Piece.__init__" sPInit ["self", "parts", "count"] [1]) (T : Txt K mg C Pc Fo uD uC uP uM uE) : CalIE P w K mg base 1 Pc ["self", "parts", "count"] [1] (spGInit Pc) := by
  refine D.cal scPInit (fun vs H Q E h => ?_) (fun f cdv A outer s H vs Q E hr h => ?_)
  · obtain ⟨p, dx, l, c, xs, rfl, _⟩ := h
    rfl
  · obtain ⟨p, dx, l, c, xs, rfl, hp, hl, q⟩ := h
    refine ⟨_, (pss_cons
          (ps_fld (pv 0) (pe_callTy call_list_of rfl T.n_list bt_list (pa_cons (pv 1) pa_nil)) rfl)
        (pss_one
          (ps_fld (pv 0) (pv 2) rfl))), ?_⟩
    refine ⟨_, rfl, l, xs, rfl, .inl (SqL.of hl), fun n hn => ?_⟩
    have npn : p ≠ n := ne_of_none hp hn
    refine ⟨_, rfl, p, Pc, dx, [], rfl, (by rw [upd_ne npn]; exact hp), T.c_Piece, T.na_pparts, (by show 0 < 1000; decide), _, rfl, _, rfl, p, Pc, dx, _, rfl, upd_same, T.c_Piece, T.na_pcount, (by show 1 < 1000; decide), ?_⟩
    refine q n _ hn upd_same (by rw [upd_ne (Ne.symm npn), upd_ne (Ne.symm npn), upd_same]) fun b o e hb => ?_
    rw [upd_ne hb, upd_ne hb, upd_ne (ne_of_none e hn)]
    exact e
theorem scPieceShown : FnScope ["self"] ["self"] (defScope sPieceShown) := ⟨rfl, rfl, rfl, by decide +kernel, rfl, by decide +kernel, by decide +kernel⟩
theorem ok_pieceshown (D : DefM K Pc "shown" "Piece.shown" sPieceShown ["self"]) (T : Txt K mg C Pc Fo uD uC uP uM uE) (c1 : CalE P w K mg base 3 "parts_shown" ["parts"] (spPShown0 C)) (c2 : CalE P w K mg base 1 "count_shown" ["count"] spFigs) : CalME P w K mg base 4 Pc "shown" ["self"] (spPieceShown C Pc) := by
  obtain ⟨_, _, c_parts_shown⟩ := c1
  obtain ⟨_, _, c_count_shown⟩ := c2
  refine D.cal scPieceShown (fun vs H Q E h => ?_) (fun f cdv A outer s H vs Q E hr h => ?_)
  · obtain ⟨p, x, rfl, _⟩ := h
    rfl
  · obtain ⟨p, x, rfl, ⟨dx, l, ps, hp, hl, hA⟩, ok, q⟩ := h
    obtain ⟨⟨o1, o2, o3, o4⟩, o5⟩ := id ok
    have big : (2000 : Nat) ≤ sizeLine := by decide
    have z1 := jn_at_len o1
    have z2 := figs_len o3 o4
    refine ⟨_, (pss_one
          (ps_ret (pe_op op_add_str (pe_call c_count_shown.ok (hr.mono (by decide)) rfl c_count_shown.g c_count_shown.kp c_count_shown.b .nil pass0 (pa_cons (pe_fld (pv 0) rfl) pa_nil)) (pe_call c_parts_shown.ok (hr.mono (by decide)) rfl c_parts_shown.g c_parts_shown.kp c_parts_shown.b .nil pass0 (pa_cons (pe_fld (pv 0) rfl) pa_nil))))), ?_⟩
    refine ⟨_, rfl, p, Pc, dx, _, _, rfl, hp, T.c_Piece, T.na_pcount, gflds_count _ _, x.1, rfl, o3, o4, _, rfl, p, Pc, dx, _, _, rfl, hp, T.c_Piece, T.na_pparts, gflds_parts _ _, l, ps, x.2, rfl, hl, hA, o1, o2, fun H1 e1 => ⟨_, _, rfl, rfl, ?_, q _ e1⟩⟩
    omega
theorem scPieceCounts : FnScope ["self"] ["self"] (defScope sPieceCounts) := ⟨rfl, rfl, rfl, by decide +kernel, rfl, by decide +kernel, by decide +kernel⟩
theorem ok_piececounts (D : DefM K Pc "counts" "Piece.counts" sPieceCounts ["self"]) (T : Txt K mg C Pc Fo uD uC uP uM uE) (c1 : CalE P w K mg base 2 "parts_counts" ["parts", "times"] (spPCounts0 C)) : CalME P w K mg base 3 Pc "counts" ["self"] (spGCounts C Pc) := by
  obtain ⟨_, _, c_parts_counts⟩ := c1
  refine D.cal scPieceCounts (fun vs H Q E h => ?_) (fun f cdv A outer s H vs Q E hr h => ?_)
  · obtain ⟨g, as, c, rfl, _⟩ := h
    rfl
  · obtain ⟨g, as, c, rfl, ⟨dx, l, ps, hg, hl, hA⟩, ⟨o1, o2, o3, o4⟩, q⟩ := h
    refine ⟨_, (pss_one
          (ps_ret (pe_call c_parts_counts.ok (hr.mono (by decide)) rfl c_parts_counts.g c_parts_counts.kp c_parts_counts.b .nil pass0 (pa_cons (pe_fld (pv 0) rfl) (pa_cons (pe_fld (pv 0) rfl) pa_nil))))), ?_⟩
    exact ⟨_, rfl, g, Pc, dx, _, _, rfl, hg, T.c_Piece, T.na_pparts, gflds_parts _ _, _, rfl, g, Pc, dx, _, _, rfl, hg, T.c_Piece, T.na_pcount, gflds_count _ _, l, ps, as, c, rfl, hl, hA, o2, o3, o4, q⟩
theorem scChargeShown : FnScope ["charge"] ["charge"] (defScope sChargeShown) := ⟨rfl, rfl, rfl, by decide +kernel, rfl, by decide +kernel, by decide +kernel⟩
theorem ok_charge_shown (D : Def K mg "charge_shown" "charge_shown" sChargeShown ["charge"]) (T : Txt K mg C Pc Fo uD uC uP uM uE) (c1 : CalE P w K mg base 1 "count_shown" ["count"] spFigs) : CalE P w K mg base 2 "charge_shown" ["charge"] spChargeS := by
  obtain ⟨_, _, c_count_shown⟩ := c1
  refine D.cal scChargeShown (fun vs H Q E h => ?_) (fun f cdv A outer s H vs Q E hr h => ?_)
  · obtain ⟨n, rfl, _⟩ := h
    rfl
  · obtain ⟨n, rfl, h1, h2, q⟩ := h
    have big : (2000 : Nat) ≤ sizeLine := by decide
    refine ⟨_, (pss_cons
          (ps_if (pt_cmpR op_eq (pv 0) pe_int (nomark _))
            (pss_one
              (ps_ret pe_str))
            pss_nil)
        (pss_one
          (ps_ret (pe_op op_add_str (pe_op op_add_str (pe_glob (v := .str "^") rfl T.g_CHARGE_MARK ⟨_, rfl⟩) (pe_call c_count_shown.ok (hr.mono (by decide)) rfl c_count_shown.g c_count_shown.kp c_count_shown.b .nil pass0 (pa_cons (pe_callB call_abs rfl T.n_abs bt_abs (pa_cons (pv 0) pa_nil)) pa_nil))) (pe_ifExp (pt_cmpR op_gt (pv 0) pe_int (nomark _)) (pe_glob (v := .str "+") rfl T.g_PLUS ⟨_, rfl⟩) (pe_glob (v := .str "-") rfl T.g_MINUS ⟨_, rfl⟩)))))), ?_⟩
    refine ⟨_, rfl, rfl, _, rfl, ite2 (fun e => ?_) fun e => ?_⟩
    · have e : n = 0 := by simpa using e
      subst e
      exact q
    · have e : ¬ n = 0 := by simpa using e
      obtain ⟨a1, a2⟩ := ab_in h1 h2 e
      have z := figs_len a1 a2
      have e1 : ("^" : Str).length = 1 := by decide +kernel
      unfold ctx at q
      rw [if_neg e] at q
      refine ⟨_, rfl, n, rfl, ab n, rfl, a1, a2, _, _, rfl, rfl, by rw [e1]; omega, _, rfl, _, _, rfl, rfl, ?_⟩
      refine ⟨_, rfl, ite2 (fun e => ?_) fun e => ?_⟩
      · have e : 0 < n := by simpa using e
        unfold sgn at q
        rw [if_pos e] at q
        refine ⟨_, _, rfl, rfl, ?_, q⟩
        have e2 : ("+" : Str).length = 1 := by decide +kernel
        rw [str_app_len, e1, e2]
        omega
      · have e : ¬ 0 < n := by simpa using e
        unfold sgn at q
        rw [if_neg e] at q
        refine ⟨_, _, rfl, rfl, ?_, q⟩
        have e2 : ("-" : Str).length = 1 := by decide +kernel
        rw [str_app_len, e1, e2]
        omega
theorem ok_pcounts2 (D : Def K mg "parts_counts" "parts_counts" sPCounts ["parts", "times"]) (T : Txt K mg C Pc Fo uD uC uP uM uE) (c1 : CalME P w K mg base 3 Pc "counts" ["self"] (spGCounts C Pc)) : CalE P w K mg base 4 "parts_counts" ["parts", "times"] (spPCounts2 C Pc) := by
  obtain ⟨_, _, c_Piece_counts⟩ := c1
  refine D.cal scPCounts (fun vs H Q E h => ?_) (fun f cdv A outer s H vs Q E hr h => ?_)
  · obtain ⟨l, ps, xs, rfl, _⟩ := h
    rfl
  · obtain ⟨l, ps, xs, rfl, hl, hA, ok, h4, q⟩ := h
    have hu := hu_of hr
    refine ⟨_, (pss_cons
          (ps_set (i := 2) scPCounts.nd rfl (Or.inl rfl) pe_dnewK)
        (pss_cons
          (ps_for PassesOwn.never rfl (pi_list (pv 0)) (pg_name (i := 3) scPCounts.nd rfl (Or.inl rfl))
            (pss_cons
              (ps_set (i := 4) scPCounts.nd rfl (Or.inl rfl) (pe_meth0 (pv 3) T.c_Piece c_Piece_counts.m c_Piece_counts.ok (hr.mono (by decide)) c_Piece_counts.b .nil pass0))
            (pss_one
              (ps_thaw (ps_for PassesOwn.never rfl (pi_dict (pv 4)) (pg_name (i := 5) scPCounts.nd rfl (Or.inl rfl))
                (pss_one
                  (ps_dput hu (pv 2) (pv 5) (pe_op op_add (pe_dget2 hu (pv 2) (pv 5) pe_int ⟨rfl, rfl, rfl, rfl⟩) (pe_op op_mul (pe_dget hu (pv 4) (pv 5) (fun _ _ => rfl)) (pv 1))) rfl)))))))
        (pss_one
          (ps_ret (pv 2))))), ?_⟩
    intro d hd
    refine ⟨_, rfl, l, rfl, ⟨_, SqL.of (Same.new hd _ _ hl)⟩, for_list (K := K) (a := l) (xs := ps.map V.ref) (fun i σ H' => ∃ v u z : Option V, σ = [some (.ref l), some (.int 1), some (.ref d), v, u, z] ∧ Same H H' ∧ H' d = some (.dK (cnts (xs.take i)))) ?_ (fun i σ H' _ ⟨_, _, _, _, e, _⟩ => SqL.of (e _ _ hl)) ?_ ?_⟩
    · exact ⟨none, none, none, rfl, Same.new hd, upd_same⟩
    · rintro i v σ H' hi ⟨v', u, z, rfl, e, hd'⟩
      obtain ⟨p, x, rfl, hx, hG⟩ := (hA.same e).get hi
      obtain ⟨okx, x3⟩ := ok x (List.mem_of_getElem? hx)
      obtain ⟨dx, l', ps', h1, h2⟩ := id hG
      refine ⟨_, rfl, p, dx, _, rfl, h1, gflds_no _ _ (by decide +kernel) (by decide +kernel), p, x.2, x.1, rfl, hG, okx, fun b H'' nb hb e' => ?_⟩
      have ndb : d ≠ b := ne_of_none hd' nb
      have oki : ∀ y ∈ xs.take i, okP y := fun y hy => ok y (List.mem_of_mem_take hy)
      have l1 := cnts_len oki (Nat.le_trans (List.length_take_le' _ _) h4)
      have l2 := cnt_len x.1 x.2 []
      refine inner_ok hu (e' _ _ hd') hb ndb (cnts_int _) (cnt_int x.1 _ _ no_int) ?_ (by decide) (by decide) fun z' => ⟨_, _, _, rfl, fun b' o w' => ?_, ?_⟩
      · simp only [List.length_nil] at l2
        omega
      · rw [upd_ne (ne_of_none w' hd)]
        exact e' _ _ (e _ _ w')
      · rw [upd_same, mul_cnt 1 x.1 x.2 (cnts_int _) (cnts_nd _), Int.mul_one, cnts_snoc hx]
    · rintro σ H' ⟨v, u, z, rfl, e, hd'⟩
      rw [List.length_map, hA.len, List.take_length] at hd'
      exact ⟨_, rfl, q d H' hd hd' e⟩
theorem scFInit : FnScope ["self", "pieces", "charge"] ["self", "pieces", "charge"] (defScope sFInit) := ⟨rfl, rfl, rfl, by decide +kernel, rfl, by decide +kernel, by decide +kernel⟩
theorem ok_finit (D : DefI K Fo "Formula.__init__" sFInit ["self", "pieces", "charge"] [0]) (T : Txt K mg C Pc Fo uD uC uP uM uE) : CalIE P w K mg base 1 Fo ["self", "pieces", "charge"] [0] (spFInit Fo) := by
  refine D.cal scFInit (fun vs H Q E h => ?_) (fun f cdv A outer s H vs Q E hr h => ?_)
  · obtain ⟨p, dx, l, c, xs, rfl, _⟩ := h
    rfl
  · obtain ⟨p, dx, l, c, xs, rfl, hp, hl, q⟩ := h
    refine ⟨_, (pss_cons
          (ps_fld (pv 0) (pe_callTy call_list_of rfl T.n_list bt_list (pa_cons (pv 1) pa_nil)) rfl)
        (pss_one
          (ps_fld (pv 0) (pv 2) rfl))), ?_⟩
    refine ⟨_, rfl, l, xs, rfl, .inl (SqL.of hl), fun n hn => ?_⟩
    have npn : p ≠ n := ne_of_none hp hn
    refine ⟨_, rfl, p, Fo, dx, [], rfl, (by rw [upd_ne npn]; exact hp), T.c_Formula, T.na_fpieces, (by show 0 < 1000; decide), _, rfl, _, rfl, p, Fo, dx, _, rfl, upd_same, T.c_Formula, T.na_fcharge, (by show 1 < 1000; decide), ?_⟩
    refine q n _ hn upd_same (by rw [upd_ne (Ne.symm npn), upd_ne (Ne.symm npn), upd_same]) fun b o e hb => ?_
    rw [upd_ne hb, upd_ne hb, upd_ne (ne_of_none e hn)]
    exact e
theorem scFShown : FnScope ["self"] ["self"] (defScope sFShown) := ⟨rfl, rfl, rfl, by decide +kernel, rfl, by decide +kernel, by decide +kernel⟩
theorem ok_fshown (D : DefM K Fo "shown" "Formula.shown" sFShown ["self"]) (T : Txt K mg C Pc Fo uD uC uP uM uE) (c1 : CalME P w K mg base 4 Pc "shown" ["self"] (spPieceShown C Pc)) (c2 : CalE P w K mg base 2 "charge_shown" ["charge"] spChargeS) : CalME P w K mg base 5 Fo "shown" ["self"] (spFShown C Pc Fo) := by
  obtain ⟨_, _, c_Piece_shown⟩ := c1
  obtain ⟨_, _, c_charge_shown⟩ := c2
  refine D.cal scFShown (fun vs H Q E h => ?_) (fun f cdv A outer s H vs Q E hr h => ?_)
  · obtain ⟨f, xs, n, rfl, _⟩ := h
    rfl
  · obtain ⟨f, xs, n, rfl, ⟨dx, l, ps, hf, hl, hA⟩, ⟨ok, h4, n1, n2⟩, q⟩ := h
    have big : (2000 : Nat) < sizeLine := by decide
    refine ⟨_, (pss_cons
          (ps_if (pt_not (pt_truth (pe_fld (pv 0) rfl) (fun _ => rfl)))
            (pss_one
              (ps_ret (pe_glob (v := .str "e^-") rfl T.g_ELECTRON ⟨_, rfl⟩)))
            pss_nil)
        (pss_one
          (ps_ret (pe_op op_add_str (pe_bm PySem.F.plainAttrs_str PySem.F.slot_str_join PySem.F.type_str_join mt_join (pe_glob (v := .str ".") rfl T.g_PIECE_DOT ⟨_, rfl⟩) (pa_cons (pe_comp (sc := (defScope sFShown)) (NX := ["self"]) (N := ["piece"]) (fr := [none]) ⟨by rfl, by rfl, by decide +kernel, by decide +kernel, by decide +kernel, by rfl, by decide +kernel⟩ rfl rfl rfl (pi_list (pe_fld (pv 0) rfl)) (fun _ _ _ _ => (pg_name (i := 0) (show (["piece"] : List Str).Nodup by decide +kernel) rfl (Or.inl rfl) (Or.inr rfl))) (fun _ _ _ _ => pts_nil) (fun _ _ _ _ => (pe_meth0 (pv 0) T.c_Piece c_Piece_shown.m c_Piece_shown.ok (hr.mono (by decide)) c_Piece_shown.b .nil pass0))) pa_nil)) (pe_call c_charge_shown.ok (hr.mono (by decide)) rfl c_charge_shown.g c_charge_shown.kp c_charge_shown.b .nil pass0 (pa_cons (pe_fld (pv 0) rfl) pa_nil)))))), ?_⟩
    refine ⟨_, rfl, f, Fo, dx, _, _, rfl, hf, T.c_Formula, T.na_fpieces, fflds_pieces _ _, _, .inl ⟨_, SqL.of hl, rfl⟩, ?_⟩
    have lp := hA.len
    unfold ftx at q
    by_cases hx : xs = []
    · subst hx
      have hp : ps = [] := by cases ps with
        | nil => rfl
        | cons _ _ => simp at lp
      subst hp
      refine iteT ?_
      exact q _ (Same.refl _)
    have hxe : xs.isEmpty = false := by cases xs with
      | nil => exact absurd rfl hx
      | cons _ _ => rfl
    have hpe : (!(ps.map V.ref).isEmpty) = true := by
      cases ps with
      | nil => rw [List.length_nil] at lp; exact absurd (List.length_eq_zero_iff.mp lp.symm) hx
      | cons _ _ => rfl
    rw [hxe] at q
    rw [hpe]
    refine iteF ?_
    refine ⟨rfl, _, rfl, f, Fo, dx, _, _, rfl, hf, T.c_Formula, T.na_fpieces, fflds_pieces _ _, l, rfl, ⟨_, SqL.of hl⟩, fun D hD => comp_list (K := K) (a := l) (D := D) (xs := ps.map V.ref) (fun i σ H' => ∃ v : Option V, σ = [v] ∧ Same H H' ∧ H' D = some (.lst ((xs.take i).map fun x => V.str (ptx x))))
      ?_ (fun i σ H' _ ⟨_, _, e, _⟩ => SqL.of (e _ _ hl)) ?_ ?_⟩
    · exact ⟨none, rfl, Same.new hD, upd_same⟩
    · rintro i v σ H' hi ⟨v', rfl, e, hD'⟩ N hN
      obtain ⟨p, x, rfl, hx, hG⟩ := (hA.same e).get hi
      obtain ⟨dx', l', ps', h1, h2⟩ := id hG
      refine ⟨_, rfl, p, dx', _, rfl, h1, gflds_no _ _ (by decide +kernel) (by decide +kernel), p, x, rfl, hG, ok x (List.mem_of_getElem? hx), fun H'' e' => ⟨_, e' _ _ hD', ?_, hN _ _ ⟨_, rfl, fun b o z => ?_, ?_⟩⟩⟩
      · rw [List.length_map]
        have : (xs.take i).length ≤ xs.length := List.length_take_le' _ _
        omega
      · rw [upd_ne (ne_of_none z hD)]
        exact e' _ _ (e _ _ z)
      · rw [upd_same, take_snoc hx, List.map_append]
        rfl
    · rintro σ H' ⟨v, rfl, e, hD'⟩
      rw [List.length_map, hA.len, List.take_length] at hD'
      have b21 : ∀ y ∈ xs.map ptx, y.length ≤ 21 := fun y hy => by
        obtain ⟨x, hx, rfl⟩ := List.mem_map.mp hy
        exact ptx_len (ok x hx)
      have zd := dots_len ok h4
      have zc := ctx_len n1 n2
      refine ⟨_, D, xs.map ptx, rfl, rfl, SqL.of (by rw [hD', List.map_map]; rfl), ?_, _, rfl, f, Fo, dx, _, _, rfl, e _ _ hf, T.c_Formula, T.na_fcharge, fflds_charge _ _, n, rfl, n1, n2, _, _, rfl, rfl, ?_, q _ e⟩
      · have := sum_len b21
        rw [List.length_map] at this ⊢
        have e0 : ("." : Str).length = 1 := by decide +kernel
        rw [e0]
        omega
      · omega
theorem scFCounts : FnScope ["self"] ["self"] (defScope sFCounts) := ⟨rfl, rfl, rfl, by decide +kernel, rfl, by decide +kernel, by decide +kernel⟩
theorem ok_fcounts (D : DefM K Fo "counts" "Formula.counts" sFCounts ["self"]) (T : Txt K mg C Pc Fo uD uC uP uM uE) (c1 : CalE P w K mg base 4 "parts_counts" ["parts", "times"] (spPCounts2 C Pc)) : CalME P w K mg base 5 Fo "counts" ["self"] (spFCounts C Pc Fo) := by
  obtain ⟨_, _, c_parts_counts⟩ := c1
  refine D.cal scFCounts (fun vs H Q E h => ?_) (fun f cdv A outer s H vs Q E hr h => ?_)
  · obtain ⟨f, xs, n, rfl, _⟩ := h
    rfl
  · obtain ⟨f, xs, n, rfl, ⟨dx, l, ps, hf, hl, hA⟩, ⟨ok, h4, n1, n2⟩, q⟩ := h
    refine ⟨_, (pss_one
          (ps_ret (pe_call c_parts_counts.ok (hr.mono (by decide)) rfl c_parts_counts.g c_parts_counts.kp c_parts_counts.b .nil pass0 (pa_cons (pe_fld (pv 0) rfl) (pa_cons pe_int pa_nil))))), ?_⟩
    exact ⟨_, rfl, f, Fo, dx, _, _, rfl, hf, T.c_Formula, T.na_fpieces, fflds_pieces _ _, l, ps, xs, rfl, hl, hA, ok, h4, q⟩
theorem scFWeight : FnScope ["self", "weights"] ["self", "weights"] (defScope sFWeight) := ⟨rfl, rfl, rfl, by decide +kernel, rfl, by decide +kernel, by decide +kernel⟩
theorem ok_fweight (D : DefM K Fo "weight" "Formula.weight" sFWeight ["self", "weights"]) (T : Txt K mg C Pc Fo uD uC uP uM uE) (c1 : CalE P w K mg base 1 "counts_weight" ["counts", "weights"] spCW) (c2 : CalME P w K mg base 5 Fo "counts" ["self"] (spFCounts C Pc Fo)) : CalME P w K mg base 6 Fo "weight" ["self", "weights"] (spFWeight C Pc Fo) := by
  obtain ⟨_, _, c_counts_weight⟩ := c1
  obtain ⟨_, _, c_Formula_counts⟩ := c2
  refine D.cal scFWeight (fun vs H Q E h => ?_) (fun f cdv A outer s H vs Q E hr h => ?_)
  · obtain ⟨f, u, xs, n, kw, rfl, _⟩ := h
    rfl
  · obtain ⟨f, u, xs, n, kw, rfl, hF, okf, hw, hI, q⟩ := h
    have hu := hu_of hr
    obtain ⟨dx, l, ps, hf, _⟩ := id hF
    obtain ⟨ok, h4, n1, n2⟩ := id okf
    refine ⟨_, (pss_one
          (ps_ret (pe_op op_add (pe_call c_counts_weight.ok (hr.mono (by decide)) rfl c_counts_weight.g c_counts_weight.kp c_counts_weight.b .nil pass0 (pa_cons (pe_meth0 (pv 0) T.c_Formula c_Formula_counts.m c_Formula_counts.ok (hr.mono (by decide)) c_Formula_counts.b .nil pass0) (pa_cons (pv 1) pa_nil))) (pe_op op_mul (pe_fld (pv 0) rfl) (pe_dget2 hu (pv 1) (pe_glob (v := .str "+") rfl T.g_PLUS ⟨_, rfl⟩) pe_int ⟨rfl, rfl, rfl, rfl⟩))))), ?_⟩
    refine ⟨_, rfl, f, dx, _, rfl, hf, fflds_no _ _ (by decide +kernel) (by decide +kernel), f, xs, n, rfl, hF, okf, fun d H1 nd hd e1 => ?_⟩
    have hw1 := e1 _ _ hw
    refine ⟨_, rfl, d, u, _, kw, rfl, hd, hw1, Ne.symm (ne_of_none hw nd), hI, cnts_bnd ok h4, ?_⟩
    exact ⟨_, rfl, f, Fo, dx, _, _, rfl, e1 _ _ hf, T.c_Formula, T.na_fcharge, fflds_charge _ _, _, rfl, u, rfl, .inl ⟨_, .inl hw1⟩, _, DGet.k (k := Sum.inr "+") hw1, _, _, rfl, hI.at _, .inl ⟨by omega, by omega⟩, _, _, rfl, rfl, q _ e1⟩
/-- pairs and lists of pairs, none of them at D -/
def TupsN (D : Addr) (H : Hp) (ts : List Addr) (xs : List Pi) : Prop := Paired (fun t (x : Pi) => ∃ m us, m ≠ D ∧ H t = some (.tup [.int x.1, .ref m]) ∧ H m = some (.lst (us.map V.ref)) ∧ PairsAt H us x.2) ts xs
theorem TupsN.all {D : Addr} {H : Hp} : ∀ {ts : List Addr} {xs : List Pi}, TupsN D H ts xs → TupsAt H ts xs
  | _, _, .nil => .nil
  | _, _, .cons ⟨m, us, _, h1, h2, h3⟩ t => .cons ⟨m, us, h1, h2, h3⟩ (TupsN.all t)
theorem TupsN.but {D : Addr} {H H' : Hp} {ys : List V} (hD : H D = some (.lst ys)) (e : ∀ b o, H b = some o → b ≠ D → H' b = some o) : ∀ {ts : List Addr} {xs : List Pi}, TupsN D H ts xs → TupsN D H' ts xs
  | _, _, .nil => .nil
  | _, _, .cons ⟨m, us, n, h1, h2, h3⟩ t => .cons ⟨m, us, n, e _ _ h1 (fun z => by rw [z, hD] at h1; cases h1), e _ _ h2 n, PairsAt.but hD e h3⟩ (TupsN.but hD e t)
theorem TupsN.len {D : Addr} {H : Hp} {ts : List Addr} {xs : List Pi} (h : TupsN D H ts xs) : ts.length = xs.length := Paired.length h
theorem TupsN.snoc {D : Addr} {H : Hp} {p : Addr} {x : Pi} (hp : ∃ m us, m ≠ D ∧ H p = some (.tup [.int x.1, .ref m]) ∧ H m = some (.lst (us.map V.ref)) ∧ PairsAt H us x.2) : ∀ {ts : List Addr} {xs : List Pi}, TupsN D H ts xs → TupsN D H (ts ++ [p]) (xs ++ [x])
  | _, _, .nil => .cons hp .nil
  | _, _, .cons h t => .cons h (TupsN.snoc hp t)
theorem scPieces : FnScope ["_law_script", "_law_found", "_law_k", "_law_cell", "_law_count_here", "_law_atoms", "_law_j", "_law_other"] ["_law_script"] (defScope sPieces) := ⟨rfl, rfl, rfl, by decide +kernel, rfl, by decide +kernel, by decide +kernel⟩
theorem ok_pieces (D : Def K mg "_law_pieces" "_law_pieces" sPieces ["_law_script"]) (T : Txt K mg C Pc Fo uD uC uP uM uE) (c1 : CalE P w K mg base 1 "_law_cell_at" ["_law_script", "_law_k"] (spCellAt K)) (c2 : CalE P w K mg base 1 "_law_mixed" ["_law_cell", "_law_prime"] spMixed) (c3 : CalE P w K mg base 1 "_law_kind" ["_law_number"] spKind) (c4 : CalE P w K mg base 1 "_law_count" ["_law_number"] spCount) :
    CalE P w K mg base 2 "_law_pieces" ["_law_script"] (spPieces K) := by
  obtain ⟨_, _, c_l_cell_at⟩ := c1
  obtain ⟨_, _, c_l_mixed⟩ := c2
  obtain ⟨_, _, c_l_kind⟩ := c3
  obtain ⟨_, _, c_l_count⟩ := c4
  refine D.cal scPieces (fun vs H Q E h => ?_) (fun f cdv A outer s H vs Q E hr h => ?_)
  · obtain ⟨a, ns, rfl, _⟩ := h
    rfl
  · obtain ⟨a, ns, rfl, hS, hlen, q⟩ := h
    have big : (100 : Nat) < sizeLine := by decide
    refine ⟨_, (pss_cons
          (ps_set (i := 1) scPieces.nd rfl (Or.inl rfl) (pe_lst pa_nil))
        (pss_cons
          (ps_for PassesOwn.never rfl (pi_range1 rfl T.n_range (pa_cons (pe_op op_add pe_int (pe_op op_mod (pe_call c_l_cell_at.ok (hr.mono (by decide)) rfl c_l_cell_at.g c_l_cell_at.kp c_l_cell_at.b .nil pass0 (pa_cons (pv 0) (pa_cons pe_int pa_nil))) pe_int)) pa_nil)) (pg_name (i := 2) scPieces.nd rfl (Or.inl rfl))
            (pss_cons
              (ps_set (i := 3) scPieces.nd rfl (Or.inl rfl) (pe_call c_l_cell_at.ok (hr.mono (by decide)) rfl c_l_cell_at.g c_l_cell_at.kp c_l_cell_at.b .nil pass0 (pa_cons (pv 0) (pa_cons (pe_op op_add pe_int (pe_op op_mul pe_int (pv 2))) pa_nil))))
            (pss_cons
              (ps_set (i := 4) scPieces.nd rfl (Or.inl rfl) (pe_call c_l_count.ok (hr.mono (by decide)) rfl c_l_count.g c_l_count.kp c_l_count.b .nil pass0 (pa_cons (pe_call c_l_mixed.ok (hr.mono (by decide)) rfl c_l_mixed.g c_l_mixed.kp c_l_mixed.b .nil pass0 (pa_cons (pv 3) (pa_cons pe_int pa_nil))) pa_nil)))
            (pss_cons
              (ps_if (pt_cmpR op_eq (pv 2) pe_int (nomark _))
                (pss_one
                  (ps_set (i := 4) scPieces.nd rfl (Or.inl rfl) pe_int))
                pss_nil)
            (pss_cons
              (ps_set (i := 5) scPieces.nd rfl (Or.inl rfl) (pe_lst pa_nil))
            (pss_cons
              (ps_for PassesOwn.never rfl (pi_range1 rfl T.n_range (pa_cons (pe_op op_add pe_int (pe_op op_mod (pv 3) pe_int)) pa_nil)) (pg_name (i := 6) scPieces.nd rfl (Or.inl rfl))
                (pss_cons
                  (ps_set (i := 7) scPieces.nd rfl (Or.inl rfl) (pe_call c_l_cell_at.ok (hr.mono (by decide)) rfl c_l_cell_at.g c_l_cell_at.kp c_l_cell_at.b .nil pass0 (pa_cons (pv 0) (pa_cons (pe_op op_add (pe_op op_add pe_int (pe_op op_mul pe_int (pv 2))) (pv 6)) pa_nil))))
                (pss_one
                  (ps_expr (pe_bm PySem.F.plainAttrs_list PySem.F.slot_list_append PySem.F.type_list_append mt_append (pv 5) (pa_cons (pe_tup (pa_cons (pe_call c_l_kind.ok (hr.mono (by decide)) rfl c_l_kind.g c_l_kind.kp c_l_kind.b .nil pass0 (pa_cons (pe_call c_l_mixed.ok (hr.mono (by decide)) rfl c_l_mixed.g c_l_mixed.kp c_l_mixed.b .nil pass0 (pa_cons (pv 7) (pa_cons pe_int pa_nil))) pa_nil)) (pa_cons (pe_call c_l_count.ok (hr.mono (by decide)) rfl c_l_count.g c_l_count.kp c_l_count.b .nil pass0 (pa_cons (pe_call c_l_mixed.ok (hr.mono (by decide)) rfl c_l_mixed.g c_l_mixed.kp c_l_mixed.b .nil pass0 (pa_cons (pv 7) (pa_cons pe_int pa_nil))) pa_nil)) pa_nil))) pa_nil))))))
            (pss_one
              (ps_expr (pe_bm PySem.F.plainAttrs_list PySem.F.slot_list_append PySem.F.type_list_append mt_append (pv 1) (pa_cons (pe_tup (pa_cons (pv 4) (pa_cons (pv 5) pa_nil))) pa_nil))))))))))
        (pss_one
          (ps_ret (pv 1))))), ?_⟩
    refine ⟨(by show 0 ≤ sizeLine; decide), fun d hd => ?_⟩
    have s1 : Same H (upd H d (.lst [])) := Same.new hd
    refine ⟨_, rfl, a, ns, 0, rfl, s1.seq hS, hlen, fun n0 => ⟨_, _, rfl, rfl, (by show (0 : Int) < 4; decide), _, _, rfl, rfl, ?_⟩⟩
    have m0 : 0 ≤ n0 % 4 := Int.emod_nonneg _ (by decide)
    have m1 : n0 % 4 < 4 := Int.emod_lt_of_pos _ (by decide)
    refine ⟨_, rfl, by omega, by omega, for_range (fun i σ H2 => ∃ (ts : List Addr) (xs : List Pi) (v2 v3 v4 v5 v6 v7 : Option V), σ = [some (.ref a), some (.ref d), v2, v3, v4, v5, v6, v7] ∧ Same H H2 ∧ H2 d = some (.lst (ts.map V.ref)) ∧ TupsN d H2 ts xs ∧ (∀ x ∈ xs, okP x) ∧ xs.length = i)
      ⟨[], [], none, none, none, none, none, none, rfl, s1, upd_same, .nil, (fun p hp => by cases hp), rfl⟩ ?_ ?_⟩
    · rintro i σ H2 hi ⟨ts, xs, v2, v3, v4, v5, v6, v7, rfl, e2, hd2, hT, hok, hk⟩
      have hi4 : i < 4 := by omega
      have ix : (3 : Int) + 4 * (0 + (i : Int)) = ((3 + 4 * i : Nat) : Int) := by omega
      refine ⟨_, rfl, _, rfl, _, _, rfl, rfl, .inl ⟨by decide, by decide⟩, _, _, rfl, rfl, a, ns, 3 + 4 * i, congrArg (fun z => [V.ref a, V.int z]) ix, e2.seq hS, hlen, fun cell => ?_⟩
      refine ⟨_, rfl, _, _, 1, rfl, by decide, rfl, fun n1 H3 e3 => ⟨_, rfl, fun c H4 c0 c1 e4 => ?_⟩⟩
      have e24 : Same H2 H4 := e3.trans e4
      dsimp only [gName]
      refine join_if (fun σ' H' => ∃ c : Int, σ' = [some (.ref a), some (.ref d), some (.int (0 + (i : Int))), some (.int cell), some (.int c), v5, v6, v7] ∧ 1 ≤ c ∧ c ≤ 999 ∧ H' = H4) (fun N hN => ?_) ?_
      · refine ⟨_, rfl, rfl, _, rfl, ite2 (fun _ => ?_) fun _ => ?_⟩
        · exact hN _ _ ⟨1, rfl, by decide, by decide, rfl⟩
        · exact hN _ _ ⟨c, rfl, c0, c1, rfl⟩
      clear c0 c1
      rintro σ' H' ⟨c, rfl, c0, c1, rfl⟩
      refine ⟨(by show 0 ≤ sizeLine; decide), fun m hm => ?_⟩
      have d4 := e24 _ _ hd2
      have nmd : m ≠ d := Ne.symm (ne_of_none d4 hm)
      have t0 : 0 ≤ cell % 3 := Int.emod_nonneg _ (by decide)
      have t1 : cell % 3 < 3 := Int.emod_lt_of_pos _ (by decide)
      refine ⟨_, rfl, _, _, rfl, rfl, (by show (0 : Int) < 3; decide), _, _, rfl, rfl, _, rfl, by omega, by omega, for_range (fun j σ H5 => ∃ (us : List Addr) (as : List At) (v6 v7 : Option V), σ = [some (.ref a), some (.ref d), some (.int (0 + (i : Int))), some (.int cell), some (.int c), some (.ref m), v6, v7] ∧ Same H' H5 ∧ H5 m = some (.lst (us.map V.ref)) ∧ PairsAt H5 us as ∧ (∀ a ∈ as, okA a) ∧ as.length = j)
        ⟨[], [], _, _, rfl, Same.new hm, upd_same, .nil, (fun p hp => by cases hp), rfl⟩ ?_ ?_⟩
      · rintro j σ H5 hj ⟨us, as, v6, v7, rfl, e5, hm5, hP, hoa, hka⟩
        have hj3 : j < 3 := by omega
        have iy : (4 : Int) + 4 * (0 + (i : Int)) + (0 + (j : Int)) = ((4 + 4 * i + j : Nat) : Int) := by omega
        have sH5 := e2.trans (e24.trans e5)
        refine ⟨_, rfl, _, rfl, _, _, rfl, rfl, .inl ⟨by decide, by decide⟩, _, _, rfl, rfl, _, rfl, _, _, rfl, rfl, a, ns, 4 + 4 * i + j, congrArg (fun z => [V.ref a, V.int z]) iy, sH5.seq hS, hlen, fun other => ?_⟩
        refine ⟨_, rfl, .inl ⟨rfl, _, SqL.of hm5⟩, _, rfl, _, _, 2, rfl, by decide, rfl, fun n2 H6 e6 => ⟨_, rfl, fun k H7 hk7 e7 => ⟨_, rfl, _, _, 3, rfl, by decide, rfl, fun n3 H8 e8 => ⟨_, rfl, fun c' H9 c0' c1' e9 => ⟨(by show 2 ≤ sizeLine; decide), fun t ht => ?_⟩⟩⟩⟩⟩
        have e59 : Same H5 H9 := e6.trans (e7.trans (e8.trans e9))
        have hm9 := e59 _ _ hm5
        have ntm : t ≠ m := Ne.symm (ne_of_none hm9 ht)
        refine ⟨m, _, _, rfl, rfl, (by rw [upd_ne (Ne.symm ntm)]; exact hm9), ?_, ?_⟩
        · rw [List.length_map, hP.len]
          omega
        · have e67 : ∀ {b : Addr} {o : HO}, H9 b = some o → b ≠ m → (upd (upd H9 t (.tup [.str k, .int c'])) m (.lst (us.map V.ref ++ [V.ref t]))) b = some o := fun {b o} z hb => by
            rw [upd_ne hb, upd_ne (ne_of_none z ht)]
            exact z
          refine ⟨us ++ [t], as ++ [(k, c')], _, _, rfl, fun b o z => e67 (e59 _ _ (e5 _ _ z)) (ne_of_none z hm), by rw [upd_same, List.map_append]; rfl, PairsAt.snoc (a := (k, c')) (by rw [upd_ne ntm]; exact upd_same) ?_, ?_, by rw [List.length_append, hka]; rfl⟩
          · exact PairsAt.keep (fun b xs z => e67 z (ne_of z hm9 (by intro w'; cases w'))) (hP.same e59)
          · intro a' ha'
            rcases List.mem_append.mp ha' with z' | z'
            · exact hoa a' z'
            · rw [List.mem_singleton.mp z']
              exact ⟨hk7, c0', c1'⟩
      · rintro σ H5 ⟨us, as, v6, v7, rfl, e5, hm5, hP, hoa, hka⟩
        have d5 := e5 _ _ d4
        refine ⟨_, rfl, .inl ⟨rfl, _, SqL.of d5⟩, _, rfl, _, rfl, (by show 2 ≤ sizeLine; decide), fun t ht => ?_⟩
        have ntd : t ≠ d := Ne.symm (ne_of_none d5 ht)
        refine ⟨d, _, _, rfl, rfl, (by rw [upd_ne (Ne.symm ntd)]; exact d5), ?_, ?_⟩
        · rw [List.length_map, hT.len]
          omega
        · have e67 : ∀ b o, H5 b = some o → b ≠ d → (upd (upd H5 t (.tup [.int c, .ref m])) d (.lst (ts.map V.ref ++ [V.ref t]))) b = some o := fun b o z hb => by
            rw [upd_ne hb, upd_ne (ne_of_none z ht)]
            exact z
          have s25 : Same H2 H5 := e24.trans e5
          refine ⟨ts ++ [t], xs ++ [(c, as)], _, _, _, _, _, _, rfl, fun b o z => e67 b o (s25 _ _ (e2 _ _ z)) (ne_of_none z hd), by rw [upd_same, List.map_append]; rfl, TupsN.snoc (x := (c, as)) ⟨m, us, nmd, by rw [upd_ne ntd]; exact upd_same, e67 _ _ hm5 nmd, PairsAt.but d5 e67 hP⟩ ?_, ?_, by rw [List.length_append, hk]; rfl⟩
          · exact TupsN.but hd2 (fun b o z hb => e67 b o (s25 _ _ z) hb) hT
          · intro x hx
            rcases List.mem_append.mp hx with z' | z'
            · exact hok x z'
            · rw [List.mem_singleton.mp z']
              exact ⟨⟨hoa, by show as.length ≤ 100; omega, c0, c1⟩, by show as.length ≤ 3; omega⟩
    · rintro σ H2 ⟨ts, xs, v2, v3, v4, v5, v6, v7, rfl, e2, hd2, hT, hok, hk⟩
      exact ⟨_, rfl, q d ts xs H2 hd2 hT.all hok (by omega) e2⟩
theorem scCharge : FnScope ["_law_cell"] ["_law_cell"] (defScope sCharge) := ⟨rfl, rfl, rfl, by decide +kernel, rfl, by decide +kernel, by decide +kernel⟩
theorem ok_charge (D : Def K mg "_law_charge" "_law_charge" sCharge ["_law_cell"]) : CalE P w K mg base 1 "_law_charge" ["_law_cell"] spCharge := by
  refine D.cal scCharge (fun vs H Q E h => ?_) (fun f cdv A outer s H vs Q E hr h => ?_)
  · obtain ⟨n, rfl, _⟩ := h
    rfl
  · obtain ⟨n, rfl, q⟩ := h
    refine ⟨_, (pss_cons
          (ps_if (pt_cmpR op_eq (pe_op op_mod (pv 0) pe_int) pe_int (nomark _))
            (pss_one
              (ps_ret pe_int))
            pss_nil)
        (pss_cons
          (ps_if (pt_cmpR op_eq (pe_op op_mod (pv 0) pe_int) pe_int (nomark _))
            (pss_one
              (ps_ret (pe_ix ix_list (pe_lst (pa_cons (pe_un un_neg pe_int) (pa_cons pe_int (pa_cons (pe_un un_neg pe_int) (pa_cons pe_int pa_nil))))) (pe_op op_mod (pe_op op_fdiv (pv 0) pe_int) pe_int) (fun _ _ => rfl))))
            pss_nil)
        (pss_one
          (ps_ret (pe_op op_sub (pe_op op_mod (pe_op op_fdiv (pv 0) pe_int) pe_int) pe_int))))), ?_⟩
    refine ⟨_, rfl, _, _, rfl, rfl, (by show (0 : Int) < 4; decide), rfl, _, rfl, ite2 (fun _ => ?_) fun _ => ?_⟩
    · exact q 0 _ (by decide) (by decide) (Same.refl _)
    refine ⟨_, rfl, _, _, rfl, rfl, (by show (0 : Int) < 4; decide), rfl, _, rfl, ite2 (fun _ => ?_) fun _ => ?_⟩
    · have b0 : 0 ≤ n / 4 % 4 := Int.emod_nonneg _ (by decide)
      have b1 : n / 4 % 4 < 4 := Int.emod_lt_of_pos _ (by decide)
      obtain ⟨v, hv, hat⟩ := atI_in (xs := [V.int (-1), V.int 1, V.int (-2), V.int 2]) b0 b1
      have hc : ∃ c, v = V.int c ∧ -999 ≤ c ∧ c ≤ 999 := by
        simp only [List.mem_cons, List.not_mem_nil, or_false] at hv
        rcases hv with rfl | rfl | rfl | rfl
        · exact ⟨-1, rfl, by decide, by decide⟩
        · exact ⟨1, rfl, by decide, by decide⟩
        · exact ⟨-2, rfl, by decide, by decide⟩
        · exact ⟨2, rfl, by decide, by decide⟩
      obtain ⟨c, rfl, c0, c1⟩ := hc
      exact ⟨1, rfl, 2, rfl, (by show 4 ≤ sizeLine; decide), fun l hl => ⟨_, rfl, _, _, rfl, rfl, ⟨by decide, by decide⟩, _, _, rfl, rfl, (by show (0 : Int) < 4; decide), l, _, _, _, rfl, rfl, SqL.of upd_same, hat, q c _ c0 c1 (Same.new hl)⟩⟩
    · have e0 : 0 ≤ n / 4 % 1999 := Int.emod_nonneg _ (by decide)
      have e1 : n / 4 % 1999 < 1999 := Int.emod_lt_of_pos _ (by decide)
      exact ⟨_, rfl, _, _, rfl, rfl, ⟨by decide, by decide⟩, _, _, rfl, rfl, (by show (0 : Int) < 1999; decide), _, _, rfl, rfl, q _ _ (by omega) (by omega) (Same.refl _)⟩
theorem sgn_at (n : Int) : atI [V.str "-", V.str "+"] (if decide (n > 0) = true then 1 else 0) = some (V.str (sgn n)) := by
  unfold sgn
  by_cases h : 0 < n
  · rw [if_pos (decide_eq_true h), if_pos h]
    rfl
  · rw [if_neg (by simpa using h), if_neg h]
    rfl
theorem scText : FnScope ["_law_pieces_here", "_law_charge_here", "_law_texts", "_law_count_here", "_law_atoms"] ["_law_pieces_here", "_law_charge_here"] (defScope sText) := ⟨rfl, rfl, rfl, by decide +kernel, rfl, by decide +kernel, by decide +kernel⟩
theorem ok_text (D : Def K mg "_law_text" "_law_text" sText ["_law_pieces_here", "_law_charge_here"]) (T : Txt K mg C Pc Fo uD uC uP uM uE) (c1 : CalE P w K mg base 1 "_law_figures" ["_law_count_here"] spFigs) : CalE P w K mg base 2 "_law_text" ["_law_pieces_here", "_law_charge_here"] spText := by
  obtain ⟨_, _, c_l_figures⟩ := c1
  refine D.cal scText (fun vs H Q E h => ?_) (fun f cdv A outer s H vs Q E hr h => ?_)
  · obtain ⟨l, ts, xs, n, rfl, _⟩ := h
    rfl
  · obtain ⟨l, ts, xs, n, rfl, hl, hT, ⟨ok, h4, n1, n2⟩, q⟩ := h
    have hu := hu_of hr
    have big : (2000 : Nat) < sizeLine := by decide
    refine ⟨_, (pss_cons
          (ps_if (pt_cmpR (op_eqE hu) (pv 0) (pe_lst pa_nil) (nomark _))
            (pss_one
              (ps_ret pe_str))
            pss_nil)
        (pss_cons
          (ps_set (i := 2) scText.nd rfl (Or.inl rfl) (pe_lst pa_nil))
        (pss_cons
          (ps_for PassesOwn.never rfl (pi_list (pv 0)) (pg_tup rfl (pgs_cons (pg_name (i := 3) scText.nd rfl (Or.inl rfl)) (pgs_cons (pg_name (i := 4) scText.nd rfl (Or.inl rfl)) pgs_nil)))
            (pss_one
              (ps_expr (pe_bm PySem.F.plainAttrs_list PySem.F.slot_list_append PySem.F.type_list_append mt_append (pv 2) (pa_cons (pe_op op_add_str (pe_call c_l_figures.ok (hr.mono (by decide)) rfl c_l_figures.g c_l_figures.kp c_l_figures.b .nil pass0 (pa_cons (pv 3) pa_nil)) (pe_bm PySem.F.plainAttrs_str PySem.F.slot_str_join PySem.F.type_str_join mt_join pe_str (pa_cons (pe_comp (sc := (defScope sText)) (NX := ["_law_pieces_here", "_law_charge_here", "_law_texts", "_law_count_here", "_law_atoms"]) (N := ["_law_kind_here", "_law_many"]) (fr := [none, none]) ⟨by rfl, by rfl, by decide +kernel, by decide +kernel, by decide +kernel, by rfl, by decide +kernel⟩ rfl rfl rfl (pi_list (pv 4)) (fun _ _ _ _ => (pg_tupK K 2 rfl rfl (pgs_cons (pg_name (i := 0) (show (["_law_kind_here", "_law_many"] : List Str).Nodup by decide +kernel) rfl (Or.inl rfl) (Or.inr rfl)) (pgs_cons (pg_name (i := 1) (show (["_law_kind_here", "_law_many"] : List Str).Nodup by decide +kernel) rfl (Or.inl rfl) (Or.inr rfl)) pgs_nil)))) (fun _ _ _ _ => pts_nil) (fun _ _ _ _ => (pe_op op_add_str (pv 0) (pe_call c_l_figures.ok (hr.mono (by decide)) rfl c_l_figures.g c_l_figures.kp c_l_figures.b .nil pass0 (pa_cons (pv 1) pa_nil))))) pa_nil))) pa_nil)))))
        (pss_cons
          (ps_if (pt_cmpR op_eq (pv 1) pe_int (nomark _))
            (pss_one
              (ps_ret (pe_bm PySem.F.plainAttrs_str PySem.F.slot_str_join PySem.F.type_str_join mt_join pe_str (pa_cons (pv 2) pa_nil))))
            pss_nil)
        (pss_one
          (ps_ret (pe_op op_add_str (pe_op op_add_str (pe_op op_add_str (pe_bm PySem.F.plainAttrs_str PySem.F.slot_str_join PySem.F.type_str_join mt_join pe_str (pa_cons (pv 2) pa_nil)) pe_str) (pe_call c_l_figures.ok (hr.mono (by decide)) rfl c_l_figures.g c_l_figures.kp c_l_figures.b .nil pass0 (pa_cons (pe_callB call_abs rfl T.n_abs bt_abs (pa_cons (pv 1) pa_nil)) pa_nil))) (pe_ix ix_list (pe_lst (pa_cons pe_str (pa_cons pe_str pa_nil))) (pe_callTy call_int1 rfl T.n_int bt_int (pa_cons (pe_cmpR op_gt (pv 1) pe_int (nomark _)) pa_nil)) (fun _ _ => rfl))))))))), ?_⟩
    refine ⟨_, rfl, (by show 0 ≤ sizeLine; decide), fun e he => ?_⟩
    have s1 : Same H (upd H e (.lst [])) := Same.new he
    refine ⟨l, e, _, rfl, rfl, SqL.of (s1 _ _ hl), SqL.of upd_same, _, rfl, ?_⟩
    have lt := hT.len
    unfold ftx at q
    by_cases hx : xs = []
    · subst hx
      have ht : ts = [] := by cases ts with
        | nil => rfl
        | cons _ _ => simp at lt
      subst ht
      exact iteT (q _ s1)
    have hxe : xs.isEmpty = false := by cases xs with
      | nil => exact absurd rfl hx
      | cons _ _ => rfl
    rw [hxe] at q
    have e0 : (ts.map V.ref).isEmpty = false := by
      cases ts with
      | nil => rw [List.length_nil] at lt; exact absurd (List.length_eq_zero_iff.mp lt.symm) hx
      | cons _ _ => rfl
    rw [e0]
    refine iteF ?_
    refine ⟨(by show 0 ≤ sizeLine; decide), fun u hnu => ?_⟩
    have s2 := s1.trans (Same.new (o := .lst []) hnu)
    refine ⟨_, rfl, l, rfl, ⟨_, SqL.of (s2 _ _ hl)⟩, for_list (K := K) (a := l) (xs := ts.map V.ref) (fun i σ H' => ∃ v3 v4 : Option V, σ = [some (.ref l), some (.int n), some (.ref u), v3, v4] ∧ Same H H' ∧ H' u = some (.lst ((xs.take i).map fun x => V.str (ptx x)))) ?_ (fun i σ H' _ ⟨_, _, _, e, _⟩ => SqL.of (e _ _ hl)) ?_ ?_⟩
    · exact ⟨none, none, rfl, s2, upd_same⟩
    · rintro i v σ H' hi ⟨v3, v4, rfl, e', hu'⟩
      obtain ⟨t, x, rfl, hx, ⟨m, us, h1, h2, hP⟩⟩ := (hT.same e').get hi
      obtain ⟨⟨o1, o2, o3, o4⟩, o5⟩ := ok x (List.mem_of_getElem? hx)
      refine ⟨t, _, rfl, SqT.of h1, rfl, _, _, rfl, _, _, rfl, rfl, ?_⟩
      refine ⟨_, rfl, .inl ⟨rfl, _, SqL.of hu'⟩, _, rfl, x.1, rfl, o3, o4, rfl, _, rfl, m, rfl, ⟨_, SqL.of h2⟩, fun D hD => comp_list (K := K) (a := m) (D := D) (xs := us.map V.ref) (fun i σ H'' => ∃ v u : Option V, σ = [v, u] ∧ Same H' H'' ∧ H'' D = some (.lst ((x.2.take i).map fun a => V.str (atx a))))
        ?_ (fun i σ H'' _ ⟨_, _, _, e, _⟩ => SqL.of (e _ _ h2)) ?_ ?_⟩
      · exact ⟨none, none, rfl, Same.new hD, upd_same⟩
      · rintro j v σ H'' hj ⟨v5, v6, rfl, e'', hD'⟩ N hN
        obtain ⟨p, a, rfl, ha, hp⟩ := (hP.same e'').get hj
        obtain ⟨b1, b2, b3⟩ := o1 a (List.mem_of_getElem? ha)
        have := figs_len b2 b3
        refine ⟨p, _, rfl, SqT.of hp, rfl, _, _, rfl, _, _, rfl, rfl, ?_⟩
        refine ⟨_, rfl, _, rfl, a.2, rfl, b2, b3, _, _, rfl, rfl, by omega, _, hD', ?_, hN _ _ ⟨_, _, rfl, fun b o z => ?_, ?_⟩⟩
        · rw [List.length_map]
          exact Nat.lt_of_le_of_lt (Nat.le_trans (List.length_take_le' _ _) o2) (by omega)
        · rw [upd_ne (ne_of_none z hD)]
          exact e'' _ _ z
        · rw [upd_same, take_snoc ha, List.map_append]
          rfl
      · rintro σ H'' ⟨v5, v6, rfl, e'', hD'⟩
        rw [List.length_map, hP.len, List.take_length] at hD'
        have b6 : ∀ y ∈ x.2.map atx, y.length ≤ 6 := fun y hy => by
          obtain ⟨a, ha, rfl⟩ := List.mem_map.mp hy
          exact atx_len (o1 a ha)
        have z1 := jn_at_len o1
        have z2 := figs_len o3 o4
        refine ⟨_, D, x.2.map atx, rfl, rfl, SqL.of (by rw [hD', List.map_map]; rfl), ?_, ?_⟩
        · have := sum_len b6
          rw [List.length_map] at this ⊢
          have e0 : ("" : Str).length = 0 := by decide +kernel
          rw [e0]
          omega
        · rw [join_eq]
          refine ⟨_, _, rfl, rfl, by omega, u, _, _, rfl, rfl, e'' _ _ hu', ?_, _, _, rfl, fun b o z => ?_, ?_⟩
          · rw [List.length_map]
            have : (xs.take i).length ≤ xs.length := List.length_take_le' _ _
            omega
          · rw [upd_ne (ne_of_none (s1 _ _ z) hnu)]
            exact e'' _ _ (e' _ _ z)
          · rw [upd_same, take_snoc hx, List.map_append]
            rfl
    · rintro σ H' ⟨v3, v4, rfl, e', hu'⟩
      rw [List.length_map, hT.len, List.take_length] at hu'
      have b21 : ∀ y ∈ xs.map ptx, y.length ≤ 21 := fun y hy => by
        obtain ⟨x, hx, rfl⟩ := List.mem_map.mp hy
        exact ptx_len (ok x hx)
      have zd := dots_len ok h4
      have hS : SqL K H' u ((xs.map ptx).map V.str) := SqL.of (by rw [hu', List.map_map]; rfl)
      have zl : ((xs.map ptx).map (·.length)).sum + (xs.map ptx).length * ("." : Str).length ≤ 16777216 := by
        have := sum_len b21
        rw [List.length_map] at this ⊢
        have e0 : ("." : Str).length = 1 := by decide +kernel
        rw [e0]
        omega
      refine ⟨_, rfl, rfl, _, rfl, ite2 (fun e => ?_) fun e => ?_⟩
      · have e : n = 0 := by simpa using e
        subst e
        refine ⟨rfl, _, rfl, _, u, xs.map ptx, rfl, rfl, hS, zl, ?_⟩
        have := q _ e'
        rw [show ctx 0 = ("" : Str) from rfl] at this
        rw [← str_nil (Txt.join _ _)]
        exact this
      · have e : ¬ n = 0 := by simpa using e
        obtain ⟨a1, a2⟩ := ab_in n1 n2 e
        have z := figs_len a1 a2
        have e1 : ("^" : Str).length = 1 := by decide +kernel
        refine ⟨rfl, _, rfl, _, u, xs.map ptx, rfl, rfl, hS, zl, _, _, rfl, rfl, by rw [e1]; omega, _, rfl, n, rfl, ab n, rfl, a1, a2, _, _, rfl, rfl, ?_, (by show 2 ≤ sizeLine; decide), fun y hy => ⟨_, rfl, _, _, rfl, rfl, .inr ⟨_, rfl, y, _, _, V.str (sgn n), rfl, rfl, SqL.of upd_same, sgn_at n, _, _, rfl, rfl, ?_, ?_⟩⟩⟩
        · rw [str_app_len, e1]
          omega
        · rw [str_app_len, str_app_len, e1, sgn_len]
          omega
        · have := q _ (e'.trans (Same.new (o := .lst [V.str "-", V.str "+"]) hy))
          unfold ctx at this
          rw [if_neg e] at this
          rw [str_assoc, str_assoc]
          rw [str_assoc] at this
          exact this
theorem scCountsL : FnScope ["_law_pieces_here", "_law_found", "_law_count_here", "_law_atoms", "_law_kind_here", "_law_many"] ["_law_pieces_here"] (defScope sCountsL) := ⟨rfl, rfl, rfl, by decide +kernel, rfl, by decide +kernel, by decide +kernel⟩
theorem ok_countsL (D : Def K mg "_law_counts" "_law_counts" sCountsL ["_law_pieces_here"]) : CalE P w K mg base 1 "_law_counts" ["_law_pieces_here"] spCountsL := by
  refine D.cal scCountsL (fun vs H Q E h => ?_) (fun f cdv A outer s H vs Q E hr h => ?_)
  · obtain ⟨l, ts, xs, rfl, _⟩ := h
    rfl
  · obtain ⟨l, ts, xs, rfl, hl, hT, ok, h4, q⟩ := h
    have hu := hu_of hr
    refine ⟨_, (pss_cons
          (ps_set (i := 1) scCountsL.nd rfl (Or.inl rfl) pe_dnewK)
        (pss_cons
          (ps_for PassesOwn.never rfl (pi_list (pv 0)) (pg_tup rfl (pgs_cons (pg_name (i := 2) scCountsL.nd rfl (Or.inl rfl)) (pgs_cons (pg_name (i := 3) scCountsL.nd rfl (Or.inl rfl)) pgs_nil)))
            (pss_one
              (ps_for PassesOwn.never rfl (pi_list (pv 3)) (pg_tup rfl (pgs_cons (pg_name (i := 4) scCountsL.nd rfl (Or.inl rfl)) (pgs_cons (pg_name (i := 5) scCountsL.nd rfl (Or.inl rfl)) pgs_nil)))
                (pss_one
                  (ps_dput hu (pv 1) (pv 4) (pe_op op_add (pe_dget2 hu (pv 1) (pv 4) pe_int ⟨rfl, rfl, rfl, rfl⟩) (pe_op op_mul (pv 2) (pv 5))) rfl)))))
        (pss_one
          (ps_ret (pv 1))))), ?_⟩
    intro d hd
    refine ⟨_, rfl, l, rfl, ⟨_, SqL.of (Same.new hd _ _ hl)⟩, for_list (K := K) (a := l) (xs := ts.map V.ref) (fun i σ H' => ∃ v2 v3 v4 v5 : Option V, σ = [some (.ref l), some (.ref d), v2, v3, v4, v5] ∧ Same H H' ∧ H' d = some (.dK (cnts (xs.take i)))) ?_ (fun i σ H' _ ⟨_, _, _, _, _, e, _⟩ => SqL.of (e _ _ hl)) ?_ ?_⟩
    · exact ⟨none, none, none, none, rfl, Same.new hd, upd_same⟩
    · rintro i v σ H' hi ⟨v2, v3, v4, v5, rfl, e, hd'⟩
      obtain ⟨t, x, rfl, hx, ⟨m, us, h1, h2, hP⟩⟩ := hT.get hi
      obtain ⟨⟨o1, o2, o3, o4⟩, o5⟩ := ok x (List.mem_of_getElem? hx)
      refine ⟨t, _, rfl, SqT.of (e _ _ h1), rfl, _, _, rfl, _, _, rfl, rfl, ?_⟩
      have l0 := cnts_len (xs := xs.take i) (fun y hy => ok y (List.mem_of_mem_take hy)) (Nat.le_trans (List.length_take_le' _ _) h4)
      refine ⟨_, rfl, m, rfl, ⟨_, SqL.of (e _ _ h2)⟩, for_list (K := K) (a := m) (xs := us.map V.ref) (fun j σ H'' => ∃ v4 v5 : Option V, σ = [some (.ref l), some (.ref d), some (.int x.1), some (.ref m), v4, v5] ∧ Same H H'' ∧ H'' d = some (.dK (cntF x.1 (cnts (xs.take i)) (x.2.take j)))) ?_ (fun i σ H'' _ ⟨_, _, _, e, _⟩ => SqL.of (e _ _ h2)) ?_ ?_⟩
      · exact ⟨_, _, rfl, e, hd'⟩
      · rintro j v σ H'' hj ⟨v4, v5, rfl, e'', hd''⟩
        obtain ⟨p, a, rfl, ha, hp⟩ := hP.get hj
        have hIi : IntD (cntF x.1 (cnts (xs.take i)) (x.2.take j)) := cnt_int x.1 _ _ (cnts_int _)
        have hli := cnt_len x.1 (x.2.take j) (cnts (xs.take i))
        have hti : (x.2.take j).length ≤ x.2.length := List.length_take_le' _ _
        refine ⟨p, _, rfl, SqT.of (e'' _ _ hp), rfl, _, _, rfl, _, _, rfl, rfl, ?_⟩
        refine ⟨_, rfl, d, rfl, .inl ⟨_, .inl hd''⟩, _, rfl, _, DGet.k (k := Sum.inr a.1) hd'', _, rfl, _, rfl, _, _, rfl, rfl, .inl ⟨by omega, by omega⟩, _, _, hIi.at _, rfl, _, rfl, _, rfl, d, _, rfl, DPut.k (k := Sum.inr a.1) hd'' (small1000 (by omega)), ?_⟩
        refine ⟨_, _, rfl, fun b o z => ?_, ?_⟩
        · rw [upd_ne (ne_of_none z hd)]
          exact e'' _ _ z
        · rw [upd_same, cnt_snoc x.1 _ ha, Int.mul_comm a.2 x.1]
          rfl
      · rintro σ H'' ⟨v4, v5, rfl, e'', hd''⟩
        rw [List.length_map, hP.len, List.take_length] at hd''
        exact ⟨_, _, _, _, rfl, e'', by rw [hd'', cnts_snoc hx]⟩
    · rintro σ H' ⟨v2, v3, v4, v5, rfl, e, hd'⟩
      rw [List.length_map, hT.len, List.take_length] at hd'
      exact ⟨_, rfl, q d H' hd hd' e⟩
theorem scCounted : FnScope ["_law_formula", "_law_due", "_law_found", "_law_kind_here"] ["_law_formula", "_law_due"] (defScope sCounted) := ⟨rfl, rfl, rfl, by decide +kernel, rfl, by decide +kernel, by decide +kernel⟩
theorem ok_counted (D : Def K mg "_law_counted" "_law_counted" sCounted ["_law_formula", "_law_due"]) (T : Txt K mg C Pc Fo uD uC uP uM uE) (c1 : CalE P w K mg base 1 "_law_whole" ["_law_found"] spWhole) (c2 : CalME P w K mg base 5 Fo "counts" ["self"] (spFCounts C Pc Fo)) :
    CalE P w K mg base 6 "_law_counted" ["_law_formula", "_law_due"] (spCounted C Pc Fo) := by
  obtain ⟨_, _, c_l_whole⟩ := c1
  obtain ⟨_, _, c_Formula_counts⟩ := c2
  refine D.cal scCounted (fun vs H Q E h => ?_) (fun f cdv A outer s H vs Q E hr h => ?_)
  · obtain ⟨p, u, xs, n, rfl, _⟩ := h
    rfl
  · obtain ⟨p, u, xs, n, rfl, hF, okf, hdu, q⟩ := h
    have hu := hu_of hr
    have hI := cnts_int xs
    have hl := cnts_len okf.1 okf.2.1
    obtain ⟨dx, l, ps, hf, _⟩ := id hF
    refine ⟨_, (pss_cons
          (ps_set (i := 2) scCounted.nd rfl (Or.inl rfl) (pe_meth0 (pv 0) T.c_Formula c_Formula_counts.m c_Formula_counts.ok (hr.mono (by decide)) c_Formula_counts.b .nil pass0))
        (pss_cons
          (ps_if (PW.pt (pw_or (pt_not (pt_val (pe_callB call_isinst rfl T.n_isinstance bt_isinstance (pa_cons (pv 2) (pa_cons (pe_bltn (v := .ty "dict") rfl T.n_dict bt_dict rfl) pa_nil))))) (pw_or1 (pt_cmpR op_ne (pe_callB call_lenDR rfl T.n_len bt_len (pa_cons (pv 2) pa_nil)) (pe_callB call_lenDR rfl T.n_len bt_len (pa_cons (pv 1) pa_nil)) (nomark _)))))
            (pss_one
              (ps_ret pe_bl))
            pss_nil)
        (pss_cons
          (ps_thaw (ps_for PassesOwn.never rfl (pi_dict (pv 1)) (pg_name (i := 3) scCounted.nd rfl (Or.inl rfl))
            (pss_one
              (ps_if (PW.pt (pw_or (pt_cmp (pc_dnotin hu (pv 3) (pv 2))) (pw_or (pt_not (pt_val (pe_call c_l_whole.ok (hr.mono (by decide)) rfl c_l_whole.g c_l_whole.kp c_l_whole.b .nil pass0 (pa_cons (pe_dget hu (pv 2) (pv 3) (fun _ _ => rfl)) pa_nil)))) (pw_or1 (pt_cmpR op_ne (pe_dget hu (pv 2) (pv 3) (fun _ _ => rfl)) (pe_dget hu (pv 1) (pv 3) (fun _ _ => rfl)) (nomark _))))))
                (pss_one
                  (ps_ret pe_bl))
                pss_nil))))
        (pss_cons
          (ps_dput hu (pv 2) pe_str pe_int rfl)
        (pss_one
          (ps_ret pe_bl)))))), ?_⟩
    refine ⟨_, rfl, p, dx, _, rfl, hf, fflds_no _ _ (by decide +kernel) (by decide +kernel), p, xs, n, rfl, hF, okf, fun d H1 nd hd e1 => ?_⟩
    have hu1 := e1 _ _ hdu
    have nud : u ≠ d := ne_of_none hdu nd
    generalize cnts xs = kvs at *
    refine ⟨_, rfl, _, _, _, _, _, rfl, rfl, .dK hd, T.k3, _, rfl, iteF ⟨_, rfl, d, _, rfl, .inl hd, _, rfl, u, _, rfl, .inl hu1, rfl, _, rfl, iteNS rfl ?_⟩⟩
    refine ⟨_, rfl, u, kvs, rfl, hu1, fun o nf => for_dict nf (fun i σ H' => ∃ v : Option V, σ = [some (.ref p), some (.ref u), some (.ref d), v] ∧ H' = H1) ?_ (fun i σ H' ⟨_, _, e⟩ => by rw [e]; exact hu1) ?_ ?_⟩
    · exact ⟨none, rfl, rfl⟩
    · rintro i k v σ H' hi ⟨v', rfl, rfl⟩
      have hv := hI.val_mem (List.mem_of_getElem? hi)
      have hd' : (upd H' u (.frz o (.dK kvs))) d = some (.dK kvs) := by rw [upd_ne (Ne.symm nud)]; exact hd
      have dg : DGet (upd H' u (.frz o (.dK kvs))) d (kV k) (some (.int (zAt kvs k))) := .inl ⟨_, k, .inl hd', rfl, hv.symm⟩
      have du : DGet (upd H' u (.frz o (.dK kvs))) u (kV k) (some (.int (zAt kvs k))) := .inl ⟨_, k, .inr ⟨o, upd_same⟩, rfl, hv.symm⟩
      refine ⟨_, rfl, _, rfl, d, _, rfl, dg, _, rfl, iteF ?_⟩
      refine ⟨_, rfl, _, rfl, d, _, rfl, dg, _, rfl, _, rfl, iteF ?_⟩
      refine ⟨_, rfl, _, rfl, d, _, rfl, dg, _, rfl, _, rfl, u, _, rfl, du, rfl, _, rfl, iteNS rfl ?_⟩
      exact ⟨upd_same, _, rfl, by rw [upd_upd, upd_back hu1]⟩
    · rintro σ H' ⟨v, rfl, rfl⟩
      refine ⟨_, rfl, d, _, rfl, DPut.k (k := Sum.inr "+") hd (small1000 (by omega)), ?_⟩
      refine q _ fun b o' z => ?_
      rw [upd_ne (ne_of_none z nd)]
      exact e1 _ _ z
theorem scWeights : FnScope ["_law_script", "_law_due", "_law_weights_here", "_law_k", "_law_kind_here", "_law_cell"] ["_law_script", "_law_due"] (defScope sWeights) := ⟨rfl, rfl, rfl, by decide +kernel, rfl, by decide +kernel, by decide +kernel⟩
theorem ok_weights (D : Def K mg "_law_weights" "_law_weights" sWeights ["_law_script", "_law_due"]) (T : Txt K mg C Pc Fo uD uC uP uM uE) (c1 : CalE P w K mg base 1 "_law_cell_at" ["_law_script", "_law_k"] (spCellAt K)) : CalE P w K mg base 2 "_law_weights" ["_law_script", "_law_due"] (spWeights K) := by
  obtain ⟨_, _, c_l_cell_at⟩ := c1
  refine D.cal scWeights (fun vs H Q E h => ?_) (fun f cdv A outer s H vs Q E hr h => ?_)
  · obtain ⟨a, u, ns, kvs, ks, rfl, _⟩ := h
    rfl
  · obtain ⟨a, u, ns, kvs, ks, rfl, hS, hlen, hdu, hks, hk12, q⟩ := h
    have hu := hu_of hr
    have lks : ks.length ≤ 12 := by
      have := congrArg List.length hks
      rw [List.length_map, List.length_map] at this
      omega
    refine ⟨_, (pss_cons
          (ps_set (i := 2) scWeights.nd rfl (Or.inl rfl) pe_dnewK)
        (pss_cons
          (ps_for PassesOwn.never rfl (pi_enum rfl T.n_enumerate (pa_cons (pe_callB (call_sortedD rfl) rfl T.n_sorted bt_sorted (pa_cons (pv 1) pa_nil)) pa_nil)) (pg_tup rfl (pgs_cons (pg_name (i := 3) scWeights.nd rfl (Or.inl rfl)) (pgs_cons (pg_name (i := 4) scWeights.nd rfl (Or.inl rfl)) pgs_nil)))
            (pss_cons
              (ps_set (i := 5) scWeights.nd rfl (Or.inl rfl) (pe_call c_l_cell_at.ok (hr.mono (by decide)) rfl c_l_cell_at.g c_l_cell_at.kp c_l_cell_at.b .nil pass0 (pa_cons (pv 0) (pa_cons (pe_op op_add pe_int (pv 3)) pa_nil))))
            (pss_one
              (ps_if (pt_cmpR op_ne (pe_op op_mod (pv 5) pe_int) pe_int (nomark _))
                (pss_one
                  (ps_dput hu (pv 2) (pv 4) (pe_op op_sub (pe_op op_mod (pe_op op_fdiv (pv 5) pe_int) (pe_op op_mul pe_int (pe_op op_pow pe_int pe_int))) (pe_op op_pow pe_int pe_int)) rfl))
                pss_nil))))
        (pss_cons
          (ps_if (pt_cmpR op_ne (pe_op op_mod (pe_call c_l_cell_at.ok (hr.mono (by decide)) rfl c_l_cell_at.g c_l_cell_at.kp c_l_cell_at.b .nil pass0 (pa_cons (pv 0) (pa_cons pe_int pa_nil))) pe_int) pe_int (nomark _))
            (pss_one
              (ps_dput hu (pv 2) pe_str (pe_op op_sub (pe_op op_mod (pe_op op_fdiv (pe_call c_l_cell_at.ok (hr.mono (by decide)) rfl c_l_cell_at.g c_l_cell_at.kp c_l_cell_at.b .nil pass0 (pa_cons (pv 0) (pa_cons pe_int pa_nil))) pe_int) (pe_op op_mul pe_int (pe_op op_pow pe_int pe_int))) (pe_op op_pow pe_int pe_int)) rfl))
            pss_nil)
        (pss_one
          (ps_ret (pv 2)))))), ?_⟩
    intro d hd
    have s1 : Same H (upd H d (.dK [])) := Same.new hd
    have P2 : (0 : Int) < 2 * 10 ^ (Int.toNat 30) := by decide
    refine ⟨_, rfl, u, kvs, ks, rfl, .inl (s1 _ _ hdu), hks, by omega, fun l ms hp hl => ?_⟩
    have lms : ms.length ≤ 12 := by rw [hp.length_eq]; exact lks
    have hl0 : H l = none := none_back s1 hl
    have hdl : d ≠ l := ne_of_none upd_same hl
    refine ⟨l, rfl, ⟨_, SqL.of upd_same⟩, for_enum (K := K) (a := l) (xs := ms.map V.str) (fun i σ H' => ∃ (kw : List (Key × V)) (v3 v4 v5 : Option V), σ = [some (.ref a), some (.ref u), some (.ref d), v3, v4, v5] ∧ Same H H' ∧ H' l = some (.lst (ms.map V.str)) ∧ H' d = some (.dK kw) ∧ IntD kw ∧ kw.length ≤ i)
      ⟨[], none, none, none, rfl, s1.trans (Same.new hl), upd_same, by rw [upd_ne hdl]; exact upd_same, (fun p hp => by cases hp), Nat.le_refl _⟩ (fun i σ H' ⟨_, _, _, _, _, _, h2, _⟩ => SqL.of h2) ?_ ?_⟩
    · rintro i x p σ H' hi hp' ⟨kw, v3, v4, v5, rfl, e, hl', hd', hI, hk⟩
      obtain ⟨k, rfl⟩ : ∃ k : Str, x = V.str k := by
        rw [List.getElem?_map] at hi
        cases hm : ms[i]? with
        | none => rw [hm] at hi; cases hi
        | some k => rw [hm] at hi; exact ⟨k, (Option.some.inj hi).symm⟩
      have hil : i < 12 := by
        have := (List.getElem?_eq_some_iff.mp hi).1
        rw [List.length_map] at this
        omega
      have sp : Same H' (upd H' p (.tup [.int i, .str k])) := Same.new hp'
      have ix : (20 : Int) + (i : Int) = ((20 + i : Nat) : Int) := by omega
      refine ⟨p, _, rfl, SqT.of upd_same, rfl, _, _, rfl, _, _, rfl, rfl, ?_⟩
      refine ⟨_, rfl, _, rfl, _, _, rfl, rfl, a, ns, 20 + i, congrArg (fun z => [V.ref a, V.int z]) ix, (e.trans sp).seq hS, hlen, fun cell => ?_⟩
      refine ⟨_, rfl, _, _, rfl, rfl, (by show (0 : Int) < 4; decide), rfl, _, rfl, ite2 (fun _ => ?_) fun _ => ?_⟩
      · refine ⟨_, rfl, _, _, rfl, rfl, ⟨by decide, by decide⟩, _, _, rfl, rfl, ⟨by decide, by decide, by decide⟩, _, _, rfl, rfl, .inl ⟨by decide, by decide⟩, _, _, rfl, rfl, P2, _, _, rfl, rfl, ⟨by decide, by decide, by decide⟩, _, _, rfl, rfl, _, rfl, _, rfl, d, _, rfl, DPut.k (k := Sum.inr k) (sp _ _ hd') (small1000 (by omega)), ?_⟩
        refine ⟨_, _, _, _, rfl, fun b o z => ?_, ?_, upd_same, hI.put _ _, Nat.le_trans (length_putK _ _ _) (by omega)⟩
        · rw [upd_ne (ne_of_none z hd)]
          exact sp _ _ (e _ _ z)
        · rw [upd_ne (Ne.symm hdl)]
          exact sp _ _ hl'
      · exact ⟨kw, _, _, _, rfl, e.trans sp, sp _ _ hl', sp _ _ hd', hI, by omega⟩
    · rintro σ H' ⟨kw, v3, v4, v5, rfl, e, hl', hd', hI, hk⟩
      rw [List.length_map] at hk
      refine ⟨_, rfl, a, ns, 2, rfl, e.seq hS, hlen, fun n2 => ⟨_, _, rfl, rfl, (by show (0 : Int) < 4; decide), rfl, _, rfl, ite2 (fun _ => ?_) fun _ => ?_⟩⟩
      · refine ⟨_, rfl, a, ns, 2, rfl, e.seq hS, hlen, fun n3 => ⟨_, _, rfl, rfl, ⟨by decide, by decide⟩, _, _, rfl, rfl, ⟨by decide, by decide, by decide⟩, _, _, rfl, rfl, .inl ⟨by decide, by decide⟩, _, _, rfl, rfl, P2, _, _, rfl, rfl, ⟨by decide, by decide, by decide⟩, _, _, rfl, rfl, _, rfl, d, _, rfl, DPut.k (k := Sum.inr "+") hd' (small1000 (by omega)), ?_⟩⟩
        refine ⟨_, rfl, q d _ _ hd upd_same (hI.put _ _) (Nat.le_trans (length_putK _ _ _) (by omega)) fun b o z => ?_⟩
        rw [upd_ne (ne_of_none z hd)]
        exact e _ _ z
      · exact ⟨_, rfl, q d kw _ hd hd' hI (by omega) e⟩
/-- pieces, none of whose lists is at D -/
def PiecesN (D C Pc : Addr) (H : Hp) (ps : List Addr) (xs : List Pi) : Prop := Paired (fun p (x : Pi) => ∃ dx m qs, m ≠ D ∧ H p = some (.ins Pc dx (gflds m x.1)) ∧ H m = some (.lst (qs.map V.ref)) ∧ AtomsAt C H qs x.2) ps xs
theorem PiecesN.all {D C Pc : Addr} {H : Hp} : ∀ {ps : List Addr} {xs : List Pi}, PiecesN D C Pc H ps xs → PiecesAt C Pc H ps xs
  | _, _, .nil => .nil
  | _, _, .cons ⟨dx, m, qs, _, h1, h2, h3⟩ t => .cons ⟨dx, m, qs, h1, h2, h3⟩ (PiecesN.all t)
theorem PiecesN.but {D C Pc : Addr} {H H' : Hp} {ys : List V} (hD : H D = some (.lst ys)) (e : ∀ b o, H b = some o → b ≠ D → H' b = some o) : ∀ {ps : List Addr} {xs : List Pi}, PiecesN D C Pc H ps xs → PiecesN D C Pc H' ps xs
  | _, _, .nil => .nil
  | _, _, .cons ⟨dx, m, qs, n, h1, h2, h3⟩ t => .cons ⟨dx, m, qs, n, e _ _ h1 (fun z => by rw [z, hD] at h1; cases h1), e _ _ h2 n, AtomsAt.but hD e h3⟩ (PiecesN.but hD e t)
theorem PiecesN.len {D C Pc : Addr} {H : Hp} {ps : List Addr} {xs : List Pi} (h : PiecesN D C Pc H ps xs) : ps.length = xs.length := Paired.length h
theorem PiecesN.snoc {D C Pc : Addr} {H : Hp} {p : Addr} {x : Pi} (hp : ∃ dx m qs, m ≠ D ∧ H p = some (.ins Pc dx (gflds m x.1)) ∧ H m = some (.lst (qs.map V.ref)) ∧ AtomsAt C H qs x.2) : ∀ {ps : List Addr} {xs : List Pi}, PiecesN D C Pc H ps xs → PiecesN D C Pc H (ps ++ [p]) (xs ++ [x])
  | _, _, .nil => .cons hp .nil
  | _, _, .cons h t => .cons h (PiecesN.snoc hp t)
theorem AtomsAt.snoc {C : Addr} {H : Hp} {p : Addr} {a : At} (hp : AtomAt C H p a.1 a.2) : ∀ {ps : List Addr} {as : List At}, AtomsAt C H ps as → AtomsAt C H (ps ++ [p]) (as ++ [a])
  | _, _, .nil => .cons hp .nil
  | _, _, .cons h t => .cons h (AtomsAt.snoc hp t)
def spLaw (K : PySem.W.Frag) : Sp := fun vs H Q _ => ∃ (a : Addr) (ns : List Int), vs = [.ref a] ∧ SqL K H a (ns.map V.int) ∧ ns.length ≤ 63 ∧ ∀ H', Q (.bl true) H'
theorem scLaw : FnScope ["_law_script", "_law_pieces_here", "_law_charge_here", "_law_handed", "_law_formula", "_law_due", "_law_weights_here", "_law_weight", "_law_k", "_law_text_here", "_law_given", "_law_found"] ["_law_script"] (defScope sLaw) := ⟨rfl, rfl, rfl, by decide +kernel, rfl, by decide +kernel, by decide +kernel⟩
theorem ok_law {f : Addr} {fd : FuncData} (F : Fun K "law" "law" sLaw f fd) (T : Txt K mg C Pc Fo uD uC uP uM uE) (cI : CalIE P w K mg base 1 C ["self", "kind", "count"] [1] (spInit C)) (cP : CalIE P w K mg base 1 Pc ["self", "parts", "count"] [1] (spGInit Pc)) (cF : CalIE P w K mg base 1 Fo ["self", "pieces", "charge"] [0] (spFInit Fo))
    (c1 : CalE P w K mg base 1 "_law_cell_at" ["_law_script", "_law_k"] (spCellAt K)) (c2 : CalE P w K mg base 2 "_law_pieces" ["_law_script"] (spPieces K)) (c3 : CalE P w K mg base 1 "_law_charge" ["_law_cell"] spCharge) (c4 : CalE P w K mg base 1 "_law_counts" ["_law_pieces_here"] spCountsL)
    (c5 : CalE P w K mg base 2 "_law_weights" ["_law_script", "_law_due"] (spWeights K)) (c6 : CalME P w K mg base 5 Fo "shown" ["self"] (spFShown C Pc Fo)) (c7 : CalE P w K mg base 2 "_law_text" ["_law_pieces_here", "_law_charge_here"] spText) (c8 : CalE P w K mg base 6 "_law_counted" ["_law_formula", "_law_due"] (spCounted C Pc Fo))
    (c9 : CalME P w K mg base 6 Fo "weight" ["self", "weights"] (spFWeight C Pc Fo)) (c10 : CalE P w K mg base 1 "_law_whole" ["_law_found"] spWhole) :
    FnOk P w K mg base CX0 8 f fd ["_law_script"] (spLaw K) := by
  obtain ⟨_, _, c_Atom⟩ := cI
  obtain ⟨_, _, c_Piece⟩ := cP
  obtain ⟨_, _, c_Formula⟩ := cF
  obtain ⟨_, _, c_l_cell_at⟩ := c1
  obtain ⟨_, _, c_l_pieces⟩ := c2
  obtain ⟨_, _, c_l_charge⟩ := c3
  obtain ⟨_, _, c_l_counts⟩ := c4
  obtain ⟨_, _, c_l_weights⟩ := c5
  obtain ⟨_, _, c_Formula_shown⟩ := c6
  obtain ⟨_, _, c_l_text⟩ := c7
  obtain ⟨_, _, c_l_counted⟩ := c8
  obtain ⟨_, _, c_Formula_weight⟩ := c9
  obtain ⟨_, _, c_l_whole⟩ := c10
  obtain ⟨_, v_Atom_1, b_Atom_1⟩ := c_Atom.b 0 (by decide)
  obtain ⟨_, v_Atom_0, b_Atom_0⟩ := c_Atom.b 1 (by decide)
  obtain ⟨_, v_Piece_0, b_Piece_0⟩ := c_Piece.b 1 (by decide)
  obtain ⟨_, v_Formula_1, b_Formula_1⟩ := c_Formula.b 0 (by decide)
  obtain ⟨_, v_Formula_0, b_Formula_0⟩ := c_Formula.b 1 (by decide)
  refine F.ok scLaw (fun vs H Q E h => ?_) (fun cdv A outer s H vs Q E hr h => ?_)
  · obtain ⟨a, ns, rfl, _⟩ := h
    rfl
  · obtain ⟨a, ns, rfl, hS, hlen, q⟩ := h
    have hu := hu_of hr
    have hu0 := hr.units0
    have hu64 := hr.units
    have big : (2000 : Nat) < sizeLine := by decide
    refine ⟨_, (pss_cons
          (ps_set (i := 1) scLaw.nd rfl (Or.inl rfl) (pe_call c_l_pieces.ok (hr.mono (by decide)) rfl c_l_pieces.g c_l_pieces.kp c_l_pieces.b .nil pass0 (pa_cons (pv 0) pa_nil)))
        (pss_cons
          (ps_set (i := 2) scLaw.nd rfl (Or.inl rfl) (pe_call c_l_charge.ok (hr.mono (by decide)) rfl c_l_charge.g c_l_charge.kp c_l_charge.b .nil pass0 (pa_cons (pe_call c_l_cell_at.ok (hr.mono (by decide)) rfl c_l_cell_at.g c_l_cell_at.kp c_l_cell_at.b .nil pass0 (pa_cons (pv 0) (pa_cons pe_int pa_nil))) pa_nil)))
        (pss_cons
          (ps_if (pt_cmpR op_eq (pe_op op_mod (pe_call c_l_cell_at.ok (hr.mono (by decide)) rfl c_l_cell_at.g c_l_cell_at.kp c_l_cell_at.b .nil pass0 (pa_cons (pv 0) (pa_cons pe_int pa_nil))) pe_int) pe_int (nomark _))
            (pss_cons
              (ps_set (i := 1) scLaw.nd rfl (Or.inl rfl) (pe_lst pa_nil))
            (pss_one
              (ps_set (i := 2) scLaw.nd rfl (Or.inl rfl) (pe_un un_neg pe_int))))
            pss_nil)
        (pss_cons
          (ps_setC (i := 3) scLaw.nd rfl (Or.inl rfl) (sc := (defScope sLaw)) (NX := ["_law_script", "_law_pieces_here", "_law_charge_here", "_law_handed", "_law_formula", "_law_due", "_law_weights_here", "_law_weight", "_law_k", "_law_text_here", "_law_given", "_law_found"]) (N := ["_law_count_here", "_law_atoms"]) (fr := [none, none]) ⟨by rfl, by rfl, by decide +kernel, by decide +kernel, by decide +kernel, by rfl, by decide +kernel⟩ rfl rfl rfl (pi_list (pv 1)) (fun _ _ _ _ => (pg_tupK K 2 rfl rfl (pgs_cons (pg_name (i := 0) (show (["_law_count_here", "_law_atoms"] : List Str).Nodup by decide +kernel) rfl (Or.inl rfl) (Or.inr rfl)) (pgs_cons (pg_name (i := 1) (show (["_law_count_here", "_law_atoms"] : List Str).Nodup by decide +kernel) rfl (Or.inl rfl) (Or.inr rfl)) pgs_nil)))) (fun _ _ _ _ => pts_nil) (fun _ _ _ _ => (pe_make c_Piece.m c_Piece.ok (hr.mono (by decide)) rfl T.g_Piece b_Piece_0 v_Piece_0 pass0 (pa_cons (pe_comp (sc := (relabelS inLaw (defScope sLaw))) (NX := ["_law_count_here", "_law_atoms"]) (N := ["_law_kind_here", "_law_many"]) (fr := [none, none]) ⟨by rfl, by rfl, by decide +kernel, by decide +kernel, by decide +kernel, by rfl, by decide +kernel⟩ rfl rfl rfl (pi_listK K rfl (pv 1)) (fun _ _ _ _ => (pg_tupK K 2 rfl rfl (pgs_cons (pg_name (i := 0) (show (["_law_kind_here", "_law_many"] : List Str).Nodup by decide +kernel) rfl (Or.inl rfl) (Or.inr rfl)) (pgs_cons (pg_name (i := 1) (show (["_law_kind_here", "_law_many"] : List Str).Nodup by decide +kernel) rfl (Or.inl rfl) (Or.inr rfl)) pgs_nil)))) (fun _ _ _ _ => pts_nil) (fun _ _ _ _ => (pe_make c_Atom.m c_Atom.ok (hr.mono (by decide)) rfl T.g_Atom b_Atom_0 v_Atom_0 pass0 (pa_cons (pv 0) (pa_cons (pv 1) pa_nil))))) (pa_cons (pv 0) pa_nil)))))
        (pss_cons
          (ps_set (i := 4) scLaw.nd rfl (Or.inl rfl) (pe_make c_Formula.m c_Formula.ok (hr.mono (by decide)) rfl T.g_Formula b_Formula_0 v_Formula_0 pass0 (pa_cons (pv 3) (pa_cons (pv 2) pa_nil))))
        (pss_cons
          (ps_if (PW.pt (pw_and (pt_cmpR op_eq (pv 2) pe_int (nomark _)) (pw_and1 (pt_cmpR op_eq (pe_op op_mod (pe_op op_fdiv (pe_call c_l_cell_at.ok (hr.mono (by decide)) rfl c_l_cell_at.g c_l_cell_at.kp c_l_cell_at.b .nil pass0 (pa_cons (pv 0) (pa_cons pe_int pa_nil))) pe_int) pe_int) pe_int (nomark _)))))
            (pss_one
              (ps_set (i := 4) scLaw.nd rfl (Or.inl rfl) (pe_make c_Formula.m c_Formula.ok (hr.mono (by decide)) rfl T.g_Formula b_Formula_1 v_Formula_1 pass0 (pa_cons (pv 3) pa_nil))))
            pss_nil)
        (pss_cons
          (ps_set (i := 5) scLaw.nd rfl (Or.inr rfl) (pe_call c_l_counts.ok (hr.mono (by decide)) rfl c_l_counts.g c_l_counts.kp c_l_counts.b .nil pass0 (pa_cons (pv 1) pa_nil)))
        (pss_cons
          (ps_set (i := 6) scLaw.nd rfl (Or.inr rfl) (pe_call c_l_weights.ok (hr.mono (by decide)) rfl c_l_weights.g c_l_weights.kp c_l_weights.b .nil pass0 (pa_cons (pv 0) (pa_cons (pv 5) pa_nil))))
        (pss_cons
          (ps_set (i := 7) scLaw.nd rfl (Or.inl rfl) (pe_op op_add (pe_op op_mul (pv 2) (pe_dget2 hu (pv 6) pe_str pe_int ⟨rfl, rfl, rfl, rfl⟩)) (pe_callB (call_sum rfl) rfl T.n_sum bt_sum (pa_cons (pe_thaw (pe_comp (sc := (defScope sLaw)) (NX := ["_law_script", "_law_pieces_here", "_law_charge_here", "_law_handed", "_law_formula", "_law_due", "_law_weights_here", "_law_weight", "_law_k", "_law_text_here", "_law_given", "_law_found"]) (N := ["_law_kind_here", "_law_due", "_law_weights_here"]) (fr := [none, some 5, some 6]) ⟨by rfl, by rfl, by decide +kernel, by decide +kernel, by decide +kernel, by rfl, by decide +kernel⟩ rfl rfl rfl (pi_dict (pv 5)) (fun _ _ _ _ => (pg_name (i := 0) (show (["_law_kind_here", "_law_due", "_law_weights_here"] : List Str).Nodup by decide +kernel) rfl (Or.inl rfl) (Or.inr rfl))) (fun _ _ _ _ => pts_nil) (fun _ _ _ _ => (pe_op op_mul (pe_dget hu (pv 1) (pv 0) (fun _ _ => rfl)) (pe_dget2 hu (pv 2) (pv 0) pe_int ⟨rfl, rfl, rfl, rfl⟩))))) pa_nil))))
        (pss_cons
          (ps_for PassesOwn.never rfl (pi_range1 rfl T.n_range (pa_cons pe_int pa_nil)) (pg_name (i := 8) scLaw.nd rfl (Or.inl rfl))
            (pss_cons
              (ps_set (i := 9) scLaw.nd rfl (Or.inl rfl) (pe_meth0 (pv 4) T.c_Formula c_Formula_shown.m c_Formula_shown.ok (hr.mono (by decide)) c_Formula_shown.b .nil pass0))
            (pss_cons
              (ps_if (PW.pt (pw_or (pt_not (pt_val (pe_callB call_isinst rfl T.n_isinstance bt_isinstance (pa_cons (pv 9) (pa_cons (pe_bltn (v := .ty "str") rfl T.n_str bt_str rfl) pa_nil))))) (pw_or (pt_cmpR op_ne (pv 9) (pe_call c_l_text.ok (hr.mono (by decide)) rfl c_l_text.g c_l_text.kp c_l_text.b .nil pass0 (pa_cons (pv 1) (pa_cons (pv 2) pa_nil))) (nomark _)) (pw_or1 (pt_not (pt_val (pe_call c_l_counted.ok (hr.mono (by decide)) rfl c_l_counted.g c_l_counted.kp c_l_counted.b .nil pass0 (pa_cons (pv 4) (pa_cons (pv 5) pa_nil)))))))))
                (pss_one
                  (ps_ret pe_bl))
                pss_nil)
            (pss_cons
              (ps_set (i := 10) scLaw.nd rfl (Or.inl rfl) (pe_callTy call_dictD rfl T.n_dict bt_dict (pa_cons (pv 6) pa_nil)))
            (pss_cons
              (ps_set (i := 11) scLaw.nd rfl (Or.inl rfl) (pe_meth (pv 4) T.c_Formula c_Formula_weight.m c_Formula_weight.ok (hr.mono (by decide)) c_Formula_weight.b .nil pass0 (pa_cons (pv 10) pa_nil)))
            (pss_cons
              (ps_if (PW.pt (pw_or (pt_not (pt_val (pe_call c_l_whole.ok (hr.mono (by decide)) rfl c_l_whole.g c_l_whole.kp c_l_whole.b .nil pass0 (pa_cons (pv 11) pa_nil)))) (pw_or (pt_cmpR op_ne (pv 11) (pv 7) (nomark _)) (pw_or1 (pt_cmpR (op_neD hu0) (pv 10) (pv 6) (nomark _))))))
                (pss_one
                  (ps_ret pe_bl))
                pss_nil)
            (pss_one
              (ps_expr (pe_bm PySem.F.plainAttrs_list PySem.F.slot_list_append PySem.F.type_list_append mt_append (pv 3) (pa_cons (pe_make c_Piece.m c_Piece.ok (hr.mono (by decide)) rfl T.g_Piece b_Piece_0 v_Piece_0 pass0 (pa_cons (pe_lst (pa_cons (pe_make c_Atom.m c_Atom.ok (hr.mono (by decide)) rfl T.g_Atom b_Atom_1 v_Atom_1 pass0 (pa_cons pe_str pa_nil)) pa_nil)) (pa_cons pe_int pa_nil))) pa_nil))))))))))
        (pss_cons
          (ps_if (PW.pt (pw_or (pt_not (pt_val (pe_call c_l_whole.ok (hr.mono (by decide)) rfl c_l_whole.g c_l_whole.kp c_l_whole.b .nil pass0 (pa_cons (pe_fld (pv 4) rfl) pa_nil)))) (pw_or (pt_cmpR op_ne (pe_fld (pv 4) rfl) (pv 2) (nomark _)) (pw_or1 (pt_not (pt_val (pe_callB call_isinst rfl T.n_isinstance bt_isinstance (pa_cons (pe_fld (pv 4) rfl) (pa_cons (pe_bltn (v := .ty "list") rfl T.n_list bt_list rfl) pa_nil)))))))))
            (pss_one
              (ps_ret pe_bl))
            pss_nil)
        (pss_one
          (ps_ret (pe_cmpR (op_eqR hu64) (pe_comp (sc := (defScope sLaw)) (NX := ["_law_script", "_law_pieces_here", "_law_charge_here", "_law_handed", "_law_formula", "_law_due", "_law_weights_here", "_law_weight", "_law_k", "_law_text_here", "_law_given", "_law_found"]) (N := ["_law_piece"]) (fr := [none]) ⟨by rfl, by rfl, by decide +kernel, by decide +kernel, by decide +kernel, by rfl, by decide +kernel⟩ rfl rfl rfl (pi_list (pe_fld (pv 4) rfl)) (fun _ _ _ _ => (pg_name (i := 0) (show (["_law_piece"] : List Str).Nodup by decide +kernel) rfl (Or.inl rfl) (Or.inr rfl))) (fun _ _ _ _ => pts_nil) (fun _ _ _ _ => (pe_fldK K rfl (pv 0) rfl))) (pe_comp (sc := (defScope sLaw)) (NX := ["_law_script", "_law_pieces_here", "_law_charge_here", "_law_handed", "_law_formula", "_law_due", "_law_weights_here", "_law_weight", "_law_k", "_law_text_here", "_law_given", "_law_found"]) (N := ["_law_count_here", "_law_atoms"]) (fr := [none, none]) ⟨by rfl, by rfl, by decide +kernel, by decide +kernel, by decide +kernel, by rfl, by decide +kernel⟩ rfl rfl rfl (pi_list (pv 1)) (fun _ _ _ _ => (pg_tupK K 2 rfl rfl (pgs_cons (pg_name (i := 0) (show (["_law_count_here", "_law_atoms"] : List Str).Nodup by decide +kernel) rfl (Or.inl rfl) (Or.inr rfl)) (pgs_cons (pg_name (i := 1) (show (["_law_count_here", "_law_atoms"] : List Str).Nodup by decide +kernel) rfl (Or.inl rfl) (Or.inr rfl)) pgs_nil)))) (fun _ _ _ _ => pts_nil) (fun _ _ _ _ => (pv 0))) (nomark _))))))))))))))), ?_⟩
    -- the pieces, the charge
    refine ⟨_, rfl, a, ns, rfl, hS, hlen, fun l ts xs H1 hl hT hok h4 e1 => ?_⟩
    refine ⟨_, rfl, a, ns, 1, rfl, e1.seq hS, hlen, fun n1 => ⟨_, rfl, fun ch H2 g1 g2 e2 => ?_⟩⟩
    dsimp only [gName]
    refine join_if (fun σ' H' => ∃ (l : Addr) (ts : List Addr) (xs : List Pi) (ch : Int), σ' = [some (.ref a), some (.ref l), some (.int ch), none, none, none, none, none, none, none, none, none] ∧ Same H H' ∧ H' l = some (.lst (ts.map V.ref)) ∧ TupsAt H' ts xs ∧ okF xs ch) (fun N hN => ?_) ?_
    · refine ⟨_, rfl, a, ns, 2, rfl, (e1.trans e2).seq hS, hlen, fun n2 => ⟨_, _, rfl, rfl, (by show (0 : Int) < 8; decide), rfl, _, rfl, ite2 (fun _ => ?_) fun _ => ?_⟩⟩
      · refine ⟨(by show 0 ≤ sizeLine; decide), fun l' hl' => ⟨1, rfl, ?_⟩⟩
        exact hN _ _ ⟨l', [], [], -1, rfl, (e1.trans e2).trans (Same.new hl'), upd_same, .nil, (fun x hx => by cases hx), by decide, by decide, by decide⟩
      · exact hN _ _ ⟨l, ts, xs, ch, rfl, e1.trans e2, e2 _ _ hl, hT.same e2, hok, h4, g1, g2⟩
    clear hl hT hok h4 g1 g2 e1 e2 l ts xs ch
    rintro σ H3 ⟨l, ts, xs, ch, rfl, e3, hl, hT, okf⟩
    -- the pieces handed
    refine ⟨_, rfl, l, rfl, ⟨_, SqL.of hl⟩, fun D hD => comp_list (K := K) (a := l) (D := D) (xs := ts.map V.ref) (fun i σ H' => ∃ v u : Option V, σ = [v, u] ∧ Same H3 H' ∧ ∃ ps : List Addr, H' D = some (.lst (ps.map V.ref)) ∧ PiecesN D C Pc H' ps (xs.take i))
      ?_ (fun i σ H' _ ⟨_, _, _, e, _⟩ => SqL.of (e _ _ hl)) ?_ ?_⟩
    · exact ⟨none, none, rfl, Same.new hD, [], upd_same, .nil⟩
    · rintro i v σ H' hi ⟨v1, v2, rfl, e, ps, hD', hPs⟩ N hN
      obtain ⟨t, x, rfl, hx, ⟨m, us, h1, h2, hP⟩⟩ := (hT.same e).get hi
      obtain ⟨⟨o1, o2, o3, o4⟩, o5⟩ := okf.1 x (List.mem_of_getElem? hx)
      refine ⟨t, _, rfl, SqT.of h1, rfl, _, _, rfl, _, _, rfl, rfl, ?_⟩
      refine ⟨_, rfl, m, rfl, ⟨_, SqL.of h2⟩, fun D2 hD2 => comp_list (K := K) (a := m) (D := D2) (xs := us.map V.ref) (fun j σ H'' => ∃ v u : Option V, σ = [v, u] ∧ Same H' H'' ∧ ∃ qs : List Addr, H'' D2 = some (.lst (qs.map V.ref)) ∧ AtomsAt C H'' qs (x.2.take j))
        ?_ (fun i σ H' _ ⟨_, _, _, e, _⟩ => SqL.of (e _ _ h2)) ?_ ?_⟩
      · exact ⟨none, none, rfl, Same.new hD2, [], upd_same, .nil⟩
      · rintro j v σ H'' hj ⟨v3, v4, rfl, e', qs, hD2', hA⟩ M hM
        obtain ⟨p, b, rfl, hb, hp⟩ := (hP.same e').get hj
        refine ⟨p, _, rfl, SqT.of hp, rfl, _, _, rfl, _, _, rfl, rfl, ?_⟩
        refine ⟨_, rfl, _, rfl, fun y dy ny ndy ney => ⟨y, dy, b.1, b.2, rfl, upd_same, fun H4 h4 kp => ⟨rfl, ?_⟩⟩⟩
        have s4 : Same H'' H4 := fun b o z => kp b o (by rw [upd_ne (ne_of_none z ny), upd_ne (ne_of_none z ndy)]; exact z) (ne_of_none z ny)
        have hD4 := s4 _ _ hD2'
        have lp := hA.len
        refine ⟨_, hD4, ?_, hM _ _ ⟨_, _, rfl, fun b o z => ?_, qs ++ [y], ?_, ?_⟩⟩
        · rw [List.length_map, lp, List.length_take]
          omega
        · rw [upd_ne (ne_of_none z hD2)]
          exact s4 _ _ (e' _ _ z)
        · rw [upd_same, List.map_append]
          rfl
        · rw [take_snoc hb]
          refine (AtomsAt.but hD4 (fun b o z w => ?_) (hA.same s4)).snoc ⟨dy, ?_⟩
          · rw [upd_ne w]; exact z
          · rw [upd_ne (Ne.symm (ne_of_none hD2' ny))]; exact h4
      · rintro σ H'' ⟨v3, v4, rfl, e', qs, hD2', hA⟩
        rw [List.length_map, hP.len, List.take_length] at hA
        refine ⟨_, rfl, fun p dp np ndp nep => ⟨p, dp, D2, x.1, qs.map V.ref, rfl, upd_same, ?_, fun n H5 hn hp hpn kp => ⟨rfl, ?_⟩⟩⟩
        · rw [upd_ne (ne_of_none hD2' np), upd_ne (ne_of_none hD2' ndp)]; exact hD2'
        have s5 : Same H'' H5 := fun b o z => kp b o (by rw [upd_ne (ne_of_none z np), upd_ne (ne_of_none z ndp)]; exact z) (ne_of_none z np)
        have hDx := e' _ _ hD'
        have hD5 := s5 _ _ hDx
        have nnD : n ≠ D := fun z => by rw [z, upd_ne (ne_of_none hDx np), upd_ne (ne_of_none hDx ndp), hDx] at hn; cases hn
        have npD : p ≠ D := Ne.symm (ne_of_none hDx np)
        have kk : ∀ b o, H5 b = some o → b ≠ D → (upd H5 D (.lst (ps.map V.ref ++ [V.ref p]))) b = some o := fun b o z w => by rw [upd_ne w]; exact z
        have lp := hPs.len
        refine ⟨_, hD5, ?_, hN _ _ ⟨_, _, rfl, fun b o z => ?_, ps ++ [p], ?_, ?_⟩⟩
        · rw [List.length_map, lp, List.length_take]
          have := okf.2.1
          omega
        · exact kk _ _ (s5 _ _ (e' _ _ (e _ _ z))) (ne_of_none z hD)
        · rw [upd_same, List.map_append]
          rfl
        · rw [take_snoc hx]
          refine (PiecesN.but hD' (fun b o z w => kk _ _ (s5 _ _ (e' _ _ z)) w) hPs).snoc ⟨dp, n, qs, nnD, kk _ _ hp npD, kk _ _ hpn nnD, AtomsAt.but hD5 kk (hA.same s5)⟩
    rintro σ H4 ⟨v1, v2, rfl, e4, ps, hD4, hPs⟩
    rw [List.length_map, hT.len, List.take_length] at hPs
    -- the formula
    refine ⟨_, rfl, _, rfl, fun g dg ng ndg neg => ⟨g, dg, D, ch, ps.map V.ref, rfl, upd_same, ?_, fun n H5 hn hg hgn kp => ⟨rfl, ?_⟩⟩⟩
    · rw [upd_ne (ne_of_none hD4 ng), upd_ne (ne_of_none hD4 ndg)]; exact hD4
    have s5 : Same H4 H5 := fun b o z => kp b o (by rw [upd_ne (ne_of_none z ng), upd_ne (ne_of_none z ndg)]; exact z) (ne_of_none z ng)
    have nnD : n ≠ D := fun z => by rw [z, upd_ne (ne_of_none hD4 ng), upd_ne (ne_of_none hD4 ndg), hD4] at hn; cases hn
    dsimp only [gName]
    refine join_if (fun σ' H' => ∃ (g dg n : Addr), σ' = [some (.ref a), some (.ref l), some (.int ch), some (.ref D), some (.ref g), none, none, none, none, none, none, none] ∧ H' g = some (.ins Fo dg (fflds n ch)) ∧ H' n = some (.lst (ps.map V.ref)) ∧ n ≠ D ∧ Same H4 H') (fun N hN => ?_) ?_
    · refine ⟨_, rfl, rfl, _, rfl, ite2 (fun e0 => ?_) fun _ => ?_⟩
      · have e0 : ch = 0 := by simpa using e0
        subst e0
        refine ⟨_, rfl, a, ns, 1, rfl, ((e3.trans e4).trans s5).seq hS, hlen, fun n3 => ⟨_, _, rfl, rfl, ⟨by decide, by decide⟩, _, _, rfl, rfl, (by show (0 : Int) < 2; decide), rfl, _, rfl, ite2 (fun _ => ?_) fun _ => ?_⟩⟩
        · have hD5 := s5 _ _ hD4
          refine ⟨_, rfl, fun g dg ng ndg neg => ⟨g, dg, D, 0, ps.map V.ref, rfl, upd_same, ?_, fun n H6 hn hg hgn kp => ⟨rfl, ?_⟩⟩⟩
          · rw [upd_ne (ne_of_none hD5 ng), upd_ne (ne_of_none hD5 ndg)]; exact hD5
          have s6 : Same H5 H6 := fun b o z => kp b o (by rw [upd_ne (ne_of_none z ng), upd_ne (ne_of_none z ndg)]; exact z) (ne_of_none z ng)
          refine hN _ _ ⟨g, dg, n, rfl, hg, hgn, ?_, s5.trans s6⟩
          exact fun z => by rw [z, upd_ne (ne_of_none hD5 ng), upd_ne (ne_of_none hD5 ndg), hD5] at hn; cases hn
        · exact hN _ _ ⟨g, dg, n, rfl, hg, hgn, nnD, s5⟩
      · exact hN _ _ ⟨g, dg, n, rfl, hg, hgn, nnD, s5⟩
    clear hn hg hgn kp s5 nnD ng ndg neg g dg n H5
    rintro σ H5 ⟨g, dg, n, rfl, hg, hgn, nnD, s5⟩
    have s35 : Same H3 H5 := e4.trans s5
    -- what is due, the weights
    refine ⟨_, rfl, l, ts, xs, rfl, s35 _ _ hl, hT.same s35, okf.1, okf.2.1, fun d H6 nd hd e6 => ?_⟩
    obtain ⟨ks, hks⟩ := cnts_keys xs
    have l12 := cnts_len okf.1 okf.2.1
    have s36 := s35.trans e6
    refine ⟨_, rfl, _, rfl, a, d, ns, _, ks, rfl, (e3.trans s36).seq hS, hlen, hd, hks, l12, fun u kw H7 nu hw hI hkl e7 => ?_⟩
    have hd7 := e7 _ _ hd
    have ndu : d ≠ u := ne_of_none hd nu
    have hB := cnts_bnd okf.1 okf.2.1
    obtain ⟨_, _, g1, g2⟩ := id okf
    refine ⟨_, rfl, _, rfl, u, rfl, .inl ⟨_, .inl hw⟩, _, DGet.k (k := Sum.inr "+") hw, _, _, rfl, hI.at _, .inl ⟨by omega, by omega⟩, ?_⟩
    -- the sum
    refine ⟨_, rfl, d, _, rfl, hd7, fun o nf D2 hD2 => ?_⟩
    have hIc := cnts_int xs
    have nDd : D2 ≠ d := fun z => by rw [z, upd_same] at hD2; cases hD2
    have hD7 : H7 D2 = none := by rwa [upd_ne nDd] at hD2
    refine comp_dict (a := d) (D := D2) (kvs := cnts xs) (fun i σ H' => ∃ v : Option V, σ = [v, some (.ref d), some (.ref u)] ∧ H' d = some (.frz o (.dK (cnts xs))) ∧ H' D2 = some (.lst (((cnts xs).take i).map fun p => V.int (zAt (cnts xs) p.1 * zAt kw p.1))) ∧ ∀ b o', H7 b = some o' → b ≠ d → H' b = some o')
      ?_ (fun i σ H' ⟨_, _, z, _⟩ => z) ?_ ?_
    · exact ⟨none, rfl, by rw [upd_ne (Ne.symm nDd), upd_same], upd_same, fun b o' z hb => by rw [upd_ne (ne_of_none z hD7), upd_ne hb]; exact z⟩
    · rintro i k v σ H' hi ⟨v', rfl, f1, f2, f3⟩ N hN
      have hv := hIc.val_mem (List.mem_of_getElem? hi)
      obtain ⟨z0, z1⟩ := hB.z_at (by decide) k
      have hw' := f3 _ _ hw (Ne.symm ndu)
      refine ⟨_, rfl, _, rfl, d, V.int (zAt (cnts xs) k), rfl, .inl ⟨_, k, .inr ⟨o, f1⟩, rfl, hv.symm⟩, _, rfl, u, rfl, .inl ⟨_, .inl hw'⟩, _, rfl, _, DGet.k (k := k) hw', _, _, rfl, hI.at k, .inl ⟨by omega, by omega⟩, _, f2, ?_, hN _ _ ⟨_, rfl, by rw [upd_ne (Ne.symm nDd)]; exact f1, ?_, fun b o' z hb => by rw [upd_ne (ne_of_none z hD7)]; exact f3 b o' z hb⟩⟩
      · rw [List.length_map]
        have : ((cnts xs).take i).length ≤ (cnts xs).length := List.length_take_le' _ _
        omega
      · rw [upd_same, take_snoc hi, List.map_append]
        rfl
    rintro σ H' ⟨v', rfl, f1, f2, f3⟩
    rw [List.take_length] at f2
    have s78 : Same H7 (upd H' d (.dK (cnts xs))) := fun b o' z => by
      by_cases hb : b = d
      · subst hb
        rw [upd_same]
        exact hd7.symm.trans z
      · rw [upd_ne hb]; exact f3 b o' z hb
    refine ⟨d, o, cnts xs, f1, nf, D2, (cnts xs).map (fun p => zAt (cnts xs) p.1 * zAt kw p.1), rfl, SqL.of (by rw [upd_ne nDd, f2, List.map_map]; rfl), _, _, rfl, rfl, ?_⟩
    generalize upd H' d (.dK (cnts xs)) = H8 at s78 ⊢
    clear f1 f2 f3 hD7 hD2 nDd nf
    -- what stands now
    have hd8 := s78 _ _ hd7
    have hw8 := s78 _ _ hw
    have s58 : Same H5 H8 := e6.trans (e7.trans s78)
    have s38 : Same H3 H8 := s35.trans s58
    have hg8 := s58 _ _ hg
    have hn8 := s58 _ _ hgn
    have hP8 : PiecesN D C Pc H8 ps xs := PiecesN.but hD4 (fun b o z _ => s58 _ _ (s5 _ _ z)) hPs
    have hD8 := s58 _ _ (s5 _ _ hD4)
    have fl : flatD kw := fun p' hp' => by obtain ⟨i, e⟩ := hI p' hp'; rw [e]; rfl
    have fin : ∀ H' : Hp, (∀ b o', H8 b = some o' → b ≠ D → H' b = some o') → H' g = some (.ins Fo dg (fflds n ch)) ∧ FormAt C Pc Fo H' g xs ch ∧ H' l = some (.lst (ts.map V.ref)) ∧ TupsAt H' ts xs ∧ H' d = some (.dK (cnts xs)) ∧ H' u = some (.dK kw) ∧ H' n = some (.lst (ps.map V.ref)) ∧ PiecesAt C Pc H' ps xs := by
      intro H' kk
      have s3 : Same H3 H' := fun b o z => kk b o (s38 _ _ z) (ne_of_none z hD)
      have k1 := kk _ _ hg8 (fun z => by rw [z, hD8] at hg8; cases hg8)
      have k2 := kk _ _ hn8 nnD
      have k3 : PiecesAt C Pc H' ps xs := (PiecesN.but hD8 kk hP8).all
      exact ⟨k1, ⟨dg, n, ps, k1, k2, k3⟩, s3 _ _ hl, hT.same s3, kk _ _ hd8 (fun z => by rw [z, hD8] at hd8; cases hd8), kk _ _ hw8 (fun z => by rw [z, hD8] at hw8; cases hw8), k2, k3⟩
    -- the two turns
    refine ⟨_, rfl, by decide, by decide, for_range (fun i σ H' => ∃ (v8 v9 v10 v11 : Option V) (ys : List V), σ = [some (.ref a), some (.ref l), some (.int ch), some (.ref D), some (.ref g), some (.ref d), some (.ref u), some (.int (ch * zAt kw (Sum.inr "+") + ((cnts xs).map (fun p => zAt (cnts xs) p.1 * zAt kw p.1)).sum)), v8, v9, v10, v11] ∧
      H' D = some (.lst ys) ∧ ys.length ≤ 100 + i ∧ ∀ b o', H8 b = some o' → b ≠ D → H' b = some o') ?_ ?_ ?_⟩
    · refine ⟨none, none, none, none, _, rfl, hD8, ?_, fun b o' z _ => z⟩
      rw [List.length_map, hPs.len]
      have := okf.2.1
      omega
    · rintro i σ H' hi ⟨v8, v9, v10, v11, ys, rfl, hy, hyl, kk⟩
      obtain ⟨q1, q2, q3, q4, q5, q6, q7, q8⟩ := fin H' kk
      refine ⟨_, rfl, g, dg, _, rfl, q1, fflds_no _ _ (by decide +kernel) (by decide +kernel), g, xs, ch, rfl, q2, okf, fun Ha ea => ?_⟩
      refine ⟨_, rfl, _, _, _, _, _, rfl, rfl, .str _, T.k4, _, rfl, iteF ⟨_, rfl, _, rfl, _, rfl, l, ts, xs, ch, rfl, ea _ _ q3, q4.same ea, okf, fun Hb eb => ⟨rfl, _, rfl, iteNS rfl ?_⟩⟩⟩
      have sb := ea.trans eb
      refine ⟨_, rfl, _, rfl, g, d, xs, ch, rfl, q2.same sb, okf, sb _ _ q5, fun Hc ec => ⟨_, rfl, iteF ?_⟩⟩
      have sc := sb.trans ec
      refine ⟨_, rfl, u, kw, rfl, .inl (sc _ _ q6), fun gv ngv => ?_⟩
      have sv : Same Hc (upd Hc gv (.dK kw)) := Same.new ngv
      have sd := sc.trans sv
      refine ⟨_, rfl, g, dg, _, rfl, sd _ _ q1, fflds_no _ _ (by decide +kernel) (by decide +kernel), _, rfl, g, gv, xs, ch, kw, rfl, q2.same sd, okf, upd_same, hI, fun He ee => ?_⟩
      have se := sd.trans ee
      refine ⟨_, rfl, _, rfl, _, rfl, iteF ⟨_, rfl, _, rfl, rfl, _, rfl, iteNS (congrArg V.int (Int.add_comm _ _)) ?_⟩⟩
      refine ⟨_, rfl, _, rfl, gv, u, kw, kw, rfl, rfl, .inl (ee _ _ upd_same), .inl (se _ _ q6), fl, fl, fun nd' _ => ⟨_, rfl, ?_⟩⟩
      rw [eqD_self nd' fl]
      refine iteF ?_
      have hye := se _ _ hy
      refine ⟨_, rfl, .inl ⟨rfl, _, SqL.of hye⟩, fun x dx nx ndx nex => ⟨x, dx, _, 1, rfl, upd_same, fun Hf hf kf => ⟨rfl, (by show 1 ≤ sizeLine; decide), fun z hz => ?_⟩⟩⟩
      have sf : Same He Hf := fun b o z => kf b o (by rw [upd_ne (ne_of_none z nx), upd_ne (ne_of_none z ndx)]; exact z) (ne_of_none z nx)
      have sz : Same Hf (upd Hf z (.lst [V.ref x])) := Same.new hz
      refine fun p dp np ndp nep => ⟨p, dp, z, 2, [V.ref x], rfl, upd_same, ?_, fun m Hg hm hp hpm kp => ⟨rfl, ?_⟩⟩
      · rw [upd_ne (ne_of_none upd_same np), upd_ne (ne_of_none upd_same ndp)]; exact upd_same
      have sg : Same (upd Hf z (.lst [V.ref x])) Hg := fun b o z => kp b o (by rw [upd_ne (ne_of_none z np), upd_ne (ne_of_none z ndp)]; exact z) (ne_of_none z np)
      have st : Same He Hg := sf.trans (sz.trans sg)
      refine ⟨D, ys, V.ref p, rfl, rfl, st _ _ hye, by omega, _, _, _, _, ys ++ [V.ref p], rfl, upd_same, ?_, fun b o' z w1 => ?_⟩
      · rw [List.length_append]
        show ys.length + 1 ≤ _
        omega
      · rw [upd_ne w1]
        exact st _ _ (se _ _ (kk _ _ z w1))
    · rintro σ H' ⟨v8, v9, v10, v11, ys, rfl, hy, hyl, kk⟩
      obtain ⟨q1, q2, q3, q4, q5, q6, q7, q8⟩ := fin H' kk
      refine ⟨_, rfl, g, Fo, dg, _, _, rfl, q1, T.c_Formula, T.na_fcharge, fflds_charge _ _, ch, rfl, _, rfl, iteF ⟨_, rfl, g, Fo, dg, _, _, rfl, q1, T.c_Formula, T.na_fcharge, fflds_charge _ _, _, rfl, rfl, _, rfl, iteNS rfl ?_⟩⟩
      refine ⟨_, rfl, g, Fo, dg, _, _, rfl, q1, T.c_Formula, T.na_fpieces, fflds_pieces _ _, _, _, _, _, _, rfl, rfl, .lst q7, T.k6, _, rfl, iteF ?_⟩
      refine ⟨_, rfl, g, Fo, dg, _, _, rfl, q1, T.c_Formula, T.na_fpieces, fflds_pieces _ _, n, rfl, ⟨_, SqL.of q7⟩, fun Da hDa => comp_list (K := K) (a := n) (D := Da) (xs := ps.map V.ref) (fun i σ H'' => ∃ v : Option V, σ = [v] ∧ Same H' H'' ∧ H'' Da = some (.lst (((xs.take i).map (·.1)).map V.int)))
        ?_ (fun i σ H'' _ ⟨_, _, e, _⟩ => SqL.of (e _ _ q7)) ?_ ?_⟩
      · exact ⟨none, rfl, Same.new hDa, upd_same⟩
      · rintro i v σ H'' hi ⟨v', rfl, e, hDa'⟩ N hN
        obtain ⟨p, x, rfl, hx, ⟨dx, m, qs, h1, h2, h3⟩⟩ := (q8.same e).get hi
        refine ⟨_, rfl, p, Pc, dx, _, _, rfl, h1, T.c_Piece, T.na_pcount, gflds_count _ _, _, hDa', ?_, hN _ _ ⟨_, rfl, fun b o z => ?_, ?_⟩⟩
        · rw [List.length_map, List.length_map]
          have : (xs.take i).length ≤ xs.length := List.length_take_le' _ _
          have := okf.2.1
          omega
        · rw [upd_ne (ne_of_none z hDa)]
          exact e _ _ z
        · rw [upd_same, take_snoc hx, List.map_append, List.map_append]
          rfl
      rintro σ Ha ⟨v, rfl, ea, hDa'⟩
      rw [List.length_map, q8.len, List.take_length] at hDa'
      refine ⟨_, rfl, l, rfl, ⟨_, SqL.of (ea _ _ q3)⟩, fun Db hDb => comp_list (K := K) (a := l) (D := Db) (xs := ts.map V.ref) (fun i σ H'' => ∃ v u : Option V, σ = [v, u] ∧ Same Ha H'' ∧ H'' Db = some (.lst (((xs.take i).map (·.1)).map V.int)))
        ?_ (fun i σ H'' _ ⟨_, _, _, e, _⟩ => SqL.of (e _ _ (ea _ _ q3))) ?_ ?_⟩
      · exact ⟨none, none, rfl, Same.new hDb, upd_same⟩
      · rintro i v σ H'' hi ⟨v', u', rfl, e, hDb'⟩ N hN
        obtain ⟨t, x, rfl, hx, ⟨m, us, h1, h2, hP⟩⟩ := (q4.same (ea.trans e)).get hi
        refine ⟨t, _, rfl, SqT.of h1, rfl, _, _, rfl, _, _, rfl, rfl, ?_⟩
        refine ⟨_, rfl, _, hDb', ?_, hN _ _ ⟨_, _, rfl, fun b o z => ?_, ?_⟩⟩
        · rw [List.length_map, List.length_map]
          have : (xs.take i).length ≤ xs.length := List.length_take_le' _ _
          have := okf.2.1
          omega
        · rw [upd_ne (ne_of_none z hDb)]
          exact e _ _ z
        · rw [upd_same, take_snoc hx, List.map_append, List.map_append]
          rfl
      rintro σ Hb ⟨v, u', rfl, eb, hDb'⟩
      rw [List.length_map, q4.len, List.take_length] at hDb'
      refine ⟨_, _, RdD.ints (SqL.of (eb _ _ hDa')), RdD.ints (SqL.of hDb'), dInts_shaped _, dInts_shaped _, ?_⟩
      rw [eqv_self _ (dInts_can _)]
      exact q _
end
theorem all_mk {l : PySem.W.OpenLaw} {w : World} {K : PySem.W.Frag} {h : Heap} {mg : Str → Option Value} {fa C Pc Fo fxcs fxps fxpc fxcw fxini fxsh fxco fxpi fxpS fxpC fxch fxfi fxfS fxfC fxfW fxca fxmi fxwh fxki fxct fxfg fxpp fxlc fxtx fxcn fxcd fxws flaw : Addr} (X : K.In h) (G : h.Ns mainGlobals mg) (hfa : mg "law" = some (.ref fa))
    {odxcs anxcs odxps anxps odxpc anxpc odxcw anxcw odxini anxini odxsh anxsh odxco anxco odxpi anxpi odxpS anxpS odxpC anxpC odxch anxch odxfi anxfi odxfS anxfS odxfC anxfC odxfW anxfW odxca anxca odxmi anxmi odxwh anxwh odxki anxki odxct anxct odxfg anxfg odxpp anxpp odxlc anxlc odxtx anxtx odxcn anxcn odxcd anxcd odxws anxws odlaw anlaw : Option Addr} {slxcs slxps slxpc slxcw slxini slxsh slxco slxpi slxpS slxpC slxch slxfi slxfS slxfC slxfW slxca slxmi slxwh slxki slxct slxfg slxpp slxlc slxtx slxcn slxcd slxws sllaw : Array (Option Value)} {ocxcs kVxcs dcxcs pmxcs cdxcs ctxcs ocxps kVxps dcxps pmxps cdxps ctxps ocxpc kVxpc dcxpc pmxpc cdxpc ctxpc ocxcw kVxcw dcxcw pmxcw cdxcw ctxcw ocxini kVxini dcxini pmxini cdxini ctxini ocxsh kVxsh dcxsh pmxsh cdxsh ctxsh ocxco kVxco dcxco pmxco cdxco ctxco ocxpi kVxpi dcxpi pmxpi cdxpi ctxpi ocxpS kVxpS dcxpS pmxpS cdxpS ctxpS ocxpC kVxpC dcxpC pmxpC cdxpC ctxpC ocxch kVxch dcxch pmxch cdxch ctxch ocxfi kVxfi dcxfi pmxfi cdxfi ctxfi ocxfS kVxfS dcxfS pmxfS cdxfS ctxfS ocxfC kVxfC dcxfC pmxfC cdxfC ctxfC ocxfW kVxfW dcxfW pmxfW cdxfW ctxfW ocxca kVxca dcxca pmxca cdxca ctxca ocxmi kVxmi dcxmi pmxmi cdxmi ctxmi ocxwh kVxwh dcxwh pmxwh cdxwh ctxwh ocxki kVxki dcxki pmxki cdxki ctxki ocxct kVxct dcxct pmxct cdxct ctxct ocxfg kVxfg dcxfg pmxfg cdxfg ctxfg ocxpp kVxpp dcxpp pmxpp cdxpp ctxpp ocxlc kVxlc dcxlc pmxlc cdxlc ctxlc ocxtx kVxtx dcxtx pmxtx cdxtx ctxtx ocxcn kVxcn dcxcn pmxcn cdxcn ctxcn ocxcd kVxcd dcxcd pmxcd cdxcd ctxcd ocxws kVxws dcxws pmxws cdxws ctxws oclaw kVlaw dclaw pmlaw cdlaw ctlaw : Value}
    {tdxini : Addr} {otcxini : Value} {otdxini : Option Addr} {otsxini : Array (Option Value)} {tnxini : Nat} {tkxini : Tok}
    {tdxpi : Addr} {otcxpi : Value} {otdxpi : Option Addr} {otsxpi : Array (Option Value)} {tnxpi : Nat} {tkxpi : Tok}
    {tdxfi : Addr} {otcxfi : Value} {otdxfi : Option Addr} {otsxfi : Array (Option Value)} {tnxfi : Nat} {tkxfi : Tok}
    {uD uC uP uM uE : Tok}
    (aC : PySem.W.nsIn K mainGlobals "Atom" = some (some (.ref C)))
    (aPc : PySem.W.nsIn K mainGlobals "Piece" = some (some (.ref Pc)))
    (aFo : PySem.W.nsIn K mainGlobals "Formula" = some (some (.ref Fo)))
    (axcs : PySem.W.nsIn K mainGlobals "count_shown" = some (some (.ref fxcs)))
    (lxcs : K.lookup fxcs = some ⟨ocxcs, odxcs, .func (PySem.W.fnOf "count_shown" "count_shown" (defArgs sCountShown) (defBody sCountShown) (defScope sCountShown) .none kVxcs dcxcs pmxcs anxcs cdxcs ctxcs), slxcs⟩)
    (cxcs : PySem.W.codeIn K cdxcs "count_shown" = true)
    (kxcs : PySem.W.keepIn K (.ref fxcs) = true)
    (axps : PySem.W.nsIn K mainGlobals "parts_shown" = some (some (.ref fxps)))
    (lxps : K.lookup fxps = some ⟨ocxps, odxps, .func (PySem.W.fnOf "parts_shown" "parts_shown" (defArgs sPShown) (defBody sPShown) (defScope sPShown) .none kVxps dcxps pmxps anxps cdxps ctxps), slxps⟩)
    (cxps : PySem.W.codeIn K cdxps "parts_shown" = true)
    (kxps : PySem.W.keepIn K (.ref fxps) = true)
    (axpc : PySem.W.nsIn K mainGlobals "parts_counts" = some (some (.ref fxpc)))
    (lxpc : K.lookup fxpc = some ⟨ocxpc, odxpc, .func (PySem.W.fnOf "parts_counts" "parts_counts" (defArgs sPCounts) (defBody sPCounts) (defScope sPCounts) .none kVxpc dcxpc pmxpc anxpc cdxpc ctxpc), slxpc⟩)
    (cxpc : PySem.W.codeIn K cdxpc "parts_counts" = true)
    (kxpc : PySem.W.keepIn K (.ref fxpc) = true)
    (axcw : PySem.W.nsIn K mainGlobals "counts_weight" = some (some (.ref fxcw)))
    (lxcw : K.lookup fxcw = some ⟨ocxcw, odxcw, .func (PySem.W.fnOf "counts_weight" "counts_weight" (defArgs sCW) (defBody sCW) (defScope sCW) .none kVxcw dcxcw pmxcw anxcw cdxcw ctxcw), slxcw⟩)
    (cxcw : PySem.W.codeIn K cdxcw "counts_weight" = true)
    (kxcw : PySem.W.keepIn K (.ref fxcw) = true)
    (axini : PySem.W.findIn K (.ref C) "__init__" = some (some (.ref fxini)))
    (ixini : PySem.W.isFn K (.ref fxini) = true)
    (lxini : K.lookup fxini = some ⟨ocxini, odxini, .func (PySem.W.fnOf "__init__" "Atom.__init__" (defArgs sInit) (defBody sInit) (defScope sInit) (.ref tdxini) kVxini dcxini pmxini anxini cdxini ctxini), slxini⟩)
    (txini : K.lookup tdxini = some ⟨otcxini, otdxini, .seq #[.int 1 tkxini] tnxini, otsxini⟩)
    (cxini : PySem.W.codeIn K cdxini "Atom.__init__" = true)
    (kxini : PySem.W.keepIn K (.ref fxini) = true)
    (axsh : PySem.W.findIn K (.ref C) "shown" = some (some (.ref fxsh)))
    (ixsh : PySem.W.isFn K (.ref fxsh) = true)
    (lxsh : K.lookup fxsh = some ⟨ocxsh, odxsh, .func (PySem.W.fnOf "shown" "Atom.shown" (defArgs sShown) (defBody sShown) (defScope sShown) .none kVxsh dcxsh pmxsh anxsh cdxsh ctxsh), slxsh⟩)
    (cxsh : PySem.W.codeIn K cdxsh "Atom.shown" = true)
    (kxsh : PySem.W.keepIn K (.ref fxsh) = true)
    (axco : PySem.W.findIn K (.ref C) "counts" = some (some (.ref fxco)))
    (ixco : PySem.W.isFn K (.ref fxco) = true)
    (lxco : K.lookup fxco = some ⟨ocxco, odxco, .func (PySem.W.fnOf "counts" "Atom.counts" (defArgs sCounts) (defBody sCounts) (defScope sCounts) .none kVxco dcxco pmxco anxco cdxco ctxco), slxco⟩)
    (cxco : PySem.W.codeIn K cdxco "Atom.counts" = true)
    (kxco : PySem.W.keepIn K (.ref fxco) = true)
    (axpi : PySem.W.findIn K (.ref Pc) "__init__" = some (some (.ref fxpi)))
    (ixpi : PySem.W.isFn K (.ref fxpi) = true)
    (lxpi : K.lookup fxpi = some ⟨ocxpi, odxpi, .func (PySem.W.fnOf "__init__" "Piece.__init__" (defArgs sPInit) (defBody sPInit) (defScope sPInit) (.ref tdxpi) kVxpi dcxpi pmxpi anxpi cdxpi ctxpi), slxpi⟩)
    (txpi : K.lookup tdxpi = some ⟨otcxpi, otdxpi, .seq #[.int 1 tkxpi] tnxpi, otsxpi⟩)
    (cxpi : PySem.W.codeIn K cdxpi "Piece.__init__" = true)
    (kxpi : PySem.W.keepIn K (.ref fxpi) = true)
    (axpS : PySem.W.findIn K (.ref Pc) "shown" = some (some (.ref fxpS)))
    (ixpS : PySem.W.isFn K (.ref fxpS) = true)
    (lxpS : K.lookup fxpS = some ⟨ocxpS, odxpS, .func (PySem.W.fnOf "shown" "Piece.shown" (defArgs sPieceShown) (defBody sPieceShown) (defScope sPieceShown) .none kVxpS dcxpS pmxpS anxpS cdxpS ctxpS), slxpS⟩)
    (cxpS : PySem.W.codeIn K cdxpS "Piece.shown" = true)
    (kxpS : PySem.W.keepIn K (.ref fxpS) = true)
    (axpC : PySem.W.findIn K (.ref Pc) "counts" = some (some (.ref fxpC)))
    (ixpC : PySem.W.isFn K (.ref fxpC) = true)
    (lxpC : K.lookup fxpC = some ⟨ocxpC, odxpC, .func (PySem.W.fnOf "counts" "Piece.counts" (defArgs sPieceCounts) (defBody sPieceCounts) (defScope sPieceCounts) .none kVxpC dcxpC pmxpC anxpC cdxpC ctxpC), slxpC⟩)
    (cxpC : PySem.W.codeIn K cdxpC "Piece.counts" = true)
    (kxpC : PySem.W.keepIn K (.ref fxpC) = true)
    (axch : PySem.W.nsIn K mainGlobals "charge_shown" = some (some (.ref fxch)))
    (lxch : K.lookup fxch = some ⟨ocxch, odxch, .func (PySem.W.fnOf "charge_shown" "charge_shown" (defArgs sChargeShown) (defBody sChargeShown) (defScope sChargeShown) .none kVxch dcxch pmxch anxch cdxch ctxch), slxch⟩)
    (cxch : PySem.W.codeIn K cdxch "charge_shown" = true)
    (kxch : PySem.W.keepIn K (.ref fxch) = true)
    (axfi : PySem.W.findIn K (.ref Fo) "__init__" = some (some (.ref fxfi)))
    (ixfi : PySem.W.isFn K (.ref fxfi) = true)
    (lxfi : K.lookup fxfi = some ⟨ocxfi, odxfi, .func (PySem.W.fnOf "__init__" "Formula.__init__" (defArgs sFInit) (defBody sFInit) (defScope sFInit) (.ref tdxfi) kVxfi dcxfi pmxfi anxfi cdxfi ctxfi), slxfi⟩)
    (txfi : K.lookup tdxfi = some ⟨otcxfi, otdxfi, .seq #[.int 0 tkxfi] tnxfi, otsxfi⟩)
    (cxfi : PySem.W.codeIn K cdxfi "Formula.__init__" = true)
    (kxfi : PySem.W.keepIn K (.ref fxfi) = true)
    (axfS : PySem.W.findIn K (.ref Fo) "shown" = some (some (.ref fxfS)))
    (ixfS : PySem.W.isFn K (.ref fxfS) = true)
    (lxfS : K.lookup fxfS = some ⟨ocxfS, odxfS, .func (PySem.W.fnOf "shown" "Formula.shown" (defArgs sFShown) (defBody sFShown) (defScope sFShown) .none kVxfS dcxfS pmxfS anxfS cdxfS ctxfS), slxfS⟩)
    (cxfS : PySem.W.codeIn K cdxfS "Formula.shown" = true)
    (kxfS : PySem.W.keepIn K (.ref fxfS) = true)
    (axfC : PySem.W.findIn K (.ref Fo) "counts" = some (some (.ref fxfC)))
    (ixfC : PySem.W.isFn K (.ref fxfC) = true)
    (lxfC : K.lookup fxfC = some ⟨ocxfC, odxfC, .func (PySem.W.fnOf "counts" "Formula.counts" (defArgs sFCounts) (defBody sFCounts) (defScope sFCounts) .none kVxfC dcxfC pmxfC anxfC cdxfC ctxfC), slxfC⟩)
    (cxfC : PySem.W.codeIn K cdxfC "Formula.counts" = true)
    (kxfC : PySem.W.keepIn K (.ref fxfC) = true)
    (axfW : PySem.W.findIn K (.ref Fo) "weight" = some (some (.ref fxfW)))
    (ixfW : PySem.W.isFn K (.ref fxfW) = true)
    (lxfW : K.lookup fxfW = some ⟨ocxfW, odxfW, .func (PySem.W.fnOf "weight" "Formula.weight" (defArgs sFWeight) (defBody sFWeight) (defScope sFWeight) .none kVxfW dcxfW pmxfW anxfW cdxfW ctxfW), slxfW⟩)
    (cxfW : PySem.W.codeIn K cdxfW "Formula.weight" = true)
    (kxfW : PySem.W.keepIn K (.ref fxfW) = true)
    (axca : PySem.W.nsIn K mainGlobals "_law_cell_at" = some (some (.ref fxca)))
    (lxca : K.lookup fxca = some ⟨ocxca, odxca, .func (PySem.W.fnOf "_law_cell_at" "_law_cell_at" (defArgs sCellAt) (defBody sCellAt) (defScope sCellAt) .none kVxca dcxca pmxca anxca cdxca ctxca), slxca⟩)
    (cxca : PySem.W.codeIn K cdxca "_law_cell_at" = true)
    (kxca : PySem.W.keepIn K (.ref fxca) = true)
    (axmi : PySem.W.nsIn K mainGlobals "_law_mixed" = some (some (.ref fxmi)))
    (lxmi : K.lookup fxmi = some ⟨ocxmi, odxmi, .func (PySem.W.fnOf "_law_mixed" "_law_mixed" (defArgs sMixed) (defBody sMixed) (defScope sMixed) .none kVxmi dcxmi pmxmi anxmi cdxmi ctxmi), slxmi⟩)
    (cxmi : PySem.W.codeIn K cdxmi "_law_mixed" = true)
    (kxmi : PySem.W.keepIn K (.ref fxmi) = true)
    (axwh : PySem.W.nsIn K mainGlobals "_law_whole" = some (some (.ref fxwh)))
    (lxwh : K.lookup fxwh = some ⟨ocxwh, odxwh, .func (PySem.W.fnOf "_law_whole" "_law_whole" (defArgs sWhole) (defBody sWhole) (defScope sWhole) .none kVxwh dcxwh pmxwh anxwh cdxwh ctxwh), slxwh⟩)
    (cxwh : PySem.W.codeIn K cdxwh "_law_whole" = true)
    (kxwh : PySem.W.keepIn K (.ref fxwh) = true)
    (axki : PySem.W.nsIn K mainGlobals "_law_kind" = some (some (.ref fxki)))
    (lxki : K.lookup fxki = some ⟨ocxki, odxki, .func (PySem.W.fnOf "_law_kind" "_law_kind" (defArgs sKind) (defBody sKind) (defScope sKind) .none kVxki dcxki pmxki anxki cdxki ctxki), slxki⟩)
    (cxki : PySem.W.codeIn K cdxki "_law_kind" = true)
    (kxki : PySem.W.keepIn K (.ref fxki) = true)
    (axct : PySem.W.nsIn K mainGlobals "_law_count" = some (some (.ref fxct)))
    (lxct : K.lookup fxct = some ⟨ocxct, odxct, .func (PySem.W.fnOf "_law_count" "_law_count" (defArgs sCount) (defBody sCount) (defScope sCount) .none kVxct dcxct pmxct anxct cdxct ctxct), slxct⟩)
    (cxct : PySem.W.codeIn K cdxct "_law_count" = true)
    (kxct : PySem.W.keepIn K (.ref fxct) = true)
    (axfg : PySem.W.nsIn K mainGlobals "_law_figures" = some (some (.ref fxfg)))
    (lxfg : K.lookup fxfg = some ⟨ocxfg, odxfg, .func (PySem.W.fnOf "_law_figures" "_law_figures" (defArgs sFigures) (defBody sFigures) (defScope sFigures) .none kVxfg dcxfg pmxfg anxfg cdxfg ctxfg), slxfg⟩)
    (cxfg : PySem.W.codeIn K cdxfg "_law_figures" = true)
    (kxfg : PySem.W.keepIn K (.ref fxfg) = true)
    (axpp : PySem.W.nsIn K mainGlobals "_law_pieces" = some (some (.ref fxpp)))
    (lxpp : K.lookup fxpp = some ⟨ocxpp, odxpp, .func (PySem.W.fnOf "_law_pieces" "_law_pieces" (defArgs sPieces) (defBody sPieces) (defScope sPieces) .none kVxpp dcxpp pmxpp anxpp cdxpp ctxpp), slxpp⟩)
    (cxpp : PySem.W.codeIn K cdxpp "_law_pieces" = true)
    (kxpp : PySem.W.keepIn K (.ref fxpp) = true)
    (axlc : PySem.W.nsIn K mainGlobals "_law_charge" = some (some (.ref fxlc)))
    (lxlc : K.lookup fxlc = some ⟨ocxlc, odxlc, .func (PySem.W.fnOf "_law_charge" "_law_charge" (defArgs sCharge) (defBody sCharge) (defScope sCharge) .none kVxlc dcxlc pmxlc anxlc cdxlc ctxlc), slxlc⟩)
    (cxlc : PySem.W.codeIn K cdxlc "_law_charge" = true)
    (kxlc : PySem.W.keepIn K (.ref fxlc) = true)
    (axtx : PySem.W.nsIn K mainGlobals "_law_text" = some (some (.ref fxtx)))
    (lxtx : K.lookup fxtx = some ⟨ocxtx, odxtx, .func (PySem.W.fnOf "_law_text" "_law_text" (defArgs sText) (defBody sText) (defScope sText) .none kVxtx dcxtx pmxtx anxtx cdxtx ctxtx), slxtx⟩)
    (cxtx : PySem.W.codeIn K cdxtx "_law_text" = true)
    (kxtx : PySem.W.keepIn K (.ref fxtx) = true)
    (axcn : PySem.W.nsIn K mainGlobals "_law_counts" = some (some (.ref fxcn)))
    (lxcn : K.lookup fxcn = some ⟨ocxcn, odxcn, .func (PySem.W.fnOf "_law_counts" "_law_counts" (defArgs sCountsL) (defBody sCountsL) (defScope sCountsL) .none kVxcn dcxcn pmxcn anxcn cdxcn ctxcn), slxcn⟩)
    (cxcn : PySem.W.codeIn K cdxcn "_law_counts" = true)
    (kxcn : PySem.W.keepIn K (.ref fxcn) = true)
    (axcd : PySem.W.nsIn K mainGlobals "_law_counted" = some (some (.ref fxcd)))
    (lxcd : K.lookup fxcd = some ⟨ocxcd, odxcd, .func (PySem.W.fnOf "_law_counted" "_law_counted" (defArgs sCounted) (defBody sCounted) (defScope sCounted) .none kVxcd dcxcd pmxcd anxcd cdxcd ctxcd), slxcd⟩)
    (cxcd : PySem.W.codeIn K cdxcd "_law_counted" = true)
    (kxcd : PySem.W.keepIn K (.ref fxcd) = true)
    (axws : PySem.W.nsIn K mainGlobals "_law_weights" = some (some (.ref fxws)))
    (lxws : K.lookup fxws = some ⟨ocxws, odxws, .func (PySem.W.fnOf "_law_weights" "_law_weights" (defArgs sWeights) (defBody sWeights) (defScope sWeights) .none kVxws dcxws pmxws anxws cdxws ctxws), slxws⟩)
    (cxws : PySem.W.codeIn K cdxws "_law_weights" = true)
    (kxws : PySem.W.keepIn K (.ref fxws) = true)
    (alaw : PySem.W.nsIn K mainGlobals "law" = some (some (.ref flaw)))
    (llaw : K.lookup flaw = some ⟨oclaw, odlaw, .func (PySem.W.fnOf "law" "law" (defArgs sLaw) (defBody sLaw) (defScope sLaw) .none kVlaw dclaw pmlaw anlaw cdlaw ctlaw), sllaw⟩)
    (claw : PySem.W.codeIn K cdlaw "law" = true)
    (klaw : PySem.W.keepIn K (.ref flaw) = true)
    (pgC : PySem.W.plainGet K C Str.empty = true)
    (hdC : PySem.W.hasDictIn K C = true)
    (poC : PySem.W.plainOver K C = true)
    (saC : PySem.W.findIn K (.ref C) "__setattr__" = some (some (.builtin "object.__setattr__")))
    (mkC : PySem.W.makesIn K C = true)
    (kcC : PySem.W.keepIn K (.ref C) = true)
    (pgPc : PySem.W.plainGet K Pc Str.empty = true)
    (hdPc : PySem.W.hasDictIn K Pc = true)
    (poPc : PySem.W.plainOver K Pc = true)
    (saPc : PySem.W.findIn K (.ref Pc) "__setattr__" = some (some (.builtin "object.__setattr__")))
    (mkPc : PySem.W.makesIn K Pc = true)
    (kcPc : PySem.W.keepIn K (.ref Pc) = true)
    (pgFo : PySem.W.plainGet K Fo Str.empty = true)
    (hdFo : PySem.W.hasDictIn K Fo = true)
    (poFo : PySem.W.plainOver K Fo = true)
    (saFo : PySem.W.findIn K (.ref Fo) "__setattr__" = some (some (.builtin "object.__setattr__")))
    (mkFo : PySem.W.makesIn K Fo = true)
    (kcFo : PySem.W.keepIn K (.ref Fo) = true)
    (nkind : PySem.W.findIn K (.ref C) "kind" = some none)
    (ncount : PySem.W.findIn K (.ref C) "count" = some none)
    (npp : PySem.W.findIn K (.ref Pc) "parts" = some none)
    (npc : PySem.W.findIn K (.ref Pc) "count" = some none)
    (nfp : PySem.W.findIn K (.ref Fo) "pieces" = some none)
    (nfc : PySem.W.findIn K (.ref Fo) "charge" = some none)
    (z_len : PySem.W.nsIn K mainGlobals "len" = some none)
    (z_str : PySem.W.nsIn K mainGlobals "str" = some none)
    (z_int : PySem.W.nsIn K mainGlobals "int" = some none)
    (z_bool : PySem.W.nsIn K mainGlobals "bool" = some none)
    (z_range : PySem.W.nsIn K mainGlobals "range" = some none)
    (z_isinstance : PySem.W.nsIn K mainGlobals "isinstance" = some none)
    (z_dict : PySem.W.nsIn K mainGlobals "dict" = some none)
    (z_list : PySem.W.nsIn K mainGlobals "list" = some none)
    (z_sum : PySem.W.nsIn K mainGlobals "sum" = some none)
    (z_abs : PySem.W.nsIn K mainGlobals "abs" = some none)
    (z_sorted : PySem.W.nsIn K mainGlobals "sorted" = some none)
    (z_enumerate : PySem.W.nsIn K mainGlobals "enumerate" = some none)
    (aPIECE_DOT : PySem.W.nsIn K mainGlobals "PIECE_DOT" = some (some (.str "." uD)))
    (aCHARGE_MARK : PySem.W.nsIn K mainGlobals "CHARGE_MARK" = some (some (.str "^" uC)))
    (aPLUS : PySem.W.nsIn K mainGlobals "PLUS" = some (some (.str "+" uP)))
    (aMINUS : PySem.W.nsIn K mainGlobals "MINUS" = some (some (.str "-" uM)))
    (aELECTRON : PySem.W.nsIn K mainGlobals "ELECTRON" = some (some (.str "e^-" uE)))
    : ∃ fd : FuncData, (∀ (s : Shared) (v : Value), BindsTo s fd ⟨[v], []⟩ [("_law_script", v)]) ∧ ∀ base : Heap, K.In base → base.Ns mainGlobals mg → FnOk l.prog w K mg base CX0 8 fa fd ["_law_script"] (spLaw K) := by
  have e := hfa.symm.trans (PySem.W.mg_of X G alaw)
  cases e
  have T : Txt K mg C Pc Fo uD uC uP uM uE := ⟨⟨⟨pgC, hdC, poC, saC⟩, nkind, ncount, PySem.W.mg_of X G aC, PySem.W.mg_none_of X G z_len, PySem.W.mg_none_of X G z_str, PySem.W.mg_none_of X G z_int, PySem.W.mg_none_of X G z_bool, PySem.W.mg_none_of X G z_range, PySem.W.mg_none_of X G z_isinstance, kit_same, kit_int_bool, kit_same, kit_same, kit_same⟩, ⟨pgPc, hdPc, poPc, saPc⟩, ⟨pgFo, hdFo, poFo, saFo⟩, npp, npc, nfp, nfc, PySem.W.mg_of X G aPc, PySem.W.mg_of X G aFo, PySem.W.mg_of X G aPIECE_DOT, PySem.W.mg_of X G aCHARGE_MARK, PySem.W.mg_of X G aPLUS, PySem.W.mg_of X G aMINUS, PySem.W.mg_of X G aELECTRON, PySem.W.mg_none_of X G z_dict, PySem.W.mg_none_of X G z_list, PySem.W.mg_none_of X G z_sum, PySem.W.mg_none_of X G z_abs, PySem.W.mg_none_of X G z_sorted, PySem.W.mg_none_of X G z_enumerate⟩
  have d_xcs : Def K mg "count_shown" "count_shown" sCountShown ["count"] := ⟨_, _, fun_mk (st := sCountShown) lxcs cxcs kxcs, (fun_mk (st := sCountShown) lxcs cxcs kxcs).binds (ps := ["count"]) fun _ _ _ _ _ _ us hl => match us, hl with | [_], _ => rfl, PySem.W.mg_of X G axcs⟩
  have d_xps : Def K mg "parts_shown" "parts_shown" sPShown ["parts"] := ⟨_, _, fun_mk (st := sPShown) lxps cxps kxps, (fun_mk (st := sPShown) lxps cxps kxps).binds (ps := ["parts"]) fun _ _ _ _ _ _ us hl => match us, hl with | [_], _ => rfl, PySem.W.mg_of X G axps⟩
  have d_xpc : Def K mg "parts_counts" "parts_counts" sPCounts ["parts", "times"] := ⟨_, _, fun_mk (st := sPCounts) lxpc cxpc kxpc, (fun_mk (st := sPCounts) lxpc cxpc kxpc).binds (ps := ["parts", "times"]) fun _ _ _ _ _ _ us hl => match us, hl with | [_, _], _ => rfl, PySem.W.mg_of X G axpc⟩
  have d_xcw : Def K mg "counts_weight" "counts_weight" sCW ["counts", "weights"] := ⟨_, _, fun_mk (st := sCW) lxcw cxcw kxcw, (fun_mk (st := sCW) lxcw cxcw kxcw).binds (ps := ["counts", "weights"]) fun _ _ _ _ _ _ us hl => match us, hl with | [_, _], _ => rfl, PySem.W.mg_of X G axcw⟩
  have d_xini : DefI K C "Atom.__init__" sInit ["self", "kind", "count"] [1] := ⟨_, _, _, funD_mk (st := sInit) lxini cxini kxini, ⟨mkC, axini, ixini, kcC⟩, fun j hj => match j, hj with | 0, _ => ⟨[.int 1 tkxini], .cons ⟨_, rfl⟩ (.nil), fun s us hk hl => match us, (show us.length = 2 by simpa using hl) with | [_, _], _ => PySem.W.binds_K (K := K) (fd := PySem.W.fnOf "__init__" "Atom.__init__" (defArgs sInit) (defBody sInit) (defScope sInit) (.ref tdxini) kVxini dcxini pmxini anxini cdxini ctxini) hk rfl txini rfl rfl rfl⟩ | 1, _ => ⟨[], .nil, fun s us hk hl => match us, (show us.length = 3 by simpa using hl) with | [_, _, _], _ => PySem.W.binds_K (K := K) (fd := PySem.W.fnOf "__init__" "Atom.__init__" (defArgs sInit) (defBody sInit) (defScope sInit) (.ref tdxini) kVxini dcxini pmxini anxini cdxini ctxini) hk rfl txini rfl rfl rfl⟩⟩
  have d_xsh : DefM K C "shown" "Atom.shown" sShown ["self"] := ⟨_, _, fun_mk (st := sShown) lxsh cxsh kxsh, (fun_mk (st := sShown) lxsh cxsh kxsh).binds (ps := ["self"]) fun _ _ _ _ _ _ us hl => match us, hl with | [_], _ => rfl, ⟨axsh, ixsh, kxsh⟩⟩
  have d_xco : DefM K C "counts" "Atom.counts" sCounts ["self"] := ⟨_, _, fun_mk (st := sCounts) lxco cxco kxco, (fun_mk (st := sCounts) lxco cxco kxco).binds (ps := ["self"]) fun _ _ _ _ _ _ us hl => match us, hl with | [_], _ => rfl, ⟨axco, ixco, kxco⟩⟩
  have d_xpi : DefI K Pc "Piece.__init__" sPInit ["self", "parts", "count"] [1] := ⟨_, _, _, funD_mk (st := sPInit) lxpi cxpi kxpi, ⟨mkPc, axpi, ixpi, kcPc⟩, fun j hj => match j, hj with | 0, _ => ⟨[.int 1 tkxpi], .cons ⟨_, rfl⟩ (.nil), fun s us hk hl => match us, (show us.length = 2 by simpa using hl) with | [_, _], _ => PySem.W.binds_K (K := K) (fd := PySem.W.fnOf "__init__" "Piece.__init__" (defArgs sPInit) (defBody sPInit) (defScope sPInit) (.ref tdxpi) kVxpi dcxpi pmxpi anxpi cdxpi ctxpi) hk rfl txpi rfl rfl rfl⟩ | 1, _ => ⟨[], .nil, fun s us hk hl => match us, (show us.length = 3 by simpa using hl) with | [_, _, _], _ => PySem.W.binds_K (K := K) (fd := PySem.W.fnOf "__init__" "Piece.__init__" (defArgs sPInit) (defBody sPInit) (defScope sPInit) (.ref tdxpi) kVxpi dcxpi pmxpi anxpi cdxpi ctxpi) hk rfl txpi rfl rfl rfl⟩⟩
  have d_xpS : DefM K Pc "shown" "Piece.shown" sPieceShown ["self"] := ⟨_, _, fun_mk (st := sPieceShown) lxpS cxpS kxpS, (fun_mk (st := sPieceShown) lxpS cxpS kxpS).binds (ps := ["self"]) fun _ _ _ _ _ _ us hl => match us, hl with | [_], _ => rfl, ⟨axpS, ixpS, kxpS⟩⟩
  have d_xpC : DefM K Pc "counts" "Piece.counts" sPieceCounts ["self"] := ⟨_, _, fun_mk (st := sPieceCounts) lxpC cxpC kxpC, (fun_mk (st := sPieceCounts) lxpC cxpC kxpC).binds (ps := ["self"]) fun _ _ _ _ _ _ us hl => match us, hl with | [_], _ => rfl, ⟨axpC, ixpC, kxpC⟩⟩
  have d_xch : Def K mg "charge_shown" "charge_shown" sChargeShown ["charge"] := ⟨_, _, fun_mk (st := sChargeShown) lxch cxch kxch, (fun_mk (st := sChargeShown) lxch cxch kxch).binds (ps := ["charge"]) fun _ _ _ _ _ _ us hl => match us, hl with | [_], _ => rfl, PySem.W.mg_of X G axch⟩
  have d_xfi : DefI K Fo "Formula.__init__" sFInit ["self", "pieces", "charge"] [0] := ⟨_, _, _, funD_mk (st := sFInit) lxfi cxfi kxfi, ⟨mkFo, axfi, ixfi, kcFo⟩, fun j hj => match j, hj with | 0, _ => ⟨[.int 0 tkxfi], .cons ⟨_, rfl⟩ (.nil), fun s us hk hl => match us, (show us.length = 2 by simpa using hl) with | [_, _], _ => PySem.W.binds_K (K := K) (fd := PySem.W.fnOf "__init__" "Formula.__init__" (defArgs sFInit) (defBody sFInit) (defScope sFInit) (.ref tdxfi) kVxfi dcxfi pmxfi anxfi cdxfi ctxfi) hk rfl txfi rfl rfl rfl⟩ | 1, _ => ⟨[], .nil, fun s us hk hl => match us, (show us.length = 3 by simpa using hl) with | [_, _, _], _ => PySem.W.binds_K (K := K) (fd := PySem.W.fnOf "__init__" "Formula.__init__" (defArgs sFInit) (defBody sFInit) (defScope sFInit) (.ref tdxfi) kVxfi dcxfi pmxfi anxfi cdxfi ctxfi) hk rfl txfi rfl rfl rfl⟩⟩
  have d_xfS : DefM K Fo "shown" "Formula.shown" sFShown ["self"] := ⟨_, _, fun_mk (st := sFShown) lxfS cxfS kxfS, (fun_mk (st := sFShown) lxfS cxfS kxfS).binds (ps := ["self"]) fun _ _ _ _ _ _ us hl => match us, hl with | [_], _ => rfl, ⟨axfS, ixfS, kxfS⟩⟩
  have d_xfC : DefM K Fo "counts" "Formula.counts" sFCounts ["self"] := ⟨_, _, fun_mk (st := sFCounts) lxfC cxfC kxfC, (fun_mk (st := sFCounts) lxfC cxfC kxfC).binds (ps := ["self"]) fun _ _ _ _ _ _ us hl => match us, hl with | [_], _ => rfl, ⟨axfC, ixfC, kxfC⟩⟩
  have d_xfW : DefM K Fo "weight" "Formula.weight" sFWeight ["self", "weights"] := ⟨_, _, fun_mk (st := sFWeight) lxfW cxfW kxfW, (fun_mk (st := sFWeight) lxfW cxfW kxfW).binds (ps := ["self", "weights"]) fun _ _ _ _ _ _ us hl => match us, hl with | [_, _], _ => rfl, ⟨axfW, ixfW, kxfW⟩⟩
  have d_xca : Def K mg "_law_cell_at" "_law_cell_at" sCellAt ["_law_script", "_law_k"] := ⟨_, _, fun_mk (st := sCellAt) lxca cxca kxca, (fun_mk (st := sCellAt) lxca cxca kxca).binds (ps := ["_law_script", "_law_k"]) fun _ _ _ _ _ _ us hl => match us, hl with | [_, _], _ => rfl, PySem.W.mg_of X G axca⟩
  have d_xmi : Def K mg "_law_mixed" "_law_mixed" sMixed ["_law_cell", "_law_prime"] := ⟨_, _, fun_mk (st := sMixed) lxmi cxmi kxmi, (fun_mk (st := sMixed) lxmi cxmi kxmi).binds (ps := ["_law_cell", "_law_prime"]) fun _ _ _ _ _ _ us hl => match us, hl with | [_, _], _ => rfl, PySem.W.mg_of X G axmi⟩
  have d_xwh : Def K mg "_law_whole" "_law_whole" sWhole ["_law_found"] := ⟨_, _, fun_mk (st := sWhole) lxwh cxwh kxwh, (fun_mk (st := sWhole) lxwh cxwh kxwh).binds (ps := ["_law_found"]) fun _ _ _ _ _ _ us hl => match us, hl with | [_], _ => rfl, PySem.W.mg_of X G axwh⟩
  have d_xki : Def K mg "_law_kind" "_law_kind" sKind ["_law_number"] := ⟨_, _, fun_mk (st := sKind) lxki cxki kxki, (fun_mk (st := sKind) lxki cxki kxki).binds (ps := ["_law_number"]) fun _ _ _ _ _ _ us hl => match us, hl with | [_], _ => rfl, PySem.W.mg_of X G axki⟩
  have d_xct : Def K mg "_law_count" "_law_count" sCount ["_law_number"] := ⟨_, _, fun_mk (st := sCount) lxct cxct kxct, (fun_mk (st := sCount) lxct cxct kxct).binds (ps := ["_law_number"]) fun _ _ _ _ _ _ us hl => match us, hl with | [_], _ => rfl, PySem.W.mg_of X G axct⟩
  have d_xfg : Def K mg "_law_figures" "_law_figures" sFigures ["_law_count_here"] := ⟨_, _, fun_mk (st := sFigures) lxfg cxfg kxfg, (fun_mk (st := sFigures) lxfg cxfg kxfg).binds (ps := ["_law_count_here"]) fun _ _ _ _ _ _ us hl => match us, hl with | [_], _ => rfl, PySem.W.mg_of X G axfg⟩
  have d_xpp : Def K mg "_law_pieces" "_law_pieces" sPieces ["_law_script"] := ⟨_, _, fun_mk (st := sPieces) lxpp cxpp kxpp, (fun_mk (st := sPieces) lxpp cxpp kxpp).binds (ps := ["_law_script"]) fun _ _ _ _ _ _ us hl => match us, hl with | [_], _ => rfl, PySem.W.mg_of X G axpp⟩
  have d_xlc : Def K mg "_law_charge" "_law_charge" sCharge ["_law_cell"] := ⟨_, _, fun_mk (st := sCharge) lxlc cxlc kxlc, (fun_mk (st := sCharge) lxlc cxlc kxlc).binds (ps := ["_law_cell"]) fun _ _ _ _ _ _ us hl => match us, hl with | [_], _ => rfl, PySem.W.mg_of X G axlc⟩
  have d_xtx : Def K mg "_law_text" "_law_text" sText ["_law_pieces_here", "_law_charge_here"] := ⟨_, _, fun_mk (st := sText) lxtx cxtx kxtx, (fun_mk (st := sText) lxtx cxtx kxtx).binds (ps := ["_law_pieces_here", "_law_charge_here"]) fun _ _ _ _ _ _ us hl => match us, hl with | [_, _], _ => rfl, PySem.W.mg_of X G axtx⟩
  have d_xcn : Def K mg "_law_counts" "_law_counts" sCountsL ["_law_pieces_here"] := ⟨_, _, fun_mk (st := sCountsL) lxcn cxcn kxcn, (fun_mk (st := sCountsL) lxcn cxcn kxcn).binds (ps := ["_law_pieces_here"]) fun _ _ _ _ _ _ us hl => match us, hl with | [_], _ => rfl, PySem.W.mg_of X G axcn⟩
  have d_xcd : Def K mg "_law_counted" "_law_counted" sCounted ["_law_formula", "_law_due"] := ⟨_, _, fun_mk (st := sCounted) lxcd cxcd kxcd, (fun_mk (st := sCounted) lxcd cxcd kxcd).binds (ps := ["_law_formula", "_law_due"]) fun _ _ _ _ _ _ us hl => match us, hl with | [_, _], _ => rfl, PySem.W.mg_of X G axcd⟩
  have d_xws : Def K mg "_law_weights" "_law_weights" sWeights ["_law_script", "_law_due"] := ⟨_, _, fun_mk (st := sWeights) lxws cxws kxws, (fun_mk (st := sWeights) lxws cxws kxws).binds (ps := ["_law_script", "_law_due"]) fun _ _ _ _ _ _ us hl => match us, hl with | [_, _], _ => rfl, PySem.W.mg_of X G axws⟩
  have Flaw := fun_mk (st := sLaw) llaw claw klaw
  refine ⟨PySem.W.fnOf "law" "law" (defArgs sLaw) (defBody sLaw) (defScope sLaw) .none kVlaw dclaw pmlaw anlaw cdlaw ctlaw, fun s v => .of_eq rfl, fun base _ _ => ?_⟩
  have q_cs := ok_count_shown (P := l.prog) (w := w) (base := base) d_xcs T.toTxtA
  have q_fi := ok_figures (P := l.prog) (w := w) (base := base) d_xfg T.toTxtA
  have q_in := ok_init (P := l.prog) (w := w) (base := base) d_xini T.toTxtA
  have q_sh := ok_shown d_xsh T.toTxtA q_cs
  have q_co := ok_counts (P := l.prog) (w := w) (base := base) d_xco T.toTxtA
  have q_ca := ok_cell_at (P := l.prog) (w := w) (base := base) d_xca T.toTxtA
  have q_mi := ok_mixed (P := l.prog) (w := w) (base := base) d_xmi T.toTxtA
  have q_wh := ok_whole (P := l.prog) (w := w) (base := base) d_xwh T.toTxtA
  have q_ki := ok_kind (P := l.prog) (w := w) (base := base) d_xki T.toTxtA
  have q_p0 := ok_pshown0 d_xps T.toTxtA q_sh
  have q_c0 := ok_pcounts0 d_xpc T.toTxtA q_co
  have q_cw := ok_cw (P := l.prog) (w := w) (base := base) d_xcw
  have q_ct := ok_count (P := l.prog) (w := w) (base := base) d_xct
  have q_pi := ok_pinit (P := l.prog) (w := w) (base := base) d_xpi T
  have q_pS := ok_pieceshown d_xpS T q_p0 q_cs
  have q_pC := ok_piececounts d_xpC T q_c0
  have q_ch := ok_charge_shown d_xch T q_cs
  have q_c2 := ok_pcounts2 d_xpc T q_pC
  have q_fI := ok_finit (P := l.prog) (w := w) (base := base) d_xfi T
  have q_fS := ok_fshown d_xfS T q_pS q_ch
  have q_fC := ok_fcounts d_xfC T q_c2
  have q_fW := ok_fweight d_xfW T q_cw q_fC
  have q_pp := ok_pieces d_xpp T q_ca q_mi q_ki q_ct
  have q_lc := ok_charge (P := l.prog) (w := w) (base := base) d_xlc
  have q_tx := ok_text d_xtx T q_fi
  have q_cn := ok_countsL (P := l.prog) (w := w) (base := base) d_xcn
  have q_cd := ok_counted d_xcd T q_wh q_fC
  have q_ws := ok_weights d_xws T q_ca
  exact ok_law Flaw T q_in q_pi q_fI q_ca q_pp q_lc q_cn q_ws q_fS q_tx q_cd q_fW q_wh
theorem walk {l : PySem.W.OpenLaw} {q : Program} {loose : List Str} {XP : (Str → Option Value) → Heap → Prop} {YP : World → Heap → Prop} {d : DefRec} {K : Params → PySem.W.Frag} (hn : l.most = some 63) (hdf : d.params.defaults = [])
    (hY : ∀ (w : World) (h : Heap), YP w h → (K w.params).In h)
    (F : ∀ (w : World) (mg : Str → Option Value) (fa : Addr) (h : Heap), (K w.params).In h → h.Ns mainGlobals mg → mg d.name = some (.ref fa) →
      ∃ fd : FuncData, (∀ (s : Shared) (u : Value), BindsTo s fd ⟨[u], []⟩ [("_law_script", u)]) ∧ ∀ base : Heap, (K w.params).In base → base.Ns mainGlobals mg → FnOk l.prog w (K w.params) mg base CX0 8 fa fd ["_law_script"] (spLaw (K w.params))) :
    PySem.W.WalkO q loose XP YP l.row.toRowW d [] (fun f vs => PySem.call f vs) :=
  L2.walk_of (n := 63) (k := 8) (x := "_law_script") (CX := fun _ => CX0) (sp := fun w => spLaw (K w.params)) hn (by decide) hdf ⟨rfl, by decide, by decide⟩ hY F (fun _ _ a ns hl _ hS => ⟨a, ns, rfl, hS, hl, fun _ => rfl⟩) fun _ _ _ _ _ z => z
end K03
open PySem PySem.W PyProof.Rows
set_option maxRecDepth 100000 in
set_option maxHeartbeats 0 in
theorem PySem.Challenge.cw_balancehall_k03_charges_holds : PySem.Challenge.rw_balancehall_k03_charges.Holds := by
  w_on; o_law; k_head; (case hw => w_witness2)
  k_fill
  refine K03.walk (l := PySem.Challenge.rw_balancehall_k03_charges) rfl rfl (fun w h Y => PySem.W.kIn_of Y) ?F
  case F =>
    intro w mg fa h KX G hmg
    refine' K03.all_mk KX G hmg ?aC ?aPc ?aFo ?axcs ?lxcs ?cxcs ?kxcs ?axps ?lxps ?cxps ?kxps ?axpc ?lxpc ?cxpc ?kxpc ?axcw ?lxcw ?cxcw ?kxcw ?axini ?ixini ?lxini ?txini ?cxini ?kxini ?axsh ?ixsh ?lxsh ?cxsh ?kxsh ?axco ?ixco ?lxco ?cxco ?kxco ?axpi ?ixpi ?lxpi ?txpi ?cxpi ?kxpi ?axpS ?ixpS ?lxpS ?cxpS ?kxpS ?axpC ?ixpC ?lxpC ?cxpC ?kxpC ?axch ?lxch ?cxch ?kxch ?axfi ?ixfi ?lxfi ?txfi ?cxfi ?kxfi ?axfS ?ixfS ?lxfS ?cxfS ?kxfS ?axfC ?ixfC ?lxfC ?cxfC ?kxfC ?axfW ?ixfW ?lxfW ?cxfW ?kxfW ?axca ?lxca ?cxca ?kxca ?axmi ?lxmi ?cxmi ?kxmi ?axwh ?lxwh ?cxwh ?kxwh ?axki ?lxki ?cxki ?kxki ?axct ?lxct ?cxct ?kxct ?axfg ?lxfg ?cxfg ?kxfg ?axpp ?lxpp ?cxpp ?kxpp ?axlc ?lxlc ?cxlc ?kxlc ?axtx ?lxtx ?cxtx ?kxtx ?axcn ?lxcn ?cxcn ?kxcn ?axcd ?lxcd ?cxcd ?kxcd ?axws ?lxws ?cxws ?kxws ?alaw ?llaw ?claw ?klaw ?pgC ?hdC ?poC ?saC ?mkC ?kcC ?pgPc ?hdPc ?poPc ?saPc ?mkPc ?kcPc ?pgFo ?hdFo ?poFo ?saFo ?mkFo ?kcFo ?nkind ?ncount ?npp ?npc ?nfp ?nfc ?z_len ?z_str ?z_int ?z_bool ?z_range ?z_isinstance ?z_dict ?z_list ?z_sum ?z_abs ?z_sorted ?z_enumerate ?aPIECE_DOT ?aCHARGE_MARK ?aPLUS ?aMINUS ?aELECTRON
    (case aC => k_is)
    (case aPc => k_is)
    (case aFo => k_is)
    (case axcs => k_is)
    (case lxcs => k_is)
    (case cxcs => k_is)
    (case kxcs => k_is)
    (case axps => k_is)
    (case lxps => k_is)
    (case cxps => k_is)
    (case kxps => k_is)
    (case axpc => k_is)
    (case lxpc => k_is)
    (case cxpc => k_is)
    (case kxpc => k_is)
    (case axcw => k_is)
    (case lxcw => k_is)
    (case cxcw => k_is)
    (case kxcw => k_is)
    (case axini => k_is)
    (case ixini => k_is)
    (case lxini => k_is)
    (case txini => k_is)
    (case cxini => k_is)
    (case kxini => k_is)
    (case axsh => k_is)
    (case ixsh => k_is)
    (case lxsh => k_is)
    (case cxsh => k_is)
    (case kxsh => k_is)
    (case axco => k_is)
    (case ixco => k_is)
    (case lxco => k_is)
    (case cxco => k_is)
    (case kxco => k_is)
    (case axpi => k_is)
    (case ixpi => k_is)
    (case lxpi => k_is)
    (case txpi => k_is)
    (case cxpi => k_is)
    (case kxpi => k_is)
    (case axpS => k_is)
    (case ixpS => k_is)
    (case lxpS => k_is)
    (case cxpS => k_is)
    (case kxpS => k_is)
    (case axpC => k_is)
    (case ixpC => k_is)
    (case lxpC => k_is)
    (case cxpC => k_is)
    (case kxpC => k_is)
    (case axch => k_is)
    (case lxch => k_is)
    (case cxch => k_is)
    (case kxch => k_is)
    (case axfi => k_is)
    (case ixfi => k_is)
    (case lxfi => k_is)
    (case txfi => k_is)
    (case cxfi => k_is)
    (case kxfi => k_is)
    (case axfS => k_is)
    (case ixfS => k_is)
    (case lxfS => k_is)
    (case cxfS => k_is)
    (case kxfS => k_is)
    (case axfC => k_is)
    (case ixfC => k_is)
    (case lxfC => k_is)
    (case cxfC => k_is)
    (case kxfC => k_is)
    (case axfW => k_is)
    (case ixfW => k_is)
    (case lxfW => k_is)
    (case cxfW => k_is)
    (case kxfW => k_is)
    (case axca => k_is)
    (case lxca => k_is)
    (case cxca => k_is)
    (case kxca => k_is)
    (case axmi => k_is)
    (case lxmi => k_is)
    (case cxmi => k_is)
    (case kxmi => k_is)
    (case axwh => k_is)
    (case lxwh => k_is)
    (case cxwh => k_is)
    (case kxwh => k_is)
    (case axki => k_is)
    (case lxki => k_is)
    (case cxki => k_is)
    (case kxki => k_is)
    (case axct => k_is)
    (case lxct => k_is)
    (case cxct => k_is)
    (case kxct => k_is)
    (case axfg => k_is)
    (case lxfg => k_is)
    (case cxfg => k_is)
    (case kxfg => k_is)
    (case axpp => k_is)
    (case lxpp => k_is)
    (case cxpp => k_is)
    (case kxpp => k_is)
    (case axlc => k_is)
    (case lxlc => k_is)
    (case cxlc => k_is)
    (case kxlc => k_is)
    (case axtx => k_is)
    (case lxtx => k_is)
    (case cxtx => k_is)
    (case kxtx => k_is)
    (case axcn => k_is)
    (case lxcn => k_is)
    (case cxcn => k_is)
    (case kxcn => k_is)
    (case axcd => k_is)
    (case lxcd => k_is)
    (case cxcd => k_is)
    (case kxcd => k_is)
    (case axws => k_is)
    (case lxws => k_is)
    (case cxws => k_is)
    (case kxws => k_is)
    (case alaw => k_is)
    (case llaw => k_is)
    (case claw => k_is)
    (case klaw => k_is)
    (case pgC => k_is)
    (case hdC => k_is)
    (case poC => k_is)
    (case saC => k_is)
    (case mkC => k_is)
    (case kcC => k_is)
    (case pgPc => k_is)
    (case hdPc => k_is)
    (case poPc => k_is)
    (case saPc => k_is)
    (case mkPc => k_is)
    (case kcPc => k_is)
    (case pgFo => k_is)
    (case hdFo => k_is)
    (case poFo => k_is)
    (case saFo => k_is)
    (case mkFo => k_is)
    (case kcFo => k_is)
    (case nkind => k_is)
    (case ncount => k_is)
    (case npp => k_is)
    (case npc => k_is)
    (case nfp => k_is)
    (case nfc => k_is)
    (case z_len => k_is)
    (case z_str => k_is)
    (case z_int => k_is)
    (case z_bool => k_is)
    (case z_range => k_is)
    (case z_isinstance => k_is)
    (case z_dict => k_is)
    (case z_list => k_is)
    (case z_sum => k_is)
    (case z_abs => k_is)
    (case z_sorted => k_is)
    (case z_enumerate => k_is)
    (case aPIECE_DOT => k_is)
    (case aCHARGE_MARK => k_is)
    (case aPLUS => k_is)
    (case aMINUS => k_is)
    (case aELECTRON => k_is)
