import PyProof.Rows.All
import Wide.All
import OpenK.AllK
import Wide.FinOn
import Lean
import PyProof.EqAt
import PyProof.EqKinds
import PyProof.TupleCall
import PySem.Challenge.RW_balancehall_k32_whole_every_balance_is_a
set_option Elab.async false
set_option linter.all false
set_option maxRecDepth 100000
/-! THE HAND LAYER, for ints, bools, texts, own classes, DICTS (int and text keys), calls, loops. Paste it whole ahead of your own text; what your proof does not reach may be deleted. -/
namespace L2
open PySem PySem.Spec PyProof.Rows

/-- a key: an int or a str -/
abbrev Key := Sum Int Str
def keyIs : Key → Value → Bool
  | .inl k, v => Value.isInt k v
  | .inr x, v => Value.isStrOf x v
def keyH (w : World) : Key → Int
  | .inl k => hashInt k
  | .inr x => hashStr w x
theorem keyIs_shape : ∀ {k : Key} {v : Value}, keyIs k v = true → (∃ i t, k = Sum.inl i ∧ v = Value.int i t) ∨ (∃ x t, k = Sum.inr x ∧ v = Value.str x t)
  | .inl i, v, h => by
    obtain ⟨t, e⟩ := Value.isInt_shape (k := i) (v := v) h
    exact .inl ⟨i, t, rfl, e⟩
  | .inr x, v, h => by
    obtain ⟨t, e⟩ := Value.isStrOf_shape (x := x) (v := v) h
    exact .inr ⟨x, t, rfl, e⟩
theorem key_ll (a b : Int) : decide ((Sum.inl a : Key) = Sum.inl b) = (a == b) := by
  by_cases e : a = b
  · subst e; simp
  · have h : ¬ (Sum.inl a : Key) = Sum.inl b := fun q => e (Sum.inl.inj q)
    rw [decide_eq_false h]
    exact (beq_eq_false_iff_ne.mpr e).symm
theorem key_rr (a b : Str) : decide ((Sum.inr a : Key) = Sum.inr b) = decide (a = b) := by
  by_cases e : a = b
  · subst e; simp
  · have h : ¬ (Sum.inr a : Key) = Sum.inr b := fun q => e (Sum.inr.inj q)
    rw [decide_eq_false h, decide_eq_false e]
theorem key_lr (a : Int) (b : Str) : decide ((Sum.inl a : Key) = Sum.inr b) = false := decide_eq_false (fun q => nomatch q)
theorem key_rl (a : Str) (b : Int) : decide ((Sum.inr a : Key) = Sum.inl b) = false := decide_eq_false (fun q => nomatch q)

def mixKind (prog : Program) (w : World) : PySem.KeyKind prog w Key where
  is := keyIs
  hash := keyH w
  inj := fun v a b ha hb => by
    rcases keyIs_shape ha with ⟨i, t, rfl, rfl⟩ | ⟨x, t, rfl, rfl⟩
    · rcases keyIs_shape hb with ⟨j, u, rfl, e⟩ | ⟨y, u, rfl, e⟩
      · injection e with e1 _; rw [e1]
      · exact nomatch e
    · rcases keyIs_shape hb with ⟨j, u, rfl, e⟩ | ⟨y, u, rfl, e⟩
      · exact nomatch e
      · injection e with e1 _; rw [e1]
  byValue := fun k v h => by
    rcases keyIs_shape h with ⟨i, t, rfl, rfl⟩ | ⟨x, t, rfl, rfl⟩ <;> rfl
  pyHash := fun hv h => by
    rcases keyIs_shape hv with ⟨i, t, rfl, rfl⟩ | ⟨x, t, rfl, rfl⟩
    · exact wpAny_pyHash_int h
    · exact wpAny_pyHash_str h
  eqBool := fun hu hv h => by
    rcases keyIs_shape hu with ⟨i, t, rfl, rfl⟩ | ⟨x, t, rfl, rfl⟩
    · rcases keyIs_shape hv with ⟨j, u, rfl, rfl⟩ | ⟨y, u, rfl, rfl⟩
      · rw [key_ll] at h; exact wpAny_eqBool_int h
      · rw [key_lr] at h; exact SeqAt.EqAt.int_str i t y u _ _ _ _ h
    · rcases keyIs_shape hv with ⟨j, u, rfl, rfl⟩ | ⟨y, u, rfl, rfl⟩
      · rw [key_rl] at h; exact SeqAt.EqAt.str_int x t j u _ _ _ _ h
      · rw [key_rr] at h; exact wpAny_eqBool_str h
  «strs» := fun k x t v h => by
    rcases keyIs_shape h with ⟨i, u, rfl, e⟩ | ⟨y, u, rfl, e⟩
    · exact nomatch e
    · injection e with e1 _
      subst e1
      cases v <;> rfl

end L2

namespace L2
open PySem PySem.Spec PyProof.Rows

/-- a value, without the heap -/
inductive V where
  | non | bl (b : Bool) | int (i : Int) | str (x : Str) | byt (b : Array UInt8) | flt (b : UInt64) | ref (a : Addr) | ty (n : String)
  deriving DecidableEq

def RelV : V → Value → Prop
  | .non, u => u = Value.none
  | .bl b, u => u = Value.bool b
  | .int i, u => ∃ t, u = Value.int i t
  | .str x, u => ∃ t, u = Value.str x t
  | .byt b, u => ∃ t, u = Value.bytes b t
  | .flt b, u => ∃ t, u = Value.float b t
  | .ref a, u => u = Value.ref a
  | .ty n, u => u = Value.type n

abbrev Vals : List V → List Value → Prop := Paired RelV
theorem Vals.length {xs : List V} {us : List Value} (r : Vals xs us) : xs.length = us.length := Paired.length r
theorem Vals.get : ∀ {xs : List V} {us : List Value} {i : Nat} {x : V}, Vals xs us → xs[i]? = some x → ∃ u, us[i]? = some u ∧ RelV x u
  | _, _, _, _, .nil, e => by simp at e
  | _, _, 0, _, .cons r _, e => by simp at e; subst e; exact ⟨_, rfl, r⟩
  | _, _, i + 1, x, .cons _ t, e => by
    obtain ⟨u, h1, h2⟩ := Vals.get (i := i) (x := x) t (by simpa using e)
    exact ⟨u, by simpa using h1, h2⟩
theorem Vals.set {x : V} {u : Value} (r : RelV x u) : ∀ {xs : List V} {us : List Value} (i : Nat), Vals xs us → Vals (xs.set i x) (us.set i u)
  | _, _, _, .nil => .nil
  | _, _, 0, .cons _ t => .cons r t
  | _, _, i + 1, .cons q t => .cons q (Vals.set r i t)
theorem Vals.append : ∀ {xs ys : List V} {us ws : List Value}, Vals xs us → Vals ys ws → Vals (xs ++ ys) (us ++ ws)
  | _, _, _, _, .nil, s => s
  | _, _, _, _, .cons r t, s => .cons r (Vals.append t s)
theorem Vals.take : ∀ {xs : List V} {us : List Value} (n : Nat), Vals xs us → Vals (xs.take n) (us.take n)
  | _, _, 0, _ => .nil
  | _, _, _ + 1, .nil => .nil
  | _, _, n + 1, .cons r t => .cons r (Vals.take n t)
theorem Vals.drop : ∀ {xs : List V} {us : List Value} (n : Nat), Vals xs us → Vals (xs.drop n) (us.drop n)
  | _, _, 0, r => r
  | _, _, _ + 1, .nil => .nil
  | _, _, n + 1, .cons _ t => Vals.drop n t
theorem Vals.none_of : ∀ {xs : List V} {us : List Value} {i : Nat}, Vals xs us → xs[i]? = none → us[i]? = none := fun {xs us i} r e => by
  have h1 := r.length
  have h2 : xs.length ≤ i := List.getElem?_eq_none_iff.mp e
  exact List.getElem?_eq_none_iff.mpr (by omega)

def RelO : Option V → Option Value → Prop
  | some v, some u => RelV v u
  | none, none => True
  | _, _ => False
def KV {κ : Type} : List (κ × V) → List (κ × Value) → Prop := Paired fun (p : κ × V) (q : κ × Value) => p.1 = q.1 ∧ RelV p.2 q.2

/-- a key of a dict (00_mix): an int or a text -/
def kV : Key → V
  | .inl i => .int i
  | .inr x => .str x

/-- what stands at a tracked address -/
inductive HO where
  /-- a list -/
  | lst (xs : List V)
  /-- a tuple (never changes) -/
  | tup (xs : List V)
  /-- a dict whose keys are ints and texts; one whose keys are tuples of ints and texts (the empty one is both) -/
  | dK (kvs : List (Key × V)) | dT (kvs : List (List Key × V))
  /-- a set of ints: its members, its size -/
  | set (S : Int → Bool) (n : Nat)
  /-- an instance of the class at C, its dict at dx, its attributes -/
  | ins (C dx : Addr) (fs : List (Str × V))
  /-- the dict of the instance at x -/
  | own (x : Addr)
  /-- the dict of an exception -/
  | xd (fs : List (Str × V))
  /-- a bound method, f of x -/
  | met (f x : Addr)
  /-- a range object lo, lo + 1, .. below hi -/
  | rng (lo hi : Int)
  /-- a thing that is known to the object (the script; a dict while a loop walks it): read, never written while it is so -/
  | frz (o : Obj) (u : HO)
  /-- a code object's table -/
  | tbl (ps : Array Value)
  /-- any other thing, by what is true of its one object (a def of one's own: SetO a S n := HO.ext fun h => ..) -/
  | ext (φ : Heap → Prop)

abbrev Hp := Addr → Option HO
def upd (H : Hp) (a : Addr) (o : HO) : Hp := fun b => if b = a then some o else H b
theorem upd_same {H : Hp} {a : Addr} {o : HO} : upd H a o a = some o := by unfold upd; rw [if_pos rfl]
theorem upd_ne {H : Hp} {a b : Addr} {o : HO} (h : b ≠ a) : upd H a o b = H b := by unfold upd; rw [if_neg h]
theorem upd_upd {H : Hp} {a : Addr} {o u : HO} : upd (upd H a o) a u = upd H a u := by
  funext b; unfold upd; split <;> rfl
/-- two objects of different content stand apart -/
theorem ne_of {H : Hp} {a b : Addr} {o u : HO} (h : H a = some o) (h' : H b = some u) (d : o ≠ u) : a ≠ b := by
  intro e; subst e; rw [h] at h'; exact d (Option.some.inj h')
theorem ne_of_none {H : Hp} {a b : Addr} {o : HO} (h : H a = some o) (h' : H b = none) : a ≠ b := by
  intro e; subst e; rw [h] at h'; cases h'

section
variable (P : Program) (w : World)
def ObjOk (H : Hp) (h : Heap) (a : Addr) : HO → Prop
  | .lst xs => xs.length ≤ sizeLine ∧ ∃ (its : List Value) (n : Nat), Vals xs its ∧ h.get? a = some { cls := .type "list", data := .seq its.toArray n }
  | .tup xs => xs.length ≤ sizeLine ∧ ∃ its : List Value, Vals xs its ∧ IsTup h a its.toArray
  | .dK kvs => kvs.length ≤ sizeLine ∧ (a == sysModules) = false ∧ ∃ vs, KV kvs vs ∧ h.DictOf (mixKind P w) a vs
  | .dT kvs => kvs.length ≤ sizeLine ∧ (a == sysModules) = false ∧ ∃ xs : List (List Key × Addr × Value),
      Paired (fun (p : List Key × V) (q : List Key × Addr × Value) => p.1 = q.1 ∧ H q.2.1 = some (.tup (p.1.map kV)) ∧ RelV p.2 q.2.2) kvs xs ∧
      ∃ o es ep, h.get? a = some o ∧ o.ExactDict ∧ o.data = .dict es ep ∧ es.toList = xs.map (entryOfKey (tupleKind (mixKind P w))) ∧ (xs.map (·.1)).Nodup
  | .set S n => h.SetOf (intKind P w) a S n
  | .ins C dx fs => H dx = some (.own a) ∧ fs.length ≤ 1000 ∧ dx ≠ a ∧ h.get? a = some (PySem.W.instObj C dx) ∧
      ∃ mA, h.Ns1 dx mA ∧ (∀ f, RelO (fs.lookup f) (mA f)) ∧ PySem.Within mA (fs.map (·.1))
  | .own _ => ∃ o, h.get? a = some o
  | .xd fs => ∃ mA, h.Ns1 a mA ∧ ∀ f, RelO (fs.lookup f) (mA f)
  | .rng lo hi => ∃ t u v, h.get? a = some { cls := .type "range", data := .fields #[.int lo t, .int hi u, .int 1 v] }
  | .frz o u => h.get? a = some o ∧ ObjOk H h a u
  | .tbl ps => h.get? a = some { cls := .none, data := .fields ps }
  | .met f x => h.get? a = some (PySem.W.methodObj (.ref f) (.ref x))
  | .ext φ => φ h ∧ (∃ o, h.get? a = some o) ∧ ∀ h1 h2 : Heap, φ h1 → (∀ o, h1.get? a = some o → h2.get? a = some o) → φ h2
/-- the abstract heap is held -/
def HOk (H : Hp) (h : Heap) : Prop := ∀ a o, H a = some o → ObjOk P w H h a o
end

section
variable {P : Program} {w : World} {H H' : Hp} {h h' : Heap} {a : Addr} {o : HO}
theorem ObjOk.lt (x : ObjOk P w H h a o) : a < h.objs.size := by
  cases o with
  | lst xs => obtain ⟨_, _, _, _, e⟩ := x; exact Heap.lt_size e
  | tup xs => obtain ⟨_, _, _, p⟩ := x; exact p.lt
  | dK kvs => obtain ⟨_, _, _, _, o, _, _, e, _⟩ := x; exact Heap.lt_size e
  | dT kvs => obtain ⟨_, _, _, _, o, _, _, e, _⟩ := x; exact Heap.lt_size e
  | set S n => obtain ⟨o, _, _, _, e, _⟩ := x; exact Heap.lt_size e
  | ins C dx fs => obtain ⟨_, _, _, e, _⟩ := x; exact Heap.lt_size e
  | own y => obtain ⟨_, e⟩ := x; exact Heap.lt_size e
  | xd fs => obtain ⟨_, ⟨_, _, _, e, _⟩, _⟩ := x; exact Heap.lt_size e
  | rng lo hi => obtain ⟨_, _, _, e⟩ := x; exact Heap.lt_size e
  | frz ob u => obtain ⟨e, _⟩ := x; exact Heap.lt_size e
  | tbl ps => exact Heap.lt_size (show h.get? a = some _ from x)
  | met f y => exact Heap.lt_size (show h.get? a = some _ from x)
  | ext φ => obtain ⟨_, ⟨_, e⟩, _⟩ := x; exact Heap.lt_size e
theorem Paired.mapP {α β : Type} {F G : α → β → Prop} : ∀ {l₁ : List α} {l₂ : List β}, Paired F l₁ l₂ → (∀ a b, F a b → G a b) → Paired G l₁ l₂
  | _, _, .nil, _ => .nil
  | _, _, .cons r t, f => .cons (f _ _ r) (Paired.mapP t f)
/-- what an object's description leans on: its own object, its own dict, the tuples -/
theorem ObjOk.stay (x : ObjOk P w H h a o) (k : ∀ b u, (b = a ∨ H b = some (.own a)) → h.get? b = some u → h'.get? b = some u)
    (ho : ∀ b, H b = some (.own a) → H' b = some (.own a)) (ht : ∀ b xs, H b = some (.tup xs) → H' b = some (.tup xs)) : ObjOk P w H' h' a o := by
  induction o with
  | lst xs => obtain ⟨z, its, n, r, e⟩ := x; exact ⟨z, its, n, r, k _ _ (.inl rfl) e⟩
  | tup xs => obtain ⟨z, its, r, ob, e, c⟩ := x; exact ⟨z, its, r, ob, k _ _ (.inl rfl) e, c⟩
  | dK kvs => obtain ⟨z, y, vs, r, ob, es, ep, e, c⟩ := x; exact ⟨z, y, vs, r, ob, es, ep, k _ _ (.inl rfl) e, c⟩
  | dT kvs =>
    obtain ⟨z, y, xs, r, ob, es, ep, e, c⟩ := x
    exact ⟨z, y, xs, Paired.mapP r fun p q z => ⟨z.1, ht _ _ z.2.1, z.2.2⟩, ob, es, ep, k _ _ (.inl rfl) e, c⟩
  | set S n => obtain ⟨ob, es, ep, t, e, c⟩ := x; exact ⟨ob, es, ep, t, k _ _ (.inl rfl) e, c⟩
  | ins C dx fs =>
    obtain ⟨d, z, ne, e, mA, ⟨od, es, ep, e2, c⟩, r⟩ := x
    exact ⟨ho _ d, z, ne, k _ _ (.inl rfl) e, mA, ⟨od, es, ep, k _ _ (.inr d) e2, c⟩, r⟩
  | own y => obtain ⟨ob, e⟩ := x; exact ⟨ob, k _ _ (.inl rfl) e⟩
  | xd fs => obtain ⟨mA, ⟨od, es, ep, e, c⟩, r⟩ := x; exact ⟨mA, ⟨od, es, ep, k _ _ (.inl rfl) e, c⟩, r⟩
  | rng lo hi => obtain ⟨t, u, v, e⟩ := x; exact ⟨t, u, v, k _ _ (.inl rfl) e⟩
  | frz ob u ih => obtain ⟨e, q⟩ := x; exact ⟨k _ _ (.inl rfl) e, ih q⟩
  | tbl ps =>
    have e : h.get? a = some { cls := .none, data := .fields ps } := x
    show h'.get? a = some { cls := .none, data := .fields ps }
    exact k a _ (.inl rfl) e
  | met f y =>
    have e : h.get? a = some (PySem.W.methodObj (.ref f) (.ref y)) := x
    show h'.get? a = some (PySem.W.methodObj (.ref f) (.ref y))
    exact k a _ (.inl rfl) e
  | ext φ => obtain ⟨p, ⟨o, e⟩, st⟩ := x; exact ⟨st _ _ p fun o q => k _ _ (.inl rfl) q, ⟨o, k _ _ (.inl rfl) e⟩, st⟩
theorem HOk.lt (x : HOk P w H h) (e : H a = some o) : a < h.objs.size := (x a o e).lt
theorem HOk.fresh (x : HOk P w H h) (e : h.objs.size ≤ a) : H a = none := by
  cases q : H a with
  | none => rfl
  | some u => exact absurd (Nat.lt_of_lt_of_le (x.lt q) e) (Nat.lt_irrefl _)
/-- every object of the heap is kept -/
theorem HOk.kept (x : HOk P w H h) (k : ∀ b u, h.get? b = some u → h'.get? b = some u) : HOk P w H h' := fun a o e =>
  (x a o e).stay (fun b u _ q => k b u q) (fun _ q => q) fun _ _ q => q
/-- a new object is laid and tracked -/
theorem HOk.laid (x : HOk P w H h) (k : ∀ b u, h.get? b = some u → h'.get? b = some u) (hp : h.objs.size ≤ a) (new : ObjOk P w (upd H a o) h' a o) : HOk P w (upd H a o) h' := fun b u e => by
  have hn := x.fresh hp
  by_cases hb : b = a
  · subst hb; rw [upd_same] at e; cases e; exact new
  · rw [upd_ne hb] at e
    exact (x b u e).stay (fun c v _ q => k c v q) (fun c q => by rw [upd_ne (ne_of_none q hn)]; exact q) fun c xs q => by rw [upd_ne (ne_of_none q hn)]; exact q
end

/-- what may be read as u: it is u, or a known u -/
def Rd (H : Hp) (a : Addr) (u : HO) : Prop := H a = some u ∨ ∃ o, H a = some (.frz o u)
theorem Rd.of {H : Hp} {a : Addr} {u : HO} (h : H a = some u) : Rd H a u := .inl h
theorem Rd.ok {P : Program} {w : World} {H : Hp} {h : Heap} {a : Addr} {u : HO} (r : Rd H a u) (x : HOk P w H h) : ObjOk P w H h a u := by
  rcases r with r | ⟨o, r⟩
  · exact x a u r
  · obtain ⟨_, q⟩ := x a _ r
    exact q
/-- what may be written -/
def Mut : Option HO → Prop
  | some (.lst _) => True
  | some (.dK _) => True
  | some (.dT _) => True
  | some (.set _ _) => True
  | some (.ins _ _ _) => True
  | some (.ext _) => True
  | _ => False
section
variable {P : Program} {w : World} {H : Hp} {h h' : Heap} {x e : Addr} {o' : HO}
/-- the object at e is changed: x itself, or the dict of the instance x -/
theorem HOk.write (ok : HOk P w H h) (mu : Mut (H x)) (he : e = x ∨ H e = some (.own x)) (k : ∀ b u, b ≠ e → h.get? b = some u → h'.get? b = some u) (heo : ∃ u, h'.get? e = some u)
    (new : ObjOk P w (upd H x o') h' x o') : HOk P w (upd H x o') h' := fun b u q => by
  have nown : ∀ c y, H c = some (.own y) → c ≠ x := fun c y r z => by subst z; rw [r] at mu; exact mu
  have ntup : ∀ c xs, H c = some (.tup xs) → c ≠ x := fun c xs r z => by subst z; rw [r] at mu; exact mu
  by_cases hb : b = x
  · subst hb; rw [upd_same] at q; cases q; exact new
  · rw [upd_ne hb] at q
    by_cases hbe : b = e
    · have q' : H b = some (.own x) := by
        rcases he with z | z
        · exact absurd (hbe.trans z) hb
        · rw [hbe]; exact z
      rw [q] at q'; cases q'
      obtain ⟨v, hv⟩ := heo
      exact ⟨v, by rw [hbe]; exact hv⟩
    · refine (ok b u q).stay (fun c v hc r => k c v ?_ r) (fun c r => by rw [upd_ne (nown c b r)]; exact r) fun c xs r => by rw [upd_ne (ntup c xs r)]; exact r
      rcases hc with rfl | hc
      · exact hbe
      · rintro rfl
        rcases he with z | z
        · exact nown c b hc z
        · rw [hc] at z; cases z; exact hb rfl
end

/-! ### kept unless tracked; of the frames at fs (the callers') the slots may change (an exception that passes writes there); of the records at ex (iterators) nothing is said -/
structure Un (fs ex : List Addr) (H H' : Hp) (h h' : Heap) : Prop where
  keep : ∀ b o, h.get? b = some o → H b = none → b ∉ fs → b ∉ ex → h'.get? b = some o
  slot : ∀ b o, h.get? b = some o → H b = none → b ∈ fs → b ∉ ex → ∃ sl, h'.get? b = some { o with slots := sl }
  free : ∀ b o, h.get? b = some o → H b = none → b ∉ ex → H' b = none
  there : ∀ b o, h.get? b = some o → b ∉ ex → ∃ o', h'.get? b = some o'
  tups : ∀ b xs, H b = some (.tup xs) → H' b = some (.tup xs)
  frzs : ∀ b o u, H b = some (.frz o u) → H' b = some (.frz o u)
  tbls : ∀ b ps, H b = some (.tbl ps) → ∃ more, H' b = some (.tbl (ps ++ more))
section
variable {fs fs' ex ex' : List Addr} {H H1 H2 : Hp} {h h1 h2 h' : Heap} {a x e : Addr} {o : HO}
theorem Un.any (u : Un fs ex H H1 h h1) {b : Addr} {ob : Obj} (q : h.get? b = some ob) (n : H b = none) (hx : b ∉ ex) : ∃ sl, h1.get? b = some { ob with slots := sl } := by
  by_cases hb : b ∈ fs
  · exact u.slot b ob q n hb hx
  · exact ⟨ob.slots, u.keep b ob q n hb hx⟩
theorem Un.trans (a : Un fs ex H H1 h h1) (b : Un fs ex H1 H2 h1 h2) : Un fs ex H H2 h h2 where
  keep := fun c ob q n hc hx => b.keep c ob (a.keep c ob q n hc hx) (a.free c ob q n hx) hc hx
  slot := fun c ob q n hc hx => by
    obtain ⟨sl, e1⟩ := a.slot c ob q n hc hx
    obtain ⟨sl', e2⟩ := b.slot c _ e1 (a.free c ob q n hx) hc hx
    exact ⟨sl', e2⟩
  free := fun c ob q n hx => by
    obtain ⟨o', e1⟩ := a.there c ob q hx
    exact b.free c o' e1 (a.free c ob q n hx) hx
  there := fun c ob q hx => by
    obtain ⟨o', e1⟩ := a.there c ob q hx
    exact b.there c o' e1 hx
  tups := fun c xs q => b.tups c xs (a.tups c xs q)
  frzs := fun c ob xs q => b.frzs c ob xs (a.frzs c ob xs q)
  tbls := fun c ps q => by
    obtain ⟨m1, e1⟩ := a.tbls c ps q
    obtain ⟨m2, e2⟩ := b.tbls c _ e1
    exact ⟨m1 ++ m2, by rw [e2, Array.append_assoc]⟩
theorem Un.kept (k : ∀ b u, h.get? b = some u → h'.get? b = some u) : Un fs ex H H h h' :=
  ⟨fun b ob q _ _ _ => k b ob q, fun b ob q _ _ _ => ⟨ob.slots, k b ob q⟩, fun _ _ _ n _ => n, fun b ob q _ => ⟨ob, k b ob q⟩, fun _ _ q => q, fun _ _ _ q => q, fun _ ps q => ⟨#[], by rw [q]; simp⟩⟩
theorem Un.refl : Un fs ex H H h h := Un.kept fun _ _ q => q
theorem Un.laid (k : ∀ b u, h.get? b = some u → h'.get? b = some u) (hp : h.objs.size ≤ a) (hn : H a = none) : Un fs ex H (upd H a o) h h' where
  keep := fun b u q _ _ _ => k b u q
  slot := fun b u q _ _ _ => ⟨u.slots, k b u q⟩
  free := fun b u q n _ => by rw [upd_ne (Nat.ne_of_lt (Nat.lt_of_lt_of_le (Heap.lt_size q) hp))]; exact n
  there := fun b u q _ => ⟨u, k b u q⟩
  tups := fun b xs q => by rw [upd_ne (ne_of_none q hn)]; exact q
  frzs := fun b u xs q => by rw [upd_ne (ne_of_none q hn)]; exact q
  tbls := fun b ps q => ⟨#[], by rw [upd_ne (ne_of_none q hn), q]; simp⟩
theorem Un.write (mu : Mut (H x)) (he : e = x ∨ H e = some (.own x)) (k : ∀ b u, b ≠ e → h.get? b = some u → h'.get? b = some u) (heo : ∃ u, h'.get? e = some u) : Un fs ex H (upd H x o) h h' := by
  have hx : ∀ b, H b = none → b ≠ x := fun b n z => by subst z; rw [n] at mu; exact mu
  have hb : ∀ b, H b = none → b ≠ e := fun b n z => by
    subst z
    rcases he with r | r
    · exact hx b n r
    · rw [n] at r; cases r
  have hm : ∀ b u, H b = some u → ¬ Mut (some u) → b ≠ x := fun b u q nm z => by subst z; rw [q] at mu; exact nm mu
  refine ⟨fun b u q n _ _ => k b u (hb b n) q, fun b u q n _ _ => ⟨u.slots, k b u (hb b n) q⟩, fun b u q n _ => by rw [upd_ne (hx b n)]; exact n, fun b u q _ => ?_,
    fun b xs q => by rw [upd_ne (hm b _ q fun z => z)]; exact q, fun b u xs q => by rw [upd_ne (hm b _ q fun z => z)]; exact q, fun b ps q => ⟨#[], by rw [upd_ne (hm b _ q fun z => z), q]; simp⟩⟩
  by_cases hbe : b = e
  · subst hbe; exact heo
  · exact ⟨u, k b u hbe q⟩
theorem Un.mono (u : Un fs ex H H1 h h1) (hs : ∀ b ∈ fs, b ∈ fs') (hx : ∀ b ∈ ex, b ∈ ex') : Un fs' ex' H H1 h h1 :=
  ⟨fun b ob q n hb he => u.keep b ob q n (fun z => hb (hs b z)) fun z => he (hx b z), fun _ _ q n _ he => u.any q n fun z => he (hx _ z), fun b ob q n he => u.free b ob q n fun z => he (hx b z), fun b ob q he => u.there b ob q fun z => he (hx b z), u.tups, u.frzs, u.tbls⟩
end

/-! ### the heap without what is tracked -/
def trk (h : Heap) (H : Hp) : List Addr := (List.range h.objs.size).filter fun a => (H a).isSome
def hidT (h : Heap) (H : Hp) : Heap := PySem.W.hideAll h (trk h H)
theorem hidT_size (h : Heap) (H : Hp) : (hidT h H).objs.size = h.objs.size := PySem.W.hideAll_size _ _
theorem hidT_get {h : Heap} {H : Hp} {b : Addr} {o : Obj} (e : h.get? b = some o) (n : H b = none) : (hidT h H).get? b = some o :=
  PySem.W.hideAll_get _ e fun hm => by
    have q : (H b).isSome = true := (List.mem_filter.mp hm).2
    rw [n] at q; simp at q
theorem of_hidT {h : Heap} {H : Hp} {b : Addr} {o : Obj} (e : (hidT h H).get? b = some o) : h.get? b = some o ∧ H b = none := by
  have e' : h.get? b = some o := PySem.W.of_hideAll (trk h H) e
  refine ⟨e', ?_⟩
  cases q : H b with
  | none => rfl
  | some x =>
    have hm : b ∈ trk h H := List.mem_filter.mpr ⟨List.mem_range.mpr (Heap.lt_size e'), by simp [q]⟩
    have z : (hidT h H).get? b = none := PySem.W.hideAll_none (trk h H) hm
    rw [z] at e; cases e

/-! ### OpenK's ledger, filled with every new object but one -/
def allNews (g h : Heap) (L : Addr) : List (Addr × Obj) := (List.range h.objs.size).filterMap fun a => if a = L ∨ (g.get? a).isSome = true then none else (h.get? a).map fun o => (a, o)
def rest (g h : Heap) (L d : Addr) : List (Addr × Obj) := (allNews g h L).filter fun p => decide (p.1 ≠ d)
end L2

namespace L2
open PySem PySem.Spec PyProof.Rows

/-- the module's facts, over the base: the heap at the law's entry without what is tracked there -/
structure Mod (K : PySem.W.Frag) (mg : Str → Option Value) (base : Heap) : Prop where
  kin : K.In base
  glob : base.Ns mainGlobals mg
  blt : ∃ mb, base.Ns builtinsNs mb ∧ ∀ x : Str, x ≠ "__name__" → mb x = bootBuiltins x
  nolimit : base.NoLimit

/-- the context: a def's body (or a comprehension's block) running. base: fixed through the whole law; s₀, H₀: the entry; outer: the frames whose slots others may change (a def's callers); stack: all frames that run;
   ex: iterators that were made ahead of the entry and are walked here (a comprehension's); fn: the names whose cells were made at the entry (a def: all; a comprehension's block: its own); calm: not within an except suite; pn: pins that every state bears; xe: what is wanted of an exception that leaves the code -/
structure Cx where
  prog : Program
  w : World
  K : PySem.W.Frag
  mg : Str → Option Value
  base : Heap
  A : Around
  N : List Str
  s₀ : Shared
  H₀ : Hp
  env : Env
  outer : List Env
  stack : List Env
  ex : List Addr
  fn : Str → Bool
  calm : Bool
  pn : List (Addr × Obj)
  xe : Value → Shared → Prop
/-- the callers' frames -/
def frs (l : List Env) : List Addr := l.filterMap (·.frame)
abbrev Cx.fs (X : Cx) : List Addr := frs X.outer

def Vis (sc : Scope) (x : Str) : Prop := sc.names.lookup x = some .local ∨ sc.names.lookup x = some .cell ∨ sc.names.lookup x = some .free
def Loc (sc : Scope) (x : Str) : Prop := sc.names.lookup x = some .local ∨ sc.names.lookup x = some .cell
def Look (env : Env) (h : Heap) (m : Str → Option Value) (x : Str) (u : Value) : Prop :=
  (env.kindOf x = some .local ∧ m x = some u) ∨ ((env.kindOf x = some .cell ∨ env.kindOf x = some .free) ∧ ∃ c, env.cells.lookup x = some c ∧ h.IsCell c (some u))

structure Cx.Ok (X : Cx) : Prop where
  mod : Mod X.K X.mg X.base
  kind : X.env.scope.kind = .function
  glob : X.env.globals = mainGlobals
  blt : X.env.builtins = builtinsNs
  above : X.s₀.heap.objs.size ≤ X.env.locals
  inj : ∀ x y c, X.env.cells.lookup x = some c → X.env.cells.lookup y = some c → x = y
  has : ∀ x, (X.env.kindOf x = some .cell ∨ X.env.kindOf x = some .free) → ∃ c, X.env.cells.lookup x = some c
  cab : ∀ x c, X.fn x = true → X.env.cells.lookup x = some c → X.s₀.heap.objs.size ≤ c
  hd : X.calm = true → X.A.handled = none
  frames : X.A.frames = some X.stack
  stk : X.stack = X.outer ∨ (X.stack = X.env :: X.outer ∧ X.env.frame = some X.env.locals)
  exf : ∀ b ∈ X.ex, b ≠ X.env.locals ∧ ∀ x c, X.env.cells.lookup x = some c → c ≠ b
  bs : ∀ b o, X.base.get? b = some o → X.s₀.heap.get? b = some o ∧ X.H₀ b = none
  bsz : X.base.objs.size ≤ X.s₀.heap.objs.size
  noex : ∀ b o, X.base.get? b = some o → b ∉ X.ex
  exfs : ∀ b ∈ X.ex, b ∉ X.fs
  funs : X.s₀.heap.FunFrames X.base X.outer
  frf : ∀ b ∈ X.fs, X.H₀ b = none

structure Inv (X : Cx) (pins : List (Addr × Obj)) (σ : List (Option V)) (H : Hp) (s : Shared) : Prop where
  ok : X.Ok
  os : s.os = X.s₀.os
  bare : AllBare s.gens
  base : Un X.fs X.ex X.H₀ H X.s₀.heap s.heap
  loc : ∃ m, s.heap.Ns X.env.locals m ∧ ∀ (i : Nat) (x : Str) (v : V), X.N[i]? = some x → σ[i]? = some (some v) → Vis X.env.scope x → ∃ u, RelV v u ∧ Look X.env s.heap m x u
  cell : ∀ x c, X.env.cells.lookup x = some c → ∃ v, s.heap.IsCell c v
  free : H X.env.locals = none
  freeC : ∀ x c, X.env.cells.lookup x = some c → H c = none
  pin : ∀ p ∈ X.pn ++ pins, s.heap.get? p.1 = some p.2 ∧ H p.1 = none ∧ p.1 ≠ X.env.locals ∧ p.1 ∉ X.fs ∧ ∀ v, p.2.data ≠ .cell v
  hok : HOk X.prog X.w H s.heap
  len : σ.length = X.N.length

section
variable {X : Cx} {pins : List (Addr × Obj)} {σ : List (Option V)} {H H' : Hp} {s : Shared} {h' : Heap}

theorem Cx.Ok.nofr (ok : X.Ok) {b : Addr} {o : Obj} (e : X.base.get? b = some o) : b ∉ X.fs := fun hb => by
  have := (ok.funs.mem hb).1
  rw [e] at this; cases this
theorem Inv.bs (I : Inv X pins σ H s) : ∀ b o, X.base.get? b = some o → s.heap.get? b = some o ∧ H b = none := fun b o e =>
  ⟨I.base.keep b o (I.ok.bs b o e).1 (I.ok.bs b o e).2 (I.ok.nofr e) (I.ok.noex b o e), I.base.free b o (I.ok.bs b o e).1 (I.ok.bs b o e).2 (I.ok.noex b o e)⟩
theorem Inv.bk (I : Inv X pins σ H s) : ∀ b o, X.base.get? b = some o → s.heap.get? b = some o := fun b o e => (I.bs b o e).1
theorem Inv.mod (I : Inv X pins σ H s) : Mod X.K X.mg X.base := I.ok.mod
theorem Inv.kIn (I : Inv X pins σ H s) : X.K.In s.heap := I.ok.mod.kin.keeps I.bk
theorem Inv.nolimit (I : Inv X pins σ H s) : s.heap.NoLimit := I.ok.mod.nolimit.keeps I.bk
/-- the frame over the base: for OpenK's rules (K.In X.base is I.mod.kin) -/
theorem Inv.fr (I : Inv X pins σ H s) : ∃ m, Fr X.base X.env.locals s.heap m :=
  let ⟨m, hn, _⟩ := I.loc
  ⟨m, hn, I.bk, Nat.le_trans I.ok.bsz I.ok.above⟩
theorem Inv.lt (I : Inv X pins σ H s) : X.env.locals < s.heap.objs.size := let ⟨_, hn, _⟩ := I.loc; hn.lt
theorem Inv.sz (I : Inv X pins σ H s) : X.s₀.heap.objs.size ≤ s.heap.objs.size := Nat.le_trans I.ok.above (Nat.le_of_lt I.lt)
theorem Inv.nofs (I : Inv X pins σ H s) {a : Addr} (h : s.heap.objs.size ≤ a) : a ∉ X.fs := fun hb => by
  obtain ⟨_, o, ho, _⟩ := I.ok.funs.mem hb
  exact absurd (Nat.lt_of_lt_of_le (Heap.lt_size ho) (Nat.le_trans I.sz h)) (Nat.lt_irrefl _)
theorem Inv.cne (I : Inv X pins σ H s) : ∀ x c, X.env.cells.lookup x = some c → c ≠ X.env.locals := fun x c e z => by
  obtain ⟨v, o, ho, hd⟩ := I.cell x c e
  obtain ⟨m, ⟨o', es, ep, ho', hd', _⟩, _⟩ := I.loc
  rw [z, ho'] at ho; cases ho; rw [hd'] at hd; cases hd
theorem Inv.funs (I : Inv X pins σ H s) : s.heap.FunFrames X.base X.outer := by
  have all : ∀ (l : List Env), (∀ b ∈ frs l, b ∈ X.fs) → X.s₀.heap.FunFrames X.base l → s.heap.FunFrames X.base l := by
    intro l
    induction l with
    | nil => intro _ _; trivial
    | cons env r ih =>
      intro hs hl
      obtain ⟨hk, ⟨L, o, hf, hn, ho, hd⟩, hr⟩ := hl
      have hL : L ∈ X.fs := hs L (by unfold frs; rw [List.filterMap_cons, hf]; exact List.mem_cons_self)
      obtain ⟨sl, e⟩ := I.base.slot L o ho (I.ok.frf L hL) hL fun z => I.ok.exfs L z hL
      exact ⟨hk, ⟨L, _, hf, hn, e, hd⟩, ih (fun b hb => hs b (by unfold frs; rw [List.filterMap_cons, hf]; exact List.mem_cons_of_mem _ hb)) hr⟩
  exact all X.outer (fun _ hb => hb) I.ok.funs

/-- the frames that run, for a call -/
theorem Inv.stack (I : Inv X pins σ H s) : s.heap.FunFrames X.base X.stack := by
  rcases I.ok.stk with e | ⟨e, hf⟩
  · rw [e]; exact I.funs
  · rw [e]
    obtain ⟨m, hn, _⟩ := I.loc
    refine .cons (by rw [I.ok.kind]; decide) hf hn ?_ I.funs
    exact Heap.get?_none_of_le (Nat.le_trans I.ok.bsz I.ok.above)
theorem Inv.stkSub (I : Inv X pins σ H s) : ∀ b ∈ frs X.stack, b ∈ X.env.locals :: X.fs := fun b hb => by
  rcases I.ok.stk with e | ⟨e, hf⟩
  · rw [e] at hb; exact List.mem_cons_of_mem _ hb
  · rw [e] at hb
    unfold frs at hb
    rw [List.filterMap_cons, hf] at hb
    exact hb
theorem Inv.stkFree (I : Inv X pins σ H s) : ∀ b ∈ frs X.stack, H b = none := fun b hb => by
  rcases List.mem_cons.mp (I.stkSub b hb) with e | hb
  · rw [e]; exact I.free
  · obtain ⟨_, o, ho, _⟩ := I.ok.funs.mem hb
    exact I.base.free b o ho (I.ok.frf b hb) fun z => I.ok.exfs b z hb

/-- THE STEP: the untracked objects but the frame and the records at ch are kept (the callers' frames up to slots), the frame's map is kept, the new abstract heap is held -/
theorem Inv.step {g' : Array GenState} {t' : Nat} {d' : Drawn} {ch : List Addr} (I : Inv X pins σ H s)
    (hch : ∀ b ∈ ch, (b ∈ X.ex ∨ X.s₀.heap.objs.size ≤ b) ∧ b ≠ X.env.locals ∧ (∀ x c, X.env.cells.lookup x = some c → c ≠ b) ∧ ∀ p ∈ X.pn ++ pins, p.1 ≠ b)
    (keep : ∀ b o, b ≠ X.env.locals → b ∉ X.fs → b ∉ ch → s.heap.get? b = some o → H b = none → h'.get? b = some o)
    (slot : ∀ b o, b ≠ X.env.locals → b ∈ X.fs → b ∉ ch → s.heap.get? b = some o → H b = none → ∃ sl, h'.get? b = some { o with slots := sl }) (free : ∀ b o, b ∉ ch → s.heap.get? b = some o → H b = none → H' b = none)
    (there : ∀ b o, b ∉ ch → s.heap.get? b = some o → ∃ o', h'.get? b = some o')
    (tups : ∀ b xs, H b = some (.tup xs) → H' b = some (.tup xs)) (frzs : ∀ b o u, H b = some (.frz o u) → H' b = some (.frz o u)) (tbls : ∀ b ps, H b = some (.tbl ps) → ∃ more, H' b = some (.tbl (ps ++ more)))
    (ns : ∀ m, s.heap.Ns X.env.locals m → h'.Ns X.env.locals m) (hok : HOk X.prog X.w H' h') (hg : AllBare g') :
    Inv X pins σ H' { s with heap := h', gens := g', drawn := d', toks := t' } := by
  have neL : ∀ b o, X.s₀.heap.get? b = some o → b ≠ X.env.locals := fun b o e => Nat.ne_of_lt (Nat.lt_of_lt_of_le (Heap.lt_size e) I.ok.above)
  have neC : ∀ b o, X.s₀.heap.get? b = some o → b ∉ X.ex → b ∉ ch := fun b o e hx hb => by
    rcases (hch b hb).1 with z | z
    · exact hx z
    · exact absurd (Nat.lt_of_lt_of_le (Heap.lt_size e) z) (Nat.lt_irrefl _)
  have cellK : ∀ x c, X.env.cells.lookup x = some c → ∀ v, s.heap.IsCell c v → h'.IsCell c v := fun x c e v ⟨o, ho, hd⟩ => by
    have nch : c ∉ ch := fun z => (hch c z).2.2.1 x c e rfl
    by_cases hc : c ∈ X.fs
    · obtain ⟨sl, q⟩ := slot c o (I.cne x c e) hc nch ho (I.freeC x c e)
      exact ⟨_, q, hd⟩
    · exact ⟨o, keep c o (I.cne x c e) hc nch ho (I.freeC x c e), hd⟩
  refine ⟨I.ok, I.os, hg, ⟨fun b o e n hb hx => ?_, fun b o e n hb hx => ?_, fun b o e n hx => ?_, fun b o e hx => ?_, fun b xs e => tups b xs (I.base.tups b xs e), fun b o xs e => frzs b o xs (I.base.frzs b o xs e), fun b ps e => ?_⟩, ?_, fun x c e => ?_, ?_, fun x c e => ?_, fun p hp => ?_, hok, I.len⟩
  · exact keep b o (neL b o e) hb (neC b o e hx) (I.base.keep b o e n hb hx) (I.base.free b o e n hx)
  · obtain ⟨sl, e1⟩ := I.base.slot b o e n hb hx
    obtain ⟨sl', e2⟩ := slot b _ (neL b o e) hb (neC b o e hx) e1 (I.base.free b o e n hx)
    exact ⟨sl', e2⟩
  · obtain ⟨o', e1⟩ := I.base.there b o e hx
    exact free b o' (neC b o e hx) e1 (I.base.free b o e n hx)
  · obtain ⟨o', e1⟩ := I.base.there b o e hx
    exact there b o' (neC b o e hx) e1
  · obtain ⟨m1, e1⟩ := I.base.tbls b ps e
    obtain ⟨m2, e2⟩ := tbls b _ e1
    exact ⟨m1 ++ m2, by rw [e2, Array.append_assoc]⟩
  · obtain ⟨m, hn, hl⟩ := I.loc
    refine ⟨m, ns m hn, fun i x v e1 e2 e3 => ?_⟩
    obtain ⟨u, r, l⟩ := hl i x v e1 e2 e3
    refine ⟨u, r, ?_⟩
    rcases l with l | ⟨k, c, e, z⟩
    · exact .inl l
    · exact .inr ⟨k, c, e, cellK x c e _ z⟩
  · obtain ⟨v, z⟩ := I.cell x c e
    exact ⟨v, cellK x c e v z⟩
  · obtain ⟨m, ⟨o, _, _, ho, _⟩, _⟩ := I.loc
    exact free _ o (fun z => (hch _ z).2.1 rfl) ho I.free
  · obtain ⟨v, o, ho, hd⟩ := I.cell x c e
    exact free c o (fun z => (hch c z).2.2.1 x c e rfl) ho (I.freeC x c e)
  · obtain ⟨e, n, ne, nf, d⟩ := I.pin p hp
    have nch : p.1 ∉ ch := fun z => (hch p.1 z).2.2.2 p hp rfl
    exact ⟨keep p.1 p.2 ne nf nch e n, free p.1 p.2 nch e n, ne, nf, d⟩
/-- .. where the frame's own object is kept too -/
theorem Inv.un {t' : Nat} (I : Inv X pins σ H s) (u : Un X.fs [] H H' s.heap h') (hok : HOk X.prog X.w H' h') : Inv X pins σ H' { s with heap := h', toks := t' } := by
  obtain ⟨m, ⟨o, es, ep, ho, r⟩, _⟩ := id I.loc
  obtain ⟨sl, hL⟩ := u.any ho I.free (by simp)
  exact I.step (g' := s.gens) (d' := s.drawn) (ch := []) (fun _ z => nomatch z) (fun b o _ hb _ e n => u.keep b o e n hb (by simp)) (fun b o _ hb _ e n => u.slot b o e n hb (by simp)) (fun b o _ e n => u.free b o e n (by simp)) (fun b o _ e => u.there b o e (by simp)) u.tups u.frzs u.tbls (fun m' hm => by
    obtain ⟨o', es', ep', ho', r'⟩ := hm
    rw [ho] at ho'; cases ho'
    exact ⟨_, es', ep', hL, r'⟩) hok I.bare
/-- behind a call (or a comprehension's block): the slots of this frame may have changed too, the records at ch may have turned -/
theorem Inv.call {g' : Array GenState} {t' : Nat} {d' : Drawn} {ch : List Addr} (I : Inv X pins σ H s) (u : Un (frs X.stack) ch H H' s.heap h') (hok : HOk X.prog X.w H' h') (hg : AllBare g')
    (hch : ∀ b ∈ ch, (b ∈ X.ex ∨ X.s₀.heap.objs.size ≤ b) ∧ b ≠ X.env.locals ∧ (∀ x c, X.env.cells.lookup x = some c → c ≠ b) ∧ ∀ p ∈ X.pn ++ pins, p.1 ≠ b) :
    Inv X pins σ H' { s with heap := h', gens := g', drawn := d', toks := t' } := by
  obtain ⟨m, ⟨o, es, ep, ho, r⟩, _⟩ := id I.loc
  obtain ⟨sl, hL⟩ := u.any ho I.free fun z => (hch _ z).2.1 rfl
  exact I.step (ch := ch) hch (fun b o hL hb hc e n => u.keep b o e n (fun z => (List.mem_cons.mp (I.stkSub b z)).elim hL hb) hc) (fun b o _ _ hc e n => u.any e n hc) (fun b o hc e n => u.free b o e n hc) (fun b o hc e => u.there b o e hc) u.tups u.frzs u.tbls (fun m' hm => by
    obtain ⟨o', es', ep', ho', r'⟩ := hm
    rw [ho] at ho'; cases ho'
    exact ⟨_, es', ep', hL, r'⟩) hok hg
/-- an untracked record of ours (an iterator) has turned -/
theorem Inv.turned {t' : Nat} {it : Addr} (I : Inv X pins σ H s) (k : ∀ b o, b ≠ it → s.heap.get? b = some o → h'.get? b = some o) (hn : H it = none) (hL : it ≠ X.env.locals)
    (h1 : it ∈ X.ex ∨ X.s₀.heap.objs.size ≤ it) (h2 : ∀ x c, X.env.cells.lookup x = some c → c ≠ it) (h3 : ∀ p ∈ X.pn ++ pins, p.1 ≠ it) : Inv X pins σ H { s with heap := h', toks := t' } := by
  have nit : ∀ b u, H b = some u → b ≠ it := fun b u e z => by rw [z, hn] at e; cases e
  refine I.step (g' := s.gens) (d' := s.drawn) (ch := [it]) (fun b hb => ?_) (fun b o _ _ hc e _ => k b o (fun z => hc (by simp [z])) e) (fun b o _ _ hc e _ => ⟨o.slots, k b o (fun z => hc (by simp [z])) e⟩) (fun _ _ _ _ n => n)
    (fun b o hc e => ⟨o, k b o (fun z => hc (by simp [z])) e⟩) (fun _ _ e => e) (fun _ _ _ e => e) (fun b ps e => ⟨#[], by rw [e]; simp⟩) (fun m hm => ?_) (fun b u e => ?_) I.bare
  · have e : b = it := by simpa using hb
    subst e
    exact ⟨h1, hL, h2, h3⟩
  · obtain ⟨o, es, ep, ho, r⟩ := hm
    exact ⟨o, es, ep, k _ o (Ne.symm hL) ho, r⟩
  · refine (I.hok b u e).stay (fun c v hc q => k c v ?_ q) (fun _ q => q) fun _ _ q => q
    rcases hc with z | z
    · rw [z]; exact nit b u e
    · exact nit c _ z
theorem Inv.tok (I : Inv X pins σ H s) (t : Nat) : Inv X pins σ H { s with toks := t } := I.un (h' := s.heap) (t' := t) Un.refl I.hok
/-- all objects kept -/
theorem Inv.kept {t' : Nat} (I : Inv X pins σ H s) (k : ∀ b u, s.heap.get? b = some u → h'.get? b = some u) : Inv X pins σ H { s with heap := h', toks := t' } := I.un (Un.kept k) (I.hok.kept k)
/-- a new object laid and tracked -/
theorem Inv.laid {a : Addr} {o : HO} {t' : Nat} (I : Inv X pins σ H s) (k : ∀ b u, s.heap.get? b = some u → h'.get? b = some u) (hp : s.heap.objs.size ≤ a) (new : ObjOk X.prog X.w (upd H a o) h' a o) :
    Inv X pins σ (upd H a o) { s with heap := h', toks := t' } := I.un (Un.laid k hp (I.hok.fresh hp)) (I.hok.laid k hp new)
/-- an object written -/
theorem Inv.write {x e : Addr} {o : HO} {t' : Nat} (I : Inv X pins σ H s) (mu : Mut (H x)) (he : e = x ∨ H e = some (.own x)) (k : ∀ b u, b ≠ e → s.heap.get? b = some u → h'.get? b = some u) (heo : ∃ u, h'.get? e = some u)
    (new : ObjOk X.prog X.w (upd H x o) h' x o) : Inv X pins σ (upd H x o) { s with heap := h', toks := t' } := I.un (Un.write mu he k heo) (I.hok.write mu he k heo new)
theorem Inv.pins_of {pins' : List (Addr × Obj)} (I : Inv X pins σ H s) (h : ∀ p ∈ pins', s.heap.get? p.1 = some p.2 ∧ H p.1 = none ∧ p.1 ≠ X.env.locals ∧ p.1 ∉ X.fs ∧ ∀ v, p.2.data ≠ .cell v) : Inv X pins' σ H s :=
  ⟨I.ok, I.os, I.bare, I.base, I.loc, I.cell, I.free, I.freeC, fun p hp => (List.mem_append.mp hp).elim (fun z => I.pin p (List.mem_append_left _ z)) (h p), I.hok, I.len⟩

theorem nodup_ix {N : List Str} (hN : N.Nodup) {i j : Nat} {x : Str} (a : N[i]? = some x) (b : N[j]? = some x) : i = j := by
  obtain ⟨h1, e1⟩ := List.getElem?_eq_some_iff.mp a
  obtain ⟨h2, e2⟩ := List.getElem?_eq_some_iff.mp b
  exact (List.getElem_inj hN).mp (e1.trans e2.symm)

/-- a name is stored; what changed -/
theorem store_ok2 {M : Model} {A : Around} {E : Value → Shared → Prop} {i : Nat} {x : Str} {v : V} {u : Value} {Q : Unit → Shared → Prop} (I : Inv X pins σ H s) (hN : X.N.Nodup) (hi : X.N[i]? = some x) (hx : Loc X.env.scope x) (r : RelV v u)
    (h : ∀ s', Inv X pins (σ.set i (some v)) H s' → (∃ a, Heap.SameBut a s.heap s'.heap ∧ (a = X.env.locals ∨ X.env.cells.lookup x = some a)) → Q () s') (hf : X.fn x = true ∨ X.env.scope.names.lookup x = some .local := by first | exact .inl rfl | exact .inr rfl | assumption) : wpAny M A (storeName X.env x u) Q E s := by
  obtain ⟨m, hn, hl⟩ := id I.loc
  have hcls : (X.env.scope.kind == .class || (X.env.scope.kind == .module && X.env.locals != X.env.globals)) = false := by rw [I.ok.kind]; rfl
  have hiσ : i < σ.length := by rw [I.len]; exact (List.getElem?_eq_some_iff.mp hi).1
  have cne := I.cne
  have tracked : ∀ {a : Addr} {h' : Heap}, (∃ o, s.heap.get? a = some o ∧ H a = none) → Heap.SameBut a s.heap h' → HOk X.prog X.w H h' := fun {a h'} ha hs b ob e => by
    obtain ⟨_, _, hfree⟩ := ha
    refine (I.hok b ob e).stay (fun c w' hc q => (hs.2 c ?_).trans q) (fun _ q => q) fun _ _ q => q
    rintro rfl
    rcases hc with rfl | hc
    · rw [hfree] at e; cases e
    · rw [hfree] at hc; cases hc
  rcases hx with hk | hk
  · refine wpAny_storeName_local hk hn (fun h' hn' hs => ?_) hcls
    obtain ⟨oL, _, _, hoL, _⟩ := id hn
    refine h _ ⟨I.ok, I.os, I.bare, ⟨fun b o e n hb hx => ?_, fun b o e n hb hx => ?_, I.base.free, fun b o e hx => ?_, I.base.tups, I.base.frzs, I.base.tbls⟩, ⟨_, hn', fun j y v' e1 e2 e3 => ?_⟩, fun y c e => ?_, I.free, I.freeC, fun p hp => ?_, tracked ⟨oL, hoL, I.free⟩ hs, by simpa using I.len⟩ ⟨_, hs, .inl rfl⟩
    · exact (hs.2 b (Nat.ne_of_lt (Nat.lt_of_lt_of_le (Heap.lt_size e) I.ok.above))).trans (I.base.keep b o e n hb hx)
    · obtain ⟨sl, e1⟩ := I.base.slot b o e n hb hx
      exact ⟨sl, (hs.2 b (Nat.ne_of_lt (Nat.lt_of_lt_of_le (Heap.lt_size e) I.ok.above))).trans e1⟩
    · obtain ⟨o', e1⟩ := I.base.there b o e hx
      exact ⟨o', (hs.2 b (Nat.ne_of_lt (Nat.lt_of_lt_of_le (Heap.lt_size e) I.ok.above))).trans e1⟩
    · by_cases hj : j = i
      · subst hj
        rw [hi] at e1; cases e1
        rw [List.getElem?_set_self hiσ] at e2
        cases e2
        exact ⟨u, r, .inl ⟨hk, by simp⟩⟩
      · rw [List.getElem?_set_ne (Ne.symm hj)] at e2
        obtain ⟨u', r', q⟩ := hl j y v' e1 e2 e3
        refine ⟨u', r', ?_⟩
        rcases q with ⟨k, e⟩ | ⟨k, c, e, z⟩
        · refine .inl ⟨k, ?_⟩
          have : y ≠ x := fun e => hj (nodup_ix hN e1 (e ▸ hi))
          simp [this, e]
        · exact .inr ⟨k, c, e, z.sameBut hs (cne y c e)⟩
    · obtain ⟨w', z⟩ := I.cell y c e
      exact ⟨w', z.sameBut hs (cne y c e)⟩
    · obtain ⟨e, n, ne, nf, d⟩ := I.pin p hp
      exact ⟨(hs.2 p.1 ne).trans e, n, ne, nf, d⟩
  · have hfn : X.fn x = true := by
      rcases hf with z | z
      · exact z
      · rw [z] at hk; cases hk
    obtain ⟨c, hc⟩ := I.ok.has x (.inl hk)
    obtain ⟨w', z⟩ := I.cell x c hc
    refine wpAny_storeName_cell I.ok.kind hk hc z (fun h' hc' hs => ?_)
    obtain ⟨oc, hoc, hocd⟩ := id z
    refine h { s with heap := h' } ⟨I.ok, I.os, I.bare, ⟨fun b o e n hb hx => ?_, fun b o e n hb hx => ?_, I.base.free, fun b o e hx => ?_, I.base.tups, I.base.frzs, I.base.tbls⟩, ⟨m, hn.sameBut hs (Ne.symm (cne x c hc)), fun j y v' e1 e2 e3 => ?_⟩, fun y c' e => ?_, I.free, I.freeC, fun p hp => ?_, tracked ⟨oc, hoc, I.freeC x c hc⟩ hs, by simpa using I.len⟩ ⟨c, hs, .inr hc⟩
    · exact (hs.2 b (Nat.ne_of_lt (Nat.lt_of_lt_of_le (Heap.lt_size e) (I.ok.cab x c hfn hc)))).trans (I.base.keep b o e n hb hx)
    · obtain ⟨sl, e1⟩ := I.base.slot b o e n hb hx
      exact ⟨sl, (hs.2 b (Nat.ne_of_lt (Nat.lt_of_lt_of_le (Heap.lt_size e) (I.ok.cab x c hfn hc)))).trans e1⟩
    · obtain ⟨o', e1⟩ := I.base.there b o e hx
      exact ⟨o', (hs.2 b (Nat.ne_of_lt (Nat.lt_of_lt_of_le (Heap.lt_size e) (I.ok.cab x c hfn hc)))).trans e1⟩
    · by_cases hj : j = i
      · subst hj
        rw [hi] at e1; cases e1
        rw [List.getElem?_set_self hiσ] at e2
        cases e2
        exact ⟨u, r, .inr ⟨.inl hk, c, hc, hc'⟩⟩
      · rw [List.getElem?_set_ne (Ne.symm hj)] at e2
        obtain ⟨u', r', q⟩ := hl j y v' e1 e2 e3
        refine ⟨u', r', ?_⟩
        rcases q with q | ⟨k, c', e, z'⟩
        · exact .inl q
        · refine .inr ⟨k, c', e, z'.sameBut hs ?_⟩
          rintro rfl
          exact hj (nodup_ix hN e1 (I.ok.inj _ _ _ e hc ▸ hi))
    · by_cases hcc : c' = c
      · subst hcc; exact ⟨_, hc'⟩
      · obtain ⟨w2, z2⟩ := I.cell y c' e
        exact ⟨w2, z2.sameBut hs hcc⟩
    · obtain ⟨e, n, ne, nf, d⟩ := I.pin p hp
      refine ⟨(hs.2 p.1 ?_).trans e, n, ne, nf, d⟩
      intro q
      rw [q, hoc] at e
      have q' : oc = p.2 := Option.some.inj e
      exact d w' (by rw [← q']; exact hocd)
theorem store_ok {M : Model} {A : Around} {E : Value → Shared → Prop} {i : Nat} {x : Str} {v : V} {u : Value} {Q : Unit → Shared → Prop} (I : Inv X pins σ H s) (hN : X.N.Nodup) (hi : X.N[i]? = some x) (hx : Loc X.env.scope x) (r : RelV v u)
    (h : ∀ s', Inv X pins (σ.set i (some v)) H s' → Q () s') (hf : X.fn x = true ∨ X.env.scope.names.lookup x = some .local := by first | exact .inl rfl | exact .inr rfl | assumption) : wpAny M A (storeName X.env x u) Q E s :=
  store_ok2 I hN hi hx r (fun s' I' _ => h s' I') hf
/-- behind a call or a block, the state as it is -/
theorem Inv.call' {s' : Shared} {ch : List Addr} (I : Inv X pins σ H s) (ho : s'.os = s.os) (u : Un (frs X.stack) ch H H' s.heap s'.heap) (hok : HOk X.prog X.w H' s'.heap) (hg : AllBare s'.gens)
    (hch : ∀ b ∈ ch, (b ∈ X.ex ∨ X.s₀.heap.objs.size ≤ b) ∧ b ≠ X.env.locals ∧ (∀ x c, X.env.cells.lookup x = some c → c ≠ b) ∧ ∀ p ∈ X.pn ++ pins, p.1 ≠ b) : Inv X pins σ H' s' := by
  obtain ⟨h', g', d', t', o'⟩ := s'
  have e : o' = s.os := ho
  subst e
  exact I.call (g' := g') (t' := t') (d' := d') u hok hg hch
end

/-! ### the judgements -/
/-- an exception: its class, its own dict's address (where it has one), the abstract heap behind it -/
abbrev XK := Value → Option Addr → Hp → Prop
abbrev St := List (Option V)
abbrev VK := V → Hp → Prop
/-- an expression's reading; a test's; an argument list's -/
abbrev TE := St → Hp → VK → Prop
abbrev TT := St → Hp → (Bool → Hp → Prop) → Prop
abbrev TA := St → Hp → (List V → Hp → Prop) → Prop
/-- what is wanted behind a statement -/
structure Ends where
  nx : St → Hp → Prop
  rt : VK
  bk : St → Hp → Prop := fun _ _ => False
  ct : St → Hp → Prop := fun _ _ => False
abbrev TS := Ends → St → Hp → Prop

def EP (X : Cx) (pins : List (Addr × Obj)) (σ : St) (Q : VK) (u : Value) (s' : Shared) : Prop := ∃ v H', Inv X pins σ H' s' ∧ RelV v u ∧ Q v H'
def TP (X : Cx) (pins : List (Addr × Obj)) (σ : St) (Q : Bool → Hp → Prop) (b : Bool) (s' : Shared) : Prop := ∃ H', Inv X pins σ H' s' ∧ Q b H'
def AP (X : Cx) (pins : List (Addr × Obj)) (σ : St) (Q : List V → Hp → Prop) (us : List Value) (s' : Shared) : Prop := ∃ vs H', Inv X pins σ H' s' ∧ Vals vs us ∧ Q vs H'
def SP (X : Cx) (pins : List (Addr × Obj)) (D : Ends) (f : Flow) (s' : Shared) : Prop :=
  match f with
  | .next => ∃ σ' H', Inv X pins σ' H' s' ∧ D.nx σ' H'
  | .brk => ∃ σ' H', Inv X pins σ' H' s' ∧ D.bk σ' H'
  | .cont => ∃ σ' H', Inv X pins σ' H' s' ∧ D.ct σ' H'
  | .ret u => ∃ v σ' H', Inv X pins σ' H' s' ∧ RelV v u ∧ D.rt v H'

def PE (X : Cx) (e : Expr) (t : TE) : Prop :=
  ∀ (pins : List (Addr × Obj)) (s : Shared) (σ : St) (H : Hp) (Q : VK), Inv X pins σ H s → t σ H Q → wpAny (model X.prog X.w) X.A (eval e X.env) (EP X pins σ Q) X.xe s
def PT (X : Cx) (e : Expr) (t : TT) : Prop :=
  ∀ (pins : List (Addr × Obj)) (s : Shared) (σ : St) (H : Hp) (Q : Bool → Hp → Prop), Inv X pins σ H s → t σ H Q → wpAny (model X.prog X.w) X.A (isTrue e X.env (eval e X.env)) (TP X pins σ Q) X.xe s
/-- a test whatever its 'whole' is (and, or) -/
def PW (X : Cx) (e : Expr) (t : TT) : Prop :=
  ∀ (whole : Sem Value) (pins : List (Addr × Obj)) (s : Shared) (σ : St) (H : Hp) (Q : Bool → Hp → Prop), Inv X pins σ H s → t σ H Q → wpAny (model X.prog X.w) X.A (isTrue e X.env whole) (TP X pins σ Q) X.xe s
theorem PW.pt {X : Cx} {e : Expr} {t : TT} (h : PW X e t) : PT X e t := h _
/-- an argument list (no star), from the left -/
def PA (X : Cx) (es : List Expr) (t : TA) : Prop :=
  ∀ (pos : Pos) (pins : List (Addr × Obj)) (s : Shared) (σ : St) (H : Hp) (Q : List V → Hp → Prop), Inv X pins σ H s → t σ H Q → wpAny (model X.prog X.w) X.A (spliced (backTo pos (starEach es X.env))) (AP X pins σ Q) X.xe s
def PS (X : Cx) (st : Stmt) (t : TS) : Prop :=
  ∀ (pins : List (Addr × Obj)) (s : Shared) (σ : St) (H : Hp) (D : Ends), Inv X pins σ H s → t D σ H → wpAny (model X.prog X.w) X.A (exec st X.env) (SP X pins D) X.xe s
def PSs (X : Cx) (st : List Stmt) (t : TS) : Prop :=
  ∀ (pins : List (Addr × Obj)) (s : Shared) (σ : St) (H : Hp) (D : Ends), Inv X pins σ H s → t D σ H → wpAny (model X.prog X.w) X.A (execs st X.env) (SP X pins D) X.xe s
/-- weaken the end -/
theorem thn {α : Type} {t : Sem α} {Q Q' : α → Shared → Prop} {M : Model} {A : Around} {E : Value → Shared → Prop} {s : Shared} (h : wpAny M A t Q E s) (hQ : ∀ a s, Q a s → Q' a s) : wpAny M A t Q' E s := wpAny_mono h hQ fun _ _ x => x
end L2

namespace L2
open PySem PySem.Spec PyProof.Rows
section
variable {X : Cx}

/-! ### names and constants -/
def tVar (i : Nat) : TE := fun σ H Q => ∃ v, σ[i]? = some (some v) ∧ Q v H
def tC (v : V) : TE := fun _ H Q => Q v H
theorem pe_var {i : Nat} {x : Str} {pos : Pos} (hN : X.N[i]? = some x) (hv : Vis X.env.scope x) (hd : (x == ("__debug__" : Str)) = false := by decide) (hcd : (x == ("__classdict__" : Str)) = false := by decide) : PE X (.Name x pos) (tVar i) := by
  intro pins s σ H Q I h
  obtain ⟨v, e, h⟩ := h
  obtain ⟨m, hn, hl⟩ := I.loc
  obtain ⟨u, r, l⟩ := hl i x v hN e hv
  have fin : EP X pins σ Q u s := ⟨v, H, I, r, h⟩
  rcases l with ⟨hk, hm⟩ | ⟨hk, c, hc, hcell⟩
  · exact wpAny_Name (wpAny_loadName_local I.ok.kind hk hn hm fin) hd
  · rcases hk with hk | hk
    · exact wpAny_Name (wpAny_loadName_cell I.ok.kind hk hc hcell fin) hd
    · exact wpAny_Name (wpAny_loadName_free I.ok.kind hk hc hcell fin hcd) hd
theorem pe_int {i j pos} : PE X (.Constant (.int i) j pos) (tC (.int i)) := fun _ _ _ H _ I h => wpAny_Constant_int ⟨.int i, H, I.tok _, ⟨_, rfl⟩, h⟩
theorem pe_bl {b j pos} : PE X (.Constant (.bool b) j pos) (tC (.bl b)) := fun _ _ _ H _ I h => Constant_bool ⟨.bl b, H, I, rfl, h⟩
theorem pe_non {j pos} : PE X (.Constant .none j pos) (tC .non) := fun _ _ _ H _ I h => Constant_none ⟨.non, H, I, rfl, h⟩
theorem pe_str {x j pos} : PE X (.Constant (.str x) j pos) (tC (.str x)) := fun _ _ _ H _ I h => Calls.Constant_str ⟨.str x, H, I.tok _, ⟨_, rfl⟩, h⟩

/-- a global name of the def -/
def Gl (X : Cx) (x : Str) : Prop := X.env.kindOf x = some .globalImplicit
theorem ld_glob {E : Value → Shared → Prop} {pins : List (Addr × Obj)} {s : Shared} {σ : St} {H : Hp} {x : Str} {u : Value} {pos : Pos} {Q : Value → Shared → Prop} (I : Inv X pins σ H s) (hg : Gl X x) (hm : X.mg x = some u) (h : Q u s)
    (hd : (x == ("__debug__" : Str)) = false := by decide) : wpAny (model X.prog X.w) X.A (eval (.Name x pos) X.env) Q E s :=
  Calls.Name_function_global I.ok.kind hg (Calls.loadGlobal_global (by rw [I.ok.glob]; exact I.mod.glob.keeps I.bk) hm h) hd
theorem ld_blt {E : Value → Shared → Prop} {pins : List (Addr × Obj)} {s : Shared} {σ : St} {H : Hp} {x : Str} {u : Value} {pos : Pos} {Q : Value → Shared → Prop} (I : Inv X pins σ H s) (hg : Gl X x) (hm : X.mg x = none) (hv : bootBuiltins x = some u) (h : Q u s)
    (hn : x ≠ "__name__" := by decide) (hd : (x == ("__debug__" : Str)) = false := by decide) : wpAny (model X.prog X.w) X.A (eval (.Name x pos) X.env) Q E s := by
  obtain ⟨mb, h1, h2⟩ := I.mod.blt
  exact Calls.Name_function_global I.ok.kind hg (Calls.loadGlobal_builtin (by rw [I.ok.glob]; exact I.mod.glob.keeps I.bk) hm (by rw [I.ok.blt]; exact h1.keeps I.bk) ((h2 x hn).trans hv) h) hd
theorem pe_bltn {x : Str} {v : V} {u : Value} {pos : Pos} (hg : Gl X x) (hm : X.mg x = none) (hv : bootBuiltins x = some u) (r : RelV v u) (hn : x ≠ "__name__" := by decide) (hd : (x == ("__debug__" : Str)) = false := by decide) : PE X (.Name x pos) (tC v) :=
  fun _ _ _ H _ I h => ld_blt I hg hm hv ⟨v, H, I, r, h⟩ hn hd

/-! ### arithmetic -/
/-- two ints -/
def t2I (ta tb : TE) (k : Int → Int → Hp → Prop) : St → Hp → Prop := fun σ H => ta σ H fun x H1 => tb σ H1 fun y H2 => ∃ i j, x = .int i ∧ y = .int j ∧ k i j H2
def tAdd (ta tb : TE) : TE := fun σ H Q => t2I ta tb (fun i j H2 => Q (.int (i + j)) H2) σ H
def tSub (ta tb : TE) : TE := fun σ H Q => t2I ta tb (fun i j H2 => Q (.int (i - j)) H2) σ H
/-- the left factor below 2^64 -/
def tMul (ta tb : TE) : TE := fun σ H Q => t2I ta tb (fun i j H2 => (-(2 ^ 64) < i ∧ i < 2 ^ 64) ∧ Q (.int (i * j)) H2) σ H
variable {a b : Expr} {ta tb : TE} {pos : Pos}
/-! ### comparisons -/
def PC (X : Cx) (op : CmpOp) (a b : Expr) (t : TE) : Prop :=
  ∀ (pins : List (Addr × Obj)) (s : Shared) (σ : St) (H : Hp) (Q : VK), Inv X pins σ H s → t σ H Q →
    wpAny (model X.prog X.w) X.A (eval a X.env) (fun v s₁ => wpAny (model X.prog X.w) X.A (eval b X.env) (fun u s₂ => wpAny (model X.prog X.w) X.A (compareOp op v u) (EP X pins σ Q) X.xe s₂) X.xe s₁) X.xe s
theorem nobehind (b : Expr) {op : CmpOp} (h : op ≠ .In) (h2 : op ≠ .NotIn) : behindInMarks op b = false := by
  have e1 : (op == CmpOp.In) = false := by cases op <;> first | rfl | exact absurd rfl h
  have e2 : (op == CmpOp.NotIn) = false := by cases op <;> first | rfl | exact absurd rfl h2
  cases b <;> simp [behindInMarks, e1, e2]
def tCmp (p : Int → Int → Bool) (ta tb : TE) : TE := fun σ H Q => t2I ta tb (fun i j H2 => Q (.bl (p i j)) H2) σ H
abbrev tLt : TE → TE → TE := tCmp fun i j => decide (i < j)
abbrev tLe : TE → TE → TE := tCmp fun i j => decide (i ≤ j)
abbrev tGt : TE → TE → TE := tCmp fun i j => decide (j < i)
abbrev tGe : TE → TE → TE := tCmp fun i j => decide (j ≤ i)
abbrev tEqI : TE → TE → TE := tCmp fun i j => decide (i = j)
abbrev tNeI : TE → TE → TE := tCmp fun i j => !decide (i = j)
/-- is None -/
def tIsN (ta : TE) : TE := fun σ H Q => ta σ H fun x H1 => Q (.bl (decide (x = .non))) H1
def tNotN (ta : TE) : TE := fun σ H Q => ta σ H fun x H1 => Q (.bl (!decide (x = .non))) H1
theorem RelV.none_iff {x : V} {v : Value} (r : RelV x v) : (v == Value.none) = decide (x = .non) := by
  cases x with
  | non => cases r; rfl
  | bl _ => cases r; rfl
  | int _ => obtain ⟨t, rfl⟩ := r; rfl
  | str _ => obtain ⟨t, rfl⟩ := r; rfl
  | byt _ => obtain ⟨t, rfl⟩ := r; rfl
  | flt _ => obtain ⟨t, rfl⟩ := r; rfl
  | ref _ => cases r; rfl
  | ty _ => cases r; rfl
theorem pc_isN {j pos'} (ha : PE X a ta) : PC X .Is a (.Constant .none j pos') (tIsN ta) := by
  intro pins s σ H Q I h
  refine thn (ha pins s σ H _ I h) fun v s1 ⟨x, H1, I1, r1, q1⟩ => ?_
  exact Constant_none (is_none_gen ⟨.bl _, H1, I1, by rw [r1.none_iff]; rfl, q1⟩)
/-- a comparison as a value, as a test -/
def tB (t : TE) : TT := fun σ H Q => t σ H fun x H1 => ∃ c, x = .bl c ∧ Q c H1
theorem pt_cmp {op : CmpOp} {t : TE} (h : PC X op a b t) (h1 : behindInMarks op b = false := by first | exact nobehind _ (by decide) (by decide) | rfl) : PT X (.Compare a [op] [b] pos) (tB t) := by
  intro pins s σ H Q I hw
  refine wpAny_isTrue_Compare1 (thn (h pins s σ H _ I hw) fun v s1 h1 => thn h1 fun u s2 h2 => thn h2 fun c s3 ⟨x, H1, I1, r1, q1⟩ => ?_) h1
  obtain ⟨d, rfl, q⟩ := q1
  cases r1
  exact wpAny_truthy_bool ⟨H1, I1, q⟩
/-- an expression whose value is a bool, as a test -/
theorem pt_val {e : Expr} {t : TE} (h : PE X e t) (he : ∀ whole, isTrue e X.env whole = (do let v ← whole; standAt e.pos; holding [v] (truthy v)) := by intro _; rfl) : PT X e (tB t) := by
  intro pins s σ H Q I hw
  refine isTrue_plain (thn (h pins s σ H _ I hw) fun v s1 ⟨x, H1, I1, r1, q1⟩ => ?_) (he _)
  obtain ⟨d, rfl, q⟩ := q1
  cases r1
  exact wpAny_truthy_bool ⟨H1, I1, q⟩

/-! ### and, or, not -/
variable {tA tB' : TT} {rest : List Expr}
def tAnd (t u : TT) : TT := fun σ H Q => t σ H fun c H1 => if c = true then u σ H1 Q else Q false H1
def tOr (t u : TT) : TT := fun σ H Q => t σ H fun c H1 => if c = true then Q true H1 else u σ H1 Q
def tNot (t : TT) : TT := fun σ H Q => t σ H fun c H1 => Q (!c) H1
theorem pw_and1 (ha : PT X a tA) : PW X (.BoolOp .And [a] pos) tA := by
  intro wh pins s σ H Q I h
  refine isTrue_and (thn (ha pins s σ H Q I h) fun c s1 e => ?_)
  cases c with
  | true => exact isTrue_and_nil e
  | false => exact e
theorem pw_or1 (ha : PT X a tA) : PW X (.BoolOp .Or [a] pos) tA := by
  intro wh pins s σ H Q I h
  refine isTrue_or (thn (ha pins s σ H Q I h) fun c s1 e => ?_)
  cases c with
  | false => exact isTrue_or_nil e
  | true => exact e
theorem pw_and (ha : PT X a tA) (hb : PW X (.BoolOp .And (b :: rest) pos) tB') : PW X (.BoolOp .And (a :: b :: rest) pos) (tAnd tA tB') := by
  intro wh pins s σ H Q I h
  refine isTrue_and (thn (ha pins s σ H _ I h) fun c s1 ⟨H1, I1, q1⟩ => ?_)
  cases c with
  | true => exact hb wh pins s1 σ H1 Q I1 q1
  | false => exact ⟨H1, I1, q1⟩
theorem pw_or (ha : PT X a tA) (hb : PW X (.BoolOp .Or (b :: rest) pos) tB') : PW X (.BoolOp .Or (a :: b :: rest) pos) (tOr tA tB') := by
  intro wh pins s σ H Q I h
  refine isTrue_or (thn (ha pins s σ H _ I h) fun c s1 ⟨H1, I1, q1⟩ => ?_)
  cases c with
  | true => exact ⟨H1, I1, q1⟩
  | false => exact hb wh pins s1 σ H1 Q I1 q1
theorem pt_not (ha : PT X a tA) : PT X (.UnaryOp .Not a pos) (tNot tA) := by
  intro pins s σ H Q I h
  exact isTrue_not (ha pins s σ H (fun c H1 => Q (!c) H1) I h)
/-- .. as values (bools) -/
def tAndV (ta tb : TE) : TE := fun σ H Q => ta σ H fun x H1 => ∃ c, x = .bl c ∧ if c = true then tb σ H1 Q else Q (.bl false) H1
def tOrV (ta tb : TE) : TE := fun σ H Q => ta σ H fun x H1 => ∃ c, x = .bl c ∧ if c = true then Q (.bl true) H1 else tb σ H1 Q
def tNotV (ta : TE) : TE := fun σ H Q => ta σ H fun x H1 => ∃ c, x = .bl c ∧ Q (.bl (!c)) H1
theorem pe_one {op} {t : TE} (h : PE X a t) : PE X (.BoolOp op [a] pos) t := fun pins s σ H Q I hw => BoolOp_one (h pins s σ H Q I hw)
theorem pe_and (ha : PE X a ta) (hb : PE X (.BoolOp .And (b :: rest) pos) tb) : PE X (.BoolOp .And (a :: b :: rest) pos) (tAndV ta tb) := by
  intro pins s σ H Q I h
  refine BoolOp_and (thn (ha pins s σ H _ I h) fun v s1 ⟨x, H1, I1, r1, q1⟩ => ?_)
  obtain ⟨c, rfl, q1⟩ := q1
  cases r1
  refine wpAny_truthy_bool ?_
  cases c with
  | true => exact hb pins s1 σ H1 Q I1 q1
  | false => exact ⟨.bl false, H1, I1, rfl, q1⟩
theorem pe_not (ha : PE X a ta) : PE X (.UnaryOp .Not a pos) (tNotV ta) := by
  intro pins s σ H Q I h
  refine UnaryOp_ (thn (ha pins s σ H _ I h) fun v s1 ⟨x, H1, I1, r1, q1⟩ => ?_)
  obtain ⟨c, rfl, q1⟩ := q1
  cases r1
  exact not_of (wpAny_truthy_bool ⟨.bl (!c), H1, I1, rfl, q1⟩)
/-- a if t else b -/
def tIf (t : TT) (ta tb : TE) : TE := fun σ H Q => t σ H fun c H1 => if c = true then ta σ H1 Q else tb σ H1 Q
end
end L2

namespace L2
open PySem PySem.Spec PyProof.Rows

/-! ### a list, a tuple that is read: tracked, frozen, or an object of the module -/
def SqL (K : PySem.W.Frag) (H : Hp) (a : Addr) (xs : List V) : Prop :=
  Rd H a (.lst xs) ∨
    ∃ (o : Obj) (its : Array Value) (n : Nat), K.lookup a = some o ∧ o.cls = .type "list" ∧ o.dict = none ∧ o.data = .seq its n ∧ its.size ≤ sizeLine ∧ Vals xs its.toList
def SqT (K : PySem.W.Frag) (H : Hp) (a : Addr) (xs : List V) : Prop :=
  Rd H a (.tup xs) ∨
    ∃ (o : Obj) (its : Array Value) (n : Nat), K.lookup a = some o ∧ o.cls = .type "tuple" ∧ o.data = .seq its n ∧ its.size ≤ sizeLine ∧ Vals xs its.toList
def absV : Value → Option V
  | .none => some .non
  | .bool b => some (.bl b)
  | .int i _ => some (.int i)
  | .str x _ => some (.str x)
  | .bytes b _ => some (.byt b)
  | .float b _ => some (.flt b)
  | .ref a => some (.ref a)
  | .type n => some (.ty n)
  | _ => none
theorem RelV.abs {x : V} {u : Value} (r : RelV x u) : absV u = some x := by
  cases x with
  | non => cases r; rfl
  | bl _ => cases r; rfl
  | int _ => obtain ⟨t, rfl⟩ := r; rfl
  | str _ => obtain ⟨t, rfl⟩ := r; rfl
  | byt _ => obtain ⟨t, rfl⟩ := r; rfl
  | flt _ => obtain ⟨t, rfl⟩ := r; rfl
  | ref _ => cases r; rfl
  | ty _ => cases r; rfl
theorem RelV.inj {x y : V} {u : Value} (r : RelV x u) (q : RelV y u) : x = y := Option.some.inj (r.abs.symm.trans q.abs)
theorem Vals.inj : ∀ {xs ys : List V} {us : List Value}, Vals xs us → Vals ys us → xs = ys
  | _, _, _, .nil, .nil => rfl
  | _, _, _, .cons r t, .cons r' t' => by rw [r.inj r', Vals.inj t t']
section
variable {X : Cx} {pins : List (Addr × Obj)} {σ : St} {H : Hp} {s : Shared} {a : Addr} {xs ys : List V}
theorem SqL.of {K : PySem.W.Frag} (h : H a = some (.lst xs)) : SqL K H a xs := .inl (.inl h)
theorem SqT.of {K : PySem.W.Frag} (h : H a = some (.tup xs)) : SqT K H a xs := .inl (.inl h)
theorem Inv.list (I : Inv X pins σ H s) (h : SqL X.K H a xs) : ∃ its : List Value, Vals xs its ∧ PlainL s.heap a its.toArray ∧ xs.length ≤ sizeLine := by
  rcases h with h | ⟨o, its, n, hk, hc, hd, hs, hz, r⟩
  · obtain ⟨z, its, n, r, e⟩ := h.ok I.hok
    exact ⟨its, r, ⟨_, n, e, rfl, rfl, rfl⟩, z⟩
  · refine ⟨its.toList, r, ⟨o, n, I.kIn a o hk, hc, hd, by simpa using hs⟩, ?_⟩
    have e := r.length
    simp only [Array.length_toList] at e
    omega
theorem Inv.tuple (I : Inv X pins σ H s) (h : SqT X.K H a xs) : ∃ its : List Value, Vals xs its ∧ IsTup s.heap a its.toArray ∧ xs.length ≤ sizeLine := by
  rcases h with h | ⟨o, its, n, hk, hc, hs, hz, r⟩
  · obtain ⟨z, its, r, p⟩ := h.ok I.hok
    exact ⟨its, r, p, z⟩
  · refine ⟨its.toList, r, ⟨o, I.kIn a o hk, hc, n, by simpa using hs⟩, ?_⟩
    have e := r.length
    simp only [Array.length_toList] at e
    omega
theorem Inv.list_inj (I : Inv X pins σ H s) (h : SqL X.K H a xs) (h' : SqL X.K H a ys) : xs = ys := by
  obtain ⟨its, r, ⟨o, n, e, _, _, d⟩, _⟩ := I.list h
  obtain ⟨its', r', ⟨o', n', e', _, _, d'⟩, _⟩ := I.list h'
  rw [e] at e'; cases e'
  rw [d] at d'
  injection d' with d1 _
  have : its = its' := by simpa using congrArg Array.toList d1
  subst this
  exact r.inj r'
end

/-! ### another wish about exceptions -/
abbrev Cx.wish (X : Cx) (E : Value → Shared → Prop) : Cx := { X with xe := E }
/-- no exception leaves -/
abbrev Cx.nox (X : Cx) : Cx := X.wish fun _ _ => False
theorem Cx.Ok.wish {X : Cx} (ok : X.Ok) (E : Value → Shared → Prop) : (X.wish E).Ok :=
  ⟨ok.mod, ok.kind, ok.glob, ok.blt, ok.above, ok.inj, ok.has, ok.cab, ok.hd, ok.frames, ok.stk, ok.exf, ok.bs, ok.bsz, ok.noex, ok.exfs, ok.funs, ok.frf⟩
theorem Cx.Ok.unwish {X : Cx} {E : Value → Shared → Prop} (ok : (X.wish E).Ok) : X.Ok :=
  ⟨ok.mod, ok.kind, ok.glob, ok.blt, ok.above, ok.inj, ok.has, ok.cab, ok.hd, ok.frames, ok.stk, ok.exf, ok.bs, ok.bsz, ok.noex, ok.exfs, ok.funs, ok.frf⟩
section
variable {X : Cx} {pins : List (Addr × Obj)} {σ : St} {H : Hp} {s : Shared} {E : Value → Shared → Prop}
theorem Inv.wish (I : Inv X pins σ H s) (E : Value → Shared → Prop) : Inv (X.wish E) pins σ H s := ⟨I.ok.wish E, I.os, I.bare, I.base, I.loc, I.cell, I.free, I.freeC, I.pin, I.hok, I.len⟩
theorem Inv.unwish (I : Inv (X.wish E) pins σ H s) : Inv X pins σ H s := ⟨I.ok.unwish, I.os, I.bare, I.base, I.loc, I.cell, I.free, I.freeC, I.pin, I.hok, I.len⟩
theorem SP.unwish {D : Ends} {f : Flow} {s' : Shared} (h : SP (X.wish E) pins D f s') : SP X pins D f s' := by
  cases f with
  | next => obtain ⟨σ', H', I, q⟩ := h; exact ⟨σ', H', I.unwish, q⟩
  | brk => obtain ⟨σ', H', I, q⟩ := h; exact ⟨σ', H', I.unwish, q⟩
  | cont => obtain ⟨σ', H', I, q⟩ := h; exact ⟨σ', H', I.unwish, q⟩
  | ret u => obtain ⟨v, σ', H', I, r, q⟩ := h; exact ⟨v, σ', H', I.unwish, r, q⟩
theorem PE.nox {e : Expr} {t : TE} (h : PE X.nox e t) : PE X e t := fun pins s σ H Q I hw =>
  wpAny_mono (h pins s σ H Q (I.wish _) hw) (fun _ _ ⟨v, H', I', r, q⟩ => ⟨v, H', I'.unwish, r, q⟩) fun _ _ z => False.elim z
theorem PT.nox {e : Expr} {t : TT} (h : PT X.nox e t) : PT X e t := fun pins s σ H Q I hw =>
  wpAny_mono (h pins s σ H Q (I.wish _) hw) (fun _ _ ⟨H', I', q⟩ => ⟨H', I'.unwish, q⟩) fun _ _ z => False.elim z
theorem PSs.nox {st : List Stmt} {t : TS} (h : PSs X.nox st t) : PSs X st t := fun pins s σ H D I hw =>
  wpAny_mono (h pins s σ H D (I.wish _) hw) (fun _ _ q => q.unwish) fun _ _ z => False.elim z
end

/-! ### blocks and small statements -/
section
variable {X : Cx} {st : Stmt} {rest : List Stmt} {t u : TS} {e : Expr} {te : TE} {pos : Pos}
def tNext : TS := fun D σ H => D.nx σ H
def tSeq (t u : TS) : TS := fun D σ H => t { D with nx := u D } σ H
theorem pss_nil : PSs X [] tNext := fun _ _ σ H _ I h => wpAny_execs_nil ⟨σ, H, I, h⟩
theorem pss_cons (h1 : PS X st t) (h2 : PSs X rest u) : PSs X (st :: rest) (tSeq t u) := by
  intro pins s σ H D I h
  refine wpAny_execs_cons (thn (h1 pins s σ H { D with nx := u D } I h) fun f s1 q => ?_)
  cases f with
  | next =>
    obtain ⟨σ', H', I', q⟩ := q
    exact h2 pins s1 σ' H' D I' q
  | ret v => exact q
  | brk => exact q
  | cont => exact q
theorem pss_one (h1 : PS X st t) : PSs X [st] t := by
  intro pins s σ H D I h
  refine wpAny_execs_cons (thn (h1 pins s σ H D I h) fun f s1 q => ?_)
  cases f with
  | next => exact wpAny_execs_nil q
  | ret v => exact q
  | brk => exact q
  | cont => exact q
def tBreak : TS := fun D σ H => D.bk σ H
def tCont : TS := fun D σ H => D.ct σ H
/-- in a def's body nothing is shown -/
theorem Inv.quiet {pins : List (Addr × Obj)} {σ : St} {H : Hp} {s : Shared} (I : Inv X pins σ H s) : interactive X.env = false := by simp [interactive, I.ok.kind]
/-- an expression whose value is dropped -/
def tDrop (te : TE) : TS := fun D σ H => te σ H fun _ H1 => D.nx σ H1
theorem ps_expr (he : PE X e te) (hs : swapsWith e none pos.line X.env = pure false := by rfl) : PS X (.Expr e pos) (tDrop te) := by
  intro pins s σ H D I h
  exact wpAny_Expr_any (thn (he pins s σ H _ I h) fun v s1 ⟨x, H1, I1, r1, q1⟩ => ⟨σ, H1, I1, q1⟩) I.quiet hs
def tRet (te : TE) : TS := fun D σ H => te σ H D.rt
theorem ps_ret (he : PE X e te) : PS X (.Return (some e) pos) (tRet te) := by
  intro pins s σ H D I h
  exact wpAny_Return_some (thn (he pins s σ H _ I h) fun v s1 ⟨x, H1, I1, r1, q1⟩ => ⟨x, σ, H1, I1, r1, q1⟩)
def tRetN : TS := fun D _ H => D.rt .non H
def tIfS (c : TT) (t u : TS) : TS := fun D σ H => c σ H fun b H1 => if b = true then t D σ H1 else u D σ H1
theorem ps_if {c : Expr} {a b : List Stmt} {tc : TT} (hc : PT X c tc) (ha : PSs X a t) (hb : PSs X b u) : PS X (.If c a b pos) (tIfS tc t u) := by
  intro pins s σ H D I h
  refine wpAny_If (thn (hc pins s σ H _ I h) fun d s1 ⟨H1, I1, q1⟩ => ?_)
  cases d with
  | true => exact ha pins s1 σ H1 D I1 q1
  | false => exact hb pins s1 σ H1 D I1 q1
/-- code that the proof never comes to -/
def tNever : TS := fun _ _ _ => False
theorem ps_never : PS X st tNever := fun _ _ _ _ _ _ h => h.elim
end

/-! ### targets -/
abbrev TG := V → St → Hp → (St → Hp → Prop) → Prop
abbrev TGs := List V → St → Hp → (St → Hp → Prop) → Prop
def PG (X : Cx) (target : Expr) (t : TG) : Prop :=
  ∀ (pins : List (Addr × Obj)) (s : Shared) (σ : St) (H : Hp) (v : V) (u : Value) (Q : St → Hp → Prop), Inv X pins σ H s → RelV v u → t v σ H Q →
    wpAny (model X.prog X.w) X.A (assign target X.env u) (fun _ s' => ∃ σ' H', Inv X pins σ' H' s' ∧ Q σ' H') X.xe s
/-- several targets, one after another -/
def PGs (X : Cx) (ts : List Expr) (t : TGs) : Prop :=
  ∀ (pins : List (Addr × Obj)) (s : Shared) (σ : St) (H : Hp) (vs : List V) (us : List Value) (Q : St → Hp → Prop), Inv X pins σ H s → Vals vs us → t vs σ H Q →
    wpAny (model X.prog X.w) X.A (assignInOrder ((assignEach ts X.env).map (·.2)) us) (fun _ s' => ∃ σ' H', Inv X pins σ' H' s' ∧ Q σ' H') X.xe s
/-- o[i] = v, by values -/
abbrev TSet := V → V → V → Hp → (Hp → Prop) → Prop
def PSet (X : Cx) (t : TSet) : Prop :=
  ∀ (pins : List (Addr × Obj)) (s : Shared) (σ : St) (H : Hp) (o i v : V) (ov iv u : Value) (Q : Hp → Prop), Inv X pins σ H s → RelV o ov → RelV i iv → RelV v u → t o i v H Q →
    wpAny (model X.prog X.w) X.A (setItem ov iv u) (fun _ s' => ∃ H', Inv X pins σ H' s' ∧ Q H') X.xe s
/-- a op= b, by values -/
abbrev TIp := V → V → Hp → VK → Prop
def PIp (X : Cx) (op : Operator) (t : TIp) : Prop :=
  ∀ (pins : List (Addr × Obj)) (s : Shared) (σ : St) (H : Hp) (x y : V) (v u : Value) (Q : VK), Inv X pins σ H s → RelV x v → RelV y u → t x y H Q →
    wpAny (model X.prog X.w) X.A (inplaceOp op v u) (EP X pins σ Q) X.xe s
section
variable {X : Cx} {pos : Pos}
def gName (i : Nat) : TG := fun v σ H Q => Q (σ.set i (some v)) H
theorem pg_name {i : Nat} {x : Str} (hN : X.N.Nodup) (hi : X.N[i]? = some x) (hx : Loc X.env.scope x) (hf : X.fn x = true ∨ X.env.scope.names.lookup x = some .local := by first | exact .inl rfl | exact .inr rfl | assumption) : PG X (.Name x pos) (gName i) := by
  intro pins s σ H v u Q I r h
  exact wpAny_assign_Name (store_ok I hN hi hx r (fun s' I' => ⟨_, H, I', h⟩) hf)
def gNil : TGs := fun vs σ H Q => vs = [] ∧ Q σ H
def gCons (t : TG) (u : TGs) : TGs := fun vs σ H Q => ∃ v r, vs = v :: r ∧ t v σ H fun σ' H' => u r σ' H' Q
theorem pgs_nil : PGs X [] gNil := by
  intro pins s σ H vs us Q I r h
  obtain ⟨e, h⟩ := h
  subst e
  cases r
  exact assignInOrder_nil ⟨σ, H, I, h⟩
theorem pgs_cons {e : Expr} {es : List Expr} {t : TG} {u : TGs} (h1 : PG X e t) (h2 : PGs X es u)
    (hs : (assignEach (e :: es) X.env).map (·.2) = assign e X.env :: (assignEach es X.env).map (·.2) := by rfl) : PGs X (e :: es) (gCons t u) := by
  intro pins s σ H vs us Q I r h
  obtain ⟨v, vr, e1, h⟩ := h
  subst e1
  cases r with
  | cons r rr =>
    rw [hs]
    refine assignInOrder_cons (thn (h1 pins s σ H _ _ _ I r h) fun _ s1 ⟨σ1, H1, I1, q1⟩ => ?_)
    exact h2 pins s1 σ1 H1 _ _ Q I1 rr q1
/-- (a, b, ..) = a tuple of that length -/
def gTup (K : PySem.W.Frag) (n : Nat) (t : TGs) : TG := fun v σ H Q => ∃ a xs, v = .ref a ∧ SqT K H a xs ∧ xs.length = n ∧ t xs σ H Q
theorem pg_tup {es : List Expr} {k : Nat} {t : TGs} {n : Nat} (hc : X.calm = true) (h : PGs X es t)
    (hn : (assignEach es X.env).length = n := by rfl) (hst : (assignEach es X.env).findIdx? (·.1) = none := by rfl) : PG X (.Tuple es k pos) (gTup X.K n t) := by
  intro pins s σ H v u Q I r hw
  obtain ⟨a, xs, e1, hq, hl, hw⟩ := hw
  subst e1
  cases r
  obtain ⟨its, rv, ht, hz⟩ := I.tuple hq
  refine assign_Tuple_tuple (I.ok.hd hc) ht (by simp [hn, ← hl, rv.length]) hst fun h' hx => ?_
  have I1 : Inv X pins σ H { s with heap := h' } := I.kept (t' := s.toks) fun b o e => hx b o (Nat.ne_of_lt (Heap.lt_size e)) e
  exact h pins _ σ H xs _ Q I1 (by simpa using rv) hw
/-- o[i] = .. -/
def gSub (to ti : TE) (t : TSet) : TG := fun v σ H Q => to σ H fun o H1 => ti σ H1 fun i H2 => t o i v H2 fun H3 => Q σ H3
theorem pg_sub {o i : Expr} {to ti : TE} {t : TSet} (ho : PE X o to) (hi : PE X i ti) (hs : PSet X t)
    (ha : ∀ v, assign (.Subscript o i pos) X.env v = (do
      let ov ← holding [v] (eval o X.env)
      let iv ← holding [v, ov] (eval i X.env)
      standAt pos
      holding [v, ov, iv] (setItem ov iv v)
      release [v, ov, iv] []) := by intro _; rfl) : PG X (.Subscript o i pos) (gSub to ti t) := by
  intro pins s σ H v u Q I r h
  rw [ha]
  refine wpAny_bind (wpAny_holding (thn (ho pins s σ H _ I h) fun ov s1 ⟨x, H1, I1, r1, q1⟩ => ?_))
  refine wpAny_bind (wpAny_holding (thn (hi pins s1 σ H1 _ I1 q1) fun iv s2 ⟨y, H2, I2, r2, q2⟩ => ?_))
  refine wpAny_bind (wpAny_standAt (wpAny_bind (wpAny_holding (thn (hs pins s2 σ H2 x y v ov iv u _ I2 r1 r2 r q2) fun _ s3 ⟨H3, I3, q3⟩ => ?_))))
  exact wpAny_release ⟨σ, H3, I3, q3⟩
/-- target = value -/
def tAsg (te : TE) (g : TG) : TS := fun D σ H => te σ H fun x H1 => g x σ H1 D.nx
theorem ps_asg {tg e : Expr} {te : TE} {g : TG} (he : PE X e te) (hg : PG X tg g) (hs : swapsWithSole [tg] e pos.line X.env = pure false := by rfl) (hw : swappedStores [tg] e X.env = pure none := by rfl)
    (h1 : (assignEach [tg] X.env).map (·.2) = [assign tg X.env] := by rfl) : PS X (.Assign [tg] e pos) (tAsg te g) := by
  intro pins s σ H D I h
  refine wpAny_Assign_stores (thn (he pins s σ H _ I h) fun v s1 ⟨x, H1, I1, r1, q1⟩ => ?_) hs hw
  rw [h1]
  exact thn (hg pins s1 σ H1 x v _ I1 r1 q1) fun _ s2 q => q
/-- name = value -/
theorem ps_set {i : Nat} {x : Str} {e : Expr} {te : TE} {pos' : Pos} (hN : X.N.Nodup) (hi : X.N[i]? = some x) (hx : Loc X.env.scope x) (he : PE X e te) (hs : swapsWith e (some (.Name x pos')) pos.line X.env = pure false := by rfl) (hf : X.fn x = true ∨ X.env.scope.names.lookup x = some .local := by first | exact .inl rfl | exact .inr rfl | assumption) :
    PS X (.Assign [.Name x pos'] e pos) (tAsg te (gName i)) := by
  intro pins s σ H D I h
  refine wpAny_Assign_Name (thn (he pins s σ H _ I h) fun v s1 ⟨y, H1, I1, r1, q1⟩ => ?_) hs
  exact store_ok I1 hN hi hx r1 (fun s2 I2 => ⟨_, H1, I2, q1⟩) hf
/-- a, b = x, y with plain local names: stored from the right; the pair itself is not tracked (the opening rows as in PyProof/Rows/TupAssign.lean:23) -/
def tPar (i j : Nat) (ta : TA) : TS := fun D σ H => ta σ H fun vs H1 => ∃ v w, vs = [v, w] ∧ D.nx ((σ.set i (some v)).set j (some w)) H1
/-- name op= e -/
def tAug (i : Nat) (te : TE) (ti : TIp) : TS := fun D σ H => ∃ x, σ[i]? = some (some x) ∧ te σ H fun y H1 => ti x y H1 fun z H2 => D.nx (σ.set i (some z)) H2
/-- o[i] op= e -/
def tAugS (to ti te : TE) (tget : V → V → Hp → VK → Prop) (tip : TIp) (tset : TSet) : TS := fun D σ H => to σ H fun o H1 => ti σ H1 fun i H2 => tget o i H2 fun x H3 => te σ H3 fun y H4 => tip x y H4 fun z H5 => tset o i z H5 fun H6 => D.nx σ H6
/-- o[i], by values -/
def PGet (X : Cx) (t : V → V → Hp → VK → Prop) : Prop :=
  ∀ (pins : List (Addr × Obj)) (s : Shared) (σ : St) (H : Hp) (o i : V) (ov iv : Value) (Q : VK), Inv X pins σ H s → RelV o ov → RelV i iv → t o i H Q →
    wpAny (model X.prog X.w) X.A (getItem ov iv) (EP X pins σ Q) X.xe s
theorem ps_augS {o i e : Expr} {to ti te : TE} {tget : V → V → Hp → VK → Prop} {tip : TIp} {tset : TSet} {op : Operator} {tpos : Pos} (ho : PE X o to) (hi : PE X i ti) (hg : PGet X tget) (he : PE X e te) (hp : PIp X op tip) (hs : PSet X tset)
    (ha : ∀ ov iv new, augStore i ov iv new = (do holding [new, ov, iv] (setItem ov iv new); release [new, ov, iv] []; pure .next) := by intros; rfl) : PS X (.AugAssign (.Subscript o i tpos) op e pos) (tAugS to ti te tget tip tset) := by
  intro pins s σ H D I h
  refine wpAny_AugAssign_SubscriptAny (thn (ho pins s σ H _ I h) fun ov s1 ⟨x1, H1, I1, r1, q1⟩ => ?_) ha
  refine thn (hi pins s1 σ H1 _ I1 q1) fun iv s2 ⟨x2, H2, I2, r2, q2⟩ => ?_
  refine thn (hg pins s2 σ H2 x1 x2 ov iv _ I2 r1 r2 q2) fun old s3 ⟨x3, H3, I3, r3, q3⟩ => ?_
  refine thn (he pins s3 σ H3 _ I3 q3) fun v s4 ⟨x4, H4, I4, r4, q4⟩ => ?_
  refine thn (hp pins s4 σ H4 x3 x4 old v _ I4 r3 r4 q4) fun new s5 ⟨x5, H5, I5, r5, q5⟩ => ?_
  exact thn (hs pins s5 σ H5 x1 x2 x5 ov iv new _ I5 r1 r2 r5 q5) fun _ s6 ⟨H6, I6, q6⟩ => ⟨σ, H6, I6, q6⟩
/-- ints -/
def ipI (f : Int → Int → Int) : TIp := fun x y H Q => ∃ i j, x = .int i ∧ y = .int j ∧ Q (.int (f i j)) H
theorem ip_add : PIp X .Add (ipI fun i j => i + j) := by
  intro pins s σ H x y v u Q I r1 r2 h
  obtain ⟨i, j, e1, e2, q⟩ := h
  subst e1; subst e2
  obtain ⟨t, rfl⟩ := r1
  obtain ⟨t', rfl⟩ := r2
  exact iadd_int ⟨.int _, H, I.tok _, ⟨_, rfl⟩, q⟩
end

/-! ### while -/
section
variable {X : Cx} {pos : Pos}
/-- the invariant W with its measure -/
def tWhile (c : TT) (tb : TS) : TS := fun D σ H => ∃ W : Nat → St → Hp → Prop, (∃ m, W m σ H) ∧ ∀ m σ H, W m σ H →
  c σ H fun b H1 => if b = true then ∃ N : St → Hp → Prop, (∀ σ' H', N σ' H' → ∃ m', m' < m ∧ W m' σ' H') ∧ tb { D with nx := N, ct := N, bk := D.nx } σ H1 else D.nx σ H1
theorem ps_while {c : Expr} {body : List Stmt} {tc : TT} {tb : TS} (hp : PassesOwn (model X.prog X.w) X.A X.env X.xe) (hc : PT X c tc) (hb : PSs X body tb) : PS X (.While c body [] pos) (tWhile tc tb) := by
  intro pins s σ H D I h
  obtain ⟨W, ⟨m0, w0⟩, turn⟩ := h
  refine wpAny_While (codeAny_whileLoop (fun n s' => ∃ σ' H', Inv X pins σ' H' s' ∧ W n σ' H') ?_ m0 ⟨σ, H, I, w0⟩)
  rintro n s1 ⟨σ1, H1, I1, w1⟩
  refine wpAny_passesOwn hp (thn (hc pins s1 σ1 H1 _ I1 (turn n σ1 H1 w1)) fun b s2 ⟨H2, I2, q2⟩ => ?_)
  cases b with
  | true =>
    obtain ⟨N, hN, q2⟩ := q2
    rw [if_pos rfl]
    refine wpAny_passesOwn hp (thn (hb pins s2 σ1 H2 _ I2 q2) fun f s3 q3 => ?_)
    cases f with
    | next =>
      obtain ⟨σ3, H3, I3, n3⟩ := q3
      obtain ⟨m', hm, w3⟩ := hN σ3 H3 n3
      exact ⟨m', hm, σ3, H3, I3, w3⟩
    | cont =>
      obtain ⟨σ3, H3, I3, n3⟩ := q3
      obtain ⟨m', hm, w3⟩ := hN σ3 H3 n3
      exact ⟨m', hm, σ3, H3, I3, w3⟩
    | brk => exact q3
    | ret v => exact q3
  | false =>
    rw [if_neg Bool.false_ne_true]
    exact wpAny_execs_nil ⟨σ1, H2, I2, q2⟩
end

/-! ### what a loop or a comprehension walks -/
/-- at turn i: it yields x (the heap may grow), or it stops -/
structure It where
  go : Nat → Hp → Prop
  yld : Nat → Hp → V → Hp → Prop
  stop : Nat → Hp → Prop
/-- the iterator's own objects may turn: they are not the frame's, not pinned, younger than the entry (or a comprehension's own) -/
def FpOk (X : Cx) (pins : List (Addr × Obj)) (H : Hp) (b : Addr) : Prop :=
  H b = none ∧ b ≠ X.env.locals ∧ b ∉ X.fs ∧ (b ∈ X.ex ∨ X.s₀.heap.objs.size ≤ b) ∧ (∀ x c, X.env.cells.lookup x = some c → c ≠ b) ∧ ∀ p ∈ X.pn ++ pins, p.1 ≠ b
theorem Inv.fpOk {X : Cx} {pins : List (Addr × Obj)} {σ : St} {H H' : Hp} {s : Shared} {b : Addr} (I : Inv X pins σ H s) (hb : s.heap.objs.size ≤ b) (hn : H' b = none) : FpOk X pins H' b := by
  refine ⟨hn, Nat.ne_of_gt (Nat.lt_of_lt_of_le I.lt hb), I.nofs hb, .inr (Nat.le_trans I.sz hb), fun x c e z => ?_, fun p hp z => ?_⟩
  · obtain ⟨v, q⟩ := I.cell x c e
    exact absurd (Nat.lt_of_lt_of_le q.lt (by rw [z]; exact hb)) (Nat.lt_irrefl _)
  · exact absurd (Nat.lt_of_lt_of_le (Heap.lt_size (I.pin p hp).1) (by rw [z]; exact hb)) (Nat.lt_irrefl _)
structure Turn (P : Program) (w : World) (K : PySem.W.Frag) (tg : Expr) (J : It) (fp : List Addr) (it : Addr) (tn : Nat → Heap → Prop) : Prop where
  mem : it ∈ fp
  obj : ∀ i h, tn i h → ∀ b ∈ fp, ∃ o, h.get? b = some o ∧ ∀ v, o.data ≠ .cell v
  keep : ∀ i h h', tn i h → (∀ b ∈ fp, ∀ o, h.get? b = some o → h'.get? b = some o) → tn i h'
  item : ∀ (X : Cx), X.prog = P → X.w = w → X.K = K → X.calm = true → ∀ (i : Nat) (pins : List (Addr × Obj)) (s : Shared) (σ : St) (H : Hp) (E : Value → Shared → Prop), Inv X pins σ H s → (∀ b ∈ fp, FpOk X pins H b) → tn i s.heap → J.go i H →
    wpAny (model P w) X.A (pyNext (.ref it)) (fun r s1 => ∃ u, r = some u ∧
      wpAny (model P w) X.A (letOwnedTupleGo tg (.ref it) u) (fun _ s2 => ∃ x H', Inv X pins σ H' s2 ∧ RelV x u ∧ J.yld i H x H' ∧ tn (i + 1) s2.heap ∧ ∀ b ∈ fp, H' b = none) E s1) E s
  done : ∀ (X : Cx), X.prog = P → X.w = w → X.K = K → X.calm = true → ∀ (i : Nat) (pins : List (Addr × Obj)) (s : Shared) (σ : St) (H : Hp) (E : Value → Shared → Prop), Inv X pins σ H s → (∀ b ∈ fp, FpOk X pins H b) → tn i s.heap → J.stop i H →
    wpAny (model P w) X.A (pyNext (.ref it)) (fun r s1 => r = none ∧ Inv X pins σ H s1) E s
  self : ∀ (A : Around) (i : Nat) (s : Shared) (Q : Value → Shared → Prop) (E : Value → Shared → Prop), tn i s.heap → Q (.ref it) s → wpAny (model P w) A (pyIter (.ref it)) Q E s
abbrev TI := St → Hp → (It → Hp → Prop) → Prop
/-- an iterator has come -/
def PIE (X : Cx) (pins : List (Addr × Obj)) (σ : St) (tg : Expr) (R : It → Hp → Prop) (itv : Value) (s2 : Shared) : Prop :=
  ∃ (it : Addr) (fp : List Addr) (tn : Nat → Heap → Prop) (J : It) (H' : Hp), itv = .ref it ∧ Inv X pins σ H' s2 ∧ Turn X.prog X.w X.K tg J fp it tn ∧ tn 0 s2.heap ∧ (∀ b ∈ fp, FpOk X pins H' b) ∧ R J H'
def PI (X : Cx) (tg iter : Expr) (wi : TI) : Prop :=
  ∀ (pins : List (Addr × Obj)) (s : Shared) (σ : St) (H : Hp) (R : It → Hp → Prop), Inv X pins σ H s → wi σ H R →
    wpAny (model X.prog X.w) X.A (eval iter X.env) (fun v s1 => wpAny (model X.prog X.w) X.A (pyIter v) (PIE X pins σ tg R) X.xe s1) X.xe s

/-- the step ahead of the store is nothing for an iterator that keeps no tuple -/
theorem go_of {M : Model} {A : Around} {E : Value → Shared → Prop} {s : Shared} {tg : Expr} {it : Addr} {u : Value} {o : Obj} {n : String} {vs : Array Value} {Q : Unit → Shared → Prop} (ho : s.heap.get? it = some o) (hc : o.cls = .type n) (hd : o.data = .fields vs)
    (hn : ["enumerate", "zip", "dict_itemiterator", "dict_reverseitemiterator", "odict_iterator", "itertools.zip_longest", "itertools.pairwise"].contains n = false) (hQ : Q () s) : wpAny M A (letOwnedTupleGo tg (.ref it) u) Q E s := by
  unfold letOwnedTupleGo
  cases tg <;> first
    | exact wpAny_pure hQ
    | (cases u <;> first
        | exact wpAny_pure hQ
        | (refine wpAny_bind (wpAny_load ho ?_)
           rw [hc, hd]
           show wpAny M A (if (["enumerate", "zip", "dict_itemiterator", "dict_reverseitemiterator", "odict_iterator", "itertools.zip_longest", "itertools.pairwise"].contains n && vs[0]? == some (rawInt _)) = true then _ else _) Q E s
           rw [if_neg (by intro h; rw [hn, Bool.false_and] at h; cases h)]
           exact wpAny_pure hQ))

/-- the list at a, as it stands at each turn (a loop may append to it) -/
def Itl (K : PySem.W.Frag) (a : Addr) : It :=
  ⟨fun i H => ∃ xs x, SqL K H a xs ∧ xs[i]? = some x, fun i H x H' => H' = H ∧ ∀ xs, SqL K H a xs → xs[i]? = some x, fun i H => ∃ xs, SqL K H a xs ∧ xs.length ≤ i⟩
def Itt (K : PySem.W.Frag) (a : Addr) : It :=
  ⟨fun i H => ∃ xs x, SqT K H a xs ∧ xs[i]? = some x, fun i H x H' => H' = H ∧ ∀ xs, SqT K H a xs → xs[i]? = some x, fun i H => ∃ xs, SqT K H a xs ∧ xs.length ≤ i⟩
/-- lo, lo + 1, .. (n of them) -/
def Itr (lo : Int) (n : Nat) : It := ⟨fun i _ => i < n, fun i H x H' => H' = H ∧ x = .int (lo + i), fun i _ => n ≤ i⟩
theorem turn_list {P : Program} {w : World} {K : PySem.W.Frag} {tg : Expr} (a it : Addr) : Turn P w K tg (Itl K a) [it] it (fun i h => h.IsListIter it a i) where
  mem := by simp
  obj := fun i h st b hb => by
    have e : b = it := by simpa using hb
    subst e
    obtain ⟨o, e, c, d⟩ := st
    exact ⟨o, e, fun v z => by rw [d] at z; cases z⟩
  keep := fun i h h' st k => st.at fun o e => k it (by simp) o e
  item := by
    intro X hP hw hK hc i pins s σ H E I hf st hg
    subst hP hw hK
    obtain ⟨xs, x, hq, hx⟩ := hg
    obtain ⟨its, rv, p, hz⟩ := I.list hq
    obtain ⟨u, hu, ru⟩ := rv.get hx
    obtain ⟨f0, f1, f2, f3, f4, f5⟩ := hf it (by simp)
    refine wpAny_pyNext_list_item st p.isList (x := u) (by simpa using hu) fun h' st' sb => ?_
    have I1 : Inv X pins σ H { s with heap := h' } := I.turned (t' := s.toks) (fun b o hb e => (sb.2 b hb).trans e) f0 f1 f3 f4 f5
    obtain ⟨o, e, c, d⟩ := id st'
    exact ⟨u, rfl, go_of (s := { s with heap := h' }) e c d (by decide) ⟨x, H, I1, ru, ⟨rfl, fun ys hy => by rw [I.list_inj hy hq]; exact hx⟩, st', fun b hb => (hf b hb).1⟩⟩
  done := by
    intro X hP hw hK hc i pins s σ H E I hf st hg
    subst hP hw hK
    obtain ⟨xs, hq, hx⟩ := hg
    obtain ⟨its, rv, p, hz⟩ := I.list hq
    obtain ⟨f0, f1, f2, f3, f4, f5⟩ := hf it (by simp)
    have hl := rv.length
    exact wpAny_pyNext_list_end (I.ok.hd hc) st p.isList (by simp; omega) fun h' eb => ⟨rfl, I.turned (t' := s.toks) (fun b o hb e => eb b o hb e) f0 f1 f3 f4 f5⟩
  self := fun _ _ _ _ _ st h => wpAny_pyIter_listiter st h
theorem turn_range {P : Program} {w : World} {K : PySem.W.Frag} {tg : Expr} (it : Addr) (lo : Int) (n : Nat) : Turn P w K tg (Itr lo n) [it] it (fun i h => IsRangeIter h it (lo + (i : Nat) * 1) ((n : Int) - (i : Nat)) 1) where
  mem := by simp
  obj := fun i h st b hb => by
    have e : b = it := by simpa using hb
    subst e
    exact ⟨_, st, fun v z => by
      have z' : Data.fields _ = Data.cell v := z
      cases z'⟩
  keep := fun i h h' st k => k it (by simp) _ st
  item := by
    intro X hP hw hK hc i pins s σ H E I hf st hg
    subst hP hw hK
    obtain ⟨f0, f1, f2, f3, f4, f5⟩ := hf it (by simp)
    have W := Walks.range (prog := X.prog) (w := X.w) (I.ok.hd hc) it lo 1 n
    refine W.item i s _ _ hg st fun v h' tk hv st' kk => ?_
    obtain ⟨t, rfl⟩ := hv
    have I1 : Inv X pins σ H { s with heap := h', toks := tk } := I.turned (fun b o hb e => kk b o (by simpa using hb) e) f0 f1 f3 f4 f5
    refine ⟨_, rfl, go_of (s := { s with heap := h', toks := tk }) (n := "range_iterator") st' rfl rfl (by decide) ⟨.int (lo + i), H, I1, ⟨t, ?_⟩, ⟨rfl, rfl⟩, st', fun b hb => (hf b hb).1⟩⟩
    rw [Int.mul_one]
  done := by
    intro X hP hw hK hc i pins s σ H E I hf st hg
    subst hP hw hK
    obtain ⟨f0, f1, f2, f3, f4, f5⟩ := hf it (by simp)
    exact wpAny_pyNext_range_end (I.ok.hd hc) st (by have : n ≤ i := hg; omega) fun h' eb => ⟨rfl, I.turned (t' := s.toks) (fun b o hb e => eb b o hb e) f0 f1 f3 f4 f5⟩
  self := fun _ _ _ _ _ st h => wpAny_pyIter_rangeiter st h
end L2

namespace L2
open PySem PySem.Spec PyProof.Rows
section
variable {X : Cx} {tg : Expr}
def iList (K : PySem.W.Frag) (tl : TE) : TI := fun σ H R => tl σ H fun x H1 => ∃ a, x = .ref a ∧ (∃ xs, SqL K H1 a xs) ∧ R (Itl K a) H1
def iTup (K : PySem.W.Frag) (tl : TE) : TI := fun σ H R => tl σ H fun x H1 => ∃ a, x = .ref a ∧ (∃ xs, SqT K H1 a xs) ∧ R (Itt K a) H1
theorem pi_list {l : Expr} {tl : TE} (hl : PE X l tl) : PI X tg l (iList X.K tl) := by
  intro pins s σ H R I h
  refine thn (hl pins s σ H _ I h) fun v s1 ⟨x, H1, I1, r1, q1⟩ => ?_
  obtain ⟨a, e, ⟨xs, hq⟩, q⟩ := q1
  subst e
  cases r1
  obtain ⟨its, rv, p, hz⟩ := I1.list hq
  refine wpAny_pyIter_list p.isList ?_
  refine ⟨s1.heap.objs.size, [s1.heap.objs.size], _, _, H1, rfl, I1.kept (t' := s1.toks) fun b o e => Heap.get?_push_of_some _ e, turn_list a _, ⟨_, Heap.get?_push_size _ rfl, rfl, rfl⟩, fun b hb => ?_, q⟩
  have e : b = s1.heap.objs.size := by simpa using hb
  subst e
  exact I1.fpOk (Nat.le_refl _) (I1.hok.fresh (Nat.le_refl _))
/-- a range object just made, walked -/
theorem range_it {pins : List (Addr × Obj)} {σ : St} {H : Hp} {s : Shared} {R : It → Hp → Prop} {E : Value → Shared → Prop} {lo hi : Int} {t u v : Tok} {tk : Nat} (I : Inv X pins σ H s) (h1 : -(2 ^ 62) ≤ lo) (h2 : lo < 2 ^ 62) (h3 : -(2 ^ 62) ≤ hi) (h4 : hi < 2 ^ 62)
    (q : R (Itr lo (hi - lo).toNat) H) : wpAny (model X.prog X.w) X.A (pyIter (.ref s.heap.objs.size)) (PIE X pins σ tg R) E { s with heap := s.heap.push { cls := .type "range", data := .fields #[.int lo t, .int hi u, .int 1 v] }, toks := tk } := by
  refine wpAny_pyIter_range (IsRange.new ..) (small_one h1 h2 h3 h4) ?_
  have I1 : Inv X pins σ H { s with heap := s.heap.push { cls := .type "range", data := .fields #[.int lo t, .int hi u, .int 1 v] }, toks := tk } := I.kept fun b o e => Heap.get?_push_of_some _ e
  refine ⟨(s.heap.push { cls := .type "range", data := .fields #[.int lo t, .int hi u, .int 1 v] }).objs.size, [(s.heap.push { cls := .type "range", data := .fields #[.int lo t, .int hi u, .int 1 v] }).objs.size], _, _, H, rfl,
    I1.kept (t' := tk) fun b o e => Heap.get?_push_of_some _ e, turn_range _ lo (hi - lo).toNat, ?_, fun b hb => ?_, q⟩
  · have e1 : lo + ((0 : Nat) : Int) * 1 = lo := by simp
    have e2 : (((hi - lo).toNat : Nat) : Int) - ((0 : Nat) : Int) = Builtin.Range.rangeSize lo hi 1 := by rw [rangeSize_one]; split <;> omega
    show IsRangeIter _ _ (lo + ((0 : Nat) : Int) * 1) ((((hi - lo).toNat : Nat) : Int) - ((0 : Nat) : Int)) 1
    rw [e1, e2]
    exact Heap.get?_push_size _ rfl
  · have e : b = (s.heap.push { cls := .type "range", data := .fields #[.int lo t, .int hi u, .int 1 v] }).objs.size := by simpa using hb
    subst e
    exact I1.fpOk (Nat.le_refl _) (I1.hok.fresh (Nat.le_refl _))
def iRng1 (ta : TA) : TI := fun σ H R => ta σ H fun vs H1 => ∃ j : Int, vs = [.int j] ∧ -(2 ^ 62) ≤ j ∧ j < 2 ^ 62 ∧ R (Itr 0 j.toNat) H1
def iRng2 (ta : TA) : TI := fun σ H R => ta σ H fun vs H1 => ∃ i j : Int, vs = [.int i, .int j] ∧ (-(2 ^ 62) ≤ i ∧ i < 2 ^ 62 ∧ -(2 ^ 62) ≤ j ∧ j < 2 ^ 62) ∧ R (Itr i (j - i).toNat) H1
theorem pi_range1 {a : Expr} {ta : TA} {p pos : Pos} (hg : Gl X "range") (hm : X.mg "range" = none) (ha : PA X [a] ta) (hs : starEach [a] X.env = [(false, eval a X.env)] := by rfl) : PI X tg (.Call (.Name "range" p) [a] [] pos) (iRng1 ta) := by
  intro pins s σ H R I h
  refine Call_ (ld_blt I hg hm boot_range (PyProof.Rows.callWith_type1 (thn (ha pos pins s σ H _ I h) fun us s1 ⟨vs, H1, I1, r1, q1⟩ => ?_) hs rfl))
  obtain ⟨j, e, q1, q2, q⟩ := q1
  subst e
  cases r1 with
  | cons r rr =>
    cases rr
    obtain ⟨t, rfl⟩ := r
    exact call_range_1 (range_it I1 (by omega) (by omega) q1 q2 (by simpa using q))
theorem pi_range2 {a b : Expr} {ta : TA} {p pos : Pos} (hg : Gl X "range") (hm : X.mg "range" = none) (ha : PA X [a, b] ta) (hs : starEach [a, b] X.env = [(false, eval a X.env), (false, eval b X.env)] := by rfl) (hs2 : starEach [b] X.env = [(false, eval b X.env)] := by rfl) :
    PI X tg (.Call (.Name "range" p) [a, b] [] pos) (iRng2 ta) := by
  intro pins s σ H R I h
  refine Call_ (ld_blt I hg hm boot_range (PyProof.Rows.callWith_type1 (thn (ha pos pins s σ H _ I h) fun us s1 ⟨vs, H1, I1, r1, q1⟩ => ?_) (by rw [hs, hs2]) (by rw [hs2]; rfl)))
  obtain ⟨i, j, e, ⟨q1, q2, q3, q4⟩, q⟩ := q1
  subst e
  cases r1 with
  | cons r rr =>
    cases rr with
    | cons r' rr =>
      cases rr
      obtain ⟨t, rfl⟩ := r
      obtain ⟨t', rfl⟩ := r'
      exact call_range_2 (range_it I1 q1 q2 q3 q4 q)

/-! ### for -/
/-- W: the invariant by the turn and a measure; N: what the body is to reach -/
def tFor (wi : TI) (g : TG) (tb : TS) : TS := fun D σ H => wi σ H fun J H1 => ∃ W : Nat → Nat → St → Hp → Prop, (∃ m, W 0 m σ H1) ∧ ∀ i m σ H, W i m σ H →
  (J.stop i H ∧ D.nx σ H) ∨ (J.go i H ∧ ∃ N : St → Hp → Prop, (∀ σ' H', N σ' H' → ∃ m', m' < m ∧ W (i + 1) m' σ' H') ∧ ∀ x H', J.yld i H x H' → g x σ H' fun σ2 H2 => tb { D with nx := N, ct := N, bk := D.nx } σ2 H2)
/-- the records at fp as they stand -/
def pinsAt (fp : List Addr) (h : Heap) : List (Addr × Obj) := fp.filterMap fun b => (h.get? b).map fun o => (b, o)
theorem mem_pinsAt {fp : List Addr} {h : Heap} {b : Addr} {o : Obj} (hb : b ∈ fp) (e : h.get? b = some o) : (b, o) ∈ pinsAt fp h := List.mem_filterMap.mpr ⟨b, hb, by rw [e]; rfl⟩
theorem of_pinsAt {fp : List Addr} {h : Heap} {p : Addr × Obj} (hp : p ∈ pinsAt fp h) : p.1 ∈ fp ∧ h.get? p.1 = some p.2 := by
  obtain ⟨b, hb, e⟩ := List.mem_filterMap.mp hp
  cases q : h.get? b with
  | none => rw [q] at e; cases e
  | some o =>
    rw [q] at e
    have e' : (b, o) = p := Option.some.inj e
    subst e'
    exact ⟨hb, q⟩
theorem Inv.pinned {pins : List (Addr × Obj)} {σ : St} {H : Hp} {s : Shared} {fp : List Addr} (I : Inv X pins σ H s) (hf : ∀ b ∈ fp, FpOk X pins H b) (ho : ∀ b ∈ fp, ∃ o, s.heap.get? b = some o ∧ ∀ v, o.data ≠ .cell v) : Inv X (pins ++ pinsAt fp s.heap) σ H s :=
  I.pins_of fun p hp => (List.mem_append.mp hp).elim (fun z => I.pin p (List.mem_append_right _ z)) fun z => by
    obtain ⟨hb, e⟩ := of_pinsAt z
    obtain ⟨f0, f1, f2, _⟩ := hf p.1 hb
    obtain ⟨o, e', d⟩ := ho p.1 hb
    rw [e] at e'; cases e'
    exact ⟨e, f0, f1, f2, d⟩
theorem Inv.unpinned {pins pl : List (Addr × Obj)} {σ : St} {H : Hp} {s : Shared} (I : Inv X (pins ++ pl) σ H s) : Inv X pins σ H s := I.pins_of fun p hp => I.pin p (List.mem_append_right _ (List.mem_append_left _ hp))
theorem ps_for {iter : Expr} {body : List Stmt} {wi : TI} {g : TG} {tb : TS} {pos : Pos} (hp : PassesOwn (model X.prog X.w) X.A X.env X.xe) (hc : X.calm = true) (hi : PI X tg iter wi) (hg : PG X tg g) (hb : PSs X body tb)
    (hs : ∀ x, foldedSetIterable iter X.env x = pure x := by intro _; rfl) : PS X (.For tg iter body [] pos) (tFor wi g tb) := by
  intro pins s σ H D I h
  refine wpAny_For (thn (hi pins s σ H _ I h) fun v s1 h1 => thn h1 fun itv s2 h2 => ?_) hs
  obtain ⟨it, fp, tn, J, H2, e, I2, T, st2, f2, W, ⟨m0, w0⟩, turn⟩ := h2
  subst e
  -- what stays true of the iterator's objects through the loop
  have stat : ∀ {H' : Hp}, (∀ b ∈ fp, H' b = none) → ∀ b ∈ fp, FpOk X pins H' b := fun hn b hb => ⟨hn b hb, (f2 b hb).2⟩
  refine codeAny_forLoop_any (fun n s' => ∃ i σ' H', Inv X pins σ' H' s' ∧ tn i s'.heap ∧ (∀ b ∈ fp, H' b = none) ∧ W i n σ' H') ?_ m0 ⟨0, σ, H2, I2, st2, fun b hb => (f2 b hb).1, w0⟩
  rintro n s3 ⟨i, σ3, H3, I3, st3, fr3, w3⟩
  rcases turn i n σ3 H3 w3 with ⟨stop, qn⟩ | ⟨go, N, hN, step⟩
  · refine wpAny_passesOwn hp (thn (T.done X rfl rfl rfl hc i pins s3 σ3 H3 X.xe I3 (stat fr3) st3 stop) fun r s4 ⟨hr, I4⟩ => ?_)
    subst hr
    exact wpAny_execs_nil ⟨σ3, H3, I4, qn⟩
  · refine wpAny_passesOwn hp (thn (T.item X rfl rfl rfl hc i pins s3 σ3 H3 X.xe I3 (stat fr3) st3 go) fun r s4 ⟨u, hr, h4⟩ => ?_)
    subst hr
    refine wpAny_passesOwn hp (thn h4 fun _ s5 ⟨x, H5, I5, r5, y5, st5, fr5⟩ => ?_)
    have I5' := I5.pinned (stat fr5) (T.obj _ _ st5)
    refine wpAny_passesOwn hp (thn (hg _ s5 σ3 H5 x u _ I5' r5 (step x H5 y5)) fun _ s6 ⟨σ6, H6, I6, q6⟩ => ?_)
    refine wpAny_passesOwn hp (thn (hb _ s6 σ6 H6 _ I6 q6) fun f s7 q7 => ?_)
    have again : ∀ {σ7 : St} {H7 : Hp}, Inv X (pins ++ pinsAt fp s5.heap) σ7 H7 s7 → N σ7 H7 → ∃ m, m < n ∧ ∃ i σ' H', Inv X pins σ' H' s7 ∧ tn i s7.heap ∧ (∀ b ∈ fp, H' b = none) ∧ W i m σ' H' := fun {σ7 H7} I7 n7 => by
      obtain ⟨m', hm, w7⟩ := hN σ7 H7 n7
      refine ⟨m', hm, i + 1, σ7, H7, I7.unpinned, T.keep _ _ _ st5 fun b hb o e => (I7.pin (b, o) (List.mem_append_right _ (List.mem_append_right _ (mem_pinsAt hb e)))).1, fun b hb => ?_, w7⟩
      obtain ⟨o, e, d⟩ := T.obj _ _ st5 b hb
      exact (I7.pin (b, o) (List.mem_append_right _ (List.mem_append_right _ (mem_pinsAt hb e)))).2.1
    cases f with
    | next => obtain ⟨σ7, H7, I7, n7⟩ := q7; exact again I7 n7
    | cont => obtain ⟨σ7, H7, I7, n7⟩ := q7; exact again I7 n7
    | brk => obtain ⟨σ7, H7, I7, q7⟩ := q7; exact ⟨σ7, H7, I7.unpinned, q7⟩
    | ret v => obtain ⟨x7, σ7, H7, I7, r7, q7⟩ := q7; exact ⟨x7, σ7, H7, I7.unpinned, r7, q7⟩
end

/-! ### the forms one uses -/
/-- over a list that the body leaves as it is -/
theorem for_list {K : PySem.W.Frag} {a : Addr} {xs : List V} {g : TG} {tb : TS} {D : Ends} {σ : St} {H : Hp} (Pv : Nat → St → Hp → Prop) (h0 : Pv 0 σ H) (hl : ∀ i σ H, i ≤ xs.length → Pv i σ H → SqL K H a xs)
    (hs : ∀ i x σ H, xs[i]? = some x → Pv i σ H → g x σ H fun σ2 H2 => tb { D with nx := Pv (i + 1), ct := Pv (i + 1), bk := D.nx } σ2 H2) (hd : ∀ σ H, Pv xs.length σ H → D.nx σ H) :
    ∃ W : Nat → Nat → St → Hp → Prop, (∃ m, W 0 m σ H) ∧ ∀ i m σ H, W i m σ H →
      ((Itl K a).stop i H ∧ D.nx σ H) ∨ ((Itl K a).go i H ∧ ∃ N : St → Hp → Prop, (∀ σ' H', N σ' H' → ∃ m', m' < m ∧ W (i + 1) m' σ' H') ∧ ∀ x H', (Itl K a).yld i H x H' → g x σ H' fun σ2 H2 => tb { D with nx := N, ct := N, bk := D.nx } σ2 H2) := by
  refine ⟨fun i m σ H => m = xs.length - i ∧ i ≤ xs.length ∧ Pv i σ H, ⟨xs.length, by simp, Nat.zero_le _, h0⟩, ?_⟩
  rintro i m σ H ⟨rfl, hi, p⟩
  have q := hl i σ H hi p
  by_cases hlt : i < xs.length
  · refine .inr ⟨⟨xs, xs[i], q, by simp [hlt]⟩, Pv (i + 1), fun σ' H' p' => ⟨xs.length - (i + 1), by omega, rfl, hlt, p'⟩, fun x H' y => ?_⟩
    obtain ⟨e, y⟩ := y
    subst e
    exact hs i x σ _ (y xs q) p
  · have e : i = xs.length := by omega
    subst e
    exact .inl ⟨⟨xs, q, Nat.le_refl _⟩, hd σ H p⟩
theorem for_range {lo : Int} {n : Nat} {g : TG} {tb : TS} {D : Ends} {σ : St} {H : Hp} (Pv : Nat → St → Hp → Prop) (h0 : Pv 0 σ H)
    (hs : ∀ i σ H, i < n → Pv i σ H → g (.int (lo + i)) σ H fun σ2 H2 => tb { D with nx := Pv (i + 1), ct := Pv (i + 1), bk := D.nx } σ2 H2) (hd : ∀ σ H, Pv n σ H → D.nx σ H) :
    ∃ W : Nat → Nat → St → Hp → Prop, (∃ m, W 0 m σ H) ∧ ∀ i m σ H, W i m σ H →
      ((Itr lo n).stop i H ∧ D.nx σ H) ∨ ((Itr lo n).go i H ∧ ∃ N : St → Hp → Prop, (∀ σ' H', N σ' H' → ∃ m', m' < m ∧ W (i + 1) m' σ' H') ∧ ∀ x H', (Itr lo n).yld i H x H' → g x σ H' fun σ2 H2 => tb { D with nx := N, ct := N, bk := D.nx } σ2 H2) := by
  refine ⟨fun i m σ H => m = n - i ∧ i ≤ n ∧ Pv i σ H, ⟨n, by simp, Nat.zero_le _, h0⟩, ?_⟩
  rintro i m σ H ⟨rfl, hi, p⟩
  by_cases hlt : i < n
  · refine .inr ⟨hlt, Pv (i + 1), fun σ' H' p' => ⟨n - (i + 1), by omega, rfl, hlt, p'⟩, fun x H' y => ?_⟩
    obtain ⟨e, y⟩ := y
    subst e y
    exact hs i σ _ hlt p
  · have e : i = n := by omega
    subst e
    exact .inl ⟨Nat.le_refl _, hd σ H p⟩
/-- while, by a word and a measure of the state -/
theorem while_by {c : TT} {tb : TS} {D : Ends} {σ : St} {H : Hp} (Pv : St → Hp → Prop) (μ : St → Hp → Nat) (h0 : Pv σ H)
    (hs : ∀ σ H, Pv σ H → c σ H fun b H1 => if b = true then tb { D with nx := fun σ' H' => Pv σ' H' ∧ μ σ' H' < μ σ H, ct := fun σ' H' => Pv σ' H' ∧ μ σ' H' < μ σ H, bk := D.nx } σ H1 else D.nx σ H1)
    (mono : ∀ σ H Q Q', (∀ b H1, Q b H1 → Q' b H1) → c σ H Q → c σ H Q') : tWhile c tb D σ H := by
  refine ⟨fun m σ H => m = μ σ H ∧ Pv σ H, ⟨_, rfl, h0⟩, ?_⟩
  rintro m σ H ⟨rfl, p⟩
  refine mono σ H _ _ (fun b H1 q => ?_) (hs σ H p)
  cases b with
  | true => exact ⟨_, fun σ' H' ⟨p', l⟩ => ⟨_, l, rfl, p'⟩, q⟩
  | false => exact q
end L2

namespace L2
open PySem PySem.Spec PyProof.Rows

abbrev R2 := V → V → Hp → VK → Prop
/-- a two-place operation on values: f is binaryOp op, inplaceOp op or compareOp op -/
def OpR (X : Cx) (f : Value → Value → Sem Value) (r : R2) : Prop :=
  ∀ (pins : List (Addr × Obj)) (s : Shared) (σ : St) (H : Hp) (x y : V) (v u : Value) (Q : VK), Inv X pins σ H s → RelV x v → RelV y u → r x y H Q →
    wpAny (model X.prog X.w) X.A (f v u) (EP X pins σ Q) X.xe s
/-- a one-place operation -/
def UnR (X : Cx) (f : Value → Sem Value) (r : V → Hp → VK → Prop) : Prop :=
  ∀ (pins : List (Addr × Obj)) (s : Shared) (σ : St) (H : Hp) (x : V) (v : Value) (Q : VK), Inv X pins σ H s → RelV x v → r x H Q →
    wpAny (model X.prog X.w) X.A (f v) (EP X pins σ Q) X.xe s
/-- a call of a value that is known (a builtin, a type) with values -/
def CallR (X : Cx) (f : Value) (r : List V → Hp → VK → Prop) : Prop :=
  ∀ (pins : List (Addr × Obj)) (s : Shared) (σ : St) (H : Hp) (xs : List V) (us : List Value) (Q : VK), Inv X pins σ H s → Vals xs us → r xs H Q →
    wpAny (model X.prog X.w) X.A (call f us) (EP X pins σ Q) X.xe s
/-- a value's truth -/
def TruR (X : Cx) (r : V → Hp → (Bool → Hp → Prop) → Prop) : Prop :=
  ∀ (pins : List (Addr × Obj)) (s : Shared) (σ : St) (H : Hp) (x : V) (v : Value) (Q : Bool → Hp → Prop), Inv X pins σ H s → RelV x v → r x H Q →
    wpAny (model X.prog X.w) X.A (truthy v) (TP X pins σ Q) X.xe s

def tOp (r : R2) (ta tb : TE) : TE := fun σ H Q => ta σ H fun x H1 => tb σ H1 fun y H2 => r x y H2 Q
def tUn (r : V → Hp → VK → Prop) (ta : TE) : TE := fun σ H Q => ta σ H fun x H1 => r x H1 Q
/-- ints in, under C, and a value out -/
def rI (C : Int → Int → Prop) (g : Int → Int → V) : R2 := fun x y H Q => ∃ i j, x = .int i ∧ y = .int j ∧ C i j ∧ Q (g i j) H
def rI0 (g : Int → Int → V) : R2 := fun x y H Q => ∃ i j, x = .int i ∧ y = .int j ∧ Q (g i j) H
def rU (g : Int → V) : V → Hp → VK → Prop := fun x H Q => ∃ i, x = .int i ∧ Q (g i) H

section
variable {X : Cx} {a b c : Expr} {ta tb tc : TE} {pos : Pos}

theorem binT (ha : PE X a ta) (hb : PE X b tb) {pins : List (Addr × Obj)} {s : Shared} {σ : St} {H : Hp} {R : V → V → Hp → Prop} (I : Inv X pins σ H s)
    (h : ta σ H fun x H1 => tb σ H1 fun y H2 => R x y H2) {Q : Value → Shared → Prop} {f : Value → Value → Sem Value}
    (hf : ∀ v u s2 x y H2, Inv X pins σ H2 s2 → RelV x v → RelV y u → R x y H2 → wpAny (model X.prog X.w) X.A (f v u) Q X.xe s2) :
    wpAny (model X.prog X.w) X.A (eval a X.env) (fun v s₁ => wpAny (model X.prog X.w) X.A (eval b X.env) (fun u s₂ => wpAny (model X.prog X.w) X.A (f v u) Q X.xe s₂) X.xe s₁) X.xe s := by
  refine thn (ha pins s σ H _ I h) fun v s1 ⟨x, H1, I1, r1, q1⟩ => ?_
  refine thn (hb pins s1 σ H1 _ I1 q1) fun u s2 ⟨y, H2, I2, r2, q2⟩ => ?_
  exact hf v u s2 x y H2 I2 r1 r2 q2

theorem pe_op {op : Operator} {r : R2} (ho : OpR X (binaryOp op) r) (ha : PE X a ta) (hb : PE X b tb) : PE X (.BinOp a op b pos) (tOp r ta tb) := by
  intro pins s σ H Q I h
  exact wpAny_BinOp (binT ha hb I h fun v u s2 x y H2 I2 rx ry q => ho pins s2 σ H2 x y v u Q I2 rx ry q)
theorem pe_un {op : UnaryOp} {r : V → Hp → VK → Prop} (ho : UnR X (unaryOp op) r) (ha : PE X a ta) : PE X (.UnaryOp op a pos) (tUn r ta) := by
  intro pins s σ H Q I h
  exact UnaryOp_ (thn (ha pins s σ H _ I h) fun v s1 ⟨x, H1, I1, r1, q1⟩ => ho pins s1 σ H1 x v Q I1 r1 q1)
/-! ### ints -/
theorem opI {f : Value → Value → Sem Value} {C : Int → Int → Prop} {g : Int → Int → Int}
    (rule : ∀ (i j : Int) (t u : Tok) (s : Shared) (Q : Value → Shared → Prop) (E : Value → Shared → Prop), C i j → Q (.int (g i j) s.toks) { s with toks := s.toks + 1 } → wpAny (model X.prog X.w) X.A (f (.int i t) (.int j u)) Q E s) :
    OpR X f (rI C fun i j => .int (g i j)) := by
  intro pins s σ H x y v u Q I rx ry h
  obtain ⟨i, j, rfl, rfl, hc, q⟩ := h
  obtain ⟨t, rfl⟩ := rx
  obtain ⟨t', rfl⟩ := ry
  exact rule i j t t' s _ _ hc ⟨.int (g i j), H, I.tok _, ⟨_, rfl⟩, q⟩
theorem opI0 {f : Value → Value → Sem Value} {g : Int → Int → Int}
    (rule : ∀ (i j : Int) (t u : Tok) (s : Shared) (Q : Value → Shared → Prop) (E : Value → Shared → Prop), Q (.int (g i j) s.toks) { s with toks := s.toks + 1 } → wpAny (model X.prog X.w) X.A (f (.int i t) (.int j u)) Q E s) :
    OpR X f (rI0 fun i j => .int (g i j)) := by
  intro pins s σ H x y v u Q I rx ry h
  obtain ⟨i, j, rfl, rfl, q⟩ := h
  obtain ⟨t, rfl⟩ := rx
  obtain ⟨t', rfl⟩ := ry
  exact rule i j t t' s _ _ ⟨.int (g i j), H, I.tok _, ⟨_, rfl⟩, q⟩
theorem opB0 {f : Value → Value → Sem Value} {g : Int → Int → Bool}
    (rule : ∀ (i j : Int) (t u : Tok) (s : Shared) (Q : Value → Shared → Prop) (E : Value → Shared → Prop), Q (.bool (g i j)) s → wpAny (model X.prog X.w) X.A (f (.int i t) (.int j u)) Q E s) :
    OpR X f (rI0 fun i j => .bl (g i j)) := by
  intro pins s σ H x y v u Q I rx ry h
  obtain ⟨i, j, rfl, rfl, q⟩ := h
  obtain ⟨t, rfl⟩ := rx
  obtain ⟨t', rfl⟩ := ry
  exact rule i j t t' s _ _ ⟨.bl (g i j), H, I, rfl, q⟩

def CDiv (i j : Int) : Prop := 0 < j ∧ j < 1073741824
def CDivN (i j : Int) : Prop := j ≠ 0 ∧ j.natAbs < 1073741824
def CPow (i j : Int) : Prop := 0 ≤ j ∧ j ≤ 1000000 ∧ i.natAbs < 2 ^ 64
def CMul (i j : Int) : Prop := (-(2 ^ 64) < i ∧ i < 2 ^ 64) ∨ (-(2 ^ 64) < j ∧ j < 2 ^ 64)
theorem CMul.ok {i j : Int} (h : CMul i j) : IntMulOk i j := by
  rcases h with ⟨h1, h2⟩ | ⟨h1, h2⟩
  · exact .of_left (intBits_le_64 h1 h2)
  · exact .of_right (intBits_le_64 h1 h2)
theorem op_add : OpR X (binaryOp .Add) (rI0 fun i j => .int (i + j)) := opI0 fun _ _ _ _ _ _ _ q => add_int q
theorem op_sub : OpR X (binaryOp .Sub) (rI0 fun i j => .int (i - j)) := opI0 fun _ _ _ _ _ _ _ q => sub_int q
theorem op_mul : OpR X (binaryOp .Mult) (rI CMul fun i j => .int (i * j)) := opI fun _ _ _ _ _ _ _ hc q => mul_int q hc.ok
/-- // by a positive divisor -/
theorem op_fdiv : OpR X (binaryOp .FloorDiv) (rI CDiv fun i j => .int (i / j)) := opI fun i j _ _ _ _ _ hc q => by
  have h1 : (0 : Int) < j := hc.1
  have h2 : j < 1073741824 := hc.2
  exact floordiv_int (by omega) (by rw [Int.fdiv_eq_ediv_of_nonneg i (by omega)]; exact q) (.inl (PyProof.noPylong_small (by omega)))
/-- % by a positive divisor of any size -/
theorem op_mod : OpR X (binaryOp .Mod) (rI (fun _ j => 0 < j) fun i j => .int (i % j)) := opI fun i j _ _ _ _ _ hc q => by
  have h1 : (0 : Int) < j := hc
  exact mod_int' (by omega) (by rw [Int.fmod_eq_emod_of_nonneg i (by omega)]; exact q)
theorem op_modN : OpR X (binaryOp .Mod) (rI (fun _ j => j ≠ 0) fun i j => .int (i.fmod j)) := opI fun _ _ _ _ _ _ _ hc q => mod_int' hc q
theorem op_pow : OpR X (binaryOp .Pow) (rI CPow fun i j => .int (i ^ j.toNat)) := opI fun _ _ _ _ _ _ _ hc q => pow_int_small hc.1 hc.2.1 hc.2.2 q
theorem unI {f : Value → Sem Value} {g : Int → Int}
    (rule : ∀ (i : Int) (t : Tok) (s : Shared) (Q : Value → Shared → Prop) (E : Value → Shared → Prop), Q (.int (g i) s.toks) { s with toks := s.toks + 1 } → wpAny (model X.prog X.w) X.A (f (.int i t)) Q E s) :
    UnR X f (rU fun i => .int (g i)) := by
  intro pins s σ H x v Q I rx h
  obtain ⟨i, rfl, q⟩ := h
  obtain ⟨t, rfl⟩ := rx
  exact rule i t s _ _ ⟨.int (g i), H, I.tok _, ⟨_, rfl⟩, q⟩
theorem un_neg : UnR X (unaryOp .USub) (rU fun i => .int (-i)) := unI fun _ _ _ _ _ q => neg_int q
/-! ### bools among ints: n += (a < b) -/
end

/-! ### comparisons -/
/-- the scalars that == tells apart as data does -/
def scal : V → V → Bool
  | .non, .non => true | .non, .int _ => true | .int _, .non => true | .non, .bl _ => true | .bl _, .non => true | .non, .str _ => true | .str _, .non => true
  | .int _, .int _ => true | .bl _, .bl _ => true | .str _, .str _ => true | .byt _, .byt _ => true
  | .int _, .str _ => true | .str _, .int _ => true | .bl _, .str _ => true | .str _, .bl _ => true
  | _, _ => false
def rEq : R2 := fun x y H Q => scal x y = true ∧ Q (.bl (decide (x = y))) H
def rNe : R2 := fun x y H Q => scal x y = true ∧ Q (.bl (!decide (x = y))) H

theorem dec_int {i j : Int} : decide (V.int i = V.int j) = (i == j) := by
  rw [Bool.eq_iff_iff]
  simp
theorem dec_bl {i j : Bool} : decide (V.bl i = V.bl j) = (i == j) := by
  rw [Bool.eq_iff_iff]
  simp
theorem dec_str {i j : Str} : decide (V.str i = V.str j) = (i == j) := by
  rw [Bool.eq_iff_iff]
  simp
theorem dec_byt {i j : Array UInt8} : decide (V.byt i = V.byt j) = (i.toList == j.toList) := by
  rw [Bool.eq_iff_iff]
  cases i
  cases j
  simp

section
variable {X : Cx} {a b c : Expr} {ta tb tc : TE} {pos : Pos}
theorem fin_bl {pins : List (Addr × Obj)} {σ : St} {H : Hp} {s : Shared} {Q : VK} {k k' : Bool} (I : Inv X pins σ H s) (q : Q (.bl k) H) (e : k = k') : EP X pins σ Q (.bool k') s := by
  subst e
  exact ⟨.bl k, H, I, rfl, q⟩
theorem op_eq : OpR X (compareOp .Eq) rEq := by
  intro pins s σ H x y v u Q I rx ry h
  obtain ⟨hs, q⟩ := h
  cases x with
  | non =>
    cases rx
    cases y with
    | non => cases ry; exact PySem.EqNone.eq_none_none (fin_bl I q (by simp))
    | bl j => cases ry; exact PySem.EqNone.eq_none_bool (fin_bl I q (by simp))
    | int j => obtain ⟨t', rfl⟩ := ry; exact PySem.EqNone.eq_none_int (fin_bl I q (by simp))
    | str j => obtain ⟨t', rfl⟩ := ry; exact PySem.EqNone.eq_none_str (fin_bl I q (by simp))
    | _ => exact absurd (show false = true from hs) Bool.false_ne_true
  | bl i =>
    cases rx
    cases y with
    | non => cases ry; exact PySem.EqNone.eq_bool_none (fin_bl I q (by simp))
    | bl j => cases ry; exact eq_bool (fin_bl I q dec_bl)
    | str j => obtain ⟨t', rfl⟩ := ry; exact PySem.EqMixed.eq_bool_str (fin_bl I q (by simp))
    | _ => exact absurd (show false = true from hs) Bool.false_ne_true
  | int i =>
    obtain ⟨t, rfl⟩ := rx
    cases y with
    | non => cases ry; exact PySem.EqNone.eq_int_none (fin_bl I q (by simp))
    | int j => obtain ⟨t', rfl⟩ := ry; exact eq_int (fin_bl I q dec_int)
    | str j => obtain ⟨t', rfl⟩ := ry; exact PySem.EqMixed.eq_int_str (fin_bl I q (by simp))
    | _ => exact absurd (show false = true from hs) Bool.false_ne_true
  | str i =>
    obtain ⟨t, rfl⟩ := rx
    cases y with
    | non => cases ry; exact PySem.EqNone.eq_str_none (fin_bl I q (by simp))
    | bl j => cases ry; exact PySem.EqMixed.eq_str_bool (fin_bl I q (by simp))
    | int j => obtain ⟨t', rfl⟩ := ry; exact PySem.EqMixed.eq_str_int (fin_bl I q (by simp))
    | str j => obtain ⟨t', rfl⟩ := ry; exact eq_str (fin_bl I q dec_str)
    | _ => exact absurd (show false = true from hs) Bool.false_ne_true
  | byt i =>
    obtain ⟨t, rfl⟩ := rx
    cases y with
    | byt j => obtain ⟨t', rfl⟩ := ry; exact PySem.W.eq_bytes (fin_bl I q dec_byt)
    | _ => exact absurd (show false = true from hs) Bool.false_ne_true
  | _ => cases y <;> exact absurd (show false = true from hs) Bool.false_ne_true
theorem op_ne : OpR X (compareOp .NotEq) rNe := by
  intro pins s σ H x y v u Q I rx ry h
  obtain ⟨hs, q⟩ := h
  cases x with
  | non =>
    cases rx
    cases y with
    | non => cases ry; exact PySem.EqNone.ne_none_none (fin_bl I q (by simp))
    | bl j => cases ry; exact PySem.EqNone.ne_none_bool (fin_bl I q (by simp))
    | int j => obtain ⟨t', rfl⟩ := ry; exact PySem.EqNone.ne_none_int (fin_bl I q (by simp))
    | str j => obtain ⟨t', rfl⟩ := ry; exact PySem.EqNone.ne_none_str (fin_bl I q (by simp))
    | _ => exact absurd (show false = true from hs) Bool.false_ne_true
  | bl i =>
    cases rx
    cases y with
    | non => cases ry; exact PySem.EqNone.ne_bool_none (fin_bl I q (by simp))
    | bl j => cases ry; exact ne_bool (fin_bl I q (congrArg not dec_bl))
    | str j => obtain ⟨t', rfl⟩ := ry; exact PySem.EqMixed.ne_bool_str (fin_bl I q (by simp))
    | _ => exact absurd (show false = true from hs) Bool.false_ne_true
  | int i =>
    obtain ⟨t, rfl⟩ := rx
    cases y with
    | non => cases ry; exact PySem.EqNone.ne_int_none (fin_bl I q (by simp))
    | int j => obtain ⟨t', rfl⟩ := ry; exact ne_int (fin_bl I q (congrArg not dec_int))
    | str j => obtain ⟨t', rfl⟩ := ry; exact PySem.EqMixed.ne_int_str (fin_bl I q (by simp))
    | _ => exact absurd (show false = true from hs) Bool.false_ne_true
  | str i =>
    obtain ⟨t, rfl⟩ := rx
    cases y with
    | non => cases ry; exact PySem.EqNone.ne_str_none (fin_bl I q (by simp))
    | bl j => cases ry; exact PySem.EqMixed.ne_str_bool (fin_bl I q (by simp))
    | int j => obtain ⟨t', rfl⟩ := ry; exact PySem.EqMixed.ne_str_int (fin_bl I q (by simp))
    | str j => obtain ⟨t', rfl⟩ := ry; exact ne_str (fin_bl I q (congrArg not dec_str))
    | _ => exact absurd (show false = true from hs) Bool.false_ne_true
  | byt i =>
    obtain ⟨t, rfl⟩ := rx
    cases y with
    | byt j => obtain ⟨t', rfl⟩ := ry; exact PySem.W.ne_bytes (fin_bl I q (congrArg not dec_byt))
    | _ => exact absurd (show false = true from hs) Bool.false_ne_true
  | _ => cases y <;> exact absurd (show false = true from hs) Bool.false_ne_true

theorem op_lt : OpR X (compareOp .Lt) (rI0 fun i j => .bl (decide (i < j))) := opB0 fun _ _ _ _ _ _ _ q => lt_int q
theorem op_le : OpR X (compareOp .LtE) (rI0 fun i j => .bl (decide (i ≤ j))) := opB0 fun _ _ _ _ _ _ _ q => le_int q
theorem op_gt : OpR X (compareOp .Gt) (rI0 fun i j => .bl (decide (j < i))) := opB0 fun _ _ _ _ _ _ _ q => gt_int q
theorem op_ge : OpR X (compareOp .GtE) (rI0 fun i j => .bl (decide (j ≤ i))) := opB0 fun _ _ _ _ _ _ _ q => ge_int q
/-- is, is not of two objects that are tracked lists or instances -/
def isObj : HO → Bool
  | .lst _ => true
  | .ins _ _ _ => true
  | _ => false
/-- two rules for one operation: by cases -/
theorem OpR.or {f : Value → Value → Sem Value} {r r' : R2} (h : OpR X f r) (h' : OpR X f r') : OpR X f (fun x y H Q => r x y H Q ∨ r' x y H Q) := by
  intro pins s σ H x y v u Q I rx ry q
  rcases q with q | q
  · exact h pins s σ H x y v u Q I rx ry q
  · exact h' pins s σ H x y v u Q I rx ry q

theorem nomark (b : Expr) {op : CmpOp} (h : op ≠ .In := by decide) (h2 : op ≠ .NotIn := by decide) : behindInMarks op b = false := by
  have e1 : (op == CmpOp.In) = false := by cases op <;> first | rfl | exact absurd rfl h
  have e2 : (op == CmpOp.NotIn) = false := by cases op <;> first | rfl | exact absurd rfl h2
  cases b <;> simp [behindInMarks, e1, e2]
/-- a comparison as a value; hm: nomark b, or (for in, not in) by with_unfolding_all rfl -/
theorem pe_cmpR {op : CmpOp} {r : R2} (ho : OpR X (compareOp op) r) (ha : PE X a ta) (hb : PE X b tb) (hm : behindInMarks op b = false) : PE X (.Compare a [op] [b] pos) (tOp r ta tb) := by
  intro pins s σ H Q I h
  exact wpAny_Compare1 (binT ha hb I h fun v u s2 x y H2 I2 rx ry q => ho pins s2 σ H2 x y v u Q I2 rx ry q) hm
/-- a reading of a value as a test -/
def tTest (t : TE) : TT := fun σ H Q => t σ H fun x H' => ∃ k, x = .bl k ∧ Q k H'
theorem pt_cmpR {op : CmpOp} {r : R2} (ho : OpR X (compareOp op) r) (ha : PE X a ta) (hb : PE X b tb) (hm : behindInMarks op b = false) : PT X (.Compare a [op] [b] pos) (tTest (tOp r ta tb)) := by
  intro pins s σ H Q I h
  refine wpAny_isTrue_Compare1 (thn (ha pins s σ H _ I h) fun v s1 ⟨x, H1, I1, r1, q1⟩ => thn (hb pins s1 σ H1 _ I1 q1) fun u s2 ⟨y, H2, I2, r2, q2⟩ =>
    thn (ho pins s2 σ H2 x y v u _ I2 r1 r2 q2) fun c s3 ⟨z, H3, I3, r3, k, e, q3⟩ => ?_) hm
  subst e
  cases r3
  exact wpAny_truthy_bool ⟨H3, I3, q3⟩
/-- a op1 b op2 c -/
def tChain (r r' : R2) (ta tb tc : TE) : TE := fun σ H Q => ta σ H fun x H1 => tb σ H1 fun y H2 => r x y H2 fun z H3 => ∃ k, z = .bl k ∧
  (if k = true then tc σ H3 fun w' H4 => r' y w' H4 Q else Q (.bl false) H3)
theorem pt_chain {op op' : CmpOp} {r r' : R2} (ho : OpR X (compareOp op) r) (ho' : OpR X (compareOp op') r') (ha : PE X a ta) (hb : PE X b tb) (hc : PE X c tc)
    (hm : lastMarks [op, op'] [b, c] = false := by with_unfolding_all rfl) : PT X (.Compare a [op, op'] [b, c] pos) (tTest (tChain r r' ta tb tc)) := by
  intro pins s σ H Q I h
  refine isTrue_chain (thn (ha pins s σ H _ I h) fun v s1 ⟨x, H1, I1, r1, q1⟩ => test_link (thn (hb pins s1 σ H1 _ I1 q1) fun u s2 ⟨y, H2, I2, r2, q2⟩ =>
    thn (ho pins s2 σ H2 x y v u _ I2 r1 r2 q2) fun d s3 ⟨z, H3, I3, r3, k, e, q3⟩ => ?_)) hm
  subst e
  cases r3
  refine wpAny_truthy_bool ?_
  cases k with
  | false =>
    obtain ⟨k', e', q'⟩ := q3
    cases e'
    exact ite_ff ⟨H3, I3, q'⟩
  | true =>
    refine ite_tt (test_last (thn (hc pins s3 σ H3 _ I3 q3) fun w' s4 ⟨z', H4, I4, r4, q4⟩ => thn (ho' pins s4 σ H4 y z' u w' _ I4 r2 r4 q4) fun d' s5 ⟨z2, H5, I5, r5, k2, e2, q5⟩ => ?_))
    subst e2
    cases r5
    exact wpAny_truthy_bool ⟨H5, I5, q5⟩

/-! ### truth -/
/-- a value's truth by the abstract heap -/
def TruV (K : PySem.W.Frag) (x : V) (H : Hp) (k : Bool) : Prop :=
  match x with
  | .non => k = false
  | .bl b => k = b
  | .int i => k = (i != 0)
  | .str y => y.length ≤ sizeLine ∧ k = ((y.length : Int) != 0)
  | .byt y => y.size ≤ sizeLine ∧ k = ((y.size : Int) != 0)
  | .ref p => (∃ xs, SqL K H p xs ∧ k = !xs.isEmpty) ∨ (∃ xs, SqT K H p xs ∧ k = !xs.isEmpty) ∨ ∃ kvs, H p = some (.dK kvs) ∧ k = !kvs.isEmpty
  | _ => False
theorem line63 : (sizeLine : Nat) < 2 ^ 63 := by rw [sizeLine_eq]; decide
/-! ### strs and bytes -/
def PlainIxT (b : Expr) : Prop := ∀ o i, subscripted b false o i = operate [o, i] (getItem o i)
/-! ### scalar builtins, by CallR -/
theorem vals1 {x : V} {us : List Value} (r : Vals [x] us) : ∃ u, us = [u] ∧ RelV x u := by
  cases r with
  | cons r1 r2 => cases r2; exact ⟨_, rfl, r1⟩
theorem vals2 {x y : V} {us : List Value} (r : Vals [x, y] us) : ∃ u w', us = [u, w'] ∧ RelV x u ∧ RelV y w' := by
  cases r with
  | cons r1 r2 =>
    cases r2 with
    | cons r3 r4 => cases r4; exact ⟨_, _, rfl, r1, r3⟩
theorem call_abs : CallR X (.builtin "abs") (fun xs H Q => ∃ i, xs = [.int i] ∧ Q (.int (if i < 0 then -i else i)) H) := by
  intro pins s σ H xs us Q I r h
  obtain ⟨i, rfl, q⟩ := h
  obtain ⟨u, rfl, t, rfl⟩ := vals1 r
  exact call_abs_int fun u tk => ⟨.int (if i < 0 then -i else i), H, I.tok _, ⟨_, rfl⟩, q⟩
/-- len of a str, a bytes, a list, a tuple -/
def LenV (K : PySem.W.Frag) (x : V) (H : Hp) (n : Nat) : Prop :=
  match x with
  | .str y => y.length ≤ sizeLine ∧ n = y.length
  | .byt y => y.size ≤ sizeLine ∧ n = y.size
  | .ref p => (∃ xs, SqL K H p xs ∧ n = xs.length) ∨ ∃ xs, SqT K H p xs ∧ n = xs.length
  | _ => False
end
end L2

namespace L2
open PySem PySem.Spec PyProof.Rows

/-! ### an instance, its attributes a map -/
structure ObjM (h : Heap) (x dx C : Addr) (mA : Str → Option Value) : Prop where
  obj : h.get? x = some (PySem.W.instObj C dx)
  ns : h.Ns1 dx mA
  ne : dx ≠ x

theorem lookIn_ns {h : Heap} {dx : Addr} {mA : Str → Option Value} (n : h.Ns1 dx mA) : ∃ od, h.get? dx = some od ∧ ∀ name, PySem.W.lookIn name od = some (mA name) := by
  obtain ⟨o, es, ep, ho, hd, hk, _, hm⟩ := n
  refine ⟨o, ho, fun name => ?_⟩
  have e := hm name
  unfold nsFind findBy at e
  rw [← Array.find?_toList] at e
  unfold PySem.W.lookIn
  rw [hd]
  dsimp only
  split
  · rename_i y q
    rw [q] at e
    exact congrArg some e
  · rename_i q
    rw [q] at e
    have a : es.toList.any (·.refKey) = false := by
      rw [List.any_eq_false]
      intro y hy
      obtain ⟨z, t, hkey⟩ := hk y (Array.mem_toList_iff.mp hy)
      simp [DictEntry.refKey, hkey]
    have a' : ¬ es.toList.any (·.refKey) = true := by rw [a]; exact Bool.false_ne_true
    rw [if_neg a']
    exact congrArg some e

theorem ObjM.look {h : Heap} {x dx C : Addr} {mA : Str → Option Value} (I : ObjM h x dx C mA) : ∃ od, PySem.W.InstAt h x (PySem.W.instObj C dx) C (some od) ∧ ∀ name, PySem.W.lookIn name od = some (mA name) :=
  let ⟨od, ho, hl⟩ := lookIn_ns I.ns
  ⟨od, ⟨I.obj, rfl, rfl, ho⟩, hl⟩

section
variable {prog : Program} {w : World} {A : Around} {E : Value → Shared → Prop} {s : Shared} {K : PySem.W.Frag} {x dx C f : Addr} {mA : Str → Option Value} {name : Str} {v : Value}

theorem get_map {expr : Bool} {Q : Value → Shared → Prop} (X : K.In s.heap) (I : ObjM s.heap x dx C mA) (hg : PySem.W.plainGet K C name = true) (hh : PySem.W.hasDictIn K C = true)
    (ha : PySem.W.findIn K (.ref C) name = some none) (hv : mA name = some v) (hv' : PySem.W.handedIn v = true) (h : Q v { s with toks := s.toks + 1 }) :
    wpAny (model prog w) A (getAttr (.ref x) name expr) Q E s := by
  obtain ⟨od, J, hl⟩ := I.look
  exact PySem.W.get_value X J (PySem.W.plainGet_of hg).1 (PySem.W.findObj_own hh ha rfl (by rw [hl, hv])) hv' h

theorem get_meth {pl : Sem Bool} {Q : Value × List Value → Shared → Prop} (X : K.In s.heap) (I : ObjM s.heap x dx C mA) (hg : PySem.W.plainGet K C name = true)
    (hf : PySem.W.findIn K (.ref C) name = some (some (.ref f))) (ht : PySem.W.isFn K (.ref f) = true) (hv : mA name = none) (h : Q (.ref f, [.ref x]) s) :
    wpAny (model prog w) A (getMethod (.ref x) name pl) Q E s := by
  obtain ⟨od, J, hl⟩ := I.look
  exact PySem.W.method_fn X J (PySem.W.plainGet_of hg).1 (PySem.W.plainGet_of hg).2 hf (beq_iff_eq.mp ht) (by show (PySem.W.lookIn name od).map (·.isSome) = some false; rw [hl, hv]; rfl) h

theorem set_map {ns : List Str} {Q : Unit → Shared → Prop} (X : K.In s.heap) (I : ObjM s.heap x dx C mA)
    (hs : PySem.W.findIn K (.ref C) "__setattr__" = some (some (.builtin "object.__setattr__"))) (hp : PySem.W.plainOver K C = true) (ht : PySem.W.takerIn K C name = some none) (hh : PySem.W.hasDictIn K C = true)
    (hw : PySem.Within mA ns) (hsz : ns.length ≤ sizeLine)
    (h : ∀ h', ObjM h' x dx C (fun y => if y = name then some v else mA y) → Heap.SameBut dx s.heap h' → Q () { s with heap := h', toks := s.toks + 2 }) :
    wpAny (model prog w) A (setAttr (.ref x) name v) Q E s := by
  obtain ⟨od, J, hl⟩ := I.look
  refine PySem.W.set_plain X J hs (PySem.W.osa_open (s := { s with toks := s.toks + 1 }) (r := none) X J hp ht fun b => ?_)
  obtain ⟨cd, hc, hd'⟩ := PySem.W.any_some hh
  have hx : s.heap.get? x = some ⟨.ref C, some dx, .plain, #[]⟩ := I.obj
  refine wpAny_bind (wpAny_pure (wpAny_bind (wpAny_bind (wpAny_loadPart hx (wpAny_bind (PySem.W.Looks.here (s := { s with toks := s.toks + 1 }) (PySem.W.looks_clsIn X hc) ?_))))))
  rw [hd']
  refine wpAny_pure (a := some dx) (wpAny_bind (wpAny_pure (wpAny_bind ?_)))
  refine wpAny_nsSet1 (s := { s with toks := s.toks + 1 }) I.ns fun h' hn2 hs2 => ?_
  obtain ⟨oD, esD, epD, hoD, hdD, hcD⟩ := hn2.count (PySem.Within.cons name v hw)
  refine wpAny_bind (wpAny_lookBehind hoD (by rw [hdD]; exact pastItsLine_dict (Nat.le_trans hcD (by rw [List.length_cons]; omega))) ?_)
  exact wpAny_pure (h _ ⟨(hs2.2 _ (Ne.symm I.ne)).trans I.obj, hn2, I.ne⟩ hs2)

/-- C(..): the dict at the heap's end, the instance behind it; then its __init__ -/
theorem make_map {R : Result → Shared → Prop} {vs : List Value} {kw : List (Str × Value)} (X : K.In s.heap) (hm : PySem.W.makesIn K C = true)
    (hi : PySem.W.findIn K (.ref C) "__init__" = some (some (.ref f))) (hf : PySem.W.typeIn K (.ref f) = some (.type "function"))
    (h : codeAny (model prog w) (A.under (.builtin "type.__call__" ⟨.ref C :: vs, kw⟩)) (.call (.ref f) ⟨.ref (s.heap.objs.size + 1) :: vs, kw⟩) (PySem.W.InitBack (s.heap.objs.size + 1) R)
      { s with heap := (s.heap.push PySem.W.emptyDict).push (PySem.W.instObj C s.heap.objs.size) }) :
    codeAny (model prog w) A (.call (.ref C) ⟨vs, kw⟩) R s := by
  obtain ⟨hh, g, d, t, os⟩ := s
  exact PySem.W.make_core (PySem.W.makes_of X hm) (PySem.W.looks_findIn X hi) (fun self => PySem.W.bind_fn X self hf) (.inl rfl) h
end

/-! ### the attributes as a list of pairs -/
def putF (f : Str) (v : V) : List (Str × V) → List (Str × V)
  | [] => [(f, v)]
  | (g, x) :: r => if g = f then (g, v) :: r else (g, x) :: putF f v r
theorem lookup_putF (f g : Str) (v : V) : ∀ fs : List (Str × V), (putF f v fs).lookup g = if g = f then some v else fs.lookup g
  | [] => by
    show List.lookup g [(f, v)] = _
    by_cases h : g = f
    · have hb : (g == f) = true := beq_iff_eq.mpr h
      simp only [List.lookup, hb, if_pos h]
    · have hb : (g == f) = false := beq_eq_false_iff_ne.mpr h
      simp only [List.lookup, hb, if_neg h]
  | (k, x) :: r => by
    have ih := lookup_putF f g v r
    rw [show putF f v ((k, x) :: r) = (if k = f then (k, v) :: r else (k, x) :: putF f v r) from rfl]
    by_cases hk : k = f
    · rw [if_pos hk]
      by_cases h : g = k
      · have hb : (g == k) = true := beq_iff_eq.mpr h
        simp only [List.lookup, hb, if_pos (h.trans hk)]
      · have hb : (g == k) = false := beq_eq_false_iff_ne.mpr h
        simp only [List.lookup, hb, if_neg (fun e : g = f => h (e.trans hk.symm))]
    · rw [if_neg hk]
      by_cases h : g = k
      · have hb : (g == k) = true := beq_iff_eq.mpr h
        simp only [List.lookup, hb, if_neg (fun e : g = f => hk (h.symm.trans e))]
      · have hb : (g == k) = false := beq_eq_false_iff_ne.mpr h
        simp only [List.lookup, hb]
        exact ih
theorem keys_putF (f : Str) (v : V) : ∀ fs : List (Str × V), f ∈ (putF f v fs).map (·.1) ∧ ∀ g, g ∈ fs.map (·.1) → g ∈ (putF f v fs).map (·.1)
  | [] => ⟨by simp [putF], fun g h => by simp at h⟩
  | (k, x) :: r => by
    obtain ⟨i1, i2⟩ := keys_putF f v r
    rw [show putF f v ((k, x) :: r) = (if k = f then (k, v) :: r else (k, x) :: putF f v r) from rfl]
    by_cases hk : k = f
    · rw [if_pos hk]
      subst hk
      exact ⟨by simp, fun g h => by simpa using h⟩
    · rw [if_neg hk]
      refine ⟨?_, fun g h => ?_⟩
      · rw [List.map_cons]
        exact List.mem_cons_of_mem _ i1
      · rw [List.map_cons] at h ⊢
        rcases List.mem_cons.mp h with e | e
        · exact List.mem_cons.mpr (.inl e)
        · exact List.mem_cons_of_mem _ (i2 g e)
theorem length_putF (f : Str) (v : V) : ∀ fs : List (Str × V), (putF f v fs).length ≤ fs.length + 1
  | [] => by simp [putF]
  | (k, x) :: r => by
    have ih := length_putF f v r
    rw [show putF f v ((k, x) :: r) = (if k = f then (k, v) :: r else (k, x) :: putF f v r) from rfl]
    by_cases hk : k = f
    · rw [if_pos hk, List.length_cons, List.length_cons]; omega
    · rw [if_neg hk, List.length_cons, List.length_cons]; omega

theorem RelO.some_of {v : V} {o : Option Value} (r : RelO (some v) o) : ∃ u, o = some u ∧ RelV v u := by
  cases o with
  | none => exact (show False from r).elim
  | some u => exact ⟨u, rfl, r⟩
theorem RelO.none_of {o : Option Value} (r : RelO none o) : o = none := by
  cases o with
  | none => rfl
  | some u => exact (show False from r).elim
theorem handed_of {v : V} {u : Value} (r : RelV v u) : PySem.W.handedIn u = true := by
  cases v with
  | non => cases (show u = Value.none from r); rfl
  | bl b => cases (show u = Value.bool b from r); rfl
  | int i => obtain ⟨t, e⟩ := (show ∃ t, u = Value.int i t from r); cases e; rfl
  | str x => obtain ⟨t, e⟩ := (show ∃ t, u = Value.str x t from r); cases e; rfl
  | byt b => obtain ⟨t, e⟩ := (show ∃ t, u = Value.bytes b t from r); cases e; rfl
  | flt b => obtain ⟨t, e⟩ := (show ∃ t, u = Value.float b t from r); cases e; rfl
  | ref a => cases (show u = Value.ref a from r); rfl
  | ty n => cases (show u = Value.type n from r); rfl

section
variable {P : Program} {w : World} {H H' : Hp} {h h' : Heap} {a C dx : Addr} {fs fs' : List (Str × V)}
theorem ins_get (hok : HOk P w H h) (e : H a = some (.ins C dx fs)) : ∃ mA, ObjM h a dx C mA ∧ (∀ f, RelO (fs.lookup f) (mA f)) ∧ PySem.Within mA (fs.map (·.1)) ∧ fs.length ≤ 1000 ∧ H dx = some (.own a) := by
  obtain ⟨d, z, ne, ob, mA, n, r, q⟩ := (show ObjOk P w H h a (.ins C dx fs) from hok a _ e)
  exact ⟨mA, ⟨ob, n, ne⟩, r, q, z, d⟩
end

/-! ### what of the text a class must have -/
structure Cls (K : PySem.W.Frag) (C : Addr) : Prop where
  pg : PySem.W.plainGet K C Str.empty = true
  hd : PySem.W.hasDictIn K C = true
  po : PySem.W.plainOver K C = true
  sa : PySem.W.findIn K (.ref C) "__setattr__" = some (some (.builtin "object.__setattr__"))
theorem Cls.get {K : PySem.W.Frag} {C : Addr} (c : Cls K C) (f : Str) : PySem.W.plainGet K C f = true := c.pg
/-- no class of it has the name -/
def NoAttr (K : PySem.W.Frag) (C : Addr) (f : Str) : Prop := PySem.W.findIn K (.ref C) f = some none
theorem NoAttr.taker {K : PySem.W.Frag} {C : Addr} {f : Str} (n : NoAttr K C f) : PySem.W.takerIn K C f = some none := by
  unfold PySem.W.takerIn
  rw [show PySem.W.findIn K (.ref C) f = some none from n]
  rfl
/-- a constant of the class -/
structure Con (K : PySem.W.Frag) (C : Addr) (f : Str) (v : V) (u : Value) : Prop where
  at_ : PySem.W.findIn K (.ref C) f = some (some u)
  rel : RelV v u
  get : PySem.W.specialIn K u "__get__" = some none
  cp : PySem.W.copiedNames.contains f = false
/-- a method: a plain def of the class or of one above it -/
structure Meth (K : PySem.W.Frag) (C : Addr) (m : Str) (f : Addr) : Prop where
  at_ : PySem.W.findIn K (.ref C) m = some (some (.ref f))
  fn : PySem.W.isFn K (.ref f) = true
  kp : PySem.W.keepIn K (.ref f) = true

section
variable {X : Cx} {pins : List (Addr × Obj)} {σ : St} {H : Hp} {s : Shared} {a C dx : Addr} {fs : List (Str × V)} {f : Str} {v : V} {A : Around} {E : Value → Shared → Prop}

theorem getattr_ok {b : Bool} {Q : Value → Shared → Prop} (I : Inv X pins σ H s) (e : H a = some (.ins C dx fs)) (c : Cls X.K C) (n : NoAttr X.K C f) (l : fs.lookup f = some v)
    (h : ∀ u s', Inv X pins σ H s' → RelV v u → Q u s') : wpAny (model X.prog X.w) A (getAttr (.ref a) f b) Q E s := by
  obtain ⟨mA, O, r, _, _, _⟩ := ins_get I.hok e
  obtain ⟨u, hu, ru⟩ := RelO.some_of (v := v) (o := mA f) (by rw [← l]; exact r f)
  exact get_map I.kIn O (c.get f) c.hd n hu (handed_of ru) (h u _ (I.tok _) ru)

theorem getmeth_ok {m : Str} {g : Addr} {pl : Sem Bool} {Q : Value × List Value → Shared → Prop} (I : Inv X pins σ H s) (e : H a = some (.ins C dx fs)) (c : Cls X.K C) (k : Meth X.K C m g) (l : fs.lookup m = none)
    (h : Q (.ref g, [.ref a]) s) : wpAny (model X.prog X.w) A (getMethod (.ref a) m pl) Q E s := by
  obtain ⟨mA, O, r, _, _, _⟩ := ins_get I.hok e
  have hn : mA m = none := RelO.none_of (by rw [← l]; exact r m)
  exact get_meth I.kIn O (c.get m) k.at_ k.fn hn h

theorem setattr_ok {y : V} {u : Value} {Q : Unit → Shared → Prop} (I : Inv X pins σ H s) (e : H a = some (.ins C dx fs)) (c : Cls X.K C) (n : NoAttr X.K C f) (hl : fs.length < 1000) (ry : RelV y u)
    (h : ∀ s', Inv X pins σ (upd H a (.ins C dx (putF f y fs))) s' → Q () s') : wpAny (model X.prog X.w) A (setAttr (.ref a) f u) Q E s := by
  obtain ⟨mA, O, r, wi, _, ho⟩ := ins_get I.hok e
  have hz : (fs.map (·.1)).length ≤ sizeLine := by rw [List.length_map, sizeLine_eq]; omega
  refine set_map I.kIn O c.sa c.po n.taker c.hd wi hz fun h' O' sb => h _ ?_
  have hd : ∃ o, h'.get? dx = some o := let ⟨o, _, _, e', _⟩ := O'.ns; ⟨o, e'⟩
  refine I.write (x := a) (e := dx) (by rw [e]; exact True.intro) (.inr ho) (fun b q hb z => (sb.2 b hb).trans z) hd ?_
  refine ⟨by rw [upd_ne O.ne]; exact ho, ?_, O.ne, O'.obj, _, O'.ns, fun g => ?_, fun g hg => ?_⟩
  · have := length_putF f y fs; omega
  · show RelO ((putF f y fs).lookup g) (if g = f then some u else mA g)
    rw [lookup_putF]
    by_cases q : g = f
    · rw [if_pos q, if_pos q]; exact ry
    · rw [if_neg q, if_neg q]; exact r g
  · by_cases q : g = f
    · rw [q]; exact (keys_putF f y fs).1
    · refine (keys_putF f y fs).2 g (wi g fun z => hg ?_)
      show (if g = f then some u else mA g) = none
      rw [if_neg q]; exact z

/-- a new instance, tracked, without attributes -/
theorem Inv.made (I : Inv X pins σ H s) : Inv X pins σ (upd (upd H s.heap.objs.size (.own (s.heap.objs.size + 1))) (s.heap.objs.size + 1) (.ins C s.heap.objs.size []))
    { s with heap := (s.heap.push PySem.W.emptyDict).push (PySem.W.instObj C s.heap.objs.size) } := by
  have e1 : (s.heap.push PySem.W.emptyDict).get? s.heap.objs.size = some PySem.W.emptyDict := Heap.get?_push_size s.heap rfl
  have e2 : ((s.heap.push PySem.W.emptyDict).push (PySem.W.instObj C s.heap.objs.size)).get? (s.heap.objs.size + 1) = some (PySem.W.instObj C s.heap.objs.size) := by
    have := Heap.get?_push_size (s.heap.push PySem.W.emptyDict) (o := PySem.W.instObj C s.heap.objs.size) rfl
    rwa [Heap.size_push] at this
  have e3 : (s.heap.push PySem.W.emptyDict).Ns s.heap.objs.size (fun _ => none) := ⟨PySem.W.emptyDict, #[], _, e1, rfl, (fun e he => absurd he (by simp)), fun _ => rfl⟩
  have I1 := I.laid (a := s.heap.objs.size) (o := .own (s.heap.objs.size + 1)) (h' := s.heap.push PySem.W.emptyDict) (t' := s.toks) (fun b u q => Heap.get?_push_of_some _ q) (Nat.le_refl _) ⟨_, e1⟩
  refine I1.laid (a := s.heap.objs.size + 1) (o := .ins C s.heap.objs.size []) (t' := s.toks) (fun b u q => Heap.get?_push_of_some _ q) (Nat.le_of_eq (Heap.size_push _ _)) ?_
  have ne : s.heap.objs.size ≠ s.heap.objs.size + 1 := Nat.ne_of_lt (Nat.lt_succ_self _)
  refine ⟨by rw [upd_ne ne, upd_same], Nat.zero_le _, ne, e2, fun _ => none, (Heap.Ns1.of_empty e3).at fun o q => Heap.get?_push_of_some _ q, fun _ => True.intro, fun y hy => absurd rfl hy⟩

/-- e.f where nothing but the object is asked: through attributeBase (super) and the last hold -/
theorem attr_of {prog : Program} {w : World} {env : Env} {e : Expr} {f : Str} {pos : Pos} {s : Shared} {Q : Value → Shared → Prop} (hb : attributeBase e f env (eval e env) = eval e env)
    (h : wpAny (model prog w) A (eval e env) (fun o s₁ => wpAny (model prog w) A (getAttr o f true) Q E s₁) E s) : wpAny (model prog w) A (eval (.Attribute e f pos) env) Q E s :=
  Attribute_any_ h (by rw [arm_eval_Attribute, hb])
end

/-! ### readings and rules -/
/-- e.f, an attribute of the instance -/
def tFld (K : PySem.W.Frag) (ta : TE) (f : Str) : TE := fun σ H Q => ta σ H fun x H1 => ∃ a C dx fs v, x = .ref a ∧ H1 a = some (.ins C dx fs) ∧ Cls K C ∧ NoAttr K C f ∧ fs.lookup f = some v ∧ Q v H1
/-- e.f, a constant of the class -/
def tCon (K : PySem.W.Frag) (ta : TE) (f : Str) : TE := fun σ H Q => ta σ H fun x H1 => ∃ a C dx fs v u, x = .ref a ∧ H1 a = some (.ins C dx fs) ∧ Cls K C ∧ Con K C f v u ∧ fs.lookup f = none ∧ Q v H1
/-- e.f = value -/
def sFld (K : PySem.W.Frag) (ta tv : TE) (f : Str) : TS := fun D σ H => tv σ H fun y H1 => ta σ H1 fun x H2 => ∃ a C dx fs, x = .ref a ∧ H2 a = some (.ins C dx fs) ∧ Cls K C ∧ NoAttr K C f ∧ fs.length < 1000 ∧
  D.nx σ (upd H2 a (.ins C dx (putF f y fs)))
/-- an augmented operator on two values -/
def InOp (X : Cx) (op : Operator) (rd : V → V → Hp → VK → Prop) : Prop :=
  ∀ (pins : List (Addr × Obj)) (s : Shared) (σ : St) (H : Hp) (x y : V) (u v : Value) (Q : VK), Inv X pins σ H s → RelV x u → RelV y v → rd x y H Q → wpAny (model X.prog X.w) X.A (inplaceOp op u v) (EP X pins σ Q) X.xe s
/-- e.f op= value -/
def sFldAug (K : PySem.W.Frag) (ta tv : TE) (rd : V → V → Hp → VK → Prop) (f : Str) : TS := fun D σ H => ta σ H fun x H1 => ∃ a C dx fs v, x = .ref a ∧ H1 a = some (.ins C dx fs) ∧ Cls K C ∧ NoAttr K C f ∧ fs.lookup f = some v ∧
  tv σ H1 fun y H2 => rd v y H2 fun z H3 => ∃ dx' fs', H3 a = some (.ins C dx' fs') ∧ fs'.length < 1000 ∧ D.nx σ (upd H3 a (.ins C dx' (putF f z fs')))

section
variable {X : Cx} {o e value : Expr} {f : Str} {pos pos' tpos : Pos} {ta tv : TE}
theorem pe_fld (he : PE X e ta) (hb : attributeBase e f X.env (eval e X.env) = eval e X.env) : PE X (.Attribute e f pos) (tFld X.K ta f) := by
  intro pins s σ H Q I h
  refine attr_of hb (thn (he pins s σ H _ I h) fun u s1 ⟨x, H1, I1, rx, a, C, dx, fs, v, ex, ea, c, n, l, q⟩ => ?_)
  subst ex
  obtain rfl : u = Value.ref a := rx
  exact getattr_ok I1 ea c n l fun u' s2 I2 ru => ⟨v, H1, I2, ru, q⟩
theorem ps_fld (ha : PE X o ta) (hv : PE X value tv) (hs : swapsWith value (some (.Attribute o f pos')) pos.line X.env = pure false) : PS X (.Assign [.Attribute o f pos'] value pos) (sFld X.K ta tv f) := by
  intro pins s σ H D I h
  refine plainObj_wpAny_Assign_Attribute (thn (hv pins s σ H _ I h) fun u s1 ⟨y, H1, I1, ry, q⟩ => thn (ha pins s1 σ H1 _ I1 q) fun ov s2 ⟨x, H2, I2, rx, a, C, dx, fs, ex, ea, c, n, l, q2⟩ => ?_) hs
  subst ex
  obtain rfl : ov = Value.ref a := rx
  exact setattr_ok I2 ea c n l ry fun s3 I3 => ⟨σ, _, I3, q2⟩
def rAdd : V → V → Hp → VK → Prop := fun x y H Q => ∃ i j, x = .int i ∧ y = .int j ∧ Q (.int (i + j)) H
def rSub : V → V → Hp → VK → Prop := fun x y H Q => ∃ i j, x = .int i ∧ y = .int j ∧ Q (.int (i - j)) H
end

/-! ### isinstance -/
section
variable {X : Cx} {pins : List (Addr × Obj)} {σ : St} {H : Hp} {s : Shared} {A : Around} {E : Value → Shared → Prop} {Q : Value → Shared → Prop} {c : Value} {b : Bool}
/-- the type of a value, as the fragment's deciders take it; for an instance its class -/
inductive TyOf (K : PySem.W.Frag) (H : Hp) : V → Value → Prop where
  | non : TyOf K H .non (.type "NoneType")
  | bl (x : Bool) : TyOf K H (.bl x) (.type "bool")
  | int (i : Int) : TyOf K H (.int i) (.type "int")
  | str (x : Str) : TyOf K H (.str x) (.type "str")
  | flt (x : UInt64) : TyOf K H (.flt x) (.type "float")
  | lst {a : Addr} {xs : List V} (e : H a = some (.lst xs)) : TyOf K H (.ref a) (.type "list")
  | frz {a : Addr} {o : Obj} {xs : List V} (e : H a = some (.frz o (.lst xs))) : TyOf K H (.ref a) (.type "list")
  | tup {a : Addr} {xs : List V} (e : H a = some (.tup xs)) : TyOf K H (.ref a) (.type "tuple")
  | dK {a : Addr} {kvs : List (Key × V)} (e : H a = some (.dK kvs)) : TyOf K H (.ref a) (.type "dict")
  | dT {a : Addr} {kvs : List (List Key × V)} (e : H a = some (.dT kvs)) : TyOf K H (.ref a) (.type "dict")
  | ins {a C dx : Addr} {fs : List (Str × V)} (e : H a = some (.ins C dx fs)) (cl : Cls K C) (ha : PySem.W.findIn K (.ref C) "__class__" = some (some (.builtin "object.__class__")))
      (hn : PySem.W.specialIn K (.builtin "object.__class__") "__get__" = some (some (.builtin "getset_descriptor.__get__"))) (htk : PySem.W.takesIn K (.builtin "object.__class__") = some true)
      (hm : PySem.W.mroIn K C (.type "object") = some true) : TyOf K H (.ref a) (.ref C)
/-- isinstance(x, c) for one class c, a built-in or an own one: kitOne's answer -/
theorem isinst_ok {x : V} {u t : Value} (I : Inv X pins σ H s) (rx : RelV x u) (ty : TyOf X.K H x t) (e : PySem.W.kitOne X.K t c = some b) (h : ∀ tk, Q (.bool b) { s with toks := tk }) :
    wpAny (model X.prog X.w) A (call (.builtin "isinstance") [u, c]) Q E s := by
  cases ty with
  | non => cases (show u = Value.none from rx); exact PySem.W.kia_one PySem.W.kitx_none I.kIn True.intro e (fun z => nomatch z) h
  | bl y => cases (show u = Value.bool y from rx); exact PySem.W.kia_one PySem.W.kitx_bool I.kIn True.intro e (fun z => nomatch z) h
  | int i => obtain ⟨t, q⟩ := (show ∃ t, u = Value.int i t from rx); cases q; exact PySem.W.kia_one PySem.W.kitx_int I.kIn True.intro e (fun z => nomatch z) h
  | str y => obtain ⟨t, q⟩ := (show ∃ t, u = Value.str y t from rx); cases q; exact PySem.W.kia_one PySem.W.kitx_str I.kIn True.intro e (fun z => nomatch z) h
  | flt y => obtain ⟨t, q⟩ := (show ∃ t, u = Value.float y t from rx); cases q; exact PySem.W.kia_one PySem.W.kitx_float I.kIn True.intro e (fun z => nomatch z) h
  | @lst a xs ea =>
    cases (show u = Value.ref a from rx)
    obtain ⟨_, _, n, _, h1⟩ := (show ObjOk X.prog X.w H s.heap a (.lst xs) from I.hok a _ ea)
    exact PySem.W.kia_one PySem.W.kitx_list I.kIn ⟨_, h1, rfl⟩ e (fun z => nomatch z) h
  | @frz a ob xs ea =>
    cases (show u = Value.ref a from rx)
    obtain ⟨_, _, _, n, _, h1⟩ := (show ObjOk X.prog X.w H s.heap a (.frz ob (.lst xs)) from I.hok a _ ea)
    exact PySem.W.kia_one PySem.W.kitx_list I.kIn ⟨_, h1, rfl⟩ e (fun z => nomatch z) h
  | @tup a xs ea =>
    cases (show u = Value.ref a from rx)
    obtain ⟨_, _, _, p⟩ := (show ObjOk X.prog X.w H s.heap a (.tup xs) from I.hok a _ ea)
    obtain ⟨o, h1, h2, _⟩ := p
    exact PySem.W.kia_one PySem.W.kitx_tuple I.kIn ⟨o, h1, h2⟩ e (fun z => nomatch z) h
  | @dK a kvs ea =>
    cases (show u = Value.ref a from rx)
    obtain ⟨_, _, vs, _, p⟩ := (show ObjOk X.prog X.w H s.heap a (.dK kvs) from I.hok a _ ea)
    obtain ⟨o, es, ep, h1, h2, _⟩ := p
    exact PySem.W.kia_one PySem.W.kitx_dict I.kIn ⟨o, h1, h2.1⟩ e (fun z => nomatch z) h
  | @dT a kvs ea =>
    cases (show u = Value.ref a from rx)
    obtain ⟨_, _, xs, _, o, es, ep, h1, h2, _⟩ := (show ObjOk X.prog X.w H s.heap a (.dT kvs) from I.hok a _ ea)
    exact PySem.W.kia_one PySem.W.kitx_dict I.kIn ⟨o, h1, h2.1⟩ e (fun z => nomatch z) h
  | @ins a C dx fs ea cl ha hn htk hm =>
    cases (show u = Value.ref a from rx)
    obtain ⟨mA, O, _⟩ := ins_get I.hok ea
    obtain ⟨od, J, _⟩ := O.look
    exact PySem.W.kia_one (PySem.W.kitx_own (cl.get _) cl.hd ha hn htk hm) I.kIn J e (fun z => nomatch z) h
end
end L2

namespace L2
open PySem PySem.Spec PyProof.Rows

/-! ### room -/
structure Room (k : Nat) (A : Around) : Prop where
  hd : A.handled = none
  dp : A.depth + 3 * k + 5 < recursionLimit
  un : A.units + 16 * k + 200 < cLine
theorem Room.mono {j k : Nat} {A : Around} (r : Room k A) (h : j ≤ k) : Room j A := ⟨r.hd, by have := r.dp; omega, by have := r.un; omega⟩
theorem Room.deeper {k : Nat} {A : Around} (r : Room (k + 1) A) (env : Env) : Room k (A.deeper env) :=
  ⟨r.hd, by have := r.dp; show A.depth + 1 + 3 * k + 5 < _; omega, by have := r.un; show A.units + 3 + 16 * k + 200 < _; omega⟩
theorem Room.in1 {k : Nat} {A : Around} (r : Room (k + 1) A) : Room k A.in1 :=
  ⟨r.hd, by have := r.dp; show A.depth + 3 * k + 5 < _; omega, by have := r.un; show A.units + 1 + 16 * k + 200 < _; omega⟩
theorem make_depth {A : Around} {C : Addr} {us : List Value} {kw : List (Str × Value)} : (A.under (.builtin "type.__call__" ⟨.ref C :: us, kw⟩)).depth = A.depth + 1 := by
  first | rfl | simp [Around.under, Code.weight, Code.isCreation, Code.isGuard, Code.isCaller, Code.frames, Code.isFrame, guardIds]
theorem make_units {A : Around} {C : Addr} {us : List Value} {kw : List (Str × Value)} : (A.under (.builtin "type.__call__" ⟨.ref C :: us, kw⟩)).units = A.units + 1 := by
  first | rfl | simp [Around.under, Code.cUnits, Code.frames, Code.isFrame]
theorem Room.make {k : Nat} {A : Around} (r : Room (k + 1) A) (C : Addr) (us : List Value) (kw : List (Str × Value)) : Room k (A.under (.builtin "type.__call__" ⟨.ref C :: us, kw⟩)) :=
  ⟨r.hd, by have := r.dp; rw [make_depth]; omega, by have := r.un; rw [make_units]; omega⟩
theorem Room.depth {k : Nat} {A : Around} (r : Room k A) : A.depth < recursionLimit := by have := r.dp; omega
theorem Room.units {k : Nat} {A : Around} (r : Room k A) : A.units + 64 < cLine := by have := r.un; omega
/-! ### argument lists and displays -/
def tNil : TA := fun _ H Q => Q [] H
def tCons (ta : TE) (tr : TA) : TA := fun σ H Q => ta σ H fun x H1 => tr σ H1 fun xs H2 => Q (x :: xs) H2
section
variable {X : Cx} {e : Expr} {es : List Expr} {te : TE} {t : TA} {pos : Pos}
theorem pa_nil : PA X [] tNil := fun _ _ _ _ H Q I h => Calls.spliced_nil ⟨[], H, I, .nil, h⟩
theorem pa_cons (ha : PE X e te) (hr : PA X es t) (hs : starEach (e :: es) X.env = (false, eval e X.env) :: starEach es X.env := by rfl) : PA X (e :: es) (tCons te t) := by
  intro pos pins s σ H Q I h
  rw [hs]
  show wpAny _ _ (spliced ((false, eval e X.env) :: backTo pos (starEach es X.env))) _ _ s
  refine Calls.spliced_cons (thn (ha pins s σ H _ I h) fun u s1 ⟨x, H1, I1, r1, q1⟩ => ?_)
  exact thn (hr pos pins s1 σ H1 _ I1 q1) fun us s2 ⟨xs, H2, I2, r2, q2⟩ => ⟨x :: xs, H2, I2, .cons r1 r2, q2⟩

/-- a tuple, a list of written items -/
def tTup (t : TA) : TE := fun σ H Q => t σ H fun xs H1 => xs.length ≤ sizeLine ∧ ∀ p, H1 p = none → Q (.ref p) (upd H1 p (.tup xs))
def tLst (t : TA) : TE := fun σ H Q => t σ H fun xs H1 => xs.length ≤ sizeLine ∧ ∀ p, H1 p = none → Q (.ref p) (upd H1 p (.lst xs))
theorem pe_tup {x1} (h : PA X es t) : PE X (.Tuple es x1 pos) (tTup t) := by
  intro pins s σ H Q I hq
  refine wpAny_Tuple_spliced (thn (h pos pins s σ H _ I hq) fun us s1 ⟨xs, H1, I1, r, z, q⟩ => ⟨by rw [← r.length]; exact z, ?_⟩)
  have hf : H1 s1.heap.objs.size = none := I1.hok.fresh (Nat.le_refl _)
  refine ⟨.ref s1.heap.objs.size, upd H1 s1.heap.objs.size (.tup xs), I1.laid (t' := s1.toks) (fun b u e => Heap.get?_push_of_some _ e) (Nat.le_refl _) ?_, rfl, q _ hf⟩
  exact ⟨z, us, r, ⟨_, Heap.get?_push_size _ rfl, rfl, _, rfl⟩⟩
theorem pe_lst (h : PA X es t) : PE X (.List es pos) (tLst t) := by
  intro pins s σ H Q I hq
  refine wpAny_List_spliced (thn (h pos pins s σ H _ I hq) fun us s1 ⟨xs, H1, I1, r, z, q⟩ => ⟨by rw [← r.length]; exact z, ?_⟩)
  have hf : H1 s1.heap.objs.size = none := I1.hok.fresh (Nat.le_refl _)
  refine ⟨.ref s1.heap.objs.size, upd H1 s1.heap.objs.size (.lst xs), I1.laid (t' := s1.toks) (fun b u e => Heap.get?_push_of_some _ e) (Nat.le_refl _) ?_, rfl, q _ hf⟩
  exact ⟨z, us, 0, r, Heap.get?_push_size _ rfl⟩
end

/-! ### what a def promises -/
/-- a def's promise: the bound arguments in the parameters' order, the heap, the wanted end, the wanted exception -/
abbrev Sp := List V → Hp → VK → XK → Prop
/-- how an exception lies behind a call (file 08 gives it): the callers' frames, abstract heap and state ahead of the call, the wish, the exception, the state -/
abbrev CXT := List Env → Hp → Shared → XK → Value → Shared → Prop

/-- the state at a call -/
structure Env0 (P : Program) (w : World) (K : PySem.W.Frag) (mg : Str → Option Value) (base : Heap) (A : Around) (outer : List Env) (s : Shared) (H : Hp) : Prop where
  frames : A.frames = some outer
  mod : Mod K mg base
  bs : ∀ b o, base.get? b = some o → s.heap.get? b = some o ∧ H b = none
  bsz : base.objs.size ≤ s.heap.objs.size
  funs : s.heap.FunFrames base outer
  frf : ∀ b ∈ frs outer, H b = none
  hok : HOk P w H s.heap
  bare : AllBare s.gens
/-- a call's end -/
def CE (outer : List Env) (P : Program) (w : World) (H : Hp) (s : Shared) (Q : VK) (u : Value) (s' : Shared) : Prop :=
  ∃ v H', s'.os = s.os ∧ AllBare s'.gens ∧ Un (frs outer) [] H H' s.heap s'.heap ∧ HOk P w H' s'.heap ∧ RelV v u ∧ Q v H'
def CR (CX : CXT) (outer : List Env) (P : Program) (w : World) (H : Hp) (s : Shared) (Q : VK) (E : XK) (r : Result) (s' : Shared) : Prop :=
  match r with
  | .ok (.ret u) => CE outer P w H s Q u s'
  | .ok _ => False
  | .error e => CX outer H s E e s'
structure FnOk (P : Program) (w : World) (K : PySem.W.Frag) (mg : Str → Option Value) (base : Heap) (CX : CXT) (k : Nat) (f : Addr) (fd : FuncData) (ps : List Str) (sp : Sp) : Prop where
  len : ∀ vs H Q E, sp vs H Q E → vs.length = ps.length
  run : ∀ (A : Around) (outer : List Env) (s : Shared) (H : Hp) (args : Args) (us : List Value) (vs : List V) (Q : VK) (E : XK), Room k A → Env0 P w K mg base A outer s H → BindsTo s fd args (ps.zip us) → Vals vs us → sp vs H Q E →
    codeAny (model P w) A (.call (.ref f) args) (CR CX outer P w H s Q E) s
theorem FnOk.mono {P : Program} {w : World} {K : PySem.W.Frag} {mg : Str → Option Value} {base : Heap} {CX : CXT} {j k : Nat} {f : Addr} {fd : FuncData} {ps : List Str} {sp : Sp} (F : FnOk P w K mg base CX j f fd ps sp) (h : j ≤ k) :
    FnOk P w K mg base CX k f fd ps sp := ⟨F.len, fun A outer s H args us vs Q E hr => F.run A outer s H args us vs Q E (hr.mono h)⟩
/-- a weaker promise -/
theorem FnOk.imp {P : Program} {w : World} {K : PySem.W.Frag} {mg : Str → Option Value} {base : Heap} {CX : CXT} {k : Nat} {f : Addr} {fd : FuncData} {ps : List Str} {sp sp' : Sp} (F : FnOk P w K mg base CX k f fd ps sp)
    (h : ∀ vs H Q E, sp' vs H Q E → sp vs H Q E) : FnOk P w K mg base CX k f fd ps sp' :=
  ⟨fun vs H Q E q => F.len vs H Q E (h _ _ _ _ q), fun A outer s H args us vs Q E hr he hb hv hs => F.run A outer s H args us vs Q E hr he hb hv (h _ _ _ _ hs)⟩

theorem Env0.make {P : Program} {w : World} {K : PySem.W.Frag} {mg : Str → Option Value} {base : Heap} {A : Around} {outer : List Env} {s : Shared} {H : Hp} (e : Env0 P w K mg base A outer s H) (C : Addr) (us : List Value) (kw : List (Str × Value)) :
    Env0 P w K mg base (A.under (.builtin "type.__call__" ⟨.ref C :: us, kw⟩)) outer s H := ⟨by first | exact e.frames | (simpa [Around.under, Code.envs, Code.isFrame, pushEnvs] using e.frames), e.mod, e.bs, e.bsz, e.funs, e.frf, e.hok, e.bare⟩
theorem Env0.in1 {P : Program} {w : World} {K : PySem.W.Frag} {mg : Str → Option Value} {base : Heap} {A : Around} {outer : List Env} {s : Shared} {H : Hp} (e : Env0 P w K mg base A outer s H) :
    Env0 P w K mg base A.in1 outer s H := ⟨e.frames, e.mod, e.bs, e.bsz, e.funs, e.frf, e.hok, e.bare⟩

section
variable {X : Cx} {pins : List (Addr × Obj)} {σ : St} {H : Hp} {s s' : Shared}
/-- from a body: what a callee wants -/
theorem Inv.env0 (I : Inv X pins σ H s) : Env0 X.prog X.w X.K X.mg X.base X.A X.stack s H :=
  ⟨I.ok.frames, I.ok.mod, I.bs, Nat.le_trans I.ok.bsz I.sz, I.stack, I.stkFree, I.hok, I.bare⟩
/-- behind a call -/
theorem Inv.after {Q : VK} {u : Value} (I : Inv X pins σ H s) (h : CE X.stack X.prog X.w H s Q u s') : EP X pins σ Q u s' := by
  obtain ⟨v, H', os, bare, un, hok, r, q⟩ := h
  obtain ⟨hh, g, d, t, os'⟩ := s'
  obtain rfl : os' = s.os := os
  exact ⟨v, H', I.call (h' := hh) (g' := g) (d' := d) (t' := t) (ch := []) un hok bare (fun b z => absurd z (by simp)), r, q⟩
end

/-! ### calls -/
/-- f(..): the written arguments, then the defaults dvs; E: what is wanted of an exception -/
def tCall (sp : Sp) (dvs : List V) (E : XK) (t : TA) : TE := fun σ H Q => t σ H fun vs H1 => sp (vs ++ dvs) H1 Q E
/-- o.m(..) of an instance of the class at C -/
def tMeth (C : Addr) (m : Str) (sp : Sp) (dvs : List V) (E : XK) (ta : TE) (t : TA) : TE := fun σ H Q => ta σ H fun x H1 => ∃ a dx fs, x = .ref a ∧ H1 a = some (.ins C dx fs) ∧ fs.lookup m = none ∧
  t σ H1 fun vs H2 => sp (x :: (vs ++ dvs)) H2 Q E
/-- C(..): a new instance and its dict, then __init__ -/
def tMake (C : Addr) (sp : Sp) (dvs : List V) (E : XK) (t : TA) : TE := fun σ H Q => t σ H fun vs H1 => ∀ x dx, H1 x = none → H1 dx = none → dx ≠ x →
  sp (.ref x :: (vs ++ dvs)) (upd (upd H1 dx (.own x)) x (.ins C dx [])) (fun v H2 => v = .non ∧ Q (.ref x) H2) E

/-- how the parameters are bound: us the positional arguments, kw the keywords' values by name, ds the defaults that fill up -/
def Binds (K : PySem.W.Frag) (fd : FuncData) (ps : List Str) (ds : List Value) : Prop :=
  ∀ (s : Shared) (us : List Value), K.In s.heap → (us ++ ds).length = ps.length → BindsTo s fd ⟨us, []⟩ (ps.zip (us ++ ds))
/-- every parameter is given -/
theorem Binds.all {K : PySem.W.Frag} {fd : FuncData} {ps : List Str} (h : ∀ us : List Value, us.length = ps.length → bindArgs fd ⟨us, []⟩ = pure (ps.zip us)) : Binds K fd ps [] := fun s us _ hl => by
  rw [List.append_nil] at hl ⊢
  exact .of_eq (h us hl)

/-- an exception of a callee reaches what this body wants of exceptions -/
def Passes (CX : CXT) (X : Cx) (E : XK) : Prop := ∀ (pins : List (Addr × Obj)) (σ : St) (H : Hp) (s : Shared) (e : Value) (s' : Shared), Inv X pins σ H s → CX X.stack H s E e s' → X.xe e s'

section
variable {X : Cx} {CX : CXT} {k : Nat} {f C : Addr} {fd : FuncData} {ps : List Str} {sp : Sp} {dvs : List V} {ds : List Value} {E : XK} {x m : Str} {p pos apos : Pos} {e o : Expr} {es : List Expr} {ta : TE} {t : TA}

/-- the callee runs -/
theorem run_fn {pins : List (Addr × Obj)} {σ : St} {H : Hp} {s : Shared} {Q : VK} {us : List Value} {vs : List V} (F : FnOk X.prog X.w X.K X.mg X.base CX k f fd ps sp) (hr : Room k X.A) (hb : Binds X.K fd ps ds) (hd : Vals dvs ds) (hx : Passes CX X E)
    (I : Inv X pins σ H s) (r : Vals vs us) (h : sp (vs ++ dvs) H Q E) : wpAny (model X.prog X.w) X.A (call (.ref f) us) (EP X pins σ Q) X.xe s := by
  have r2 : Vals (vs ++ dvs) (us ++ ds) := r.append hd
  have hl : (us ++ ds).length = ps.length := by rw [← r2.length]; exact F.len _ _ _ _ h
  refine wpAny_call (codeAny_mono (F.run X.A X.stack s H ⟨us, []⟩ (us ++ ds) (vs ++ dvs) Q E hr I.env0 (hb s us I.kIn hl) r2 h) fun r s' hq => ?_)
  cases r with
  | error e => exact hx pins σ H s e s' I hq
  | ok fl =>
    cases fl with
    | ret u => exact I.after hq
    | next => exact False.elim hq
    | brk => exact False.elim hq
    | cont => exact False.elim hq

theorem pe_call (F : FnOk X.prog X.w X.K X.mg X.base CX k f fd ps sp) (hr : Room k X.A) (hg : Gl X x) (hm : X.mg x = some (.ref f)) (hk : PySem.W.keepIn X.K (.ref f) = true) (hb : Binds X.K fd ps ds) (hd : Vals dvs ds) (hx : Passes CX X E)
    (ha : PA X (e :: es) t) (hdb : (x == ("__debug__" : Str)) = false := by decide) (he : starEach (e :: es) X.env = (false, eval e X.env) :: starEach es X.env := by rfl) (hpl : (backTo pos (starEach es X.env)).any (·.1) = false := by rfl) :
    PE X (.Call (.Name x p) (e :: es) [] pos) (tCall sp dvs E t) := by
  intro pins s σ H Q I h
  refine wpAny_Call_Name_kw (ld_glob I hg hm ?_ hdb)
  refine PySem.W.callWith_K (h₀ := X.base) I.ok.mod.kin hk (thn (ha pos pins s σ H _ I h) fun us s1 ⟨vs, H1, I1, r, q⟩ => ⟨I1.kIn, ?_⟩) he hpl
  exact run_fn F hr hb hd hx I1 r q
/-- o.m(e, ..) -/
theorem pe_meth {pl : Sem Bool} (he : PE X o ta) (c : Cls X.K C) (hm : Meth X.K C m f) (F : FnOk X.prog X.w X.K X.mg X.base CX k f fd ps sp) (hr : Room k X.A) (hb : Binds X.K fd ps ds) (hd : Vals dvs ds) (hx : Passes CX X E) (ha : PA X (e :: es) t)
    (hst : starEach (e :: es) X.env = (false, eval e X.env) :: starEach es X.env := by rfl) (hpl : (backTo pos (starEach es X.env)).any (·.1) = false := by rfl)
    (ht : eval (.Call (.Attribute o m apos) (e :: es) [] pos) X.env = (do
      let ov ← eval o X.env
      standAt apos.atName
      let (f, first) ← holding [ov] (getMethod ov m pl)
      callWith pos f first (backTo pos (starEach (e :: es) X.env)) (backToKw pos (keywordEach [] X.env))) := by rfl) :
    PE X (.Call (.Attribute o m apos) (e :: es) [] pos) (tMeth C m sp dvs E ta t) := by
  intro pins s σ H Q I h
  refine PySem.W.methodCall_KW (pl := pl) (thn (he pins s σ H _ I h) fun u s1 ⟨x, H1, I1, rx, a, dx, fs, ex, ea, l, q⟩ => ?_) ht
  subst ex
  obtain rfl : u = Value.ref a := rx
  refine getmeth_ok I1 ea c hm l ?_
  refine PySem.W.callWith_K (first := [.ref a]) (h₀ := X.base) I.ok.mod.kin hm.kp (thn (ha pos pins s1 σ H1 _ I1 q) fun us s2 ⟨vs, H2, I2, r, q2⟩ => ⟨I2.kIn, ?_⟩) hst hpl
  exact run_fn (us := .ref a :: us) (vs := .ref a :: vs) F hr hb hd hx I2 (.cons rfl r) q2
/-- o.m() -/
theorem pe_meth0 {pl : Sem Bool} (he : PE X o ta) (c : Cls X.K C) (hm : Meth X.K C m f) (F : FnOk X.prog X.w X.K X.mg X.base CX k f fd ps sp) (hr : Room k X.A) (hb : Binds X.K fd ps ds) (hd : Vals dvs ds) (hx : Passes CX X E)
    (ht : eval (.Call (.Attribute o m apos) [] [] pos) X.env = (do
      let ov ← eval o X.env
      standAt apos.atName
      let (f, first) ← holding [ov] (getMethod ov m pl)
      callWith pos f first (backTo pos (starEach [] X.env)) (backToKw pos (keywordEach [] X.env))) := by rfl) :
    PE X (.Call (.Attribute o m apos) [] [] pos) (tMeth C m sp dvs E ta tNil) := by
  intro pins s σ H Q I h
  refine PySem.W.methodCall_KW (pl := pl) (thn (he pins s σ H _ I h) fun u s1 ⟨x, H1, I1, rx, a, dx, fs, ex, ea, l, q⟩ => ?_) ht
  subst ex
  obtain rfl : u = Value.ref a := rx
  refine getmeth_ok I1 ea c hm l ?_
  exact PySem.W.callWith_K0 (first := [.ref a]) I1.kIn hm.kp (run_fn (us := [.ref a]) (vs := [.ref a]) F hr hb hd hx I1 (.cons rfl .nil) q)

/-- what a class must have to be made -/
structure Mk (K : PySem.W.Frag) (C f : Addr) : Prop where
  makes : PySem.W.makesIn K C = true
  init : PySem.W.findIn K (.ref C) "__init__" = some (some (.ref f))
  fn : PySem.W.isFn K (.ref f) = true
  kp : PySem.W.keepIn K (.ref C) = true

theorem run_make {pins : List (Addr × Obj)} {σ : St} {H : Hp} {s : Shared} {Q : VK} {us : List Value} {vs : List V} (M : Mk X.K C f) (F : FnOk X.prog X.w X.K X.mg X.base CX k f fd ps sp) (hr : Room (k + 1) X.A) (hb : Binds X.K fd ps ds) (hd : Vals dvs ds)
    (hx : Passes CX X E) (I : Inv X pins σ H s) (r : Vals vs us)
    (h : ∀ x dx, H x = none → H dx = none → dx ≠ x → sp (.ref x :: (vs ++ dvs)) (upd (upd H dx (.own x)) x (.ins C dx [])) (fun v H2 => v = .non ∧ Q (.ref x) H2) E) :
    wpAny (model X.prog X.w) X.A (call (.ref C) us) (EP X pins σ Q) X.xe s := by
  have hq := h (s.heap.objs.size + 1) s.heap.objs.size (I.hok.fresh (Nat.le_succ _)) (I.hok.fresh (Nat.le_refl _)) (Nat.ne_of_lt (Nat.lt_succ_self _))
  have I2 := Inv.made (C := C) I
  have r2 : Vals (V.ref (s.heap.objs.size + 1) :: (vs ++ dvs)) (Value.ref (s.heap.objs.size + 1) :: (us ++ ds)) := .cons rfl (r.append hd)
  have hl : (Value.ref (s.heap.objs.size + 1) :: us ++ ds).length = ps.length := by
    have e := r2.length
    rw [F.len _ _ _ _ hq] at e
    exact e.symm
  refine wpAny_call (make_map (f := f) I.kIn M.makes M.init (beq_iff_eq.mp M.fn) (codeAny_mono (F.run _ X.stack _ _ ⟨Value.ref (s.heap.objs.size + 1) :: us, []⟩ (Value.ref (s.heap.objs.size + 1) :: (us ++ ds)) _ _ E (hr.make C us [])
    (I2.env0.make C us []) (hb _ (Value.ref (s.heap.objs.size + 1) :: us) I2.kIn hl) r2 hq) fun r s' hq' => ?_))
  cases r with
  | error e => exact hx pins σ _ _ e s' I2 hq'
  | ok fl =>
    cases fl with
    | ret u =>
      obtain ⟨v, H', I3, rv, ev, q3⟩ := I2.after hq'
      subst ev
      exact ⟨rv, ⟨V.ref (s.heap.objs.size + 1), H', I3, rfl, q3⟩⟩
    | next => exact False.elim hq'
    | brk => exact False.elim hq'
    | cont => exact False.elim hq'
theorem pe_make (M : Mk X.K C f) (F : FnOk X.prog X.w X.K X.mg X.base CX k f fd ps sp) (hr : Room (k + 1) X.A) (hg : Gl X x) (hm : X.mg x = some (.ref C)) (hb : Binds X.K fd ps ds) (hd : Vals dvs ds) (hx : Passes CX X E)
    (ha : PA X (e :: es) t) (hdb : (x == ("__debug__" : Str)) = false := by decide) (he : starEach (e :: es) X.env = (false, eval e X.env) :: starEach es X.env := by rfl) (hpl : (backTo pos (starEach es X.env)).any (·.1) = false := by rfl) :
    PE X (.Call (.Name x p) (e :: es) [] pos) (tMake C sp dvs E t) := by
  intro pins s σ H Q I h
  refine wpAny_Call_Name_kw (ld_glob I hg hm ?_ hdb)
  refine PySem.W.callWith_K (h₀ := X.base) I.ok.mod.kin M.kp (thn (ha pos pins s σ H _ I h) fun us s1 ⟨vs, H1, I1, r, q⟩ => ⟨I1.kIn, ?_⟩) he hpl
  exact run_make M F hr hb hd hx I1 r q
theorem pe_make0 (M : Mk X.K C f) (F : FnOk X.prog X.w X.K X.mg X.base CX k f fd ps sp) (hr : Room (k + 1) X.A) (hg : Gl X x) (hm : X.mg x = some (.ref C)) (hb : Binds X.K fd ps ds) (hd : Vals dvs ds) (hx : Passes CX X E)
    (hdb : (x == ("__debug__" : Str)) = false := by decide) : PE X (.Call (.Name x p) [] [] pos) (tMake C sp dvs E tNil) := by
  intro pins s σ H Q I h
  refine wpAny_Call_Name_kw (ld_glob I hg hm ?_ hdb)
  exact PySem.W.callWith_K0 I.kIn M.kp (run_make (us := []) M F hr hb hd hx I .nil h)
end

/-! ### keywords -/
/-- the values of the keywords, from the left -/
def PK (X : Cx) (kws : List Keyword) (t : TA) : Prop :=
  ∀ (pos : Pos) (pins : List (Addr × Obj)) (s : Shared) (σ : St) (H : Hp) (Q : List V → Hp → Prop), Inv X pins σ H s → t σ H Q → wpAny (model X.prog X.w) X.A (evalAll ((backToKw pos (keywordEach kws X.env)).map (·.2))) (AP X pins σ Q) X.xe s
section
variable {X : Cx} {CX : CXT} {k : Nat} {f C : Addr} {fd : FuncData} {ps ks : List Str} {sp : Sp} {E : XK} {x m : Str} {p pos apos kpos : Pos} {e o : Expr} {es : List Expr} {kws : List Keyword} {te ta : TE} {t tk : TA} {nm : Option Str}
/-- how a call with keywords binds: g puts the positional values us and the keywords' values ws (names ks) in the parameters' order, defaults among them -/
structure KBinds (K : PySem.W.Frag) (fd : FuncData) (ps ks : List Str) (g : List Value → List Value → List Value) (gV : List V → List V → List V) : Prop where
  to : ∀ (s : Shared) (us ws : List Value), K.In s.heap → (g us ws).length = ps.length → BindsTo s fd ⟨us, ks.zip ws⟩ (ps.zip (g us ws))
  rel : ∀ {vs : List V} {us : List Value} {zs : List V} {ws : List Value}, Vals vs us → Vals zs ws → Vals (gV vs zs) (g us ws)
def tCallK (sp : Sp) (gV : List V → List V → List V) (E : XK) (t tk : TA) : TE := fun σ H Q => t σ H fun vs H1 => tk σ H1 fun zs H2 => sp (gV vs zs) H2 Q E
variable {g : List Value → List Value → List Value} {gV : List V → List V → List V}
end

/-! ### a def's body keeps its promise -/
/-- names: the parameters first -/
structure FnScope (N P : List Str) (sc : Scope) : Prop where
  kind : sc.kind = .function
  co : sc.isCoroutine = false
  gen : sc.isGenerator = false
  nd : N.Nodup
  pre : N.take P.length = P
  par : ∀ x ∈ P, sc.names.lookup x = some .local ∨ sc.names.lookup x = some .cell
  nofree : ∀ y ∈ sc.names, y.2 ≠ .free

theorem bindL_out {kindOf : Str → Option NameKind} {x : Str} : ∀ {binds : List (Str × Value)} {m : Str → Option Value}, (∀ v, (x, v) ∉ binds) → bindL kindOf binds m x = m x
  | [], _, _ => rfl
  | (n, v) :: r, m, h => by
    unfold bindL
    rw [bindL_out fun w hw => h w (List.mem_cons_of_mem _ hw)]
    split
    · have : x ≠ n := by rintro rfl; exact h v List.mem_cons_self
      simp [this]
    · rfl
theorem bindC_out {kindOf : Str → Option NameKind} {x : Str} : ∀ {binds : List (Str × Value)} {m : Str → Option Value}, (∀ v, (x, v) ∉ binds) → bindC kindOf binds m x = m x
  | [], _, _ => rfl
  | (n, v) :: r, m, h => by
    unfold bindC
    rw [bindC_out fun w hw => h w (List.mem_cons_of_mem _ hw)]
    split
    · rfl
    · have : x ≠ n := by rintro rfl; exact h v List.mem_cons_self
      simp [this]
theorem bindL_get {kindOf : Str → Option NameKind} {x : Str} {v : Value} : ∀ {P : List Str} {vs : List Value} {i : Nat} {m : Str → Option Value}, P.Nodup → P[i]? = some x → vs[i]? = some v → kindOf x = some .local →
    bindL kindOf (P.zip vs) m x = some v
  | [], _, _, _, _, h, _, _ => by simp at h
  | _ :: _, [], _, _, _, _, h, _ => by simp at h
  | p :: P, w :: vs, 0, m, nd, h1, h2, hk => by
    simp at h1 h2; subst h1; subst h2
    show bindL kindOf ((p, w) :: P.zip vs) m p = _
    unfold bindL
    rw [bindL_out fun v hv => (List.nodup_cons.mp nd).1 (List.of_mem_zip hv).1, if_pos hk]
    simp
  | p :: P, w :: vs, i + 1, m, nd, h1, h2, hk => by
    show bindL kindOf ((p, w) :: P.zip vs) m x = _
    unfold bindL
    exact bindL_get (i := i) (List.nodup_cons.mp nd).2 (by simpa using h1) (by simpa using h2) hk
theorem bindC_get {kindOf : Str → Option NameKind} {x : Str} {v : Value} : ∀ {P : List Str} {vs : List Value} {i : Nat} {m : Str → Option Value}, P.Nodup → P[i]? = some x → vs[i]? = some v → kindOf x ≠ some .local →
    bindC kindOf (P.zip vs) m x = some v
  | [], _, _, _, _, h, _, _ => by simp at h
  | _ :: _, [], _, _, _, _, h, _ => by simp at h
  | p :: P, w :: vs, 0, m, nd, h1, h2, hk => by
    simp at h1 h2; subst h1; subst h2
    show bindC kindOf ((p, w) :: P.zip vs) m p = _
    unfold bindC
    rw [bindC_out fun v hv => (List.nodup_cons.mp nd).1 (List.of_mem_zip hv).1, if_neg hk]
    simp
  | p :: P, w :: vs, i + 1, m, nd, h1, h2, hk => by
    show bindC kindOf ((p, w) :: P.zip vs) m x = _
    unfold bindC
    exact bindC_get (i := i) (List.nodup_cons.mp nd).2 (by simpa using h1) (by simpa using h2) hk

/-- the names' values at the entry -/
def start (N : List Str) (vs : List V) : St := vs.map some ++ List.replicate (N.length - vs.length) none

/-- the context of a def's body, at its entry; an exception leaves the frame, then lies as CX says -/
def cxOf (CX : CXT) (P : Program) (w : World) (K : PySem.W.Frag) (mg : Str → Option Value) (base : Heap) (N : List Str) (qual : Str) (scope : Scope) (f : Addr) (cd : Value) (A : Around) (outer : List Env) (s : Shared) (H : Hp) (E : XK) : Cx where
  prog := P
  w := w
  K := K
  mg := mg
  base := base
  A := A.deeper (envOfC qual scope s.heap.objs.size f cd)
  N := N
  s₀ := s
  H₀ := H
  env := envOfC qual scope s.heap.objs.size f cd
  outer := outer
  stack := envOfC qual scope s.heap.objs.size f cd :: outer
  ex := []
  calm := true
  fn := fun _ => true
  pn := []
  xe := fun e s' => wpAny (model P w) (A.deeper (envOfC qual scope s.heap.objs.size f cd)) (leaving (envOfC qual scope s.heap.objs.size f cd) e) (fun _ s'' => CX outer H s E e s'') (fun e' s'' => CX outer H s E e' s'') s'

theorem cell_has {sc : Scope} {n : Nat} {x : Str} (h : sc.names.lookup x = some .cell) : ∃ c, (cellsFrom n sc.names []).lookup x = some c := by
  have q := PySem.W.cellsFrom_some sc.names n [] (.inl h)
  exact Option.isSome_iff_exists.mp q

theorem inv_start {CX : CXT} {P : Program} {w : World} {K : PySem.W.Frag} {mg : Str → Option Value} {base : Heap} {N ps : List Str} {qual : Str} {scope : Scope} {f : Addr} {cd : Value} {A : Around} {outer : List Env} {s s1 : Shared} {H : Hp} {E : XK} {us : List Value} {vs : List V}
    (S : FnScope N ps scope) (hd : A.handled = none) (e0 : Env0 P w K mg base A outer s H) (hl : vs.length = ps.length) (r : Vals vs us)
    (x : InCallC s s.heap.objs.size (bindL (envOfC qual scope s.heap.objs.size f cd).kindOf (ps.zip us) fun _ => none) (cellsFrom (s.heap.objs.size + 1) scope.names []) (bindC (envOfC qual scope s.heap.objs.size f cd).kindOf (ps.zip us) fun _ => none) s1) :
    Inv (cxOf CX P w K mg base N qual scope f cd A outer s H E) [] (start N vs) H s1 := by
  have hpl : ps.length ≤ N.length := by have := congrArg List.length S.pre; rw [List.length_take] at this; omega
  obtain ⟨h1, tk, rfl, hk⟩ := x.done
  have noA : ∀ b : Addr, b ∉ (cxOf CX P w K mg base N qual scope f cd A outer s H E).ex := fun b z => absurd (show b ∈ ([] : List Addr) from z) (by simp)
  refine ⟨⟨e0.mod, S.kind, rfl, rfl, Nat.le_refl _, fun y z c h1 h2 => ?_, fun y hy => ?_, fun y c _ h => ?_, fun _ => hd, Around.frames_deeper e0.frames, .inr ⟨rfl, rfl⟩, fun b z => absurd z (noA b), e0.bs, e0.bsz, fun b _ _ => noA b, fun b z => absurd z (noA b), e0.funs, e0.frf⟩,
    rfl, e0.bare, Un.kept hk, ⟨_, x.toInCall.ns, fun i y v h1 h2 h3 => ?_⟩, fun y c h => ⟨_, x.cell y c h⟩, e0.hok.fresh (Nat.le_refl _), fun y c h => ?_, fun p hp => absurd (show p ∈ ([] : List (Addr × Obj)) from hp) (by simp), e0.hok.kept hk, ?_⟩
  · exact name_of_addr x.apart (PySem.mem_of_lookup h1) (PySem.mem_of_lookup h2)
  · have hy : scope.names.lookup y = some .cell ∨ scope.names.lookup y = some .free := hy
    rcases hy with hy | hy
    · exact cell_has hy
    · exact absurd rfl (S.nofree _ (PySem.mem_of_lookup hy))
  · exact Nat.le_of_lt (x.above y c (PySem.mem_of_lookup h))
  · have hi : i < vs.length := by
      unfold start at h2
      by_cases hi : i < vs.length
      · exact hi
      · rw [List.getElem?_append_right (by simpa using hi)] at h2
        rw [List.getElem?_replicate] at h2
        split at h2 <;> cases h2
    have ha : vs[i]? = some v := by
      unfold start at h2
      rw [List.getElem?_append_left (by simpa using hi), List.getElem?_map] at h2
      cases e : vs[i]? with
      | none => rw [e] at h2; cases h2
      | some a => rw [e] at h2; cases h2; rfl
    obtain ⟨u, hu, rv⟩ := r.get ha
    have hp : ps[i]? = some y := by
      rw [← S.pre, List.getElem?_take_of_lt (by omega)]; exact h1
    have ndP : ps.Nodup := by rw [← S.pre]; exact S.nd.sublist (List.take_sublist _ _)
    refine ⟨u, rv, ?_⟩
    rcases S.par y (List.mem_of_getElem? hp) with k | k
    · exact .inl ⟨k, bindL_get ndP hp hu k⟩
    · obtain ⟨c, e⟩ := cell_has (n := s.heap.objs.size + 1) k
      refine .inr ⟨.inl k, c, e, ?_⟩
      have q := x.cell y c e
      rw [bindC_get ndP hp hu (by show scope.names.lookup y ≠ _; rw [k]; decide)] at q
      exact q
  · exact e0.hok.fresh (Nat.le_of_lt (x.above y c (PySem.mem_of_lookup h)))
  · unfold start
    show _ = N.length
    rw [List.length_append, List.length_map, List.length_replicate]
    omega

/-- THE RULE: a def (or a method) of the text, by its body. The body's reading t is chosen for each entry; it is run at the parameters' values -/
theorem fn_of {CX : CXT} {P : Program} {w : World} {K : PySem.W.Frag} {mg : Str → Option Value} {base : Heap} {k : Nat} {f : Addr} {name qual : Str} {params : Arguments} {body : List Stmt} {scope : Scope} {dV kV doc pm cdv ct oc : Value} {an od : Option Addr}
    {osl : Array (Option Value)} {N ps : List Str} {sp : Sp} (lk : K.lookup f = some ⟨oc, od, .func (PySem.W.fnOf name qual params body scope dV kV doc pm an cdv ct), osl⟩) (hcd : PySem.W.codeIn K cdv qual = true) (S : FnScope N ps scope)
    (len : ∀ vs H Q E, sp vs H Q E → vs.length = ps.length)
    (hbody : ∀ (A : Around) (outer : List Env) (s : Shared) (H : Hp) (vs : List V) (Q : VK) (E : XK), Room k (A.deeper (envOfC qual scope s.heap.objs.size f cdv)) → sp vs H Q E →
      ∃ t, PSs (cxOf CX P w K mg base N qual scope f cdv A outer s H E) body t ∧ t { nx := fun _ H' => Q .non H', rt := Q } (start N vs) H) :
    FnOk P w K mg base CX (k + 1) f (PySem.W.fnOf name qual params body scope dV kV doc pm an cdv ct) ps sp := by
  refine ⟨len, fun A outer s H args us vs Q E hr e0 hb r hsp => ?_⟩
  have hl := len _ _ _ _ hsp
  have KX : K.In s.heap := e0.mod.kin.keeps fun b o e => (e0.bs b o e).1
  have lim : s.heap.NoLimit := e0.mod.nolimit.keeps fun b o e => (e0.bs b o e).1
  have hkind : ∀ y ∈ ps.zip us, scope.names.lookup y.1 = some .local ∨ (scope.names.lookup y.1 = some .cell ∧ ((cellsFrom (s.heap.objs.size + 1) scope.names []).lookup y.1).isSome = true) := fun ⟨n, v⟩ hy => by
    rcases S.par n (List.of_mem_zip hy).1 with q | q
    · exact .inl q
    · exact .inr ⟨q, PySem.W.cellsFrom_some _ _ _ (.inl q)⟩
  refine codeAny_call_function hr.depth (KX _ _ lk) rfl S.co S.gen rfl (PySem.W.codeRec_of KX hcd) (hb _ _ _ _ ?_)
  refine wpAny_newFunctionEnv_cells S.kind hkind fun env he s1 x => ?_
  subst he
  refine ⟨lim.keeps x.toInCall.keep, codeAny_func ?_⟩
  obtain ⟨t, ht, hq⟩ := hbody A outer s H vs Q E (hr.deeper _) hsp
  have I : Inv (cxOf CX P w K mg base N qual scope f cdv A outer s H E) [] (start N vs) H s1 := inv_start S hr.hd e0 hl r x
  refine wpAny_mono (ht [] s1 (start N vs) H _ I hq) (fun fl s' hs => ?_) fun e s' hs => hs
  have fin : ∀ {σ' : St} {H' : Hp} {v : V} {u : Value}, Inv (cxOf CX P w K mg base N qual scope f cdv A outer s H E) [] σ' H' s' → RelV v u → Q v H' → CE outer P w H s Q u s' :=
    fun {σ' H' v u} J rv q => ⟨v, H', J.os, J.bare, J.base, J.hok, rv, q⟩
  cases fl with
  | ret u =>
    obtain ⟨v, σ', H', J, rv, q⟩ := hs
    exact fin J rv q
  | next =>
    obtain ⟨σ', H', J, q⟩ := hs
    exact fin (v := V.non) (u := Value.none) J rfl q
  | brk =>
    obtain ⟨_, _, _, q⟩ := hs
    exact False.elim q
  | cont =>
    obtain ⟨_, _, _, q⟩ := hs
    exact False.elim q
end L2

namespace L2
open PySem PySem.Spec PyProof.Rows
section
variable {X : Cx} {x : Str} {p pos : Pos} {e : Expr} {es : List Expr} {t : TA} {id T : String} {r : List V → Hp → VK → Prop}

def tCB (r : List V → Hp → VK → Prop) (t : TA) : TE := fun σ H Q => t σ H fun vs H1 => r vs H1 Q
/-- f(e, ..), f a built-in function -/
theorem pe_callB (hc : CallR X (.builtin id) r) (hg : Gl X x) (hm : X.mg x = none) (hv : bootBuiltins x = some (.builtin id)) (ha : PA X (e :: es) t) (hn : x ≠ "__name__" := by decide) (hdb : (x == ("__debug__" : Str)) = false := by decide)
    (he : starEach (e :: es) X.env = (false, eval e X.env) :: starEach es X.env := by rfl) (hpl : (backTo pos (starEach es X.env)).any (·.1) = false := by rfl) : PE X (.Call (.Name x p) (e :: es) [] pos) (tCB r t) := by
  intro pins s σ H Q I h
  refine wpAny_Call_Name_kw (ld_blt I hg hm hv ?_ hn hdb)
  exact PyProof.Rows.callWith_builtin1 (thn (ha pos pins s σ H _ I h) fun us s1 ⟨vs, H1, I1, r1, q1⟩ => hc pins s1 σ H1 vs us Q I1 r1 q1) he hpl
/-- T(e, ..), T a built-in type -/
theorem pe_callTy (hc : CallR X (.type T) r) (hg : Gl X x) (hm : X.mg x = none) (hv : bootBuiltins x = some (.type T)) (ha : PA X (e :: es) t) (hn : x ≠ "__name__" := by decide) (hdb : (x == ("__debug__" : Str)) = false := by decide)
    (he : starEach (e :: es) X.env = (false, eval e X.env) :: starEach es X.env := by rfl) (hpl : (backTo pos (starEach es X.env)).any (·.1) = false := by rfl) : PE X (.Call (.Name x p) (e :: es) [] pos) (tCB r t) := by
  intro pins s σ H Q I h
  refine wpAny_Call_Name_kw (ld_blt I hg hm hv ?_ hn hdb)
  exact PyProof.Rows.callWith_type1 (thn (ha pos pins s σ H _ I h) fun us s1 ⟨vs, H1, I1, r1, q1⟩ => hc pins s1 σ H1 vs us Q I1 r1 q1) he hpl
end
end L2

namespace L2
open PySem PySem.Spec PyProof.Rows

/-! ### lists of pairs as tables -/
section
variable {κ : Type} [DecidableEq κ]
def valV (kvs : List (κ × V)) (k : κ) : Option V := (kvs.find? fun kv => decide (kv.1 = k)).map (·.2)
/-- in its place, or at the end -/
def putK (kvs : List (κ × V)) (k : κ) (v : V) : List (κ × V) :=
  if (kvs.any fun kv => decide (kv.1 = k)) = true then kvs.map (fun kv => if kv.1 = k then (kv.1, v) else kv) else kvs ++ [(k, v)]
def dropK (kvs : List (κ × V)) (k : κ) : List (κ × V) := kvs.filter fun kv => decide (kv.1 ≠ k)

theorem RelO.getD {o : Option V} {u : Option Value} {d : V} {d' : Value} (r : RelO o u) (rd : RelV d d') : RelV (o.getD d) (u.getD d') := by
  cases o with
  | none => cases u with
    | none => exact rd
    | some _ => exact (show False from r).elim
  | some _ => cases u with
    | none => exact (show False from r).elim
    | some _ => exact r

theorem KV.any {kvs : List (κ × V)} {vs : List (κ × Value)} (r : KV kvs vs) (k : κ) : (kvs.any fun kv => decide (kv.1 = k)) = vs.any fun kv => decide (kv.1 = k) := by
  unfold KV at r
  induction r with
  | nil => rfl
  | cons h t ih => rw [List.any_cons, List.any_cons, ih, h.1]
theorem KV.drop {kvs : List (κ × V)} {vs : List (κ × Value)} (r : KV kvs vs) (k : κ) : KV (dropK kvs k) (without vs k) := by
  unfold KV at r ⊢
  unfold dropK without
  induction r with
  | nil => exact .nil
  | @cons p q ps qs h t ih =>
    obtain ⟨h1, h2⟩ := h
    rw [List.filter_cons, List.filter_cons]
    by_cases e : p.1 = k
    · have a : ¬ decide (p.1 ≠ k) = true := by simp [e]
      have b : ¬ decide (q.1 ≠ k) = true := by simp [h1.symm.trans e]
      rw [if_neg a, if_neg b]; exact ih
    · have e' : ¬ q.1 = k := fun z => e (h1.trans z)
      have a : decide (p.1 ≠ k) = true := by simp [e]
      have b : decide (q.1 ≠ k) = true := by simp [e']
      rw [if_pos a, if_pos b]; exact .cons ⟨h1, h2⟩ ih
theorem KV.keys {kvs : List (κ × V)} {vs : List (κ × Value)} (r : KV kvs vs) : kvs.map (·.1) = vs.map (·.1) := by
  unfold KV at r
  induction r with
  | nil => rfl
  | cons h t ih => rw [List.map_cons, List.map_cons, ih, h.1]
theorem KV.length {kvs : List (κ × V)} {vs : List (κ × Value)} (r : KV kvs vs) : kvs.length = vs.length := Paired.length r
end


/-! ### a tracked dict, its keys ints and texts or tuples of these -/
/-- raw entries of a dict with tuple keys -/
abbrev KT (H : Hp) : List (List Key × V) → List (List Key × Addr × Value) → Prop := Paired fun p q => p.1 = q.1 ∧ H q.2.1 = some (.tup (p.1.map kV)) ∧ RelV p.2 q.2.2
theorem KT.keeps {H H' : Hp} {kvs : List (List Key × V)} {xs : List (List Key × Addr × Value)} (r : KT H kvs xs) (ht : ∀ b ys, H b = some (.tup ys) → H' b = some (.tup ys)) : KT H' kvs xs :=
  Paired.mapP r fun _ _ z => ⟨z.1, ht _ _ z.2.1, z.2.2⟩

section
variable {P : Program} {w : World} {H : Hp} {h : Heap} {a : Addr}
end

/-- what the dict at a holds at the key y -/
def DGet (H : Hp) (a : Addr) (y : V) (r : Option V) : Prop :=
  (∃ kvs k, Rd H a (.dK kvs) ∧ y = kV k ∧ r = valV kvs k) ∨ ∃ kvs k b, Rd H a (.dT kvs) ∧ y = .ref b ∧ H b = some (.tup (k.map kV)) ∧ r = valV kvs k
/-- the heap behind a[y] = v -/
def DPut (H : Hp) (a : Addr) (y v : V) (H' : Hp) : Prop :=
  (∃ kvs k, H a = some (.dK kvs) ∧ y = kV k ∧ kvs.length < sizeLine ∧ H' = upd H a (.dK (putK kvs k v))) ∨
  ∃ kvs k b, H a = some (.dT kvs) ∧ y = .ref b ∧ H b = some (.tup (k.map kV)) ∧ kvs.length < sizeLine ∧ H' = upd H a (.dT (putK kvs k v))
theorem DGet.k {H : Hp} {a : Addr} {kvs : List (Key × V)} {k : Key} (e : H a = some (.dK kvs)) : DGet H a (kV k) (valV kvs k) := .inl ⟨kvs, k, .inl e, rfl, rfl⟩
theorem DGet.t {H : Hp} {a b : Addr} {kvs : List (List Key × V)} {k : List Key} (e : H a = some (.dT kvs)) (eb : H b = some (.tup (k.map kV))) : DGet H a (.ref b) (valV kvs k) := .inr ⟨kvs, k, b, .inl e, rfl, eb, rfl⟩
theorem DPut.k {H : Hp} {a : Addr} {kvs : List (Key × V)} {k : Key} {v : V} (e : H a = some (.dK kvs)) (hl : kvs.length < sizeLine) : DPut H a (kV k) v (upd H a (.dK (putK kvs k v))) := .inl ⟨kvs, k, e, rfl, hl, rfl⟩
theorem DPut.t {H : Hp} {a b : Addr} {kvs : List (List Key × V)} {k : List Key} {v : V} (e : H a = some (.dT kvs)) (eb : H b = some (.tup (k.map kV))) (hl : kvs.length < sizeLine) :
    DPut H a (.ref b) v (upd H a (.dT (putK kvs k v))) := .inr ⟨kvs, k, b, e, rfl, eb, hl, rfl⟩


section
variable {X : Cx} {pins : List (Addr × Obj)} {σ : St} {H : Hp} {s : Shared} {a : Addr} {y v : V} {u r : Value} {o : Option V} {A : Around} {E : Value → Shared → Prop}

theorem Inv.big (I : Inv X pins σ H s) : sysModules < s.heap.objs.size := by
  have h : mainGlobals < s.heap.objs.size := (I.mod.glob.keeps I.bk).lt
  exact Nat.lt_trans (by decide) h

end

section
variable {X : Cx} {pins : List (Addr × Obj)} {σ : St} {H : Hp} {s : Shared} {a : Addr} {kvs : List (Key × V)} {k : Key} {u : Value} {A : Around} {E : Value → Shared → Prop}
end


/-! ### readings and rules -/
/-- the element of a subscription, not a slice -/
def NoSl (i : Expr) : Prop := ∀ ov iv, subscripted i false ov iv = operate [ov, iv] (getItem ov iv)
/-- d[y] -/
def tDGet (td ty : TE) : TE := fun σ H Q => td σ H fun x H1 => ty σ H1 fun y H2 => ∃ a v, x = .ref a ∧ DGet H2 a y (some v) ∧ Q v H2
/-- y in d, y not in d -/
def tDIn (ty td : TE) : TE := fun σ H Q => ty σ H fun y H1 => td σ H1 fun x H2 => ∃ a o, x = .ref a ∧ DGet H2 a y o ∧ Q (.bl o.isSome) H2
def tDNotIn (ty td : TE) : TE := fun σ H Q => ty σ H fun y H1 => td σ H1 fun x H2 => ∃ a o, x = .ref a ∧ DGet H2 a y o ∧ Q (.bl (!o.isSome)) H2
/-- d[y] = v -/
def sDPut (td ty tv : TE) : TS := fun D σ H => tv σ H fun v H1 => td σ H1 fun x H2 => ty σ H2 fun y H3 => ∃ a H4, x = .ref a ∧ DPut H3 a y v H4 ∧ D.nx σ H4
/-- d[y] op= v -/
def sDAug (td ty tv : TE) (rd : V → V → Hp → VK → Prop) : TS := fun D σ H => td σ H fun x H1 => ty σ H1 fun y H2 => ∃ a v, x = .ref a ∧ DGet H2 a y (some v) ∧
  tv σ H2 fun y2 H3 => rd v y2 H3 fun z H4 => ∃ H5, DPut H4 a y z H5 ∧ D.nx σ H5
/-- del d[y] -/
def sDDel (td ty : TE) : TS := fun D σ H => td σ H fun x H1 => ty σ H1 fun y H2 => ∃ a kvs k, x = .ref a ∧ H2 a = some (.dK kvs) ∧ y = kV k ∧ (valV kvs k).isSome = true ∧ D.nx σ (upd H2 a (.dK (dropK kvs k)))

section
variable {X : Cx} {o i e value : Expr} {pos pos' tpos : Pos} {td ty tv : TE}
end


/-! ### displays -/
/-- {}, to be a dict of the kind that is wanted -/
def tDNewK : TE := fun _ H Q => ∀ p, H p = none → Q (.ref p) (upd H p (.dK []))
def tDNewT : TE := fun _ H Q => ∀ p, H p = none → Q (.ref p) (upd H p (.dT []))
section
variable {X : Cx} {pos : Pos}
end

/-- the pairs of a display, from the left -/
def tPairs : List (TE × TE) → St → Hp → (List (V × V) → Hp → Prop) → Prop
  | [], _, H, Q => Q [] H
  | (tk, tv) :: r, σ, H, Q => tk σ H fun x H1 => tv σ H1 fun y H2 => tPairs r σ H2 fun ps H3 => Q ((x, y) :: ps) H3
abbrev VV : List (V × V) → List (Value × Value) → Prop := Paired fun p q => RelV p.1 q.1 ∧ RelV p.2 q.2
def PPs (X : Cx) (pos : Pos) (keys : List (Option Expr)) (values : List Expr) (trs : List (TE × TE)) : Prop :=
  ∀ (pins : List (Addr × Obj)) (s : Shared) (σ : St) (H : Hp) (Q : List (V × V) → Hp → Prop), Inv X pins σ H s → tPairs trs σ H Q →
    wpAny (model X.prog X.w) X.A (evalPairs (pairTrees keys values X.env pos)) (fun vs s' => ∃ ps H', Inv X pins σ H' s' ∧ VV ps vs ∧ Q ps H') X.xe s
def mergeK (kvs more : List (Key × V)) : List (Key × V) := more.foldl (fun acc kv => putK acc kv.1 kv.2) kvs
/-- {k: v, ..} with keys ints and texts; the new dict stands empty while the pairs are made -/
def tDisp (trs : List (TE × TE)) : TE := fun σ H Q => ∀ p, H p = none → tPairs trs σ (upd H p (.dK [])) fun ps H2 => H2 p = some (.dK []) ∧ ∃ kvs : List (Key × V), ps = kvs.map (fun kv => (kV kv.1, kv.2)) ∧ kvs.length ≤ 15 ∧ Q (.ref p) (upd H2 p (.dK (mergeK [] kvs)))
/-! ### methods -/
/-- a method call o.m(e) of a built-in, with one argument: what must be seen of the text -/
structure M1 (X : Cx) (o : Expr) (m : Str) (apos : Pos) (e : Expr) (cpos : Pos) : Prop where
  base : attributeBase o m X.env (eval o X.env) = eval o X.env
  few : ((backTo cpos (starEach [e] X.env)).all (fun x => !x.1) && (backToKw cpos (keywordEach [] X.env)).all (fun x => x.1.isSome)
    && decide (([e] : List Expr).length + ([] : List Keyword).length + (if ([] : List Keyword).isEmpty then 0 else 1) < 30)) = true
  line : (apos.endLine == cpos.line) = true
  trees : backTo cpos (starEach [e] X.env) = [(false, eval e X.env)]
structure M2 (X : Cx) (o : Expr) (m : Str) (apos : Pos) (e f : Expr) (cpos : Pos) : Prop where
  base : attributeBase o m X.env (eval o X.env) = eval o X.env
  few : ((backTo cpos (starEach [e, f] X.env)).all (fun x => !x.1) && (backToKw cpos (keywordEach [] X.env)).all (fun x => x.1.isSome)
    && decide (([e, f] : List Expr).length + ([] : List Keyword).length + (if ([] : List Keyword).isEmpty then 0 else 1) < 30)) = true
  line : (apos.endLine == cpos.line) = true
  trees : backTo cpos (starEach [e, f] X.env) = [(false, eval e X.env), (false, eval f X.env)]

/-- a is a dict, whatever its keys -/
def IsD (H : Hp) (a : Addr) : Prop := (∃ kvs, Rd H a (.dK kvs)) ∨ ∃ kvs, Rd H a (.dT kvs)
section
variable {X : Cx} {pins : List (Addr × Obj)} {σ : St} {H : Hp} {s : Shared} {a : Addr} {y d : V} {u r : Value} {o : Option V} {A : Around} {E : Value → Shared → Prop}
end

def tDGet1 (td ty : TE) : TE := fun σ H Q => td σ H fun x H1 => ∃ a, x = .ref a ∧ IsD H1 a ∧ ty σ H1 fun y H2 => ∃ o, DGet H2 a y o ∧ Q (o.getD .non) H2
def tDGet2 (td ty tx : TE) : TE := fun σ H Q => td σ H fun x H1 => ∃ a, x = .ref a ∧ IsD H1 a ∧ ty σ H1 fun y H2 => tx σ H2 fun z H3 => ∃ o, DGet H3 a y o ∧ Q (o.getD z) H3
/-- d.pop(k): there; d.pop(k, x): there or not -/
def tDPop1 (td ty : TE) : TE := fun σ H Q => td σ H fun x H1 => ∃ a, x = .ref a ∧ IsD H1 a ∧ ty σ H1 fun y H2 => ∃ kvs k v, H2 a = some (.dK kvs) ∧ y = kV k ∧ valV kvs k = some v ∧ Q v (upd H2 a (.dK (dropK kvs k)))
def tDPop2 (td ty tx : TE) : TE := fun σ H Q => td σ H fun x H1 => ∃ a, x = .ref a ∧ IsD H1 a ∧ ty σ H1 fun y H2 => tx σ H2 fun z H3 => ∃ kvs k, H3 a = some (.dK kvs) ∧ y = kV k ∧
  (∀ v, valV kvs k = some v → Q v (upd H3 a (.dK (dropK kvs k)))) ∧ (valV kvs k = none → Q z H3)
section
variable {X : Cx} {o e f : Expr} {apos cpos : Pos} {td ty tx : TE}
end

/-! ### dict(d): a copy -/
section
variable {X : Cx} {pins : List (Addr × Obj)} {σ : St} {H : Hp} {s : Shared} {a : Addr} {kvs : List (Key × V)} {A : Around} {E : Value → Shared → Prop}
end


section
variable {X : Cx} {pins : List (Addr × Obj)} {σ : St} {H : Hp} {s : Shared} {a : Addr} {y : V} {u : Value} {A : Around} {E : Value → Shared → Prop}
end
end L2

namespace HT
open PySem PyProof.Rows

/-- t < u of tuples of ints -/
def lexLt : List Int → List Int → Bool
  | [], [] => false
  | [], _ :: _ => true
  | _ :: _, [] => false
  | x :: xs, y :: ys => if x = y then lexLt xs ys else decide (x < y)
theorem rcLt_int (A : Around) (s : Shared) (a : Int) (t : Tok) (c : Int) (u : Tok) (prog : Program) (w : World) (E : Value → Shared → Prop) (Q : Value → Shared → Prop) (h : Q (.bool (decide (a < c))) s) :
    wpAny (model prog w) A (richCompare .Lt (.int a t) (.int c u)) Q E s :=
  (PyProof.Rows.lt_int h : wpAny (model prog w) A (compareOp .Lt (.int a t) (.int c u)) Q E s)

section
open PySem.SeqAt
open PySem.AutoSeq1 (wpAny_loadPart')
open PySem.MeetsSeq PySem.MeetsSeq2 PySem.MeetsSeq3

end

section
variable {prog : Program} {w : World} {A : Around} {E : Value → Shared → Prop} {s : Shared}

/-! ### t[a:b], not the whole -/
/-- a slice's bound as a place among n (d where it is left out) -/
def sIx (n d : Nat) : Option Int → Nat
  | none => d
  | some v => if v < 0 then (v + (n : Int)).toNat else min v.toNat n
theorem sIx_none (n d : Nat) : sIx n d none = d := rfl
theorem sIx_nat (n d k : Nat) : sIx n d (some (k : Int)) = min k n := by
  show (if (k : Int) < 0 then ((k : Int) + (n : Int)).toNat else min (k : Int).toNat n) = min k n
  rw [if_neg (by omega), Int.toNat_natCast]
end
end HT

namespace L2
open PySem PySem.Spec PyProof.Rows

/-! ### the parts of a slice -/
abbrev TO := St → Hp → (Option Int → Hp → Prop) → Prop
/-- a slice's part (left out, or an int) -/
def PO (X : Cx) (e : Option Expr) (t : TO) : Prop :=
  ∀ (pins : List (Addr × Obj)) (s : Shared) (σ : St) (H : Hp) (Q : Option Int → Hp → Prop), Inv X pins σ H s → t σ H Q →
    wpAny (model X.prog X.w) X.A (evalPart e X.env) (fun u s' => ∃ o H', Inv X pins σ H' s' ∧ IsPart u o ∧ Q o H') X.xe s
def tNoPart : TO := fun _ H Q => Q none H
def tPart (t : TE) : TO := fun σ H Q => t σ H fun x H1 => ∃ i, x = .int i ∧ Q (some i) H1

theorem intsAre_of {ns : List Int} : ∀ {us : List Value}, Vals (ns.map V.int) us → IntsAre us ns := by
  induction ns with
  | nil => intro us r; rw [List.map_nil] at r; cases r; exact .nil
  | cons n ns ih =>
    intro us r
    rw [List.map_cons] at r
    cases r with
    | cons r1 r2 =>
      obtain ⟨t, e⟩ := r1
      subst e
      exact .cons n t (ih r2)

section
variable {X : Cx} {e : Expr} {te : TE} {lo hi : Option Expr} {tl th : TO} {pos p2 : Pos}

theorem po_none : PO X none tNoPart := by
  intro pins s σ H Q I h
  rw [evalPart_none]
  exact wpAny_pure ⟨none, H, I, .none, h⟩
theorem po_some (h : PE X e te) : PO X (some e) (tPart te) := by
  intro pins s σ H Q I hw
  rw [evalPart_some]
  refine thn (h pins s σ H _ I hw) fun u s1 ⟨x, H1, I1, r1, q1⟩ => ?_
  obtain ⟨i, rfl, q⟩ := q1
  obtain ⟨t, rfl⟩ := r1
  exact ⟨some i, H1, I1, .int i t, q⟩

/-- what a slice of a value is, by values: the slice object stands at sl -/
def SlR (X : Cx) (r : V → Option Int → Option Int → Hp → VK → Prop) : Prop :=
  ∀ (pins : List (Addr × Obj)) (s : Shared) (σ : St) (H : Hp) (x : V) (v vl vu : Value) (lo hi : Option Int) (sl : Addr) (Q : VK), Inv X pins σ H s → RelV x v → s.heap.IsSliceOf sl vl vu .none → IsPart vl lo → IsPart vu hi → r x lo hi H Q →
    ∃ T id, typeLookup (.type T) "__getitem__" = pure (some (.builtin id)) ∧ s.TypeIs v T ∧ wpAny (model X.prog X.w) X.A (getItem v (.ref sl)) (EP X pins σ Q) X.xe s
theorem SlR.or {r r' : V → Option Int → Option Int → Hp → VK → Prop} (h : SlR X r) (h' : SlR X r') : SlR X (fun x lo hi H Q => r x lo hi H Q ∨ r' x lo hi H Q) := by
  intro pins s σ H x v vl vu lo hi sl Q I rx hs pl pu q
  rcases q with q | q
  · exact h pins s σ H x v vl vu lo hi sl Q I rx hs pl pu q
  · exact h' pins s σ H x v vl vu lo hi sl Q I rx hs pl pu q
def tSl (r : V → Option Int → Option Int → Hp → VK → Prop) (te : TE) (tl th : TO) : TE := fun σ H Q => te σ H fun x H1 => tl σ H1 fun l H2 => th σ H2 fun u H3 => r x l u H3 Q
/-- a[lo:hi], any a -/
theorem pe_slice {r : V → Option Int → Option Int → Hp → VK → Prop} (hr : SlR X r) (he : PE X e te) (hl : PO X lo tl) (hu : PO X hi th) : PE X (.Subscript e (.Slice lo hi none p2) pos) (tSl r te tl th) := by
  intro pins s σ H Q I h
  refine Subscript_ (thn (he pins s σ H _ I h) fun v s1 ⟨x, H1, I1, r1, q1⟩ => ?_)
  refine wpAny_Slice (thn (hl pins s1 σ H1 _ I1 q1) fun vl s2 ⟨l, H2, I2, pl, q2⟩ => thn (hu pins s2 σ H2 _ I2 q2) fun vu s3 ⟨u, H3, I3, pu, q3⟩ => ?_)
  rw [evalPart_none]
  refine wpAny_pure ?_
  have I4 : Inv X pins σ H3 { s3 with heap := s3.heap.push { cls := .type "slice", data := .fields #[vl, vu, .none] } } := I3.kept (t' := s3.toks) fun b ob q => Heap.get?_push_of_some _ q
  obtain ⟨T, id, hT, ht, hg⟩ := hr pins { s3 with heap := s3.heap.push { cls := .type "slice", data := .fields #[vl, vu, .none] } } σ H3 x v vl vu l u s3.heap.objs.size Q I4 r1 (Heap.IsSliceOf.new ..) pl pu q3
  show wpAny (model X.prog X.w) X.A (subscriptTail e (.Slice lo hi none p2) v (.ref s3.heap.objs.size)) (EP X pins σ Q) X.xe { s3 with heap := s3.heap.push { cls := .type "slice", data := .fields #[vl, vu, .none] } }
  exact tail_any (ops := [.ref s3.heap.objs.size, v]) ht hT hg (by with_unfolding_all rfl)

/-- the items of xs[lo:hi] -/
def cutV (xs : List V) (lo hi : Option Int) : List V := (xs.drop (HT.sIx xs.length 0 lo)).take (HT.sIx xs.length xs.length hi - HT.sIx xs.length 0 lo)
theorem cutV_length (xs : List V) (lo hi : Option Int) : (cutV xs lo hi).length ≤ xs.length := by
  unfold cutV
  rw [List.length_take, List.length_drop]
  omega
/-- t[lo:hi], not the whole of it (the whole would be t itself) -/
def rSlT (K : PySem.W.Frag) : V → Option Int → Option Int → Hp → VK → Prop := fun x lo hi H Q => ∃ a xs, x = .ref a ∧ SqT K H a xs ∧
  ¬ (HT.sIx xs.length 0 lo = 0 ∧ HT.sIx xs.length xs.length hi = xs.length) ∧ ∀ p, H p = none → Q (.ref p) (upd H p (.tup (cutV xs lo hi)))
/-! ### t < u, t + u -/
def rLtT (K : PySem.W.Frag) : R2 := fun x y H Q => ∃ a b ns ms, x = .ref a ∧ y = .ref b ∧ SqT K H a (ns.map V.int) ∧ SqT K H b (ms.map V.int) ∧ Q (.bl (HT.lexLt ns ms)) H
/-- t + u, t not empty: u empty gives t itself -/
def rCatT (K : PySem.W.Frag) : R2 := fun x y H Q => ∃ a b xs ys, x = .ref a ∧ y = .ref b ∧ SqT K H a xs ∧ SqT K H b ys ∧ xs ≠ [] ∧ xs.length + ys.length ≤ sizeLine ∧
  (ys = [] → Q (.ref a) H) ∧ (ys ≠ [] → ∀ p, H p = none → Q (.ref p) (upd H p (.tup (xs ++ ys))))
end
end L2

namespace L2
open PySem PySem.Spec PyProof.Rows

/-! ### places -/
/-- the place that an index of any sign means -/
def ixN (n : Nat) (i : Int) : Option Nat := if 0 ≤ i then (if i < n then some i.toNat else none) else if -(n : Int) ≤ i then some (i + n).toNat else none
def atI {α : Type} (xs : List α) (i : Int) : Option α := (ixN xs.length i).bind fun j => xs[j]?
theorem ixN_seq {n : Nat} {i : Int} {j : Nat} (h : ixN n i = some j) : seqIndex? i n = some j ∧ j < n ∧ -(n : Int) ≤ i ∧ i < n := by
  unfold ixN at h
  by_cases h0 : 0 ≤ i
  · rw [if_pos h0] at h
    by_cases h1 : i < n
    · rw [if_pos h1] at h
      have e : i.toNat = j := Option.some.inj h
      exact ⟨by rw [seqIndex_of h0 h1, e], by omega, by omega, h1⟩
    · rw [if_neg h1] at h; cases h
  · rw [if_neg h0] at h
    by_cases h1 : -(n : Int) ≤ i
    · rw [if_pos h1] at h
      have e : (i + n).toNat = j := Option.some.inj h
      exact ⟨by rw [seqIndex_neg (by omega) h1, e], by omega, h1, by omega⟩
    · rw [if_neg h1] at h; cases h
theorem atI_get {α : Type} {xs : List α} {i : Int} {v : α} (h : atI xs i = some v) : ∃ j, seqIndex? i xs.length = some j ∧ xs[j]? = some v ∧ j < xs.length ∧ -(xs.length : Int) ≤ i ∧ i < xs.length := by
  unfold atI at h
  cases e : ixN xs.length i with
  | none => rw [e] at h; cases h
  | some j =>
    rw [e] at h
    obtain ⟨h1, h2, h3, h4⟩ := ixN_seq e
    exact ⟨j, h1, h, h2, h3, h4⟩
theorem atI_nat {α : Type} {xs : List α} {j : Nat} {v : α} (h : xs[j]? = some v) : atI xs (j : Int) = some v := by
  have hj : j < xs.length := (List.getElem?_eq_some_iff.mp h).1
  have e : ixN xs.length (j : Int) = some j := by
    unfold ixN
    rw [if_pos (by omega), if_pos (by omega)]; simp
  unfold atI; rw [e]; exact h
/-! ### what may be subscripted -/
/-- what stands as an index of a plain subscript -/
def PlainIx (b : Expr) : Prop := ∀ o i, subscripted b false o i = operate [o, i] (getItem o i)
/-- a subscript by values -/
def IxR (X : Cx) (r : R2) : Prop :=
  ∀ (value slice : Expr) (pins : List (Addr × Obj)) (s : Shared) (σ : St) (H : Hp) (x y : V) (v u : Value) (Q : VK), Inv X pins σ H s → RelV x v → RelV y u → r x y H Q →
    subscripted slice false v u = operate [v, u] (getItem v u) → wpAny (model X.prog X.w) X.A (subscriptTail value slice v u) (EP X pins σ Q) X.xe s
/-- a call of a builtin's method by values: the receiver, the arguments -/
def MtR (X : Cx) (id : String) (r : V → List V → Hp → VK → Prop) : Prop :=
  ∀ (pins : List (Addr × Obj)) (s : Shared) (σ : St) (H : Hp) (x : V) (xs : List V) (v : Value) (us : List Value) (Q : VK), Inv X pins σ H s → RelV x v → Vals xs us → r x xs H Q →
    wpAny (model X.prog X.w) X.A (call (.builtin id) (v :: us)) (EP X pins σ Q) X.xe s
section
variable {X : Cx} {a b : Expr} {ta tb : TE} {pos : Pos}
theorem IxR.or {r r' : R2} (h : IxR X r) (h' : IxR X r') : IxR X (fun x y H Q => r x y H Q ∨ r' x y H Q) := by
  intro value slice pins s σ H x y v u Q I rx ry q hs
  rcases q with q | q
  · exact h value slice pins s σ H x y v u Q I rx ry q hs
  · exact h' value slice pins s σ H x y v u Q I rx ry q hs
theorem MtR.or {id : String} {r r' : V → List V → Hp → VK → Prop} (h : MtR X id r) (h' : MtR X id r') : MtR X id (fun x xs H Q => r x xs H Q ∨ r' x xs H Q) := by
  intro pins s σ H x xs v us Q I rx rs q
  rcases q with q | q
  · exact h pins s σ H x xs v us Q I rx rs q
  · exact h' pins s σ H x xs v us Q I rx rs q
/-- a[b] -/
theorem pe_ix {r : R2} (hr : IxR X r) (ha : PE X a ta) (hb : PE X b tb) (hs : PlainIx b) : PE X (.Subscript a b pos) (tOp r ta tb) := by
  intro pins s σ H Q I h
  exact Subscript_ (binT ha hb I h fun v u s2 x y H2 I2 rx ry q => hr a b pins s2 σ H2 x y v u Q I2 rx ry q (hs _ _))

def rIxL (K : PySem.W.Frag) : R2 := fun x y H Q => ∃ p xs i v, x = .ref p ∧ y = .int i ∧ SqL K H p xs ∧ atI xs i = some v ∧ Q v H
def rIxT (K : PySem.W.Frag) : R2 := fun x y H Q => ∃ p xs i v, x = .ref p ∧ y = .int i ∧ SqT K H p xs ∧ atI xs i = some v ∧ Q v H
def rIxS : R2 := fun x y H Q => ∃ z i c, x = .str z ∧ y = .int i ∧ z.length ≤ sizeLine ∧ atI z.cps.toList i = some c ∧ Q (.str ⟨#[c]⟩) H
theorem ix_list : IxR X (rIxL X.K) := by
  intro value slice pins s σ H x y v u Q I rx ry h hs
  obtain ⟨p, xs, i, z, rfl, rfl, hq, he, q⟩ := h
  cases rx
  obtain ⟨t, rfl⟩ := ry
  obtain ⟨its, r, pl, hz⟩ := I.list hq
  obtain ⟨j, h1, h2, h3, h4, h5⟩ := atI_get he
  obtain ⟨w, ew, rw'⟩ := r.get h2
  have hl := r.length
  have hn := line63
  have fin : EP X pins σ Q w s := ⟨z, H, I, rw', q⟩
  by_cases h0 : 0 ≤ i
  · have hj : i.toNat = j := by
      rw [seqIndex_of h0 h5] at h1
      exact Option.some.inj h1
    exact item_listR pl.isList h0 (by omega) (by rw [hj]; simpa using ew) fin hs
  · have hj : (i + (its.toArray.size : Int)).toNat = j := by
      rw [seqIndex_neg (by omega) h4] at h1
      rw [List.size_toArray, ← hl]
      exact Option.some.inj h1
    exact subscriptTail_builtinR (x := w) pl.isList.typeIs slot_list_getitem.lookup
      (wpAny_getItem_list_neg (Q := fun r s' => r = w ∧ EP X pins σ Q r s') pl.isList (by omega) (by rw [List.size_toArray] <;> omega) (by omega) (by rw [hj]; simpa using ew) ⟨rfl, fin⟩) hs
/-- list, tuple or str -/
def rIx (K : PySem.W.Frag) : R2 := fun x y H Q => rIxL K x y H Q ∨ rIxT K x y H Q ∨ rIxS x y H Q
/-! ### xs[i] = v, any sign -/
/-- the list's object behind a store -/
theorem mapSeq_set (its : List Value) (n j : Nat) (u : Value) : Obj.mapSeq (·.setIfInBounds j u) { cls := .type "list", data := .seq its.toArray n } = { cls := .type "list", data := .seq (its.set j u).toArray n } := by
  simp [Obj.mapSeq]
theorem Inv.lst {pins : List (Addr × Obj)} {σ : St} {H : Hp} {s : Shared} {p : Addr} {xs : List V} (I : Inv X pins σ H s) (h : H p = some (.lst xs)) :
    ∃ (its : List Value) (n : Nat), Vals xs its ∧ s.heap.get? p = some { cls := .type "list", data := .seq its.toArray n } ∧ xs.length ≤ sizeLine := by
  obtain ⟨z, its, n, r, e⟩ := I.hok p _ h
  exact ⟨its, n, r, e, z⟩
/-- the list at p is written by an update of its object -/
theorem Inv.lstUpd {pins : List (Addr × Obj)} {σ : St} {H : Hp} {s : Shared} {p : Addr} {xs ys : List V} {its its' : List Value} {n n' : Nat} {f : Obj → Obj} (I : Inv X pins σ H s) (h : H p = some (.lst xs))
    (ho : s.heap.get? p = some { cls := .type "list", data := .seq its.toArray n }) (hf : f { cls := .type "list", data := .seq its.toArray n } = { cls := .type "list", data := .seq its'.toArray n' }) (r : Vals ys its') (hz : ys.length ≤ sizeLine) (t : Nat) :
    Inv X pins σ (upd H p (.lst ys)) { s with heap := s.heap.update p f, toks := t } := by
  have e : (s.heap.update p f).get? p = some { cls := .type "list", data := .seq its'.toArray n' } := by
    rw [Heap.get?_update_self f ho (by rw [hf] <;> rfl), hf]
  refine I.write (x := p) (e := p) (by rw [h]; trivial) (.inl rfl) (fun b u hb q => (Heap.get?_update_other _ _ (Ne.symm hb)).trans q) ⟨_, e⟩ ?_
  exact ⟨hz, its', n', r, e⟩
def rSetL : V → V → V → Hp → (Hp → Prop) → Prop := fun o i v H Q => ∃ p xs k j, o = .ref p ∧ i = .int k ∧ H p = some (.lst xs) ∧ ixN xs.length k = some j ∧ Q (upd H p (.lst (xs.set j v)))
theorem set_list : PSet X rSetL := by
  intro pins s σ H o i v ov iv u Q I ro ri rv h
  obtain ⟨p, xs, k, j, rfl, rfl, hp, hj, q⟩ := h
  cases ro
  obtain ⟨t, rfl⟩ := ri
  obtain ⟨its, n, r, ho, hz⟩ := I.lst hp
  obtain ⟨h1, h2, h3, h4⟩ := ixN_seq hj
  have hl := r.length
  have hn := line63
  have I' : Inv X pins σ (upd H p (.lst (xs.set j v))) { s with heap := s.heap.update p (Obj.mapSeq (·.setIfInBounds j u)) } :=
    I.lstUpd hp ho (mapSeq_set its n j u) (r.set rv j) (by rw [List.length_set]; exact hz) s.toks
  by_cases h0 : 0 ≤ k
  · have hk : k.toNat = j := by
      rw [seqIndex_of h0 h4] at h1
      exact Option.some.inj h1
    exact PySem.W.ki_setAt ho h0 (by omega) (by rw [List.size_toArray, ← hl]; exact h4) (by rw [hk]; exact ⟨_, I', q⟩)
  · have hk : (k + (its.toArray.size : Int)).toNat = j := by
      rw [seqIndex_neg (by omega) h3] at h1
      rw [List.size_toArray, ← hl]
      exact Option.some.inj h1
    exact PySem.W.ki_setBack ho (by omega) (by rw [List.size_toArray, ← hl]; exact h3) (by omega) (by rw [hk]; exact ⟨_, I', q⟩)

/-! ### slices -/
theorem slice_bounds (lo hi : Option Int) (n : Nat) : (sliceBounds lo hi none n).1 = ((HT.sIx n 0 lo : Nat) : Int) ∧ (sliceBounds lo hi none n).2.1 = ((HT.sIx n n hi : Nat) : Int) ∧ (sliceBounds lo hi none n).2.2 = 1 := by
  refine ⟨?_, ?_, rfl⟩
  · cases lo with
    | none => simp [sliceBounds, HT.sIx]
    | some i =>
      simp only [sliceBounds, HT.sIx, Option.getD_none, show (1 : Int) > 0 by decide, if_true]
      by_cases h : i < 0
      · simp only [h, if_true] <;> omega
      · simp only [h, if_false] <;> omega
  · cases hi with
    | none => simp [sliceBounds, HT.sIx]
    | some i =>
      simp only [sliceBounds, HT.sIx, Option.getD_none, show (1 : Int) > 0 by decide, if_true]
      by_cases h : i < 0
      · simp only [h, if_true] <;> omega
      · simp only [h, if_false] <;> omega
theorem slicePick_cut (its : List Value) (lo hi : Option Int) : slicePick its.toArray lo hi none = ((its.drop (HT.sIx its.length 0 lo)).take (HT.sIx its.length its.length hi - HT.sIx its.length 0 lo)).toArray := by
  obtain ⟨h1, h2, h3⟩ := slice_bounds lo hi its.toArray.size
  unfold slicePick
  rw [h1, h2, h3]
  simp only [sliceRange_one, pick_run, List.size_toArray] <;> rfl
/-- xs[lo:hi] of a list: a new list -/
def rSlL (K : PySem.W.Frag) : V → Option Int → Option Int → Hp → VK → Prop := fun x lo hi H Q => ∃ a xs, x = .ref a ∧ SqL K H a xs ∧ ∀ p, H p = none → Q (.ref p) (upd H p (.lst (cutV xs lo hi)))
theorem sl_list : SlR X (rSlL X.K) := by
  intro pins s σ H x v vl vu lo hi sl Q I rx hs pl pu h
  obtain ⟨a, xs, rfl, hx, q⟩ := h
  cases rx
  obtain ⟨its, r, ht, hz⟩ := I.list hx
  have hlen := r.length
  refine ⟨"list", _, slot_list_getitem.lookup, ht.isList.typeIs, ?_⟩
  refine wpAny_getItem_list_slice ht.isList hs pl pu .none (by simp) ?_ (by rw [List.size_toArray] <;> omega)
  rw [slicePick_cut, ← hlen]
  refine ⟨.ref s.heap.objs.size, _, I.laid (t' := s.toks) (o := .lst (cutV xs lo hi)) (fun b ob q => Heap.get?_push_of_some _ q) (Nat.le_refl _) ?_, rfl, q _ (I.hok.fresh (Nat.le_refl _))⟩
  exact ⟨Nat.le_trans (cutV_length xs lo hi) hz, _, 0, (r.drop (HT.sIx xs.length 0 lo)).take (HT.sIx xs.length xs.length hi - HT.sIx xs.length 0 lo), Heap.get?_push_size _ rfl⟩

/-! ### in, not in: flat items -/
def flatV : V → Bool
  | .non => true
  | .bl _ => true
  | .int _ => true
  | .str _ => true
  | _ => false
/-- == of flat values -/
def eqV : V → V → Bool
  | .non, .non => true
  | .bl a, .bl b => a == b
  | .bl a, .int b => (if a then 1 else 0) == b
  | .int a, .bl b => a == (if b then 1 else 0)
  | .int a, .int b => a == b
  | .str a, .str b => a == b
  | _, _ => false
/-- the items' answers, read off the values (a value's own answer does not lean on its token) -/
def eqU (x : V) (u : Value) : Bool := match u with
  | .none => eqV .non x
  | .bool b => eqV (.bl b) x
  | .int i _ => eqV (.int i) x
  | .str z _ => eqV (.str z) x
  | _ => false
def inV (x : V) (xs : List V) : Bool := xs.any fun y => eqV y x
/-- x in a list or tuple of flat items -/
def rIn (K : PySem.W.Frag) (neg : Bool) : R2 := fun x y H Q => ∃ p xs, y = .ref p ∧ (SqL K H p xs ∨ SqT K H p xs) ∧ flatV x = true ∧ xs.all flatV = true ∧ Q (.bl (if neg then !inV x xs else inV x xs)) H
/-! ### len, list(x), tuple(x) of any list or tuple that is read -/
theorem call_len_seq : CallR X (.builtin "len") (fun xs H Q => ∃ p ys, xs = [.ref p] ∧ (SqL X.K H p ys ∨ SqT X.K H p ys) ∧ Q (.int ys.length) H) := by
  intro pins s σ H xs us Q I r h
  obtain ⟨p, ys, rfl, hq, q⟩ := h
  obtain ⟨u, rfl, rx⟩ := vals1 r
  cases rx
  have hn := line63
  rcases hq with hq | hq
  · obtain ⟨its, r', pl, hz⟩ := I.list hq
    have hlen := r'.length
    exact Calls.call_len_list pl.isList (by simp only [List.size_toArray] <;> omega) ⟨.int ys.length, H, I.tok _, ⟨s.toks + 1, by rw [List.size_toArray, hlen]⟩, q⟩
  · obtain ⟨its, r', pl, hz⟩ := I.tuple hq
    have hlen := r'.length
    exact len_tuple pl (by simp only [List.size_toArray] <;> omega) ⟨.int ys.length, H, I.tok _, ⟨s.toks + 1, by rw [List.size_toArray, hlen]⟩, q⟩
theorem CallR.or {f : Value} {r r' : List V → Hp → VK → Prop} (h : CallR X f r) (h' : CallR X f r') : CallR X f (fun xs H Q => r xs H Q ∨ r' xs H Q) := by
  intro pins s σ H xs us Q I rs q
  rcases q with q | q
  · exact h pins s σ H xs us Q I rs q
  · exact h' pins s σ H xs us Q I rs q
theorem call_list_of : CallR X (.type "list") (fun xs H Q => ∃ p ys, xs = [.ref p] ∧ (SqL X.K H p ys ∨ SqT X.K H p ys) ∧ ∀ l, H l = none → Q (.ref l) (upd H l (.lst ys))) := by
  intro pins s σ H xs us Q I r h
  obtain ⟨p, ys, rfl, hq, q⟩ := h
  obtain ⟨u, rfl, rx⟩ := vals1 r
  cases rx
  have fin : ∀ (its : List Value), Vals ys its → ys.length ≤ sizeLine → ∀ (h' : Heap) (c' : Nat), (∀ b o', s.heap.get? b = some o' → h'.get? b = some o') →
      h'.get? s.heap.objs.size = some { cls := .type "list", dict := none, data := .seq its.toArray c', slots := #[] } → EP X pins σ Q (.ref s.heap.objs.size) { s with heap := h' } := fun its r' hz h' c' kp e =>
    ⟨.ref s.heap.objs.size, _, I.laid (t' := s.toks) kp (Nat.le_refl _) (show ObjOk X.prog X.w _ h' _ (.lst ys) from ⟨hz, its, c', r', e⟩), rfl, q _ (I.hok.fresh (Nat.le_refl _))⟩
  rcases hq with hq | hq
  · obtain ⟨its, r', pl, hz⟩ := I.list hq
    have hlen := r'.length
    obtain ⟨o, ho, hc, n, hd⟩ := pl.isList
    exact call_list_seq p (.inl rfl) ho hc hd (fun h' c' kp e => fin its r' hz h' c' kp e) (by simp only [List.size_toArray] <;> omega)
  · obtain ⟨its, r', pl, hz⟩ := I.tuple hq
    have hlen := r'.length
    obtain ⟨o, ho, hc, n, hd⟩ := pl
    exact call_list_seq p (.inr rfl) ho hc hd (fun h' c' kp e => fin its r' hz h' c' kp e) (by simp only [List.size_toArray] <;> omega)
/-! ### the call of a builtin's method: o.m(..) -/
/-- the value is of that builtin type -/
def tyV (K : PySem.W.Frag) (T : String) (x : V) (H : Hp) : Prop := match x with
  | .str _ => T = "str"
  | .int _ => T = "int"
  | .ref p => (T = "list" ∧ ∃ xs, SqL K H p xs) ∨ (T = "tuple" ∧ ∃ o, K.lookup p = some o ∧ o.cls = .type "tuple" ∧ o.dict = none) ∨
      (T = "dict" ∧ ((∃ kvs, H p = some (.dK kvs)) ∨ ∃ kvs, H p = some (.dT kvs))) ∨ (T = "set" ∧ ∃ S n, H p = some (.set S n))
  | _ => False
theorem tyV_is {pins : List (Addr × Obj)} {σ : St} {H : Hp} {s : Shared} {T : String} {x : V} {v : Value} (I : Inv X pins σ H s) (r : RelV x v) (ty : tyV X.K T x H) :
    s.TypeIs v T ∧ ∀ a, v = .ref a → ∃ ob, s.heap.get? a = some ob ∧ ob.dict = none := by
  cases x with
  | str z =>
    obtain ⟨t, rfl⟩ := r
    cases (show T = "str" from ty)
    exact ⟨typeIs_str s z t, fun _ e => nomatch e⟩
  | int i =>
    obtain ⟨t, rfl⟩ := r
    cases (show T = "int" from ty)
    exact ⟨typeIs_int s i t, fun _ e => nomatch e⟩
  | ref p =>
    cases r
    rcases ty with ⟨rfl, xs, hq⟩ | ⟨rfl, o, hk, hc, hd⟩ | ⟨rfl, hk⟩ | ⟨rfl, S, n, hk⟩
    · obtain ⟨its, _, pl, _⟩ := I.list hq
      refine ⟨pl.isList.typeIs, fun a e => ?_⟩
      cases e
      obtain ⟨o, n, e, c, hd, _⟩ := pl
      exact ⟨o, e, hd⟩
    · refine ⟨⟨o, I.kIn p o hk, hc⟩, fun a e => ?_⟩
      cases e
      exact ⟨o, I.kIn _ o hk, hd⟩
    · have z : ∃ o, s.heap.get? p = some o ∧ o.ExactDict := by
        rcases hk with ⟨kvs, hk⟩ | ⟨kvs, hk⟩
        · obtain ⟨_, _, _, _, o, _, _, e, ex, _⟩ := I.hok p _ hk
          exact ⟨o, e, ex⟩
        · obtain ⟨_, _, _, _, o, _, _, e, ex, _⟩ := I.hok p _ hk
          exact ⟨o, e, ex⟩
      obtain ⟨o, e, ex⟩ := z
      refine ⟨⟨o, e, ex.1⟩, fun a e2 => ?_⟩
      cases e2
      exact ⟨o, e, ex.2.1⟩
    · obtain ⟨o, _, _, _, e, ex, _⟩ := I.hok p _ hk
      refine ⟨⟨o, e, ex.1⟩, fun a e2 => ?_⟩
      cases e2
      exact ⟨o, e, ex.2.1⟩
  | _ => exact False.elim ty
def tBM0 (K : PySem.W.Frag) (T : String) (r : V → List V → Hp → VK → Prop) (to : TE) : TE := fun σ H Q => to σ H fun x H1 => tyV K T x H1 ∧ r x [] H1 Q
def tBM (K : PySem.W.Frag) (T : String) (r : V → List V → Hp → VK → Prop) (to : TE) (t : TA) : TE := fun σ H Q => to σ H fun x H1 => tyV K T x H1 ∧ t σ H1 fun xs H2 => r x xs H2 Q
variable {o e : Expr} {es : List Expr} {to : TE} {t : TA} {name : Str} {apos cpos : Pos} {T id : String} {r : V → List V → Hp → VK → Prop}
theorem pe_bm (pa : PlainAttrs T) (slot : Slot T name id) (hty : typeOf (.builtin id) = pure (.type "method_descriptor")) (hm : MtR X id r) (ho : PE X o to) (ha : PA X (e :: es) t)
    (hbase : attributeBase o name X.env (eval o X.env) = eval o X.env := by rfl)
    (hfew : ((backTo cpos (starEach (e :: es) X.env)).all (fun x => !x.1) && (backToKw cpos (keywordEach [] X.env)).all (fun x => x.1.isSome)
      && decide ((e :: es).length + ([] : List Keyword).length + (if ([] : List Keyword).isEmpty then 0 else 1) < 30)) = true := by rfl)
    (hline : (apos.endLine == cpos.line) = true := by rfl) (hs : starEach (e :: es) X.env = (false, eval e X.env) :: starEach es X.env := by rfl) (hplain : (backTo cpos (starEach es X.env)).any (·.1) = false := by rfl) :
    PE X (.Call (.Attribute o name apos) (e :: es) [] cpos) (tBM X.K T r to t) := by
  intro pins s σ H Q I h
  refine wpAny_Call_method_late hbase hfew hline rfl (thn (ho pins s σ H _ I h) fun v s1 ⟨x, H1, I1, r1, ty, q1⟩ => ?_)
  obtain ⟨h1, h2⟩ := tyV_is I1 r1 ty
  refine ⟨T, id, pa, slot, hty, h1, h2, ?_⟩
  have hA := ha cpos pins s1 σ H1 _ I1 q1
  rw [hs] at hA ⊢
  refine Calls.callWith_builtin (by show (false || (backTo cpos (starEach es X.env)).any (·.1)) = false; rw [hplain] <;> rfl) (Calls.evalArgs_plain ?_)
  exact thn hA fun us s2 ⟨vs, H2, I2, r2, q2⟩ => hm pins s2 σ H2 x vs v us Q I2 r1 r2 q2
/- xs.append(e), list.index on a module's tuple .. are MtR facts of 06m -/
end
end L2

namespace L2
open PySem PySem.Spec PyProof.Rows

def MtM (X : Cx) (id : String) (r : V → List V → Hp → VK → Prop) : Prop :=
  ∀ (pins : List (Addr × Obj)) (s : Shared) (σ : St) (H : Hp) (x : V) (xs : List V) (v : Value) (us : List Value) (Q : VK), Inv X pins σ H s → RelV x v → Vals xs us → r x xs H Q →
    wpAny (model X.prog X.w) X.A (call (.builtin id) (v :: us)) (EP X pins σ Q) X.xe s

/-! ### lists of values -/
theorem Vals.one : ∀ {x : V} {us : List Value}, Vals [x] us → ∃ u, us = [u] ∧ RelV x u
  | _, _, .cons r .nil => ⟨_, rfl, r⟩
theorem Vals.two : ∀ {x y : V} {us : List Value}, Vals [x, y] us → ∃ u v, us = [u, v] ∧ RelV x u ∧ RelV y v
  | _, _, _, .cons r (.cons q .nil) => ⟨_, _, rfl, r, q⟩
theorem Vals.zero : ∀ {us : List Value}, Vals [] us → us = []
  | _, .nil => rfl
theorem Vals.dropLast {xs : List V} {us : List Value} (h : Vals xs us) : Vals xs.dropLast us.dropLast := by
  induction h with
  | nil => exact .nil
  | cons r t ih =>
    cases t with
    | nil => exact .nil
    | cons q t' => exact .cons r ih
theorem Vals.eraseIdx : ∀ {xs : List V} {us : List Value} (i : Nat), Vals xs us → Vals (xs.eraseIdx i) (us.eraseIdx i)
  | _, _, _, .nil => .nil
  | _, _, 0, .cons _ t => t
  | _, _, i + 1, .cons r t => .cons r (Vals.eraseIdx i t)
theorem Vals.reverse {xs : List V} {us : List Value} (h : Vals xs us) : Vals xs.reverse us.reverse := by
  induction h with
  | nil => exact .nil
  | cons r t ih => rw [List.reverse_cons, List.reverse_cons]; exact Vals.append ih (.cons r .nil)
theorem Vals.rep {xs : List V} {us : List Value} (h : Vals xs us) : ∀ k : Nat, Vals (List.replicate k xs).flatten (List.replicate k us).flatten
  | 0 => .nil
  | k + 1 => by
    rw [List.replicate_succ, List.replicate_succ, List.flatten_cons, List.flatten_cons]
    exact Vals.append h (Vals.rep h k)
theorem foldl_rep (its : List Value) : ∀ (k : Nat) (acc : List Value),
    List.foldl (fun x1 x2 => x1 ++ x2) acc.toArray (List.replicate k its.toArray) = (acc ++ (List.replicate k its).flatten).toArray
  | 0, acc => by simp
  | k + 1, acc => by
    have e : acc.toArray ++ its.toArray = (acc ++ its).toArray := by simp
    have e2 : (acc ++ its) ++ (List.replicate k its).flatten = acc ++ (List.replicate (k + 1) its).flatten := by
      rw [List.replicate_succ, List.flatten_cons, List.append_assoc]
    rw [← e2, ← foldl_rep its k (acc ++ its), ← e, List.replicate_succ, List.foldl_cons]

section
variable {X : Cx} {pins : List (Addr × Obj)} {σ : St} {H : Hp} {s : Shared} {l b : Addr} {xs ys zs : List V}

/-! ### the two steps: a tracked list is rewritten, a new list is laid -/
theorem Inv.lset {its its' : List Value} {n : Nat} {f : Array Value → Array Value} {t' : Nat} (I : Inv X pins σ H s) (hH : H l = some (.lst xs))
    (e : s.heap.get? l = some { cls := .type "list", data := .seq its.toArray n }) (hf : f its.toArray = its'.toArray) (hv : Vals ys its') (hz : ys.length ≤ sizeLine) :
    Inv X pins σ (upd H l (.lst ys)) { s with heap := s.heap.update l (Obj.mapSeq f), toks := t' } := by
  have q := PySem.IsL.update e f
  rw [hf] at q
  refine I.write (x := l) (e := l) (by rw [hH]; exact trivial) (.inl rfl) (fun b' u hb hu => (Heap.get?_update_other s.heap (Obj.mapSeq f) (Ne.symm hb)).trans hu) ⟨_, q⟩ ?_
  exact ⟨hz, its', _, hv, q⟩
theorem Inv.lnew {its : List Value} {t' : Nat} (I : Inv X pins σ H s) (hv : Vals ys its) (hz : ys.length ≤ sizeLine) :
    Inv X pins σ (upd H s.heap.objs.size (.lst ys)) { s with heap := s.heap.push { cls := .type "list", data := .seq its.toArray }, toks := t' } :=
  I.laid (fun _ _ q => Heap.get?_push_of_some _ q) (Nat.le_refl _) ⟨hz, its, 0, hv, Heap.get?_push_size _ rfl⟩
theorem Inv.fresh (I : Inv X pins σ H s) : H s.heap.objs.size = none := I.hok.fresh (Nat.le_refl _)
theorem Inv.lstM (I : Inv X pins σ H s) (hH : H l = some (.lst xs)) : xs.length ≤ sizeLine ∧ ∃ (its : List Value) (n : Nat), Vals xs its ∧ xs.length = its.length ∧ s.heap.get? l = some { cls := .type "list", data := .seq its.toArray n } := by
  obtain ⟨z, its, n, r, e⟩ := I.hok l _ hH
  exact ⟨z, its, n, r, r.length, e⟩

theorem notLongL {n : Nat} (h : n ≤ sizeLine) : Builtin.List.listTooLong n = false := by
  unfold Builtin.List.listTooLong
  exact decide_eq_false (by omega)
end

section
variable {X : Cx}

/-! ### methods -/
def rAppend : V → List V → Hp → VK → Prop := fun x vs H Q => ∃ l xs y, x = .ref l ∧ vs = [y] ∧ H l = some (.lst xs) ∧ xs.length < sizeLine ∧ Q .non (upd H l (.lst (xs ++ [y])))
theorem mt_append : MtM X "list.append" rAppend := by
  intro pins s σ H x vs v us Q I rx rv h
  obtain ⟨l, xs, y, rfl, rfl, hH, hz, q⟩ := h
  cases rx
  obtain ⟨u, rfl, ru⟩ := rv.one
  obtain ⟨z, its, n, r, hl, e⟩ := I.lstM hH
  refine call_meets F.slot_list_append ⟨_, e, rfl⟩ F.entry_list_append (F.args_list_append_2 _ _) (PySem.list_append l its.toArray n u (by rw [List.size_toArray]; omega)) ⟨e, ?_⟩
  refine ⟨.non, _, I.lset (its' := its ++ [u]) hH e (by simp) (r.append (.cons ru .nil)) ?_, rfl, q⟩
  rw [List.length_append, List.length_singleton]
  omega

def rExtend : V → List V → Hp → VK → Prop := fun x vs H Q => ∃ l b xs zs, x = .ref l ∧ vs = [.ref b] ∧ H l = some (.lst xs) ∧ H b = some (.lst zs) ∧ xs.length + zs.length ≤ sizeLine ∧ Q .non (upd H l (.lst (xs ++ zs)))
theorem mt_extend : MtM X "list.extend" rExtend := by
  intro pins s σ H x vs v us Q I rx rv h
  obtain ⟨l, b, xs, zs, rfl, rfl, hH, hB, hz, q⟩ := h
  cases rx
  obtain ⟨u, rfl, ru⟩ := rv.one
  cases ru
  obtain ⟨z, its, n, r, hl, e⟩ := I.lstM hH
  obtain ⟨z2, its2, n2, r2, hl2, e2⟩ := I.lstM hB
  have hsz : its.toArray.size + its2.toArray.size ≤ sizeLine := by rw [List.size_toArray, List.size_toArray]; omega
  have hlong : ¬ (!its.toArray.isEmpty && Builtin.List.listTooLong (its.toArray.size + its2.toArray.size)) = true := by
    rw [notLongL hsz, Bool.and_false]
    exact Bool.false_ne_true
  refine call_meets F.slot_list_extend ⟨_, e, rfl⟩ F.entry_list_extend (F.args_list_extend_2 _ _)
    (AutoSeq1.list_extend_list_list_0 l its.toArray n b its2.toArray n2 hlong (by rw [List.size_toArray]; omega) (by omega)) ⟨e, e2, ?_⟩
  refine ⟨.non, _, I.lset (its' := its ++ its2) hH e (by simp) (r.append r2) ?_, rfl, q⟩
  rw [List.length_append]
  omega

def rPop : V → List V → Hp → VK → Prop := fun x vs H Q => ∃ l xs y, x = .ref l ∧ vs = [] ∧ H l = some (.lst xs) ∧ xs[xs.length - 1]? = some y ∧ Q y (upd H l (.lst xs.dropLast))
def rPopAt : V → List V → Hp → VK → Prop := fun x vs H Q => ∃ l xs i k y, x = .ref l ∧ vs = [.int i] ∧ H l = some (.lst xs) ∧ -(2 ^ 63) ≤ i ∧ i < 2 ^ 63 ∧ seqIndex? i xs.length = some k ∧ xs[k]? = some y ∧ Q y (upd H l (.lst (xs.eraseIdx k)))
def rReverse : V → List V → Hp → VK → Prop := fun x vs H Q => ∃ l xs, x = .ref l ∧ vs = [] ∧ H l = some (.lst xs) ∧ Q .non (upd H l (.lst xs.reverse))
def rClear : V → List V → Hp → VK → Prop := fun x vs H Q => ∃ l xs, x = .ref l ∧ vs = [] ∧ H l = some (.lst xs) ∧ Q .non (upd H l (.lst []))
/-! ### list + list, list += list, list * int -/
def rCat : R2 := fun x y H Q => ∃ l b xs zs, x = .ref l ∧ y = .ref b ∧ H l = some (.lst xs) ∧ H b = some (.lst zs) ∧ xs.length + zs.length ≤ sizeLine ∧ ∀ p, H p = none → Q (.ref p) (upd H p (.lst (xs ++ zs)))
theorem op_cat : OpR X (binaryOp .Add) rCat := by
  intro pins s σ H x y v u Q I rx ry h
  obtain ⟨l, b, xs, zs, rfl, rfl, hH, hB, hz, q⟩ := h
  cases rx
  cases ry
  obtain ⟨z, its, n, r, hl, e⟩ := I.lstM hH
  obtain ⟨z2, its2, n2, r2, hl2, e2⟩ := I.lstM hB
  refine PySem.P.add_list e e2 ?_ (by rw [List.size_toArray, List.size_toArray]; omega)
  have ea : its.toArray ++ its2.toArray = (its ++ its2).toArray := by simp
  rw [ea]
  exact ⟨.ref _, _, I.lnew (t' := s.toks) (r.append r2) (by rw [List.length_append]; omega), rfl, q _ I.fresh⟩
/-- a list times an int (a negative one is nothing) -/
def rRep : R2 := fun x y H Q => ∃ l k xs, x = .ref l ∧ y = .int k ∧ H l = some (.lst xs) ∧ -(2 ^ 63) ≤ k ∧ k < 2 ^ 63 ∧ xs.length * k.toNat ≤ sizeLine ∧
  ∀ p, H p = none → Q (.ref p) (upd H p (.lst (List.replicate k.toNat xs).flatten))
theorem len_rep {α : Type} (xs : List α) (k : Nat) : (List.replicate k xs).flatten.length = k * xs.length := by
  induction k with
  | zero => simp
  | succ k ih => rw [List.replicate_succ, List.flatten_cons, List.length_append, ih, Nat.succ_mul, Nat.add_comm]
theorem op_rep : OpR X (binaryOp .Mult) rRep := by
  intro pins s σ H x y v u Q I rx ry h
  obtain ⟨l, k, xs, rfl, rfl, hH, h1, h2, hz, q⟩ := h
  cases rx
  obtain ⟨t, rfl⟩ := ry
  obtain ⟨z, its, n, r, hl, e⟩ := I.lstM hH
  have hlen : its.toArray.size * k.toNat ≤ sizeLine := by rw [List.size_toArray, ← hl]; exact hz
  have hcap : ¬ its.toArray.size * k.toNat > (2 ^ 63 - 1) / 8 := by
    have : (sizeLine : Nat) ≤ (2 ^ 63 - 1) / 8 := by decide
    omega
  have hfit : ¬ (!Builtin.List.listFitsIndex k) = true := by
    rw [fitsIndex_both h1 h2]
    exact Bool.false_ne_true
  have hlong : ¬ Builtin.List.listTooLong (its.toArray.size * k.toNat) = true := by
    rw [notLongL hlen]
    exact Bool.false_ne_true
  have hnew : List.foldl (fun x1 x2 => x1 ++ x2) #[] (List.replicate (if its.toArray.isEmpty = true then 0 else k.toNat) its.toArray) = (List.replicate k.toNat its).flatten.toArray := by
    have f0 : ∀ m : Nat, List.foldl (fun x1 x2 => x1 ++ x2) #[] (List.replicate m its.toArray) = (List.replicate m its).flatten.toArray := fun m => by
      have := foldl_rep its m []
      rw [List.nil_append] at this
      exact this
    rw [f0]
    cases its with
    | nil => simp
    | cons a r' => rw [if_neg (by simp)]
  refine wpAny_binaryOp_repeat_ref (T := "list") (U := "int") (by decide) ⟨_, e, rfl⟩ (fun s' => typeIs_int s' k t) noFill_list_mul F.fills_int_mul F.slot_int_rmul repeat_list F.slot_int_index.lookup
    (call_meets F.slot_int_rmul (typeIs_int s k t) F.entry_int_rmul (F.args_int_rmul_2 _ _) (int___rmul___int_list k t l its.toArray n)
      ⟨e, rfl, ⟨_, e, rfl⟩, call_meets F.slot_list_mul ⟨_, e, rfl⟩ F.entry_list_mul (F.args_list_mul_2 _ _) (AutoListH.list___mul___list_int_3 l its.toArray n k t hfit hcap hlong) ⟨e, ?_⟩⟩)
  rw [hnew]
  exact ⟨.ref _, _, I.lnew (t' := s.toks) (r.rep k.toNat) (by rw [len_rep, Nat.mul_comm]; exact hz), rfl, q _ I.fresh⟩

/-! ### del xs[i] -/
end

/-! ### xs[a:b] = ys -/
section
variable {prog : Program} {w : World} {A : Around} {E : Value → Shared → Prop} {s : Shared}
end

section
variable {X : Cx}
end
end L2

namespace Att
open PySem PySem.W PySem.Calls PyProof.Rows

/-! ### the script -/
theorem ints_of_wellAll {P : Params} {h : Heap} : ∀ (ns : List Int) (vs : List Value), WellAll P h vs (ns.map WData.int) → IntsAre vs ns := by
  intro ns
  induction ns with
  | nil =>
    intro vs w
    rw [List.map_nil] at w
    cases w
    exact .nil
  | cons n ns ih =>
    intro vs w
    rw [List.map_cons] at w
    cases w with
    | cons a b =>
      cases a
      exact .cons _ _ (ih _ b)

theorem script_of {l : OpenLaw} {n : Nat} (hn : l.most = some n) {P : Params} {h : Heap} {args : List WData} {vals : List Value}
    (hpre : l.row.toRowW.claim.pre args = true) (hwl : WellAll P h vals args) :
    ∃ a vs ns, vals = [Value.ref a] ∧ args = [WData.list (ns.map WData.int)] ∧ h.get? a = some { cls := .type "list", data := .seq vs.toArray } ∧ IntsAre vs ns ∧ ns.length ≤ n := by
  have hsh : WShape.hasAll [] args [.list .int] = true := (pre_splitW hpre).1
  have hc : l.pre.holds [] { args := args } = true := (pre_splitW hpre).2
  obtain ⟨d, r, rfl, h1, h2⟩ := hasAllW_cons hsh
  obtain rfl := hasAllW_nil h2
  obtain ⟨xs, rfl, h3⟩ := hasW_list h1
  obtain ⟨ns, rfl⟩ := items_int h3
  have hlen : ns.length ≤ n := by
    unfold OpenLaw.pre at hc
    have h4 : (WTm.not (.lt (.lit (.int (n : Int))) (.len (.arg 0)))).holds [] { args := [.list (ns.map .int)] } = true := by
      have h4 := (holds_andW hc).1
      rw [hn] at h4
      exact h4
    have h5 := condW_of h4 (w_not (w_lt w_lit (w_len_list (w_arg rfl))))
    rw [List.length_map] at h5
    refine Nat.le_of_not_lt fun q => ?_
    have q' : (n : Int) < ((ns.length : Nat) : Int) := by omega
    first
      | (rw [decide_eq_true q'] at h5; exact absurd h5 (by decide))
      | (simp at h5; omega)
  cases hwl with
  | cons w1 w2 =>
    cases w2
    cases w1 with
    | list ho hall => exact ⟨_, _, ns, rfl, rfl, ho, ints_of_wellAll ns _ hall, hlen⟩

theorem post_true (l : OpenLaw) (args : List WData) : l.row.toRowW.claim.post args (.bool true) args = true :=
  postW_of (r := l.row.toRowW) (X := (true == true))
    (show WShape.has [] (.bool true) .bool = true by first | rfl | decide | simp [WShape.has, WShape.arms, WShape.armsAll])
    (show (WTm.eq .res (.lit (.bool true))).value [] { args := args, res := some (.bool true), after := args } = some (.bool (true == true)) from w_eq_bool (w_res rfl) w_lit) rfl

/-! ### the attachment: holds_open's last premise (the goal 'hc' behind k_head) from a wpAny of the law's body -/
/-- the same from a codeAny of the CALL (for a layer whose function contracts speak of calls) -/
theorem attach_call {l : OpenLaw} {n : Nat} {q : Program} {loose : List Str} {XP : (Str → Option Value) → Heap → Prop} {YP : World → Heap → Prop} {d : DefRec}
    (hn : l.most = some n) (hdf : d.params.defaults = [])
    (call : ∀ (w : World) (s₀ s₁ : Shared) (mg mb : Str → Option Value) (fa : Addr) (o : Obj) (pm cd doc : Value) (a : Addr) (vs : List Value) (ns : List Int),
      Ground q loose [] XP w s₀ mg mb s₁.heap → YP w s₁.heap →
      s₁.heap.get? fa = some o → o.data = .func (docDef d.name d.params d.body d.scope pm cd doc) → s₁.heap.CodeRec cd d.name → mg d.name = some (.ref fa) →
      s₁.heap.get? a = some { cls := .type "list", data := .seq vs.toArray } → IntsAre vs ns → ns.length ≤ n → s₁.gens = #[] →
      codeAny (model l.prog w) callerA (.call (.ref fa) ⟨[.ref a], []⟩) (fun r s' => r = .ok (.ret (.bool true)) ∧ OldK s₁.heap s'.heap ∧ s'.os = s₁.os ∧ AllBare s'.gens) s₁) :
    WalkO q loose XP YP l.row.toRowW d [] (fun f vs => PySem.call f vs) := by
  intro w s₀ s₁ mg mb G Y fa o pm cd doc dV kV ho hd hcd hD hmg hg args vals as hpre hlay hrd hwl hlo
  obtain rfl : dV = .none := Dflts.none hD hdf
  obtain rfl : kV = .none := Dflts.noKw hD
  obtain ⟨a, vs, ns, rfl, rfl, hobj, hints, hlen⟩ := script_of hn hpre hwl
  refine enter_call (codeAny_mono (call w s₀ s₁ mg mb fa o pm cd doc a vs ns G Y ho (fd_plain hd) hcd hmg hobj hints hlen hg) fun r s' hq => ?_)
  obtain ⟨rfl, h2, h3, h4⟩ := hq
  exact ⟨.inl ⟨.bool true, .bool true, [], rfl, fun _ => rfl, .bool true, post_true l _, fun _ => ⟨List.Pairwise.nil, fun _ hm => (nomatch hm)⟩⟩, h2, h3, h4⟩

/-! ### rules over ANY heap (no ledger) from facts about the written part K: the library's own take a ledger (News) for what they write -/
section
variable {prog : Program} {w : World} {A : Around} {E : Value → Shared → Prop} {s : Shared} {K : Frag}

/-! the whole heap as the ledger: makes every rule that writes through a ledger a rule over any heap -/
def noObjs (h : Heap) : Heap := { h with objs := #[] }
def ledger (h : Heap) (L d : Addr) : List (Addr × Obj) := (List.range h.objs.size).filterMap fun a => if a = L ∨ a = d then none else (h.get? a).map fun o => (a, o)
end
end Att

namespace L2
open PySem PySem.Spec PyProof.Rows

theorem vals_ints : ∀ {vs : List Value} {ns : List Int}, IntsAre vs ns → Vals (ns.map V.int) vs
  | _, _, .nil => .nil
  | _, _, .cons n t h => .cons ⟨t, rfl⟩ (vals_ints h)

/-- nothing is tracked but the script, known to the object (or it is an object of the module) -/
def Only (H : Hp) : Prop := ∀ b, H b = none ∨ ∃ o xs, H b = some (.frz o (.lst xs))

/-- THE HEAD: the law's promise, at the heap behind the top. F, the promise of the law's def, may use that base is part of the heap (so K.In base, base.Ns mainGlobals mg stand in Mod) -/
theorem law_call {P : Program} {w : World} {K : PySem.W.Frag} {mg mb : Str → Option Value} {CX : CXT} {k : Nat} {fa a : Addr} {fd : FuncData} {x : Str} {sp : Sp} {s₁ : Shared} {vs : List Value} {ns : List Int}
    (KX : K.In s₁.heap) (hns : s₁.heap.Ns mainGlobals mg) (hb : s₁.heap.Ns builtinsNs mb) (hbb : ∀ x : Str, x ≠ "__name__" → mb x = bootBuiltins x) (hlim : s₁.heap.NoLimit) (hg : s₁.gens = #[])
    (ha : s₁.heap.get? a = some { cls := .type "list", data := .seq vs.toArray }) (hi : IntsAre vs ns) (hl : ns.length ≤ sizeLine) (hr : Room k callerA)
    (F : ∀ base : Heap, K.In base → base.Ns mainGlobals mg → FnOk P w K mg base CX k fa fd [x] sp) (hbind : ∀ (s : Shared) (u : Value), BindsTo s fd ⟨[u], []⟩ [(x, u)])
    (hsp : ∀ H : Hp, Only H → SqL K H a (ns.map V.int) → sp [.ref a] H (fun v _ => v = .bl true) fun _ _ _ => False)
    (hCX : ∀ H e s', CX [] H s₁ (fun _ _ _ => False) e s' → False) :
    codeAny (model P w) callerA (.call (.ref fa) ⟨[.ref a], []⟩) (fun r s' => r = .ok (.ret (.bool true)) ∧ OldK s₁.heap s'.heap ∧ s'.os = s₁.os ∧ AllBare s'.gens) s₁ := by
  have rv := vals_ints hi
  have lenV := hi.length
  -- from an abstract heap in which nothing but the script may be tracked
  have core : ∀ H : Hp, Only H → SqL K H a (ns.map V.int) → HOk P w H s₁.heap → (∀ b, H b ≠ none → b = a) → (H a ≠ none → K.lookup a = none) →
      codeAny (model P w) callerA (.call (.ref fa) ⟨[.ref a], []⟩) (fun r s' => r = .ok (.ret (.bool true)) ∧ OldK s₁.heap s'.heap ∧ s'.os = s₁.os ∧ AllBare s'.gens) s₁ := by
    intro H hO hS hok hA hK
    have base_of : ∀ {b : Addr} {o : Obj}, s₁.heap.get? b = some o → H b = none → (hidT s₁.heap H).get? b = some o := fun e n => hidT_get e n
    have noA : ∀ {b : Addr} {o : Obj} {es : Array DictEntry} {ep : Nat}, s₁.heap.get? b = some o → o.data = .dict es ep → H b = none := fun {b o es ep} e d => by
      cases q : H b with
      | none => rfl
      | some u =>
        have e' : b = a := hA b (by rw [q]; simp)
        subst e'
        rw [ha] at e; cases e
        have d' : Data.seq vs.toArray _ = Data.dict es ep := d
        cases d'
    have nsK : ∀ {b : Addr} {m : Str → Option Value}, s₁.heap.Ns b m → (hidT s₁.heap H).Ns b m := fun {b m} ⟨o, es, ep, e, d, r⟩ => ⟨o, es, ep, base_of e (noA e d), d, r⟩
    have hKb : K.In (hidT s₁.heap H) := fun b o e => base_of (KX b o e) (by
      cases q : H b with
      | none => rfl
      | some u =>
        have e' : b = a := hA b (by rw [q]; simp)
        subst e'
        rw [hK (by rw [q]; simp)] at e; cases e)
    have hM : Mod K mg (hidT s₁.heap H) := ⟨hKb, nsK hns, ⟨mb, nsK hb, hbb⟩, let ⟨mc, h1, h2⟩ := hlim; ⟨mc, nsK h1, h2⟩⟩
    have e0 : Env0 P w K mg (hidT s₁.heap H) callerA [] s₁ H := ⟨rfl, hM, fun b o e => of_hidT e, Nat.le_of_eq (hidT_size _ _), trivial, fun b hb => absurd (show b ∈ ([] : List Addr) from hb) (by simp), hok, .of_eq hg⟩
    refine codeAny_mono ((F _ hKb (nsK hns)).run callerA [] s₁ H ⟨[.ref a], []⟩ [.ref a] [.ref a] _ _ hr e0 (hbind s₁ (.ref a)) (.cons rfl .nil) (hsp H hO hS)) fun r s' h => ?_
    cases r with
    | error e => exact (hCX H e s' h).elim
    | ok fl =>
      cases fl with
      | next => exact False.elim h
      | brk => exact False.elim h
      | cont => exact False.elim h
      | ret u =>
        obtain ⟨v, H', os, bare, un, hok', r', q⟩ := h
        have q' : v = .bl true := q
        subst q'
        obtain rfl : u = Value.bool true := r'
        refine ⟨rfl, OldK.of_keep fun b o e => ?_, os, bare⟩
        cases q : H b with
        | none => exact un.keep b o e q (by intro z; exact absurd (show b ∈ ([] : List Addr) from z) (by simp)) (by simp)
        | some u =>
          rcases hO b with z | ⟨ob, xs, z⟩
          · rw [q] at z; cases z
          · have z2 := un.frzs b ob _ z
            obtain ⟨e1, _⟩ := hok b _ z
            obtain ⟨e2, _⟩ := hok' b _ z2
            rw [e] at e1; cases e1
            exact e2
  cases hk : K.lookup a with
  | some o =>
    -- the script is one of the module's own objects
    have e := KX a o hk
    rw [ha] at e
    cases e
    refine core (fun _ => none) (fun _ => .inl rfl) (.inr ⟨_, vs.toArray, _, hk, rfl, rfl, rfl, by rw [List.size_toArray, lenV]; exact hl, by simpa using rv⟩) (fun b u z => by have z' : (none : Option HO) = some u := z; cases z') (fun b z => absurd rfl z) fun z => absurd rfl z
  | none =>
    refine core (fun b => if b = a then some (.frz { cls := .type "list", data := .seq vs.toArray } (.lst (ns.map V.int))) else none) (fun b => ?_) (.inl (.inr ⟨{ cls := .type "list", data := .seq vs.toArray }, if_pos rfl⟩)) (fun b u z => ?_) (fun b z => ?_) fun _ => hk
    · by_cases hb : b = a
      · exact .inr ⟨_, _, if_pos hb⟩
      · exact .inl (if_neg hb)
    · by_cases hb : b = a
      · have z' := (if_pos hb).symm.trans z
        cases z'
        subst hb
        exact ⟨ha, by rw [List.length_map]; exact hl, vs, _, rv, ha⟩
      · have z' := (if_neg hb).symm.trans z
        cases z'
    · by_cases hb : b = a
      · exact hb
      · exact absurd (if_neg hb) z
end L2

namespace L2
open PySem PySem.Spec PyProof.Rows

abbrev KOf {K : PySem.W.Frag} {h : Heap} (_ : K.In h) : PySem.W.Frag := K

/-- the goal that k_head leaves (case hc), from the law's promise. F gives the function object fd (K's own) once, then the promise over every base -/
theorem walk_of {l : PySem.W.OpenLaw} {n k : Nat} {q : Program} {loose : List Str} {XP : (Str → Option Value) → Heap → Prop} {YP : World → Heap → Prop} {d : DefRec} {K : Params → PySem.W.Frag} {CX : World → CXT} {sp : World → Sp} {x : Str}
    (hn : l.most = some n) (hn2 : n ≤ sizeLine) (hdf : d.params.defaults = []) (hr : Room k callerA)
    (hY : ∀ (w : World) (h : Heap), YP w h → (K w.params).In h)
    (F : ∀ (w : World) (mg : Str → Option Value) (fa : Addr) (h : Heap), (K w.params).In h → h.Ns mainGlobals mg → mg d.name = some (.ref fa) →
      ∃ fd : FuncData, (∀ (s : Shared) (u : Value), BindsTo s fd ⟨[u], []⟩ [(x, u)]) ∧
        ∀ base : Heap, (K w.params).In base → base.Ns mainGlobals mg → FnOk l.prog w (K w.params) mg base (CX w) k fa fd [x] (sp w))
    (hsp : ∀ (w : World) (H : Hp) (a : Addr) (ns : List Int), ns.length ≤ n → Only H → SqL (K w.params) H a (ns.map V.int) → sp w [.ref a] H (fun v _ => v = .bl true) fun _ _ _ => False)
    (hCX : ∀ (w : World) (H : Hp) (s : Shared) (e : Value) (s' : Shared), CX w [] H s (fun _ _ _ => False) e s' → False) :
    PySem.W.WalkO q loose XP YP l.row.toRowW d [] (fun f vs => PySem.call f vs) := by
  refine Att.attach_call hn hdf fun w s₀ s₁ mg mb fa o pm cd doc a vs ns G Y ho hd hcd hmg hobj hints hlen hg => ?_
  have KX := hY w _ Y
  obtain ⟨fd, hb, hF⟩ := F w mg fa _ KX G.T.g hmg
  exact law_call KX G.T.g G.T.b G.T.builtins G.T.nolimit hg hobj hints (Nat.le_trans hlen hn2) hr hF hb (fun H hO hS => hsp w H a ns hlen hO hS) fun H e s' => hCX w H s₁ e s'
end L2

/-! SHORT WORDS over the layer: a def of the text, its body, what a loop and a test want. -/
namespace L2
open PySem PySem.Spec PyProof.Rows

/-! ### the text by places -/
/-- the j-th statement of a class's body -/
def inClass (s : Stmt) (j : Nat) : Stmt := match s with
  | .ClassDef _ _ _ body _ _ _ _ _ _ _ => body.getD j (.Pass ⟨0, 0, 0, 0⟩)
  | _ => .Pass ⟨0, 0, 0, 0⟩
def defArgs (s : Stmt) : Arguments := match s with
  | .FunctionDef _ a _ _ _ _ _ _ _ _ => a
  | _ => { posonlyargs := [], args := [], vararg := none, kwonlyargs := [], kw_defaults := [], kwarg := none, defaults := [] }
def defBody (s : Stmt) : List Stmt := match s with
  | .FunctionDef _ _ b _ _ _ _ _ _ _ => b
  | _ => []
def defScope (s : Stmt) : Scope := match s with
  | .FunctionDef _ _ _ _ _ _ sc _ _ _ => sc
  | _ => { kind := .function, names := [], isGenerator := false, isCoroutine := false }

/-! ### no exception leaves a def -/
abbrev CX0 : CXT := fun _ _ _ _ _ _ => False
abbrev E0 : XK := fun _ _ _ => False
theorem pass0 {X : Cx} : Passes CX0 X E0 := fun _ _ _ _ _ _ _ h => h.elim

/-! ### a def (or method) of the text as it stands behind the top -/
structure Fun (K : PySem.W.Frag) (x qual : Str) (st : Stmt) (f : Addr) (fd : FuncData) : Prop where
  ex : ∃ (oc : Value) (od : Option Addr) (kV doc pm : Value) (an : Option Addr) (cdv ct : Value) (osl : Array (Option Value)),
    fd = PySem.W.fnOf x qual (defArgs st) (defBody st) (defScope st) .none kV doc pm an cdv ct ∧ K.lookup f = some ⟨oc, od, .func fd, osl⟩ ∧ PySem.W.codeIn K cdv qual = true
  kp : PySem.W.keepIn K (.ref f) = true
section
variable {P : Program} {w : World} {K : PySem.W.Frag} {mg : Str → Option Value} {base : Heap}
/-- THE RULE for a def: its body as a term of rules, and the reading of that term -/
theorem Fun.ok {x qual : Str} {st : Stmt} {f : Addr} {fd : FuncData} {N ps : List Str} {k : Nat} {sp : Sp} (F : Fun K x qual st f fd) (S : FnScope N ps (defScope st)) (len : ∀ vs H Q E, sp vs H Q E → vs.length = ps.length)
    (hbody : ∀ (cdv : Value) (A : Around) (outer : List Env) (s : Shared) (H : Hp) (vs : List V) (Q : VK) (E : XK), Room k (A.deeper (envOfC qual (defScope st) s.heap.objs.size f cdv)) → sp vs H Q E →
      ∃ t, PSs (cxOf CX0 P w K mg base N qual (defScope st) f cdv A outer s H E).nox (defBody st) t ∧ t { nx := fun _ H' => Q .non H', rt := Q } (start N vs) H) : FnOk P w K mg base CX0 (k + 1) f fd ps sp := by
  obtain ⟨oc, od, kV, doc, pm, an, cdv, ct, osl, rfl, lk, hcd⟩ := F.ex
  refine fn_of lk hcd S len fun A outer s H vs Q E hr hsp => ?_
  obtain ⟨t, h, q⟩ := hbody cdv A outer s H vs Q E hr hsp
  exact ⟨t, h.nox, q⟩
/-- how its arguments bind (no defaults): h is «fun _ _ _ _ _ _ us hl => match us, hl with | [_, _], _ => rfl», one _ a parameter -/
theorem Fun.binds {x qual : Str} {st : Stmt} {f : Addr} {fd : FuncData} {ps : List Str} (F : Fun K x qual st f fd)
    (h : ∀ (kV doc pm : Value) (an : Option Addr) (cdv ct : Value) (us : List Value), us.length = ps.length → bindArgs (PySem.W.fnOf x qual (defArgs st) (defBody st) (defScope st) .none kV doc pm an cdv ct) ⟨us, []⟩ = pure (ps.zip us)) : Binds K fd ps [] := by
  obtain ⟨oc, od, kV, doc, pm, an, cdv, ct, osl, rfl, lk, hcd⟩ := F.ex
  exact .all (h kV doc pm an cdv ct)
theorem fun_mk {x qual : Str} {st : Stmt} {f : Addr} {oc : Value} {od an : Option Addr} {osl : Array (Option Value)} {kV doc pm cdv ct : Value} (l : K.lookup f = some ⟨oc, od, .func (PySem.W.fnOf x qual (defArgs st) (defBody st) (defScope st) .none kV doc pm an cdv ct), osl⟩)
    (c : PySem.W.codeIn K cdv qual = true) (k : PySem.W.keepIn K (.ref f) = true) : Fun K x qual st f (PySem.W.fnOf x qual (defArgs st) (defBody st) (defScope st) .none kV doc pm an cdv ct) := ⟨⟨oc, od, kV, doc, pm, an, cdv, ct, osl, rfl, l, c⟩, k⟩
end
/-! ### expressions in short: the name that stands in the i-th slot -/
section
variable {X : Cx}
theorem pv (i : Nat) {x : Str} {pos : Pos} (hN : X.N[i]? = some x := by rfl) (hv : Vis X.env.scope x := by first | exact Or.inl rfl | exact Or.inr (Or.inl rfl) | exact Or.inr (Or.inr rfl)) (hd : (x == ("__debug__" : Str)) = false := by decide)
    (hcd : (x == ("__classdict__" : Str)) = false := by decide) : PE X (.Name x pos) (tVar i) := pe_var hN hv hd hcd
end

/-! ### tests -/
theorem iteF {A B : Prop} (h : B) : if false = true then A else B := by
  rw [if_neg Bool.false_ne_true]
  exact h
theorem iteT {A B : Prop} (h : A) : if true = true then A else B := by
  rw [if_pos rfl]
  exact h
theorem ite2 {c A B : Prop} [Decidable c] (h1 : c → A) (h2 : ¬ c → B) : if c then A else B := by
  by_cases h : c
  · rw [if_pos h]
    exact h1 h
  · rw [if_neg h]
    exact h2 h
theorem iteNS {c A B : Prop} [Decidable c] (hc : c) (h : B) : if (!decide c) = true then A else B := by
  rw [decide_eq_true hc]
  exact iteF h

/-! ### heaps -/
/-- all that was tracked is as it was -/
def Same (H H' : Hp) : Prop := ∀ b o, H b = some o → H' b = some o
theorem Same.refl (H : Hp) : Same H H := fun _ _ h => h
theorem Same.trans {H H1 H2 : Hp} (a : Same H H1) (b : Same H1 H2) : Same H H2 := fun c o h => b c o (a c o h)
theorem Same.free {H H' : Hp} (e : Same H H') {l : Addr} (h : H' l = Option.none) : H l = Option.none := by
  cases q : H l with
  | none => rfl
  | some o =>
    rw [e l o q] at h
    cases h
theorem Same.seq {K : PySem.W.Frag} {H H' : Hp} {a : Addr} {xs : List V} (e : Same H H') (h : SqL K H a xs) : SqL K H' a xs := by
  rcases h with (h | ⟨o, h⟩) | h
  · exact .inl (.inl (e _ _ h))
  · exact .inl (.inr ⟨o, e _ _ h⟩)
  · exact .inr h

/-! ### a dict's pairs: keys that differ -/
section
variable {κ : Type} [DecidableEq κ]
end
end L2

/-! MY OWN RULES, part 1: freezing, dict walks, isinstance, dict(..), == of dicts -/
namespace L2
open PySem PySem.Spec PyProof.Rows

section
variable {X : Cx} {pins : List (Addr × Obj)} {σ : St} {H : Hp} {s : Shared} {a : Addr} {u u' : HO}

/-- not frozen ahead of the entry -/
def NF (X : Cx) (a : Addr) : Prop := ∀ o z, X.H₀ a ≠ some (.frz o z)
theorem Inv.nf {kvs : List (Key × V)} (I : Inv X pins σ H s) (e : H a = some (.dK kvs)) : NF X a := fun o z q => by
  have := I.base.frzs a o z q
  rw [e] at this; cases this
end

/-! ### a dict's keys, one after another -/
def Itd (a : Addr) (o : Obj) (kvs : List (Key × V)) : It :=
  ⟨fun i H => H a = some (.frz o (.dK kvs)) ∧ i < kvs.length, fun i H x H' => H' = H ∧ ∃ k v, kvs[i]? = some (k, v) ∧ x = kV k, fun i H => H a = some (.frz o (.dK kvs)) ∧ kvs.length ≤ i⟩
theorem KV.get {κ : Type} : ∀ {kvs : List (κ × V)} {vs : List (κ × Value)} {i : Nat} {k : κ} {v : V}, KV kvs vs → kvs[i]? = some (k, v) → ∃ u, vs[i]? = some (k, u) ∧ RelV v u
  | _, _, _, _, _, .nil, h => by simp at h
  | _, _, 0, k, v, .cons (a := p) (b := q) r _, h => by
    have hp : p = (k, v) := by simpa using h
    subst hp
    have e : k = q.1 := r.1
    exact ⟨q.2, by rw [List.getElem?_cons_zero, e], r.2⟩
  | _, _, i + 1, _, _, .cons _ t, h => by
    simp only [List.getElem?_cons_succ] at h ⊢
    exact KV.get (kvs := _) t h
section
variable {X : Cx} {tg : Expr}
/-- for k in d: the dict stands frozen while it is walked -/
def iDict (X : Cx) (td : TE) : TI := fun σ H R => td σ H fun x H1 => ∃ a kvs, x = .ref a ∧ H1 a = some (.dK kvs) ∧ ∀ o, NF X a → R (Itd a o kvs) (upd H1 a (.frz o (.dK kvs)))
/-- where a frozen dict was left: it is thawed -/
def Th (X : Cx) (Q : Hp → Prop) (H : Hp) : Prop := ∃ a o kvs, H a = some (.frz o (.dK kvs)) ∧ NF X a ∧ Q (upd H a (.dK kvs))
def tThaw (X : Cx) (t : TS) : TS := fun D σ H => t { nx := fun σ' => Th X (D.nx σ'), rt := fun v => Th X (D.rt v), bk := fun σ' => Th X (D.bk σ'), ct := fun σ' => Th X (D.ct σ') } σ H
end
/-! ### isinstance -/
def clsV : V → Option Value
  | .ty n => some (.type n)
  | .ref a => some (.ref a)
  | _ => none
theorem call_isinst {X : Cx} : CallR X (.builtin "isinstance") (fun xs H Q => ∃ x c cv t b, xs = [x, c] ∧ clsV c = some cv ∧ TyOf X.K H x t ∧ PySem.W.kitOne X.K t cv = some b ∧ Q (.bl b) H) := by
  intro pins s σ H xs us Q I r h
  obtain ⟨x, c, cv, t, b, rfl, hc, ty, e, q⟩ := h
  obtain ⟨u, v, rfl, ru, rv⟩ := vals2 r
  have hv : v = cv := by
    cases c <;> simp only [clsV, Option.some.injEq, reduceCtorEq] at hc
    · cases (show v = Value.ref _ from rv); exact hc
    · cases (show v = Value.type _ from rv); exact hc
  subst hv
  exact isinst_ok I ru ty e fun tk => ⟨.bl b, H, I.tok tk, rfl, q⟩

/-! ### dict(d) -/
/-! ### == of two dicts whose values are flat -/
def hitD (kb : List (Key × V)) (p : Key × V) : Bool := match valV kb p.1 with
  | none => false
  | some y => eqV p.2 y
def eqD (ka kb : List (Key × V)) : Bool := ka.length == kb.length && ka.all (hitD kb)
def flatD (ka : List (Key × V)) : Prop := ∀ p ∈ ka, flatV p.2 = true
section
variable {X : Cx}
def rEqD (neg : Bool) : R2 := fun x y H Q => ∃ a b ka kb, x = .ref a ∧ y = .ref b ∧ Rd H a (.dK ka) ∧ Rd H b (.dK kb) ∧ flatD ka ∧ flatD kb ∧ ((ka.map (·.1)).Nodup → (kb.map (·.1)).Nodup → Q (.bl (neg ^^ eqD ka kb)) H)
end
end L2

/-! MY OWN RULES, part 2: a list comprehension of one clause -/
namespace L2
open PySem PySem.Spec PyProof.Rows

/-- the context of a comprehension's block, at its entry (its list is made, its names not yet) -/
def cxB (X : Cx) (pins : List (Addr × Obj)) (N : List Str) (scope : Scope) (cl : List (Str × Addr)) (fp : List Addr) (s : Shared) (H : Hp) : Cx where
  prog := X.prog
  w := X.w
  K := X.K
  mg := X.mg
  base := X.base
  A := X.A
  N := N
  s₀ := s
  H₀ := H
  env := compEnvC scope cl s.heap.objs.size X.env
  outer := X.stack
  stack := X.stack
  ex := fp
  fn := fun _ => false
  calm := X.calm
  pn := X.pn ++ pins
  xe := fun _ _ => False

/-- what must be seen of the text: the block's names N, of which fr tells where the outer ones stand; its cells -/
structure Blk (X : Cx) (N : List Str) (fr : List (Option Nat)) (scope : Scope) (cl : List (Str × Addr)) : Prop where
  clos : closureFor scope X.env = pure cl
  kind : scope.kind = .function
  nocell : ∀ y ∈ scope.names, y.2 ≠ .cell
  names : ∀ y ∈ scope.names, y.2 = .local → scope.names.lookup y.1 = some .local
  cells : ∀ x c, cl.lookup x = some c → X.env.cells.lookup x = some c
  has : ∀ x, ((relabel scope X.env).names.lookup x = some .cell ∨ (relabel scope X.env).names.lookup x = some .free) → ∃ c, cl.lookup x = some c
  len : fr.length = N.length
  out : ∀ (i j : Nat) (x : Str), N[i]? = some x → fr[i]? = some (some j) → X.N[j]? = some x ∧ X.env.kindOf x = some .cell ∧ ((relabel scope X.env).names.lookup x = some .cell ∨ (relabel scope X.env).names.lookup x = some .free)

end L2
namespace L2
open PySem PySem.Spec PyProof.Rows
/-- the cells that a block takes over -/
def clGo (env : Env) : List (Str × NameKind) → List (Str × Addr) → List (Str × Addr)
  | [], cs => cs
  | (n, k) :: r, cs => clGo env r (if (k == .free) = true then (n, (env.cells.lookup n).getD 0) :: cs else cs)
def clOf (scope : Scope) (env : Env) : List (Str × Addr) := clGo env scope.names []
theorem clos_go {env : Env} : ∀ {names : List (Str × NameKind)} (cs : List (Str × Addr)), (∀ y ∈ names, y.2 = .free → ∃ c, env.cells.lookup y.1 = some c) →
    (forIn names cs fun (x : Str × NameKind) cs => match x with
      | (name, kind) => if (kind == NameKind.free) = true then do let c ← cellOf env name; pure (ForInStep.yield ((name, c) :: cs)) else pure (ForInStep.yield cs) : Sem (List (Str × Addr))) = pure (clGo env names cs)
  | [], cs, _ => rfl
  | (n, k) :: r, cs, h => by
    rw [List.forIn_cons]
    dsimp only
    have ih := fun cs => clos_go (env := env) (names := r) cs fun y hy => h y (List.mem_cons_of_mem _ hy)
    by_cases hk : (k == NameKind.free) = true
    · obtain ⟨c, hc⟩ := h (n, k) (List.mem_cons_self ..) (by simpa using hk)
      rw [if_pos hk, show clGo env ((n, k) :: r) cs = clGo env r ((n, c) :: cs) by rw [clGo, if_pos hk, hc]; rfl]
      have e : cellOf env n = pure c := by unfold cellOf; rw [hc]
      rw [e]
      exact ih _
    · rw [if_neg hk, show clGo env ((n, k) :: r) cs = clGo env r cs by rw [clGo, if_neg hk]]
      exact ih _
theorem clos_of {scope : Scope} {env : Env} (h : ∀ y ∈ scope.names, y.2 = .free → ∃ c, env.cells.lookup y.1 = some c) : closureFor scope env = pure (clOf scope env) := by
  have t := clos_go (env := env) [] h
  have e : closureFor scope env = ((forIn scope.names ([] : List (Str × Addr)) fun (x : Str × NameKind) cs => match x with
      | (name, kind) => if (kind == NameKind.free) = true then do let c ← cellOf env name; pure (ForInStep.yield ((name, c) :: cs)) else pure (ForInStep.yield cs)) >>= fun cs => pure cs : Sem (List (Str × Addr))) := rfl
  rw [e, t]
  rfl
theorem clGo_cells {env : Env} : ∀ {names : List (Str × NameKind)} {cs : List (Str × Addr)}, (∀ y ∈ names, y.2 = .free → ∃ c, env.cells.lookup y.1 = some c) → (∀ x c, cs.lookup x = some c → env.cells.lookup x = some c) → ∀ x c, (clGo env names cs).lookup x = some c → env.cells.lookup x = some c
  | [], _, _, hc, x, c, h => hc x c h
  | (n, k) :: r, cs, hn, hc, x, c, h => by
    rw [clGo] at h
    refine clGo_cells (names := r) (fun y hy => hn y (List.mem_cons_of_mem _ hy)) (fun x c h => ?_) x c h
    by_cases hk : (k == NameKind.free) = true
    · rw [if_pos hk] at h
      obtain ⟨c', hc'⟩ := hn (n, k) (List.mem_cons_self ..) (by simpa using hk)
      rw [List.lookup_cons] at h
      cases e : x == n with
      | true =>
        rw [e] at h
        have ex : x = n := by simpa using e
        subst ex
        rw [hc'] at h ⊢
        exact h
      | false =>
        rw [e] at h
        exact hc x c h
    · rw [if_neg hk] at h
      exact hc x c h
theorem clGo_has {env : Env} : ∀ {names : List (Str × NameKind)} {cs : List (Str × Addr)} {x : Str}, ((x, NameKind.free) ∈ names ∨ ∃ c, cs.lookup x = some c) → ∃ c, (clGo env names cs).lookup x = some c
  | [], _, _, h => h.elim (fun z => by cases z) fun z => z
  | (n, k) :: r, cs, x, h => by
    rw [clGo]
    refine clGo_has (names := r) ?_
    by_cases hk : (k == NameKind.free) = true
    · rw [if_pos hk, List.lookup_cons]
      cases e : x == n with
      | true => exact .inr ⟨_, rfl⟩
      | false =>
        rcases h with h | h
        · rcases List.mem_cons.mp h with z | z
          · cases z
            simp at e
          · exact .inl z
        · exact .inr h
    · rw [if_neg hk]
      rcases h with h | h
      · rcases List.mem_cons.mp h with z | z
        · cases z
          exact absurd rfl hk
        · exact .inl z
      · exact .inr h
theorem relabel_lookup {env : Env} (x : Str) : ∀ names : List (Str × NameKind),
    (names.map fun (y : Str × NameKind) => match y with
      | (n, k) => if (k == NameKind.free && env.scope.kind == .function && env.kindOf n == some .cell) = true then (n, NameKind.cell) else (n, k)).lookup x
      = (names.lookup x).map fun k => if (k == NameKind.free && env.scope.kind == .function && env.kindOf x == some .cell) = true then NameKind.cell else k
  | [] => rfl
  | (n, k) :: r => by
    have ih := relabel_lookup (env := env) x r
    rw [List.map_cons, List.lookup_cons]
    by_cases e : (x == n) = true
    · have ex : x = n := by simpa using e
      subst ex
      dsimp only
      by_cases hc : (k == NameKind.free && env.scope.kind == .function && env.kindOf x == some .cell) = true
      · rw [if_pos hc, List.lookup_cons, beq_self_eq_true]
        dsimp only [Option.map]
        rw [if_pos hc]
      · rw [if_neg hc, List.lookup_cons, beq_self_eq_true]
        dsimp only [Option.map]
        rw [if_neg hc]
    · have e' : (x == n) = false := by simpa using e
      dsimp only
      by_cases hc : (k == NameKind.free && env.scope.kind == .function && env.kindOf n == some .cell) = true
      · rw [if_pos hc, List.lookup_cons, e']
        exact ih
      · rw [if_neg hc, List.lookup_cons, e']
        exact ih

/-- what must be seen of the text: closed, to be decided. NX the outer names, N the block's, fr where the outer ones of these stand -/
structure BlkS (sc scope : Scope) (NX N : List Str) (fr : List (Option Nat)) : Prop where
  okind : sc.kind = .function
  kind : scope.kind = .function
  nocell : ∀ y ∈ scope.names, y.2 ≠ .cell
  names : ∀ y ∈ scope.names, y.2 = .local → scope.names.lookup y.1 = some .local
  free : ∀ y ∈ scope.names, y.2 = .free → sc.names.lookup y.1 = some .cell
  len : fr.length = N.length
  out : ((List.range N.length).all fun i => match fr[i]? with
    | some (some j) => (match N[i]? with
      | some x => (NX[j]? == some x) && (scope.names.lookup x == some .free)
      | none => false)
    | _ => true) = true
theorem mem_of_lk {names : List (Str × NameKind)} {x : Str} {k : NameKind} (h : names.lookup x = some k) : (x, k) ∈ names := PySem.mem_of_lookup h
theorem BlkS.blk {X : Cx} {sc scope : Scope} {NX N : List Str} {fr : List (Option Nat)} (B : BlkS sc scope NX N fr) (e1 : X.env.scope = sc) (e2 : X.N = NX) (ok : X.Ok) : Blk X N fr scope (clOf scope X.env) := by
  subst e1 e2
  have fc : ∀ y ∈ scope.names, y.2 = .free → ∃ c, X.env.cells.lookup y.1 = some c := fun y hy hf => ok.has y.1 (.inl (B.free y hy hf))
  have lk : ∀ x, (relabel scope X.env).names.lookup x = (scope.names.lookup x).map fun k => if (k == NameKind.free && X.env.scope.kind == .function && X.env.kindOf x == some .cell) = true then NameKind.cell else k := fun x => relabel_lookup x scope.names
  have isfree : ∀ x, scope.names.lookup x = some .free → (relabel scope X.env).names.lookup x = some .cell := fun x hx => by
    have hk : X.env.kindOf x = some .cell := B.free (x, .free) (mem_of_lk hx) rfl
    rw [lk, hx, Option.map_some, hk, B.okind]
    rfl
  refine ⟨clos_of fc, B.kind, B.nocell, B.names, fun x c h => clGo_cells fc (fun x c h => by cases h) x c h, fun x h => clGo_has (.inl ?_), B.len, fun i j x h1 h2 => ?_⟩
  · rw [lk] at h
    cases e : scope.names.lookup x with
    | none => rw [e] at h; rcases h with h | h <;> cases h
    | some k =>
      rw [e, Option.map_some] at h
      have hm := mem_of_lk e
      cases k with
      | free => exact hm
      | cell => exact absurd rfl (B.nocell _ hm)
      | _ => rcases h with h | h <;> simp at h
  · have hi : i < N.length := (List.getElem?_eq_some_iff.mp h1).1
    have := List.all_eq_true.mp B.out i (List.mem_range.mpr hi)
    rw [h2] at this
    dsimp only at this
    rw [h1] at this
    dsimp only at this
    rw [Bool.and_eq_true] at this
    have a1 : X.N[j]? = some x := by simpa using this.1
    have a2 : scope.names.lookup x = some .free := by simpa using this.2
    exact ⟨a1, B.free (x, .free) (mem_of_lk a2) rfl, .inl (isfree x a2)⟩
end L2
namespace L2
open PySem PySem.Spec PyProof.Rows
/-- the block's names' values at its start -/
def startB (fr : List (Option Nat)) (σ : St) : St := fr.map fun o => o.bind fun j => (σ[j]?).join
theorem startB_get {fr : List (Option Nat)} {σ : St} {i : Nat} {v : V} (h : (startB fr σ)[i]? = some (some v)) : ∃ j, fr[i]? = some (some j) ∧ σ[j]? = some (some v) := by
  unfold startB at h
  rw [List.getElem?_map] at h
  cases e : fr[i]? with
  | none => rw [e] at h; cases h
  | some o =>
    rw [e] at h
    cases o with
    | none => cases h
    | some j =>
      have h' : (σ[j]?).join = some v := Option.some.inj h
      cases q : σ[j]? with
      | none => rw [q] at h'; cases h'
      | some z => rw [q] at h'; exact ⟨j, rfl, by rw [q]; exact congrArg some h'⟩

section
variable {X : Cx} {pins : List (Addr × Obj)} {σ : St} {H : Hp} {s : Shared} {N : List Str} {fr : List (Option Nat)} {scope : Scope} {cl : List (Str × Addr)} {fp : List Addr}

theorem blk_ok (B : Blk X N fr scope cl) (I : Inv X pins σ H s) (f : ∀ b ∈ fp, FpOk X pins H b ∧ b < s.heap.objs.size) : (cxB X pins N scope cl fp s H).Ok where
  mod := I.mod
  kind := B.kind
  glob := I.ok.glob
  blt := I.ok.blt
  above := Nat.le_refl _
  inj := fun x y c h1 h2 => I.ok.inj x y c (B.cells x c h1) (B.cells y c h2)
  has := fun x h => B.has x h
  cab := fun x c h => by cases h
  hd := I.ok.hd
  frames := I.ok.frames
  stk := .inl rfl
  exf := fun b hb => ⟨Nat.ne_of_lt (f b hb).2, fun x c h => (f b hb).1.2.2.2.2.1 x c (B.cells x c h)⟩
  bs := I.bs
  bsz := Nat.le_trans I.ok.bsz I.sz
  noex := fun b o e hb => by
    rcases (f b hb).1.2.2.2.1 with h | h
    · exact I.ok.noex b o e h
    · exact absurd (Nat.lt_of_lt_of_le (Heap.lt_size e) (Nat.le_trans I.ok.bsz h)) (Nat.lt_irrefl _)
  exfs := fun b hb h => by
    rcases List.mem_cons.mp (I.stkSub b h) with z | z
    · exact (f b hb).1.2.1 z
    · exact (f b hb).1.2.2.1 z
  funs := I.stack
  frf := I.stkFree

theorem blk_start {h1 : Heap} {t1 : Nat} (B : Blk X N fr scope cl) (I : Inv X pins σ H s) (f : ∀ b ∈ fp, FpOk X pins H b ∧ b < s.heap.objs.size) (hns : h1.Ns s.heap.objs.size fun _ => none)
    (hsb : ∀ b o, s.heap.get? b = some o → h1.get? b = some o) : Inv (cxB X pins N scope cl fp s H) [] (startB fr σ) H { s with heap := h1, toks := t1 } := by
  obtain ⟨m, hm, hl⟩ := I.loc
  refine ⟨blk_ok B I f, rfl, I.bare, Un.kept hsb, ⟨_, hns, fun i x v e1 e2 _ => ?_⟩, fun x c h => ?_, I.hok.fresh (Nat.le_refl _), fun x c h => I.freeC x c (B.cells x c h), fun p hp => ?_, I.hok.kept hsb, ?_⟩
  · obtain ⟨j, ej, es⟩ := startB_get e2
    obtain ⟨o1, o2, o3⟩ := B.out i j x e1 ej
    obtain ⟨u, ru, L⟩ := hl j x v o1 es (.inr (.inl o2))
    refine ⟨u, ru, .inr ⟨o3, ?_⟩⟩
    obtain ⟨c, hc⟩ := B.has x o3
    rcases L with ⟨k1, _⟩ | ⟨_, c', hc', cc⟩
    · rw [o2] at k1; cases k1
    · rw [B.cells x c hc] at hc'
      cases hc'
      exact ⟨c, hc, cc.keeps hsb⟩
  · obtain ⟨v, hv⟩ := I.cell x c (B.cells x c h)
    exact ⟨v, hv.keeps hsb⟩
  · have hp' : p ∈ X.pn ++ pins := by rw [List.append_nil] at hp; exact hp
    obtain ⟨p1, p2, p3, p4, p5⟩ := I.pin p hp'
    exact ⟨hsb _ _ p1, p2, Nat.ne_of_lt (Heap.lt_size p1), fun z => (List.mem_cons.mp (I.stkSub _ z)).elim p3 p4, p5⟩
  · show (startB fr σ).length = N.length
    unfold startB
    rw [List.length_map, B.len]
end

/-- the tests of a clause -/
def PTs (X : Cx) (cs : List Expr) (t : TT) : Prop :=
  ∀ (pins : List (Addr × Obj)) (s : Shared) (σ : St) (H : Hp) (Q : Bool → Hp → Prop), Inv X pins σ H s → t σ H Q →
    wpAny (model X.prog X.w) X.A (forIn cs true fun c r => if r = true then do let ok ← isTrue c X.env (eval c X.env); pure (ForInStep.yield ok) else pure (ForInStep.yield r)) (TP X pins σ Q) X.xe s
def tYes : TT := fun _ H Q => Q true H
theorem pts_nil {X : Cx} : PTs X [] tYes := fun pins s σ H Q I h => by
  rw [List.forIn_nil]
  exact wpAny_pure ⟨H, I, h⟩
theorem pts_one {X : Cx} {c : Expr} {t : TT} (h : PT X c t) : PTs X [c] t := fun pins s σ H Q I q => by
  rw [List.forIn_cons, if_pos rfl]
  refine wpAny_bind (wpAny_bind (thn (h pins s σ H Q I q) fun b s' z => ?_))
  refine wpAny_pure ?_
  dsimp only
  rw [List.forIn_nil]
  exact wpAny_pure z

section
variable {prog : Program} {w : World} {A : Around} {R : Result → Shared → Prop} {s : Shared}
/-- the loop of a clause, by any invariant; nothing is raised -/
theorem comp_loop {elt tg iter : Expr} {ifs : List Expr} {scope : Scope} {pos : Pos} {it acc : Value} {env : Env} (J : Nat → Shared → Prop)
    (turn : ∀ n s, J n s → wpAny (model prog w) A (pyNext it) (fun r s₁ => match r with
      | none => R (.ok .next) s₁
      | some v => wpAny (model prog w) A (letOwnedTupleGo tg it v) (fun _ sg => wpAny (model prog w) A (assign tg env v) (fun _ s₂ =>
          wpAny (model prog w) A (forIn ifs true fun c r => if r = true then do let ok ← isTrue c env (eval c env); pure (ForInStep.yield ok) else pure (ForInStep.yield r)) (fun ok s₃ =>
            if ok = true then wpAny (model prog w) A (eval elt env) (fun x s₄ => wpAny (model prog w) A (call (.builtin "list.append") [acc, x]) (fun _ s₅ => ∃ m, m < n ∧ J m s₅) (fun _ _ => False) s₄) (fun _ _ => False) s₃
            else ∃ m, m < n ∧ J m s₃) (fun _ _ => False) s₂) (fun _ _ => False) sg) (fun _ _ => False) s₁) (fun _ _ => False) s)
    (n : Nat) (h : J n s) : codeAny (model prog w) A (.compLoop (.ListComp elt [⟨tg, iter, ifs, 0⟩] scope pos) 0 it acc env) R s := by
  refine codeAny_loop rfl J (fun n s hJ => ?_) n h
  show wpAny _ A ((compTurn (.ListComp elt [⟨tg, iter, ifs, 0⟩] scope pos) 0 it acc env).onRaise (fun x => do noteFrame x env; theTreesLotGoes x)) _ _ s
  refine wpAny_noted ?_
  rw [compTurn_list]
  have no : ∀ {P : Value → Shared → Prop} (a : Value) (s : Shared), (fun (_ : Value) (_ : Shared) => False) a s → P a s := fun _ _ z => False.elim z
  refine wpAny_bind (wpAny_standAt (wpAny_bind (wpAny_mono (turn n s hJ) (fun r s₁ h₁ => ?_) no)))
  cases r with
  | none => exact wpAny_pure h₁
  | some v =>
    refine wpAny_bind (wpAny_mono h₁ (fun _ sg hg => ?_) no)
    refine wpAny_bind (wpAny_mono hg (fun _ s₂ h₂ => wpAny_bind (wpAny_mono h₂ (fun ok s₃ h₃ => ?_) no)) no)
    cases ok with
    | false => exact wpAny_pure ⟨rfl, h₃⟩
    | true => exact wpAny_bind (wpAny_bind (wpAny_mono h₃ (fun x s₄ h₄ => wpAny_bind (wpAny_mono h₄ (fun _ s₅ h₅ => wpAny_pure (wpAny_pure ⟨rfl, h₅⟩)) no)) no))
end

/-- what a comprehension reads: W, the invariant by the turn, a measure, what has been laid, the block's names; D the new list -/
def tComp (wi : TI) (fr : List (Option Nat)) (g : TG) (tt : TT) (te : TE) : TE := fun σ H Q => wi σ H fun J H1 => ∀ D, H1 D = none → ∃ W : Nat → Nat → St → Hp → Prop, (∃ m, W 0 m (startB fr σ) (upd H1 D (.lst []))) ∧ ∀ i m σ H, W i m σ H →
  (J.stop i H ∧ Q (.ref D) H) ∨ (J.go i H ∧ ∀ x H2, J.yld i H x H2 → g x σ H2 fun σ3 H3 => tt σ3 H3 fun b H4 => if b = true
    then te σ3 H4 fun y H5 => ∃ ys, H5 D = some (.lst ys) ∧ ys.length < sizeLine ∧ ∃ m', m' < m ∧ W (i + 1) m' σ3 (upd H5 D (.lst (ys ++ [y])))
    else ∃ m', m' < m ∧ W (i + 1) m' σ3 H4)

section
variable {X : Cx} {elt tg iter : Expr} {ifs : List Expr} {scope : Scope} {pos : Pos} {N : List Str} {fr : List (Option Nat)} {cl : List (Str × Addr)} {wi : TI} {g : TG} {tt : TT} {te : TE}

/-- the block's loop -/
theorem comp_in (B : Blk X N fr scope cl) (hc : X.calm = true)
    (hg : ∀ pins fp s H, PG (cxB X pins N scope cl fp s H) tg g) (ht : ∀ pins fp s H, PTs (cxB X pins N scope cl fp s H) ifs tt) (he : ∀ pins fp s H, PE (cxB X pins N scope cl fp s H) elt te)
    {pins : List (Addr × Obj)} {s3 : Shared} {σ : St} {H3 : Hp} {Q : VK} {it D : Addr} {fp : List Addr} {tn : Nat → Heap → Prop} {J : It} (I3 : Inv X pins σ H3 s3) (T : Turn X.prog X.w X.K tg J fp it tn) (st3 : tn 0 s3.heap) (f3 : ∀ b ∈ fp, FpOk X pins H3 b ∧ b < s3.heap.objs.size)
    {W : Nat → Nat → St → Hp → Prop} {m0 : Nat} (w0 : W 0 m0 (startB fr σ) H3)
    (turn : ∀ i m σ H, W i m σ H → (J.stop i H ∧ Q (.ref D) H) ∨ (J.go i H ∧ ∀ x H2, J.yld i H x H2 → g x σ H2 fun σ3 H3 => tt σ3 H3 fun b H4 => if b = true
        then te σ3 H4 fun y H5 => ∃ ys, H5 D = some (.lst ys) ∧ ys.length < sizeLine ∧ ∃ m', m' < m ∧ W (i + 1) m' σ3 (upd H5 D (.lst (ys ++ [y])))
        else ∃ m', m' < m ∧ W (i + 1) m' σ3 H4))
    {R : Result → Shared → Prop} (hR : ∀ s' H', Inv X pins σ H' s' → FpOk X pins H' s3.heap.objs.size → (∃ m, s'.heap.Ns s3.heap.objs.size m) → Q (.ref D) H' → R (.ok .next) s')
    {h₁ : Heap} {t1 : Nat} (hns : h₁.Ns s3.heap.objs.size fun _ => none) (up3 : ∀ b o, s3.heap.get? b = some o → h₁.get? b = some o) :
    codeAny (model X.prog X.w) X.A (.compLoop (.ListComp elt [⟨tg, iter, ifs, 0⟩] scope pos) 0 (.ref it) (.ref D) (compEnvC scope cl s3.heap.objs.size X.env)) R { s3 with heap := h₁, toks := t1 } := by
  have Ib := blk_start (t1 := t1) B I3 f3 hns up3
  have stat : ∀ {H' : Hp}, (∀ b ∈ fp, H' b = none) → ∀ b ∈ fp, FpOk (cxB X pins N scope cl fp s3 H3) [] H' b := fun hn b hb =>
    ⟨hn b hb, Nat.ne_of_lt (f3 b hb).2, (blk_ok B I3 f3).exfs b hb, .inl hb, fun x c h => (f3 b hb).1.2.2.2.2.1 x c (B.cells x c h), fun p hp => (f3 b hb).1.2.2.2.2.2 p (by rw [List.append_nil] at hp; exact hp)⟩
  refine comp_loop (fun n s' => ∃ i σ' H', Inv (cxB X pins N scope cl fp s3 H3) [] σ' H' s' ∧ tn i s'.heap ∧ (∀ b ∈ fp, H' b = none) ∧ W i n σ' H') ?_ m0
    ⟨0, _, _, Ib, T.keep _ _ _ st3 fun b _ o e => up3 b o e, fun b hb => (f3 b hb).1.1, w0⟩
  rintro n s4 ⟨i, σ4, H4, I4, st4, fr4, w4⟩
  rcases turn i n σ4 H4 w4 with ⟨stop, qn⟩ | ⟨go, step⟩
  · refine thn (T.done (cxB X pins N scope cl fp s3 H3) rfl rfl rfl hc i [] s4 σ4 H4 _ I4 (stat fr4) st4 stop) fun r s5 ⟨hr, I5⟩ => ?_
    subst hr
    have J5 : Inv X pins σ H4 s5 := I3.call' (ch := fp) I5.os I5.base I5.hok I5.bare fun b hb => ⟨(f3 b hb).1.2.2.2.1, (f3 b hb).1.2.1, (f3 b hb).1.2.2.2.2.1, (f3 b hb).1.2.2.2.2.2⟩
    obtain ⟨mm, hmm, _⟩ := I5.loc
    exact hR s5 H4 J5 (I3.fpOk (Nat.le_refl _) I5.free) ⟨mm, hmm⟩ qn
  · refine thn (T.item (cxB X pins N scope cl fp s3 H3) rfl rfl rfl hc i [] s4 σ4 H4 _ I4 (stat fr4) st4 go) fun r s5 ⟨u, hr, h5⟩ => ?_
    subst hr
    refine thn h5 fun _ s6 ⟨x, H6, I6, r6, y6, st6, fr6⟩ => ?_
    have I6' := I6.pinned (stat fr6) (T.obj _ _ st6)
    have back : ∀ {s7 : Shared} {σ7 : St} {H7 : Hp} {m' : Nat}, Inv (cxB X pins N scope cl fp s3 H3) ([] ++ pinsAt fp s6.heap) σ7 H7 s7 → m' < n → W (i + 1) m' σ7 H7 →
        ∃ m, m < n ∧ ∃ i σ' H', Inv (cxB X pins N scope cl fp s3 H3) [] σ' H' s7 ∧ tn i s7.heap ∧ (∀ b ∈ fp, H' b = none) ∧ W i m σ' H' := fun {s7 σ7 H7 m'} I7 hm w7 => by
      refine ⟨m', hm, i + 1, σ7, H7, I7.unpinned, T.keep _ _ _ st6 fun b hb o e => (I7.pin (b, o) (List.mem_append_right _ (List.mem_append_right _ (mem_pinsAt hb e)))).1, fun b hb => ?_, w7⟩
      obtain ⟨o, e, d⟩ := T.obj _ _ st6 b hb
      exact (I7.pin (b, o) (List.mem_append_right _ (List.mem_append_right _ (mem_pinsAt hb e)))).2.1
    refine thn (hg _ _ _ _ _ s6 σ4 H6 x u _ I6' r6 (step x H6 y6)) fun _ s7 ⟨σ7, H7, I7, q7⟩ => ?_
    refine thn (ht _ _ _ _ _ s7 σ7 H7 _ I7 q7) fun ok s8 ⟨H8, I8, q8⟩ => ?_
    cases ok with
    | false =>
      rw [if_neg (by decide)] at q8 ⊢
      obtain ⟨m', hm, w8⟩ := q8
      exact back I8 hm w8
    | true =>
      rw [if_pos rfl] at q8 ⊢
      refine thn (he _ _ _ _ _ s8 σ7 H8 _ I8 q8) fun y s9 ⟨v9, H9, I9, r9, ys, hD9, hl9, m', hm, w9⟩ => ?_
      refine thn (mt_append _ s9 σ7 H9 (.ref D) [v9] _ [y] (fun _ H' => W (i + 1) m' σ7 H') I9 rfl (.cons r9 .nil) ⟨_, ys, v9, rfl, rfl, hD9, hl9, w9⟩) fun _ s10 ⟨_, H10, I10, _, q10⟩ => ?_
      exact back I10 hm q10

/-- the block: from its iterator on -/
theorem comp_blk (B : Blk X N fr scope cl) (hc : X.calm = true)
    (hg : ∀ pins fp s H, PG (cxB X pins N scope cl fp s H) tg g) (ht : ∀ pins fp s H, PTs (cxB X pins N scope cl fp s H) ifs tt) (he : ∀ pins fp s H, PE (cxB X pins N scope cl fp s H) elt te)
    {pins : List (Addr × Obj)} {s2 : Shared} {σ : St} {H2 : Hp} {Q : VK} {E : Value → Shared → Prop} {it : Addr} {fp : List Addr} {tn : Nat → Heap → Prop} {J : It} (I2 : Inv X pins σ H2 s2) (T : Turn X.prog X.w X.K tg J fp it tn) (st2 : tn 0 s2.heap) (f2 : ∀ b ∈ fp, FpOk X pins H2 b)
    (q : ∀ D, H2 D = none → ∃ W : Nat → Nat → St → Hp → Prop, (∃ m, W 0 m (startB fr σ) (upd H2 D (.lst []))) ∧ ∀ i m σ H, W i m σ H →
      (J.stop i H ∧ Q (.ref D) H) ∨ (J.go i H ∧ ∀ x H2, J.yld i H x H2 → g x σ H2 fun σ3 H3 => tt σ3 H3 fun b H4 => if b = true
        then te σ3 H4 fun y H5 => ∃ ys, H5 D = some (.lst ys) ∧ ys.length < sizeLine ∧ ∃ m', m' < m ∧ W (i + 1) m' σ3 (upd H5 D (.lst (ys ++ [y])))
        else ∃ m', m' < m ∧ W (i + 1) m' σ3 H4))
    {RR : Value → Addr → Result → Shared → Prop}
    (hRR : ∀ D C s' H', Inv X pins σ H' s' → FpOk X pins H' C → (∃ m, s'.heap.Ns C m) → Q (.ref D) H' → RR (.ref D) C (.ok .next) s') :
    wpAny (model X.prog X.w) X.A (newList []) (fun acc s₃ => wpAny (model X.prog X.w) X.A (newFunctionEnv scope X.env.globals cl [] X.env.qual none .none (some X.env)) (fun cenv s₄ =>
      codeAny (model X.prog X.w) X.A (.compStart (.ListComp elt [⟨tg, iter, ifs, 0⟩] scope pos) 0 (.ref it) acc { cenv with scope := relabel scope X.env }) (RR acc cenv.locals) s₄) E s₃) E s2 := by
  have hD : H2 s2.heap.objs.size = none := I2.hok.fresh (Nat.le_refl _)
  obtain ⟨W, ⟨m0, w0⟩, turn⟩ := q s2.heap.objs.size hD
  have I3 := I2.lnew (ys := []) (its := []) (t' := s2.toks) .nil (by decide)
  have lt2 : ∀ b ∈ fp, b < s2.heap.objs.size := fun b hb => by
    obtain ⟨o, e, _⟩ := T.obj _ _ st2 b hb
    exact Heap.lt_size e
  refine wpAny_newObj_type (wpAny_newFunctionEnv B.nocell (by intro y hy; simp at hy) (fun h₁ hns hsb => ?_) B.kind)
  have up2 : ∀ b o, s2.heap.get? b = some o → (s2.heap.push { cls := .type "list", data := .seq ([] : List Value).toArray }).get? b = some o := fun b o e => Heap.get?_push_of_some _ e
  have up3 : ∀ b o, (s2.heap.push { cls := .type "list", data := .seq ([] : List Value).toArray }).get? b = some o → h₁.get? b = some o := fun b o e => hsb.extBut b o (Nat.ne_of_lt (Heap.lt_size e)) (Heap.get?_push_of_some _ e)
  have f3 : ∀ b ∈ fp, FpOk X pins (upd H2 s2.heap.objs.size (.lst [])) b ∧ b < (s2.heap.push { cls := .type "list", data := .seq ([] : List Value).toArray }).objs.size := fun b hb => by
    refine ⟨⟨?_, (f2 b hb).2⟩, ?_⟩
    · rw [upd_ne (Nat.ne_of_lt (lt2 b hb))]
      exact (f2 b hb).1
    · rw [Heap.size_push]
      exact Nat.lt_succ_of_lt (lt2 b hb)
  have fin := comp_in (iter := iter) (pos := pos) (D := s2.heap.objs.size) (t1 := s2.toks) (R := RR (.ref s2.heap.objs.size) (s2.heap.push { cls := .type "list", data := .seq ([] : List Value).toArray }).objs.size) B hc hg ht he I3 T (T.keep _ _ _ st2 fun b _ o e => up2 b o e) f3 w0 turn
    (fun s' H' J' f m q => hRR _ _ s' H' J' f m q) hns up3
  exact codeAny_compStart_list fin (T.self _ 0 _ _ _ (T.keep _ _ _ st2 fun b _ o e => up3 b o (up2 b o e)) fin)

/-- [elt for tg in iter if ..] as a value -/
theorem pe_comp {sc : Scope} {NX : List Str} (S : BlkS sc scope NX N fr) (e1 : X.env.scope = sc) (e2 : X.N = NX) (hc : X.calm = true) (hi : PI X tg iter wi)
    (hg : ∀ pins fp s H, PG (cxB X pins N scope (clOf scope X.env) fp s H) tg g) (ht : ∀ pins fp s H, PTs (cxB X pins N scope (clOf scope X.env) fp s H) ifs tt) (he : ∀ pins fp s H, PE (cxB X pins N scope (clOf scope X.env) fp s H) elt te)
    (hs : ∀ x, foldedSetIterable iter X.env x = pure x := by intro _; rfl) : PE X (.ListComp elt [⟨tg, iter, ifs, 0⟩] scope pos) (tComp wi fr g tt te) := by
  intro pins s σ H Q I h
  have B := S.blk e1 e2 I.ok
  rw [eval_ListComp]
  refine wpAny_comprehension_free (use := none) rfl hs B.clos B.kind B.names (thn (hi pins s σ H _ I h) fun v s1 h1 => thn h1 fun itv s2 h2 => ?_)
  obtain ⟨it, fp, tn, J, H2, e, I2, T, st2, f2, q⟩ := h2
  subst e
  refine comp_blk (RR := fun acc C => compPost (model X.prog X.w) X.A X.xe none (EP X pins σ Q) acc C) B hc hg ht he I2 T st2 f2 q ?_
  intro D C s' H' J' fC ⟨m, hm⟩ qn
  refine ⟨m, hm, fun h' hs' => ⟨.ref D, H', ?_, rfl, qn⟩⟩
  obtain ⟨f0, f1, _, f3, f4, f5⟩ := fC
  exact J'.turned (t' := s'.toks) (fun b o hb e => (hs'.2 b hb).trans e) f0 f1 f3 f4 f5
end
end L2

/-! MY OWN RULES, part 4: the defs of a text in bundles; small helps -/
namespace L2
open PySem PySem.Spec PyProof.Rows

/-- a def, with any defaults -/
structure FunD (K : PySem.W.Frag) (x qual : Str) (st : Stmt) (f : Addr) (fd : FuncData) (dV : Value) : Prop where
  ex : ∃ (oc : Value) (od : Option Addr) (kV doc pm : Value) (an : Option Addr) (cdv ct : Value) (osl : Array (Option Value)),
    fd = PySem.W.fnOf x qual (defArgs st) (defBody st) (defScope st) dV kV doc pm an cdv ct ∧ K.lookup f = some ⟨oc, od, .func fd, osl⟩ ∧ PySem.W.codeIn K cdv qual = true
  kp : PySem.W.keepIn K (.ref f) = true
section
variable {P : Program} {w : World} {K : PySem.W.Frag} {mg : Str → Option Value} {base : Heap}
theorem FunD.ok {x qual : Str} {st : Stmt} {f : Addr} {fd : FuncData} {dV : Value} {N ps : List Str} {k : Nat} {sp : Sp} (F : FunD K x qual st f fd dV) (S : FnScope N ps (defScope st)) (len : ∀ vs H Q E, sp vs H Q E → vs.length = ps.length)
    (hbody : ∀ (cdv : Value) (A : Around) (outer : List Env) (s : Shared) (H : Hp) (vs : List V) (Q : VK) (E : XK), Room k (A.deeper (envOfC qual (defScope st) s.heap.objs.size f cdv)) → sp vs H Q E →
      ∃ t, PSs (cxOf CX0 P w K mg base N qual (defScope st) f cdv A outer s H E).nox (defBody st) t ∧ t { nx := fun _ H' => Q .non H', rt := Q } (start N vs) H) : FnOk P w K mg base CX0 (k + 1) f fd ps sp := by
  obtain ⟨oc, od, kV, doc, pm, an, cdv, ct, osl, rfl, lk, hcd⟩ := F.ex
  refine fn_of lk hcd S len fun A outer s H vs Q E hr hsp => ?_
  obtain ⟨t, h, q⟩ := hbody cdv A outer s H vs Q E hr hsp
  exact ⟨t, h.nox, q⟩
theorem funD_mk {x qual : Str} {st : Stmt} {f : Addr} {oc dV : Value} {od an : Option Addr} {osl : Array (Option Value)} {kV doc pm cdv ct : Value} (l : K.lookup f = some ⟨oc, od, .func (PySem.W.fnOf x qual (defArgs st) (defBody st) (defScope st) dV kV doc pm an cdv ct), osl⟩)
    (c : PySem.W.codeIn K cdv qual = true) (k : PySem.W.keepIn K (.ref f) = true) : FunD K x qual st f (PySem.W.fnOf x qual (defArgs st) (defBody st) (defScope st) dV kV doc pm an cdv ct) dV := ⟨⟨oc, od, kV, doc, pm, an, cdv, ct, osl, rfl, l, c⟩, k⟩

/-- a def of the module, as it stands behind the top; as it may be called -/
def Def (K : PySem.W.Frag) (mg : Str → Option Value) (x q : Str) (st : Stmt) (ps : List Str) : Prop := ∃ f fd, Fun K x q st f fd ∧ Binds K fd ps [] ∧ mg x = some (.ref f)
structure Cal (P : Program) (w : World) (K : PySem.W.Frag) (mg : Str → Option Value) (base : Heap) (k : Nat) (x : Str) (ps : List Str) (sp : Sp) (f : Addr) (fd : FuncData) : Prop where
  ok : FnOk P w K mg base CX0 k f fd ps sp
  kp : PySem.W.keepIn K (.ref f) = true
  b : Binds K fd ps []
  g : mg x = some (.ref f)
def CalE (P : Program) (w : World) (K : PySem.W.Frag) (mg : Str → Option Value) (base : Heap) (k : Nat) (x : Str) (ps : List Str) (sp : Sp) : Prop := ∃ f fd, Cal P w K mg base k x ps sp f fd
theorem Def.cal {x q : Str} {st : Stmt} {N ps : List Str} {k : Nat} {sp : Sp} (D : Def K mg x q st ps) (S : FnScope N ps (defScope st)) (len : ∀ vs H Q E, sp vs H Q E → vs.length = ps.length)
    (hbody : ∀ (f : Addr) (cdv : Value) (A : Around) (outer : List Env) (s : Shared) (H : Hp) (vs : List V) (Q : VK) (E : XK), Room k (A.deeper (envOfC q (defScope st) s.heap.objs.size f cdv)) → sp vs H Q E →
      ∃ t, PSs (cxOf CX0 P w K mg base N q (defScope st) f cdv A outer s H E).nox (defBody st) t ∧ t { nx := fun _ H' => Q .non H', rt := Q } (start N vs) H) : CalE P w K mg base (k + 1) x ps sp := by
  obtain ⟨f, fd, F, b, g⟩ := D
  exact ⟨f, fd, F.ok S len (hbody f), F.kp, b, g⟩
/-- a method -/
def DefM (K : PySem.W.Frag) (C : Addr) (m q : Str) (st : Stmt) (ps : List Str) : Prop := ∃ f fd, Fun K m q st f fd ∧ Binds K fd ps [] ∧ Meth K C m f
structure CalM (P : Program) (w : World) (K : PySem.W.Frag) (mg : Str → Option Value) (base : Heap) (k : Nat) (C : Addr) (m : Str) (ps : List Str) (sp : Sp) (f : Addr) (fd : FuncData) : Prop where
  ok : FnOk P w K mg base CX0 k f fd ps sp
  m : Meth K C m f
  b : Binds K fd ps []
def CalME (P : Program) (w : World) (K : PySem.W.Frag) (mg : Str → Option Value) (base : Heap) (k : Nat) (C : Addr) (m : Str) (ps : List Str) (sp : Sp) : Prop := ∃ f fd, CalM P w K mg base k C m ps sp f fd
theorem DefM.cal {C : Addr} {m q : Str} {st : Stmt} {N ps : List Str} {k : Nat} {sp : Sp} (D : DefM K C m q st ps) (S : FnScope N ps (defScope st)) (len : ∀ vs H Q E, sp vs H Q E → vs.length = ps.length)
    (hbody : ∀ (f : Addr) (cdv : Value) (A : Around) (outer : List Env) (s : Shared) (H : Hp) (vs : List V) (Q : VK) (E : XK), Room k (A.deeper (envOfC q (defScope st) s.heap.objs.size f cdv)) → sp vs H Q E →
      ∃ t, PSs (cxOf CX0 P w K mg base N q (defScope st) f cdv A outer s H E).nox (defBody st) t ∧ t { nx := fun _ H' => Q .non H', rt := Q } (start N vs) H) : CalME P w K mg base (k + 1) C m ps sp := by
  obtain ⟨f, fd, F, b, g⟩ := D
  exact ⟨f, fd, F.ok S len (hbody f), g, b⟩
/-- a class's __init__, with int defaults ds for its last parameters: any tail of them may be left to it -/
def DefI (K : PySem.W.Frag) (C : Addr) (q : Str) (st : Stmt) (ps : List Str) (ds : List Int) : Prop := ∃ f fd dV, FunD K "__init__" q st f fd dV ∧ Mk K C f ∧ ∀ j, j ≤ ds.length → ∃ us, Vals ((ds.drop j).map V.int) us ∧ Binds K fd ps us
structure CalI (P : Program) (w : World) (K : PySem.W.Frag) (mg : Str → Option Value) (base : Heap) (k : Nat) (C : Addr) (ps : List Str) (ds : List Int) (sp : Sp) (f : Addr) (fd : FuncData) : Prop where
  ok : FnOk P w K mg base CX0 k f fd ps sp
  m : Mk K C f
  b : ∀ j, j ≤ ds.length → ∃ us, Vals ((ds.drop j).map V.int) us ∧ Binds K fd ps us
def CalIE (P : Program) (w : World) (K : PySem.W.Frag) (mg : Str → Option Value) (base : Heap) (k : Nat) (C : Addr) (ps : List Str) (ds : List Int) (sp : Sp) : Prop := ∃ f fd, CalI P w K mg base k C ps ds sp f fd
theorem DefI.cal {C : Addr} {q : Str} {st : Stmt} {N ps : List Str} {ds : List Int} {k : Nat} {sp : Sp} (D : DefI K C q st ps ds) (S : FnScope N ps (defScope st)) (len : ∀ vs H Q E, sp vs H Q E → vs.length = ps.length)
    (hbody : ∀ (f : Addr) (cdv : Value) (A : Around) (outer : List Env) (s : Shared) (H : Hp) (vs : List V) (Q : VK) (E : XK), Room k (A.deeper (envOfC q (defScope st) s.heap.objs.size f cdv)) → sp vs H Q E →
      ∃ t, PSs (cxOf CX0 P w K mg base N q (defScope st) f cdv A outer s H E).nox (defBody st) t ∧ t { nx := fun _ H' => Q .non H', rt := Q } (start N vs) H) : CalIE P w K mg base (k + 1) C ps ds sp := by
  obtain ⟨f, fd, dV, F, g, b⟩ := D
  exact ⟨f, fd, F.ok S len (hbody f), g, b⟩
end
theorem Same.new {H : Hp} {p : Addr} {o : HO} (h : H p = none) : Same H (upd H p o) := fun b q e => by
  rw [upd_ne (ne_of_none e h)]; exact e
theorem Same.not {H H' : Hp} (e : Same H H') {b p : Addr} {o : HO} (h : H b = some o) (n : H' p = none) : b ≠ p := ne_of_none (e b o h) n
/-- lists of ints, read -/
theorem int_at {ns : List Int} {i : Nat} {y : V} (h : (ns.map V.int)[i]? = some y) : ∃ z, ns[i]? = some z ∧ y = V.int z := by
  rw [List.getElem?_map] at h
  cases e : ns[i]? with
  | none => rw [e] at h; cases h
  | some z => rw [e] at h; exact ⟨z, rfl, (Option.some.inj h).symm⟩
end L2
namespace L2
open PySem
theorem bt_len : bootBuiltins "len" = some (.builtin "len") := PySem.boot_len
theorem bt_isinstance : bootBuiltins "isinstance" = some (.builtin "isinstance") := by decide +kernel
theorem bt_int : bootBuiltins "int" = some (.type "int") := by decide +kernel
theorem bt_bool : bootBuiltins "bool" = some (.type "bool") := by decide +kernel
theorem bt_list : bootBuiltins "list" = some (.type "list") := by decide +kernel
theorem bt_sum : bootBuiltins "sum" = some (.builtin "sum") := by decide +kernel
theorem iteP {c A B : Prop} [Decidable c] (hc : c) (h : A) : if decide c = true then A else B := by
  rw [if_pos (decide_eq_true hc)]; exact h
theorem iteN {c A B : Prop} [Decidable c] (hc : ¬ c) (h : B) : if decide c = true then A else B := by
  rw [if_neg (by rw [decide_eq_false hc]; decide)]; exact h
/-- an item of a written list at a place in its bounds -/
theorem atI_in {α : Type} {xs : List α} {i : Int} (h0 : 0 ≤ i) (h1 : i < xs.length) : ∃ v, v ∈ xs ∧ atI xs i = some v := by
  have hl : i.toNat < xs.length := by omega
  refine ⟨xs[i.toNat], List.getElem_mem hl, ?_⟩
  have := atI_nat (List.getElem?_eq_getElem hl)
  rwa [Int.toNat_of_nonneg h0] at this
end L2
namespace L2
open PySem PySem.Spec PyProof.Rows
/-- written constants, one after another -/
inductive CstEs : List Expr → List V → Prop where
  | nil : CstEs [] []
  | int {i : Int} {j} {pos : Pos} {es : List Expr} {vs : List V} (t : CstEs es vs) : CstEs (.Constant (.int i) j pos :: es) (.int i :: vs)
  | str {x : Str} {j} {pos : Pos} {es : List Expr} {vs : List V} (t : CstEs es vs) : CstEs (.Constant (.str x) j pos :: es) (.str x :: vs)
def tCsts (vs : List V) : TA := fun _ H Q => Q vs H
theorem pa_csts {X : Cx} {es : List Expr} {vs : List V} (h : CstEs es vs) : PA X es (tCsts vs) := by
  induction h with
  | nil => exact pa_nil
  | int t ih => exact fun pos pins s σ H Q I q => pa_cons pe_int ih rfl pos pins s σ H Q I q
  | str t ih => exact fun pos pins s σ H Q I q => pa_cons pe_str ih rfl pos pins s σ H Q I q
/-! ### isinstance's answers -/
section
variable {K : PySem.W.Frag}
theorem kit_same {T : String} : PySem.W.kitOne K (.type T) (.type T) = some true := by
  unfold PySem.W.kitOne
  rw [if_pos (by simp)]
theorem kit_bt {T U : String} {b : Bool} (h1 : (Value.type T == Value.type U) = false) (h2 : PySem.W.kitMeta U = true) (h3 : (fastBuiltinMro T).map (·.contains (Value.type U)) = some b) : PySem.W.kitOne K (.type T) (.type U) = some b := by
  unfold PySem.W.kitOne
  rw [if_neg (by rw [h1]; decide)]
  unfold PySem.W.kitCls
  dsimp only
  rw [if_pos h2]
  exact h3
theorem kit_int_bool : PySem.W.kitOne K (.type "int") (.type "bool") = some false := kit_bt (by decide +kernel) (by decide +kernel) (by decide +kernel)
end
end L2

/-! MY OWN RULES, part 5: y = [..], sum, join, == of lists -/
namespace L2
open PySem PySem.Spec PyProof.Rows
section
variable {X : Cx} {elt tg iter : Expr} {ifs : List Expr} {scope : Scope} {pos spos py : Pos} {N : List Str} {fr : List (Option Nat)} {wi : TI} {g : TG} {tt : TT} {te : TE}
/-- y = [elt for tg in iter if ..]: the name is stored ahead of the block's end -/
theorem ps_setC {i : Nat} {y : Str} {sc : Scope} {NX : List Str} (hN : X.N.Nodup) (hi' : X.N[i]? = some y) (hy : Loc X.env.scope y) (S : BlkS sc scope NX N fr) (e1 : X.env.scope = sc) (e2 : X.N = NX) (hc : X.calm = true) (hi : PI X tg iter wi)
    (hg : ∀ pins fp s H, PG (cxB X pins N scope (clOf scope X.env) fp s H) tg g) (ht : ∀ pins fp s H, PTs (cxB X pins N scope (clOf scope X.env) fp s H) ifs tt) (he : ∀ pins fp s H, PE (cxB X pins N scope (clOf scope X.env) fp s H) elt te)
    (hsw : swapsWith (.ListComp elt [⟨tg, iter, ifs, 0⟩] scope pos) (some (.Name y py)) spos.line X.env = pure true := by rfl) (hs : ∀ x, foldedSetIterable iter X.env x = pure x := by intro _; rfl)
    (hf : X.fn y = true ∨ X.env.scope.names.lookup y = some .local := by first | exact .inl rfl | exact .inr rfl | assumption) :
    PS X (.Assign [.Name y py] (.ListComp elt [⟨tg, iter, ifs, 0⟩] scope pos) spos) (tAsg (tComp wi fr g tt te) (gName i)) := by
  intro pins s σ H D I h
  have B := S.blk e1 e2 I.ok
  rw [exec_Assign_Name_used _ _ _ _ hsw]
  refine wpAny_bind (wpAny_standAt (wpAny_bind ?_))
  show wpAny _ X.A (do let _ ← comprehension (.ListComp elt [⟨tg, iter, ifs, 0⟩] scope pos) scope X.env _ (newList []) false (eval iter X.env) (some (assign (.Name y py) X.env))) _ _ s
  refine wpAny_bind (wpAny_mono (wpAny_comprehension_free (use := some (assign (.Name y py) X.env)) (Q := fun _ s' => SP X pins D .next s') rfl hs B.clos B.kind B.names (thn (hi pins s σ H _ I h) fun v s1 h1 => thn h1 fun itv s2 h2 => ?_)) (fun _ s' hq => wpAny_pure (wpAny_pure hq)) fun _ _ e => e)
  obtain ⟨it, fp, tn, J, H2, e, I2, T, st2, f2, q⟩ := h2
  subst e
  refine comp_blk (Q := fun v H' => gName i v σ H' D.nx) (RR := fun acc C => compPost (model X.prog X.w) X.A X.xe (some (assign (.Name y py) X.env)) (fun _ s' => SP X pins D .next s') acc C) B hc hg ht he I2 T st2 f2 q ?_
  intro D' C s' H' J' fC ⟨m, hm⟩ qn
  obtain ⟨f0, f1, _, f3, f4, f5⟩ := fC
  show wpAny _ X.A (assign (.Name y py) X.env (.ref D')) _ _ _
  refine wpAny_assign_Name (store_ok2 J' hN hi' hy (v := .ref D') rfl (fun s'' J'' ⟨a, sb, ha⟩ => ?_) hf)
  have hCa : C ≠ a := by
    rcases ha with z | z
    · rw [z]; exact f1
    · exact fun w' => f4 _ _ z w'.symm
  refine ⟨m, hm.sameBut sb hCa, fun h' hs' => ⟨_, H', ?_, qn⟩⟩
  exact J''.turned (t' := s''.toks) (fun b o hb e => (hs'.2 b hb).trans e) f0 f1 f3 f4 f5
end
/-- in a block the reading may not hang on the block: K and the number of targets told -/
theorem pg_tupK {X : Cx} {es : List Expr} {k : Nat} {pos : Pos} {t : TGs} (K : PySem.W.Frag) (n : Nat) (hK : X.K = K) (hc : X.calm = true) (h : PGs X es t) (hn : (assignEach es X.env).length = n := by rfl) (hst : (assignEach es X.env).findIdx? (·.1) = none := by rfl) : PG X (.Tuple es k pos) (gTup K n t) := by
  subst hK
  exact pg_tup hc h hn hst
end L2

/-! MY OWN RULES, part 6: sum, join, insert, deep ==, two ways to read one expression -/
namespace L2
open PySem PySem.Spec PyProof.Rows
section
variable {X : Cx}
def tOr2 (t u : TE) : TE := fun σ H Q => t σ H Q ∨ u σ H Q
theorem call_sum (hc : X.calm = true) : CallR X (.builtin "sum") (fun xs H Q => ∃ p, ∃ ns : List Int, xs = [.ref p] ∧ SqL X.K H p (ns.map V.int) ∧ Q (.int ns.sum) H) := by
  intro pins s σ H xs us Q I r h
  obtain ⟨p, ns, rfl, hS, q⟩ := h
  obtain ⟨u, rfl, ru⟩ := vals1 r
  cases ru
  obtain ⟨its, rv, pl, hz⟩ := I.list hS
  have hi : IntsAre its ns := intsAre_of rv
  obtain ⟨ys, hy⟩ := hi.allInts.items
  have hl : s.heap.IsList p (intItems ys) := hy ▸ pl.isList
  refine sum_intListG (I.ok.hd hc) hl fun h' tk t' hk => ?_
  have e1 : ns = ys.toList.map (·.1) := by
    rw [← nums_intItems, ← hy]
    exact (show numsOf its.toArray.toList = ns from hi.numsOf).symm
  have e2 : preSum (numAt ys) ys.size = ns.sum := by rw [preSum_eq, List.take_of_length_le (by simp), e1]
  exact ⟨.int ns.sum, H, I.kept hk, ⟨_, by rw [e2]⟩, q⟩
/-- sep.join(a list of texts) -/
def rJoin (K : PySem.W.Frag) : V → List V → Hp → VK → Prop := fun x vs H Q => ∃ z l, ∃ ys : List Str, x = .str z ∧ vs = [.ref l] ∧ SqL K H l (ys.map V.str) ∧ (ys.map (·.length)).sum + ys.length * z.length ≤ 16777216 ∧ Q (.str (Txt.join z ys)) H
/-! ### == at any depth: ints, texts, bools, lists and tuples of these -/
mutual
inductive RdD (K : PySem.W.Frag) (H : Hp) : V → PyData → Prop where
  | non : RdD K H .non .none
  | bl (b : Bool) : RdD K H (.bl b) (.bool b)
  | int (i : Int) : RdD K H (.int i) (.int i)
  | str (x : Str) : RdD K H (.str x) (.str x)
  | lst {a : Addr} {xs : List V} {ds : List PyData} (h : SqL K H a xs) (t : RdDs K H xs ds) : RdD K H (.ref a) (.list ds)
  | tup {a : Addr} {xs : List V} {ds : List PyData} (h : SqT K H a xs) (t : RdDs K H xs ds) : RdD K H (.ref a) (.tuple ds)
inductive RdDs (K : PySem.W.Frag) (H : Hp) : List V → List PyData → Prop where
  | nil : RdDs K H [] []
  | cons {x : V} {d : PyData} {xs : List V} {ds : List PyData} (h : RdD K H x d) (t : RdDs K H xs ds) : RdDs K H (x :: xs) (d :: ds)
end
mutual
theorem reads_of {pins : List (Addr × Obj)} {σ : St} {H : Hp} {s : Shared} (I : Inv X pins σ H s) {x : V} {d : PyData} (h : RdD X.K H x d) {u : Value} (r : RelV x u) : ∃ as, Reads s.heap u d as := by
  cases h with
  | non => cases (show u = Value.none from r); exact ⟨_, .none⟩
  | bl b => cases (show u = Value.bool b from r); exact ⟨_, .bool b⟩
  | int i => obtain ⟨t, rfl⟩ := (show ∃ t, u = Value.int i t from r); exact ⟨_, .int i t⟩
  | str y => obtain ⟨t, rfl⟩ := (show ∃ t, u = Value.str y t from r); exact ⟨_, .str y t⟩
  | @lst a xs ds hS t =>
    cases (show u = Value.ref a from r)
    obtain ⟨its, rv, p, _⟩ := I.list hS
    obtain ⟨o, ho, hc, n, hd⟩ := p.isList
    obtain ⟨as, ra⟩ := readsAll_of I t rv
    exact ⟨_, .list ho hc hd (by simpa using ra)⟩
  | @tup a xs ds hS t =>
    cases (show u = Value.ref a from r)
    obtain ⟨its, rv, p, _⟩ := I.tuple hS
    obtain ⟨o, ho, hc, n, hd⟩ := p
    obtain ⟨as, ra⟩ := readsAll_of I t rv
    exact ⟨_, .tuple ho hc hd (by simpa using ra)⟩
theorem readsAll_of {pins : List (Addr × Obj)} {σ : St} {H : Hp} {s : Shared} (I : Inv X pins σ H s) {xs : List V} {ds : List PyData} (h : RdDs X.K H xs ds) {us : List Value} (r : Vals xs us) : ∃ as, ReadsAll s.heap us ds as := by
  cases h with
  | nil => cases r; exact ⟨_, .nil⟩
  | cons h t =>
    cases r with
    | cons r1 r2 =>
      obtain ⟨as, ra⟩ := reads_of I h r1
      obtain ⟨bs, rb⟩ := readsAll_of I t r2
      exact ⟨_, .cons ra rb⟩
end
def rEqR (neg : Bool) (K : PySem.W.Frag) : R2 := fun x y H Q => ∃ d e, RdD K H x d ∧ RdD K H y e ∧ SeqAt.shaped d = true ∧ SeqAt.shaped e = true ∧ Q (.bl (neg ^^ PyData.eqv d e)) H
theorem op_neR (hu : X.A.units + 64 < cLine) : OpR X (compareOp .NotEq) (rEqR true X.K) := by
  intro pins s σ H x y v u Q I rx ry h
  obtain ⟨d, e, hd, he, sd, se, q⟩ := h
  obtain ⟨as, ra⟩ := reads_of I hd rx
  obtain ⟨bs, rb⟩ := reads_of I he ry
  exact SeqAt.compareNe_shaped ra rb sd se hu ⟨.bl (!PyData.eqv d e), H, I, rfl, by simpa using q⟩
theorem RdDs.ints {K : PySem.W.Frag} {H : Hp} : ∀ ns : List Int, RdDs K H (ns.map V.int) (ns.map PyData.int)
  | [] => .nil
  | i :: r => .cons (.int i) (RdDs.ints r)
/-- xs.insert(0, y) -/
def rInsert0 : V → List V → Hp → VK → Prop := fun x vs H Q => ∃ l xs y, x = .ref l ∧ vs = [.int 0, y] ∧ H l = some (.lst xs) ∧ xs.length < sizeLine ∧ Q .non (upd H l (.lst (y :: xs)))
end
end L2

/-! MY OWN RULES, part 7: ints of many bits; zip and enumerate walked; what both ways of an if leave -/
namespace L2
open PySem PySem.Spec PyProof.Rows
/-- within 2 ^ n either way -/
def Fit (n : Nat) (i : Int) : Prop := i.natAbs < 2 ^ n
theorem Fit.bits {n : Nat} {i : Int} (h : Fit n i) : Builtin.Int.intBits i ≤ n := by
  unfold Builtin.Int.intBits
  by_cases e : i = 0
  · rw [if_pos (by simp [e])]; exact Nat.zero_le _
  · rw [if_neg (by simp [e])]
    have h0 : i.natAbs ≠ 0 := by omega
    have := (Nat.log2_lt h0).mpr h
    omega
theorem Fit.mono {m n : Nat} {i : Int} (h : Fit m i) (hn : m ≤ n) : Fit n i := Nat.lt_of_lt_of_le h (Nat.pow_le_pow_right (by decide) hn)
theorem Fit.log {n : Nat} {i : Int} (h : Fit n i) (hn : 0 < n) : i.natAbs.log2 < n := by
  by_cases e : i.natAbs = 0
  · rw [e]; simpa using hn
  · exact (Nat.log2_lt e).mpr h
def CMulF (i j : Int) : Prop := CMul i j ∨ ∃ m n, Fit m i ∧ Fit n j ∧ m + n ≤ 134217728
theorem CMulF.ok {i j : Int} (h : CMulF i j) : IntMulOk i j := by
  rcases h with h | ⟨m, n, h1, h2, h3⟩
  · exact h.ok
  · have a := h1.bits
    have b := h2.bits
    have hc : Builtin.Int.intTooBig (Builtin.Int.intBits i + Builtin.Int.intBits j) = false := by
      unfold Builtin.Int.intTooBig bitsLine
      exact decide_eq_false (by omega)
    unfold IntMulOk
    rw [hc]
    simp
def CDivF (_ j : Int) : Prop := j ≠ 0 ∧ Fit 9000 j
section
variable {X : Cx}
theorem op_mulF : OpR X (binaryOp .Mult) (rI CMulF fun i j => .int (i * j)) := opI fun _ _ _ _ _ _ _ hc q => mul_int q hc.ok
theorem op_fdivF : OpR X (binaryOp .FloorDiv) (rI CDivF fun i j => .int (i.fdiv j)) := opI fun _ _ _ _ _ _ _ hc q => floordiv_int hc.1 q (.inl (PyProof.noPylong_of_log2 (hc.2.log (by decide))))
end
/-- behind an if: what both ways leave -/
theorem join_if {tt : TT} {A B r : TS} {D : Ends} {σ : St} {H : Hp} (Pm : St → Hp → Prop) (h : ∀ N : St → Hp → Prop, (∀ σ' H', Pm σ' H' → N σ' H') → tIfS tt A B { D with nx := N } σ H) (hr : ∀ σ' H', Pm σ' H' → r D σ' H') : tSeq (tIfS tt A B) r D σ H := h _ hr

/-! ### records of ours that turn, and a new object that is tracked -/
section
variable {X : Cx} {pins : List (Addr × Obj)} {σ : St} {H : Hp} {s : Shared} {h' : Heap}
theorem Inv.turnedN {t' : Nat} {ch : List Addr} {T : Addr} {o : HO} (I : Inv X pins σ H s) (k : ∀ b u, b ∉ ch → s.heap.get? b = some u → h'.get? b = some u) (hf : ∀ b ∈ ch, FpOk X pins H b)
    (hT : s.heap.objs.size ≤ T) (new : ObjOk X.prog X.w (upd H T o) h' T o) : Inv X pins σ (upd H T o) { s with heap := h', toks := t' } := by
  have hn := I.hok.fresh hT
  have nch : ∀ b u, H b = some u → b ∉ ch := fun b u e z => by rw [(hf b z).1] at e; cases e
  refine I.step (g' := s.gens) (d' := s.drawn) (ch := ch) (fun b hb => ⟨(hf b hb).2.2.2.1, (hf b hb).2.1, (hf b hb).2.2.2.2.1, (hf b hb).2.2.2.2.2⟩)
    (fun b u _ _ hc e _ => k b u hc e) (fun b u _ _ hc e _ => ⟨u.slots, k b u hc e⟩) (fun b u _ e n => ?_) (fun b u hc e => ⟨u, k b u hc e⟩)
    (fun b xs e => by rw [upd_ne (ne_of_none e hn)]; exact e) (fun b u v e => by rw [upd_ne (ne_of_none e hn)]; exact e) (fun b ps e => ⟨#[], by rw [upd_ne (ne_of_none e hn), e]; simp⟩) (fun m hm => ?_) (fun b u e => ?_) I.bare
  · rw [upd_ne (Nat.ne_of_lt (Nat.lt_of_lt_of_le (Heap.lt_size e) hT))]; exact n
  · obtain ⟨u, es, ep, ho, r⟩ := hm
    exact ⟨u, es, ep, k _ u (fun z => (hf _ z).2.1 rfl) ho, r⟩
  · by_cases hb : b = T
    · subst hb; rw [upd_same] at e; cases e; exact new
    · rw [upd_ne hb] at e
      refine (I.hok b u e).stay (fun c v hc q => k c v ?_ q) (fun c q => by rw [upd_ne (ne_of_none q hn)]; exact q) fun c xs q => by rw [upd_ne (ne_of_none q hn)]; exact q
      rcases hc with z | z
      · rw [z]; exact nch b u e
      · exact nch c _ z
theorem Inv.turnedE {t' : Nat} {ch : List Addr} (I : Inv X pins σ H s) (k : ∀ b u, b ∉ ch → s.heap.get? b = some u → h'.get? b = some u) (hf : ∀ b ∈ ch, FpOk X pins H b) : Inv X pins σ H { s with heap := h', toks := t' } := by
  have nch : ∀ b u, H b = some u → b ∉ ch := fun b u e z => by rw [(hf b z).1] at e; cases e
  refine I.step (g' := s.gens) (d' := s.drawn) (ch := ch) (fun b hb => ⟨(hf b hb).2.2.2.1, (hf b hb).2.1, (hf b hb).2.2.2.2.1, (hf b hb).2.2.2.2.2⟩)
    (fun b u _ _ hc e _ => k b u hc e) (fun b u _ _ hc e _ => ⟨u.slots, k b u hc e⟩) (fun b u _ e n => n) (fun b u hc e => ⟨u, k b u hc e⟩)
    (fun b xs e => e) (fun b u v e => e) (fun b ps e => ⟨#[], by rw [e]; simp⟩) (fun m hm => ?_) (fun b u e => ?_) I.bare
  · obtain ⟨u, es, ep, ho, r⟩ := hm
    exact ⟨u, es, ep, k _ u (fun z => (hf _ z).2.1 rfl) ho, r⟩
  · refine (I.hok b u e).stay (fun c v hc q => k c v ?_ q) (fun _ q => q) fun _ _ q => q
    rcases hc with z | z
    · rw [z]; exact nch b u e
    · exact nch c _ z
end

/-! ### zip of two lists -/
/-- the pairs of two lists, as they stand at each turn -/
def Itz (K : PySem.W.Frag) (a b : Addr) : It :=
  ⟨fun i H => ∃ xs ys x y, SqL K H a xs ∧ SqL K H b ys ∧ xs[i]? = some x ∧ ys[i]? = some y,
   fun i H v H' => ∃ p x y, H p = none ∧ H' = upd H p (.tup [x, y]) ∧ v = .ref p ∧ (∀ xs, SqL K H a xs → xs[i]? = some x) ∧ ∀ ys, SqL K H b ys → ys[i]? = some y,
   fun i H => ∃ xs ys, SqL K H a xs ∧ SqL K H b ys ∧ (xs.length ≤ i ∨ ys.length ≤ i)⟩
theorem cls_ne {h : Heap} {a b : Addr} {o u : Obj} (e : h.get? a = some o) (e' : h.get? b = some u) (n : o.cls ≠ u.cls) : a ≠ b := fun z => by
  subst z; rw [e] at e'; cases e'; exact n rfl
theorem neN {m n : Nat} (h : m < n ∨ n < m) : (m : Addr) ≠ n := fun z => by
  have : m = n := z
  omega
structure Five (z TI TO i1 i2 : Addr) : Prop where
  TIz : TI ≠ z
  TOz : TO ≠ z
  i1z : i1 ≠ z
  i2z : i2 ≠ z
  TITO : TI ≠ TO
  TIi1 : TI ≠ i1
  TIi2 : TI ≠ i2
  TOi1 : TO ≠ i1
  TOi2 : TO ≠ i2
  i12 : i1 ≠ i2
theorem apart_of {h : Heap} {z TI TO i1 i2 l1 l2 : Addr} {f0 a b : Value} {k1 k2 : Nat} {xs ys : Array Value} (F : Five z TI TO i1 i2) (hz : IsZip h z TI TO f0) (hTO : IsPair h TO a b) (h1 : h.IsListIter i1 l1 k1) (h2 : h.IsListIter i2 l2 k2)
    (e1 : h.IsList l1 xs) (e2 : h.IsList l2 ys) : ZipApart z TI TO i1 i2 l1 l2 := by
  obtain ⟨o1, q1, c1, _⟩ := e1
  obtain ⟨o2, q2, c2, _⟩ := e2
  obtain ⟨u1, r1, d1, _⟩ := h1
  obtain ⟨u2, r2, d2, _⟩ := h2
  have d : ∀ {n m : String}, n ≠ m → Value.type n ≠ Value.type m := fun h q => by cases q; exact h rfl
  exact ⟨F.TIz, F.TOz, F.i1z, F.i2z, F.TITO, F.TIi1, F.TIi2, F.TOi1, F.TOi2, F.i12,
    cls_ne q1 hz (by rw [c1]; exact d (by decide)), cls_ne q1 hTO (by rw [c1]; exact d (by decide)), cls_ne q1 r1 (by rw [c1, d1]; exact d (by decide)), cls_ne q1 r2 (by rw [c1, d2]; exact d (by decide)),
    cls_ne q2 hz (by rw [c2]; exact d (by decide)), cls_ne q2 hTO (by rw [c2]; exact d (by decide)), cls_ne q2 r1 (by rw [c2, d1]; exact d (by decide)), cls_ne q2 r2 (by rw [c2, d2]; exact d (by decide))⟩
theorem turn_zip {P : Program} {w : World} {K : PySem.W.Frag} {elts : List Expr} {x1} {tpos : Pos} (l1 l2 z TI TO i1 i2 : Addr) (F : Five z TI TO i1 i2) :
    Turn P w K (.Tuple elts x1 tpos) (Itz K l1 l2) [z, TI, TO, i1, i2] z (fun i h => IsZip h z TI TO .none ∧ IsPair h TI (.ref i1) (.ref i2) ∧ (∃ a b, IsPair h TO a b) ∧ h.IsListIter i1 l1 i ∧ h.IsListIter i2 l2 i) where
  mem := by simp
  obj := fun i h st b hb => by
    obtain ⟨hz, hTI, ⟨a, c, hTO⟩, ⟨o1, e1, c1, d1⟩, ⟨o2, e2, c2, d2⟩⟩ := st
    simp only [List.mem_cons, List.not_mem_nil, or_false] at hb
    rcases hb with e | e | e | e | e
    · subst e; exact ⟨_, hz, fun v q => by cases q⟩
    · subst e; exact ⟨_, hTI, fun v q => by cases q⟩
    · subst e; exact ⟨_, hTO, fun v q => by cases q⟩
    · subst e; exact ⟨o1, e1, fun v q => by rw [d1] at q; cases q⟩
    · subst e; exact ⟨o2, e2, fun v q => by rw [d2] at q; cases q⟩
  keep := fun i h h' st k => by
    obtain ⟨hz, hTI, ⟨a, c, hTO⟩, h1, h2⟩ := st
    exact ⟨k z (by simp) _ hz, k TI (by simp) _ hTI, ⟨a, c, k TO (by simp) _ hTO⟩, h1.at fun o e => k i1 (by simp) o e, h2.at fun o e => k i2 (by simp) o e⟩
  item := by
    intro X hP hw hK hc i pins s σ H E I hf st hg
    subst hP hw hK
    obtain ⟨xs, ys, x, y, hq1, hq2, hx, hy⟩ := hg
    obtain ⟨hz, hTI, ⟨a, c, hTO⟩, h1, h2⟩ := st
    obtain ⟨its, rv, p, hz1⟩ := I.list hq1
    obtain ⟨jts, rw', p', hz2⟩ := I.list hq2
    obtain ⟨u, hu, ru⟩ := rv.get hx
    obtain ⟨v, hv, rv'⟩ := rw'.get hy
    have D := apart_of F hz hTO h1 h2 p.isList p'.isList
    refine wpAny_pyNext_zip_item D hz hTI hTO h1 h2 p.isList p'.isList (x := u) (y := v) (by simpa using hu) (by simpa using hv) fun h' a1 a2 a3 a4 a5 a6 hk => ⟨_, rfl, ?_⟩
    refine wpAny_letOwnedTupleGo_zip (s := { s with heap := h' }) a1 fun h'' b1 b2 => ?_
    have up : ∀ e o, e ≠ z → h'.get? e = some o → h''.get? e = some o := fun e o n q => b2.extBut _ _ n q
    have ne : ∀ {e : Addr} {o}, s.heap.get? e = some o → s.heap.objs.size ≠ e := fun q => Nat.ne_of_gt (Heap.lt_size q)
    have hnew : IsPair h'' s.heap.objs.size u v := up _ _ (ne hz) a5
    have I1 : Inv X pins σ (upd H s.heap.objs.size (.tup [x, y])) { s with heap := h'', toks := s.toks } := by
      refine I.turnedN (ch := [z, TI, TO, i1, i2]) (fun b o hb e => ?_) hf (Nat.le_refl _) ⟨by show 2 ≤ sizeLine; decide, [u, v], .cons ru (.cons rv' .nil), ⟨_, hnew, rfl, _, rfl⟩⟩
      simp only [List.mem_cons, List.not_mem_nil, or_false, not_or] at hb
      exact up _ _ hb.1 (hk b o hb.1 hb.2.2.1 hb.2.2.2.1 hb.2.2.2.2 e)
    refine ⟨.ref s.heap.objs.size, _, I1, rfl, ⟨_, x, y, I.hok.fresh (Nat.le_refl _), rfl, rfl, fun zs hz => by rw [I.list_inj hz hq1]; exact hx, fun zs hz => by rw [I.list_inj hz hq2]; exact hy⟩, ?_, fun b hb => ?_⟩
    · exact ⟨b1, up _ _ F.TIz (hk _ _ F.TIz F.TITO F.TIi1 F.TIi2 hTI), ⟨_, _, up _ _ F.TOz a2⟩, a3.at fun o e => up _ _ F.i1z e, a4.at fun o e => up _ _ F.i2z e⟩
    · have hb' := hb
      rw [upd_ne ?_]
      · exact (hf b hb).1
      · simp only [List.mem_cons, List.not_mem_nil, or_false] at hb
        obtain ⟨o1, e1, _⟩ := h1
        obtain ⟨o2, e2, _⟩ := h2
        rcases hb with e | e | e | e | e
        · rw [e]; exact Ne.symm (ne hz)
        · rw [e]; exact Ne.symm (ne hTI)
        · rw [e]; exact Ne.symm (ne hTO)
        · rw [e]; exact Ne.symm (ne e1)
        · rw [e]; exact Ne.symm (ne e2)
  done := by
    intro X hP hw hK hc i pins s σ H E I hf st hg
    subst hP hw hK
    obtain ⟨xs, ys, hq1, hq2, hl⟩ := hg
    obtain ⟨hz, hTI, ⟨a, c, hTO⟩, h1, h2⟩ := st
    obtain ⟨its, rv, p, hz1⟩ := I.list hq1
    obtain ⟨jts, rw', p', hz2⟩ := I.list hq2
    have D := apart_of F hz hTO h1 h2 p.isList p'.isList
    have l1 := rv.length
    have l2 := rw'.length
    refine wpAny_pyNext_zip_end (I.ok.hd hc) D hz hTI hTO h1 h2 p.isList p'.isList ?_ fun h' hk => ⟨rfl, I.turnedE (t' := s.toks) (ch := [z, TI, TO, i1, i2]) (fun b o hb e => ?_) hf⟩
    · rcases hl with hl | hl
      · exact .inl (by simp; omega)
      · exact .inr (by simp; omega)
    · simp only [List.mem_cons, List.not_mem_nil, or_false, not_or] at hb
      exact hk b o hb.1 hb.2.2.1 hb.2.2.2.1 hb.2.2.2.2 e
  self := fun _ _ _ _ _ st h => wpAny_pyIter_zip st.1 h
theorem bt_zip : bootBuiltins "zip" = some (.type "zip") := by decide +kernel
theorem bt_enumerate : bootBuiltins "enumerate" = some (.type "enumerate") := by decide +kernel
theorem bt_abs : bootBuiltins "abs" = some (.builtin "abs") := by decide +kernel
def iZip (K : PySem.W.Frag) (ta : TA) : TI := fun σ H R => ta σ H fun vs H1 => ∃ a b, vs = [.ref a, .ref b] ∧ (∃ xs, SqL K H1 a xs) ∧ (∃ ys, SqL K H1 b ys) ∧ R (Itz K a b) H1
theorem pi_zip {X : Cx} {elts : List Expr} {x1} {tpos : Pos} {a b : Expr} {ta : TA} {p pos : Pos} (hg : Gl X "zip") (hm : X.mg "zip" = none) (ha : PA X [a, b] ta) (hs : starEach [a, b] X.env = [(false, eval a X.env), (false, eval b X.env)] := by rfl)
    (hs2 : starEach [b] X.env = [(false, eval b X.env)] := by rfl) : PI X (.Tuple elts x1 tpos) (.Call (.Name "zip" p) [a, b] [] pos) (iZip X.K ta) := by
  intro pins s σ H R I h
  refine Call_ (ld_blt I hg hm bt_zip (PyProof.Rows.callWith_type1 (thn (ha pos pins s σ H _ I h) fun us s1 ⟨vs, H1, I1, r1, q1⟩ => ?_) (by rw [hs, hs2]) (by rw [hs2]; rfl)))
  obtain ⟨l1, l2, e, ⟨xs, hq1⟩, ⟨ys, hq2⟩, q⟩ := q1
  subst e
  obtain ⟨u, v, rfl, r, r'⟩ := vals2 r1
  cases r
  cases r'
  obtain ⟨its, rv, pl, hz1⟩ := I1.list hq1
  obtain ⟨jts, rw', pl', hz2⟩ := I1.list hq2
  refine call_zip_2 pl.isList pl'.isList fun h' a1 a2 a3 a4 a5 a6 hk => wpAny_pyIter_zip (s := { s1 with heap := h' }) a1 ?_
  refine ⟨_, [s1.heap.objs.size + 4, s1.heap.objs.size + 2, s1.heap.objs.size + 3, s1.heap.objs.size, s1.heap.objs.size + 1], _, _, H1, rfl, I1.kept (t' := s1.toks) hk,
    turn_zip l1 l2 (s1.heap.objs.size + 4) (s1.heap.objs.size + 2) (s1.heap.objs.size + 3) s1.heap.objs.size (s1.heap.objs.size + 1) ⟨neN (by omega), neN (by omega), neN (by omega), neN (by omega), neN (by omega), neN (by omega), neN (by omega), neN (by omega), neN (by omega), neN (by omega)⟩,
    ⟨a1, a2, ⟨_, _, a3⟩, a4, a5⟩, fun b hb => ?_, q⟩
  have hb' : s1.heap.objs.size ≤ b := by
    simp only [List.mem_cons, List.not_mem_nil, or_false] at hb
    rcases hb with e | e | e | e | e <;> rw [e] <;> first | exact Nat.le_refl _ | exact Nat.le_add_right _ _
  exact I1.fpOk hb' (I1.hok.fresh hb')

/-! ### enumerate of a list -/
def Ite (K : PySem.W.Frag) (a : Addr) : It :=
  ⟨fun i H => ∃ xs x, SqL K H a xs ∧ xs[i]? = some x,
   fun i H v H' => ∃ p x, H p = none ∧ H' = upd H p (.tup [.int i, x]) ∧ v = .ref p ∧ ∀ xs, SqL K H a xs → xs[i]? = some x,
   fun i H => ∃ xs, SqL K H a xs ∧ xs.length ≤ i⟩
theorem turn_enum {P : Program} {w : World} {K : PySem.W.Frag} {elts : List Expr} {x1} {tpos : Pos} (l e it : Addr) (hei : e ≠ it) :
    Turn P w K (.Tuple elts x1 tpos) (Ite K l) [e, it] e (fun i h => (∃ old, IsEnum h e it (i : Nat) old) ∧ h.IsListIter it l i) where
  mem := by simp
  obj := fun i h st b hb => by
    obtain ⟨⟨old, he⟩, ⟨o1, e1, c1, d1⟩⟩ := st
    simp only [List.mem_cons, List.not_mem_nil, or_false] at hb
    rcases hb with q | q
    · subst q; exact ⟨_, he, fun v q => by cases q⟩
    · subst q; exact ⟨o1, e1, fun v q => by rw [d1] at q; cases q⟩
  keep := fun i h h' st k => by
    obtain ⟨⟨old, he⟩, h1⟩ := st
    exact ⟨⟨old, k e (by simp) _ he⟩, h1.at fun o q => k it (by simp) o q⟩
  item := by
    intro X hP hw hK hc i pins s σ H E I hf st hg
    subst hP hw hK
    obtain ⟨xs, x, hq, hx⟩ := hg
    obtain ⟨⟨old, he⟩, h1⟩ := st
    obtain ⟨its, rv, p, hz1⟩ := I.list hq
    obtain ⟨u, hu, ru⟩ := rv.get hx
    refine wpAny_pyNext_enum_item he h1 p.isList (x := u) (by simpa using hu) hei fun h' a1 a2 a3 a4 hk => ⟨_, rfl, ?_⟩
    refine wpAny_letOwnedTupleGo_enum (s := { s with heap := h', toks := s.toks + 1 }) a1 fun h'' b1 b2 => ?_
    have up : ∀ c o, c ≠ e → h'.get? c = some o → h''.get? c = some o := fun c o n q => b2.extBut _ _ n q
    have ne : ∀ {c : Addr} {o}, s.heap.get? c = some o → s.heap.objs.size ≠ c := fun q => Nat.ne_of_gt (Heap.lt_size q)
    have hnew := up _ _ (ne he) a3
    have I1 : Inv X pins σ (upd H s.heap.objs.size (.tup [.int i, x])) { s with heap := h'', toks := s.toks + 1 } := by
      refine I.turnedN (ch := [e, it]) (fun b o hb q => ?_) hf (Nat.le_refl _) ⟨by show 2 ≤ sizeLine; decide, [.int i s.toks, u], .cons ⟨_, rfl⟩ (.cons ru .nil), ⟨_, hnew, rfl, _, rfl⟩⟩
      simp only [List.mem_cons, List.not_mem_nil, or_false, not_or] at hb
      exact up _ _ hb.1 (hk b o hb.1 hb.2 q)
    refine ⟨.ref s.heap.objs.size, _, I1, rfl, ⟨_, x, I.hok.fresh (Nat.le_refl _), rfl, rfl, fun zs hz => by rw [I.list_inj hz hq]; exact hx⟩, ⟨⟨u, ?_⟩, a2.at fun o q => up _ _ (Ne.symm hei) q⟩, fun b hb => ?_⟩
    · have e1 : ((i + 1 : Nat) : Int) = (i : Int) + 1 := by push_cast; rfl
      rw [e1]; exact b1
    · rw [upd_ne ?_]
      · exact (hf b hb).1
      · simp only [List.mem_cons, List.not_mem_nil, or_false] at hb
        obtain ⟨o1, e1, _⟩ := h1
        rcases hb with q | q
        · rw [q]; exact Ne.symm (ne he)
        · rw [q]; exact Ne.symm (ne e1)
  done := by
    intro X hP hw hK hc i pins s σ H E I hf st hg
    subst hP hw hK
    obtain ⟨xs, hq, hl⟩ := hg
    obtain ⟨⟨old, he⟩, h1⟩ := st
    obtain ⟨its, rv, p, hz1⟩ := I.list hq
    have l1 := rv.length
    refine wpAny_pyNext_enum_end (I.ok.hd hc) he h1 p.isList (by simp; omega) fun h' hk => ⟨rfl, I.turnedE (t' := s.toks) (ch := [e, it]) (fun b o hb q => ?_) hf⟩
    simp only [List.mem_cons, List.not_mem_nil, or_false, not_or] at hb
    exact hk b o hb.2 q
  self := fun _ _ _ _ _ st h => by
    obtain ⟨⟨old, he⟩, _⟩ := st
    exact wpAny_pyIter_enum he h
def iEnum (K : PySem.W.Frag) (ta : TA) : TI := fun σ H R => ta σ H fun vs H1 => ∃ a, vs = [.ref a] ∧ (∃ xs, SqL K H1 a xs) ∧ R (Ite K a) H1
theorem pi_enum {X : Cx} {elts : List Expr} {x1} {tpos : Pos} {a : Expr} {ta : TA} {p pos : Pos} (hg : Gl X "enumerate") (hm : X.mg "enumerate" = none) (ha : PA X [a] ta) (hs : starEach [a] X.env = [(false, eval a X.env)] := by rfl) :
    PI X (.Tuple elts x1 tpos) (.Call (.Name "enumerate" p) [a] [] pos) (iEnum X.K ta) := by
  intro pins s σ H R I h
  refine Call_ (ld_blt I hg hm bt_enumerate (PyProof.Rows.callWith_type1 (thn (ha pos pins s σ H _ I h) fun us s1 ⟨vs, H1, I1, r1, q1⟩ => ?_) hs rfl))
  obtain ⟨l, e, ⟨xs, hq⟩, q⟩ := q1
  subst e
  obtain ⟨u, rfl, r⟩ := vals1 r1
  cases r
  obtain ⟨its, rv, pl, hz1⟩ := I1.list hq
  refine call_enumerate_list pl.isList fun h' a1 a2 a3 hk => wpAny_pyIter_enum (s := { s1 with heap := h' }) a1 ?_
  refine ⟨_, [s1.heap.objs.size + 1, s1.heap.objs.size], _, _, H1, rfl, I1.kept (t' := s1.toks) hk, turn_enum l (s1.heap.objs.size + 1) s1.heap.objs.size (neN (by omega)), ⟨⟨_, a1⟩, a2⟩, fun b hb => ?_, q⟩
  have hb' : s1.heap.objs.size ≤ b := by
    simp only [List.mem_cons, List.not_mem_nil, or_false] at hb
    rcases hb with e | e <;> rw [e] <;> first | exact Nat.le_refl _ | exact Nat.le_add_right _ _
  exact I1.fpOk hb' (I1.hok.fresh hb')

/-! ### cuts of lists -/
theorem cut_ints (ns : List Int) (lo hi : Option Int) : ∃ ms : List Int, cutV (ns.map V.int) lo hi = ms.map V.int ∧ ms.length ≤ ns.length := by
  have h : ∀ x ∈ cutV (ns.map V.int) lo hi, ∃ i, x = V.int i := fun x hx => by
    have : x ∈ ns.map V.int := List.mem_of_mem_drop (List.mem_of_mem_take hx)
    obtain ⟨i, _, e⟩ := List.mem_map.mp this
    exact ⟨i, e.symm⟩
  have hl := cutV_length (ns.map V.int) lo hi
  rw [List.length_map] at hl
  generalize cutV (ns.map V.int) lo hi = l at h hl
  refine ⟨l.map fun v => match v with | .int i => i | _ => 0, ?_, by rw [List.length_map]; exact hl⟩
  rw [List.map_map]
  clear hl
  induction l with
  | nil => rfl
  | cons x r ih =>
    obtain ⟨i, rfl⟩ := h x (List.mem_cons_self ..)
    rw [List.map_cons, ← ih fun y hy => h y (List.mem_cons_of_mem _ hy)]
    rfl
theorem cut_tl (xs : List V) (k : Nat) : cutV xs (some (k : Int)) none = xs.drop k := by
  unfold cutV
  rw [HT.sIx_none, HT.sIx_nat]
  rcases Nat.le_total k xs.length with h | h
  · rw [Nat.min_eq_left h]
    exact List.take_of_length_le (by rw [List.length_drop]; exact Nat.le_refl _)
  · rw [Nat.min_eq_right h, List.drop_length, List.drop_of_length_le h]
    exact List.take_nil
end L2

/-! MY OWN RULES, part 8: comprehensions without a test, and loops over zip, enumerate, by words of their own -/
namespace L2
open PySem PySem.Spec PyProof.Rows
section
variable {K : PySem.W.Frag} {g : TG} {tt : TT} {te : TE} {tb : TS} {D : Ends}
/-- any iterator of n turns; what was there when the block began (H0) stays, the block's list is L -/
theorem comp_it {J : It} {L : Addr} {Q : Hp → Prop} {σ : St} {H : Hp} (n : Nat) (H0 : Hp) (S : St → Prop) (Pv : Nat → List V → Prop) (hgo : ∀ i H', i < n → Same H0 H' → J.go i H') (hstop : ∀ H', Same H0 H' → J.stop n H')
    (hn0 : H0 L = none) (hσ : S σ) (h0 : Same H0 H) (hL : H L = some (.lst [])) (p0 : Pv 0 []) (hz : n ≤ sizeLine) (hl : ∀ i ys, Pv i ys → ys.length ≤ i)
    (turn : ∀ i σ H' ys, i < n → S σ → Same H0 H' → H' L = some (.lst ys) → Pv i ys → ∀ (N : St → V → Hp → Prop) (M : St → Hp → Prop), (∀ σ3 y H5, S σ3 → Same H0 H5 → H5 L = some (.lst ys) → Pv (i + 1) (ys ++ [y]) → N σ3 y H5) →
      ∀ x H2, J.yld i H' x H2 → g x σ H2 fun σ3 H3 => tt σ3 H3 fun b H4 => if b = true then te σ3 H4 fun y H5 => N σ3 y H5 else M σ3 H4)
    (fin : ∀ H' ys, Same H0 H' → H' L = some (.lst ys) → Pv n ys → Q H') :
    ∃ W : Nat → Nat → St → Hp → Prop, (∃ m, W 0 m σ H) ∧ ∀ i m σ H, W i m σ H → (J.stop i H ∧ Q H) ∨ (J.go i H ∧ ∀ x H2, J.yld i H x H2 → g x σ H2 fun σ3 H3 => tt σ3 H3 fun b H4 => if b = true
      then te σ3 H4 fun y H5 => ∃ ys, H5 L = some (.lst ys) ∧ ys.length < sizeLine ∧ ∃ m', m' < m ∧ W (i + 1) m' σ3 (upd H5 L (.lst (ys ++ [y])))
      else ∃ m', m' < m ∧ W (i + 1) m' σ3 H4) := by
  refine ⟨fun i m σ H => m + i = n ∧ S σ ∧ Same H0 H ∧ ∃ ys, H L = some (.lst ys) ∧ Pv i ys, ⟨n, rfl, hσ, h0, [], hL, p0⟩, ?_⟩
  rintro i m σ H ⟨hm, hs, hsame, ys, hys, hp⟩
  by_cases hi : i < n
  · refine .inr ⟨hgo i H hi hsame, fun x H2 hy => turn i σ H ys hi hs hsame hys hp _ _ (fun σ3 y H5 k1 k2 k3 k4 => ?_) x H2 hy⟩
    refine ⟨ys, k3, by have := hl i ys hp; omega, m - 1, by omega, by omega, k1, fun b o e => ?_, ys ++ [y], upd_same, k4⟩
    rw [upd_ne (ne_of_none e hn0)]; exact k2 b o e
  · have e : i = n := by omega
    subst e
    exact .inl ⟨hstop H hsame, fin H ys hsame hys hp⟩
theorem comp_lst {a L : Addr} {xs : List V} {Q : Hp → Prop} {σ : St} {H : Hp} (H0 : Hp) (S : St → Prop) (Pv : Nat → List V → Prop) (ha : SqL K H0 a xs)
    (hn0 : H0 L = none) (hσ : S σ) (h0 : Same H0 H) (hL : H L = some (.lst [])) (p0 : Pv 0 []) (hz : xs.length ≤ sizeLine) (hl : ∀ i ys, Pv i ys → ys.length ≤ i)
    (turn : ∀ i x σ H' ys, xs[i]? = some x → S σ → Same H0 H' → H' L = some (.lst ys) → Pv i ys → ∀ (N : St → V → Hp → Prop) (M : St → Hp → Prop), (∀ σ3 y H5, S σ3 → Same H0 H5 → H5 L = some (.lst ys) → Pv (i + 1) (ys ++ [y]) → N σ3 y H5) →
      g x σ H' fun σ3 H3 => tt σ3 H3 fun b H4 => if b = true then te σ3 H4 fun y H5 => N σ3 y H5 else M σ3 H4)
    (fin : ∀ H' ys, Same H0 H' → H' L = some (.lst ys) → Pv xs.length ys → Q H') :
    ∃ W : Nat → Nat → St → Hp → Prop, (∃ m, W 0 m σ H) ∧ ∀ i m σ H, W i m σ H → ((Itl K a).stop i H ∧ Q H) ∨ ((Itl K a).go i H ∧ ∀ x H2, (Itl K a).yld i H x H2 → g x σ H2 fun σ3 H3 => tt σ3 H3 fun b H4 => if b = true
      then te σ3 H4 fun y H5 => ∃ ys, H5 L = some (.lst ys) ∧ ys.length < sizeLine ∧ ∃ m', m' < m ∧ W (i + 1) m' σ3 (upd H5 L (.lst (ys ++ [y])))
      else ∃ m', m' < m ∧ W (i + 1) m' σ3 H4) :=
  comp_it xs.length H0 S Pv (fun i H' hi e => ⟨xs, xs[i], e.seq ha, List.getElem?_eq_getElem hi⟩) (fun H' e => ⟨xs, e.seq ha, Nat.le_refl _⟩) hn0 hσ h0 hL p0 hz hl
    (fun i σ H' ys _ hs e k p N M hN x H2 hy => by
      obtain ⟨rfl, hx⟩ := hy
      exact turn i x σ H2 ys (hx xs (e.seq ha)) hs e k p N M hN) fin
theorem comp_rng {lo : Int} {n : Nat} {L : Addr} {Q : Hp → Prop} {σ : St} {H : Hp} (H0 : Hp) (S : St → Prop) (Pv : Nat → List V → Prop)
    (hn0 : H0 L = none) (hσ : S σ) (h0 : Same H0 H) (hL : H L = some (.lst [])) (p0 : Pv 0 []) (hz : n ≤ sizeLine) (hl : ∀ i ys, Pv i ys → ys.length ≤ i)
    (turn : ∀ i σ H' ys, i < n → S σ → Same H0 H' → H' L = some (.lst ys) → Pv i ys → ∀ (N : St → V → Hp → Prop) (M : St → Hp → Prop), (∀ σ3 y H5, S σ3 → Same H0 H5 → H5 L = some (.lst ys) → Pv (i + 1) (ys ++ [y]) → N σ3 y H5) →
      g (.int (lo + i)) σ H' fun σ3 H3 => tt σ3 H3 fun b H4 => if b = true then te σ3 H4 fun y H5 => N σ3 y H5 else M σ3 H4)
    (fin : ∀ H' ys, Same H0 H' → H' L = some (.lst ys) → Pv n ys → Q H') :
    ∃ W : Nat → Nat → St → Hp → Prop, (∃ m, W 0 m σ H) ∧ ∀ i m σ H, W i m σ H → ((Itr lo n).stop i H ∧ Q H) ∨ ((Itr lo n).go i H ∧ ∀ x H2, (Itr lo n).yld i H x H2 → g x σ H2 fun σ3 H3 => tt σ3 H3 fun b H4 => if b = true
      then te σ3 H4 fun y H5 => ∃ ys, H5 L = some (.lst ys) ∧ ys.length < sizeLine ∧ ∃ m', m' < m ∧ W (i + 1) m' σ3 (upd H5 L (.lst (ys ++ [y])))
      else ∃ m', m' < m ∧ W (i + 1) m' σ3 H4) :=
  comp_it n H0 S Pv (fun i H' hi e => hi) (fun H' e => Nat.le_refl _) hn0 hσ h0 hL p0 hz hl
    (fun i σ H' ys hi hs e k p N M hN x H2 hy => by
      obtain ⟨rfl, rfl⟩ := hy
      exact turn i σ H2 ys hi hs e k p N M hN) fin
theorem comp_zip {a c L : Addr} {xs zs : List V} {Q : Hp → Prop} {σ : St} {H : Hp} (H0 : Hp) (S : St → Prop) (Pv : Nat → List V → Prop) (ha : SqL K H0 a xs) (hc : SqL K H0 c zs)
    (hn0 : H0 L = none) (hσ : S σ) (h0 : Same H0 H) (hL : H L = some (.lst [])) (p0 : Pv 0 []) (hz : min xs.length zs.length ≤ sizeLine) (hl : ∀ i ys, Pv i ys → ys.length ≤ i)
    (turn : ∀ i x z p σ H' ys, xs[i]? = some x → zs[i]? = some z → H' p = none → S σ → Same H0 H' → H' L = some (.lst ys) → Pv i ys → ∀ (N : St → V → Hp → Prop) (M : St → Hp → Prop), (∀ σ3 y H5, S σ3 → Same H0 H5 → H5 L = some (.lst ys) → Pv (i + 1) (ys ++ [y]) → N σ3 y H5) →
      g (.ref p) σ (upd H' p (.tup [x, z])) fun σ3 H3 => tt σ3 H3 fun b H4 => if b = true then te σ3 H4 fun y H5 => N σ3 y H5 else M σ3 H4)
    (fin : ∀ H' ys, Same H0 H' → H' L = some (.lst ys) → Pv (min xs.length zs.length) ys → Q H') :
    ∃ W : Nat → Nat → St → Hp → Prop, (∃ m, W 0 m σ H) ∧ ∀ i m σ H, W i m σ H → ((Itz K a c).stop i H ∧ Q H) ∨ ((Itz K a c).go i H ∧ ∀ x H2, (Itz K a c).yld i H x H2 → g x σ H2 fun σ3 H3 => tt σ3 H3 fun b H4 => if b = true
      then te σ3 H4 fun y H5 => ∃ ys, H5 L = some (.lst ys) ∧ ys.length < sizeLine ∧ ∃ m', m' < m ∧ W (i + 1) m' σ3 (upd H5 L (.lst (ys ++ [y])))
      else ∃ m', m' < m ∧ W (i + 1) m' σ3 H4) :=
  comp_it (min xs.length zs.length) H0 S Pv
    (fun i H' hi e => ⟨xs, zs, xs[i]'(by omega), zs[i]'(by omega), e.seq ha, e.seq hc, List.getElem?_eq_getElem _, List.getElem?_eq_getElem _⟩) (fun H' e => ⟨xs, zs, e.seq ha, e.seq hc, by omega⟩) hn0 hσ h0 hL p0 hz hl
    (fun i σ H' ys _ hs e k p N M hN v H2 hy => by
      obtain ⟨t, x, z, ht, rfl, rfl, hx, hz'⟩ := hy
      exact turn i x z t σ H' ys (hx xs (e.seq ha)) (hz' zs (e.seq hc)) ht hs e k p N M hN) fin
theorem for_zip {a c : Addr} {xs zs : List V} {σ : St} {H : Hp} (Pv : Nat → St → Hp → Prop) (h0 : Pv 0 σ H) (hl : ∀ i σ H, Pv i σ H → SqL K H a xs ∧ SqL K H c zs)
    (hs : ∀ i x z p σ H, xs[i]? = some x → zs[i]? = some z → H p = none → Pv i σ H → g (.ref p) σ (upd H p (.tup [x, z])) fun σ2 H2 => tb { D with nx := Pv (i + 1), ct := Pv (i + 1), bk := D.nx } σ2 H2) (hd : ∀ σ H, Pv (min xs.length zs.length) σ H → D.nx σ H) :
    ∃ W : Nat → Nat → St → Hp → Prop, (∃ m, W 0 m σ H) ∧ ∀ i m σ H, W i m σ H →
      ((Itz K a c).stop i H ∧ D.nx σ H) ∨ ((Itz K a c).go i H ∧ ∃ N : St → Hp → Prop, (∀ σ' H', N σ' H' → ∃ m', m' < m ∧ W (i + 1) m' σ' H') ∧ ∀ x H', (Itz K a c).yld i H x H' → g x σ H' fun σ2 H2 => tb { D with nx := N, ct := N, bk := D.nx } σ2 H2) := by
  refine ⟨fun i m σ H => m + i = min xs.length zs.length ∧ Pv i σ H, ⟨min xs.length zs.length, rfl, h0⟩, ?_⟩
  rintro i m σ H ⟨hm, p⟩
  obtain ⟨q1, q2⟩ := hl i σ H p
  by_cases hlt : i < min xs.length zs.length
  · refine .inr ⟨⟨xs, zs, xs[i]'(by omega), zs[i]'(by omega), q1, q2, List.getElem?_eq_getElem _, List.getElem?_eq_getElem _⟩, Pv (i + 1), fun σ' H' p' => ⟨m - 1, by omega, by omega, p'⟩, fun v H' hy => ?_⟩
    obtain ⟨t, x, z, ht, rfl, rfl, hx, hz⟩ := hy
    exact hs i x z t σ H (hx xs q1) (hz zs q2) ht p
  · have e : i = min xs.length zs.length := by omega
    subst e
    exact .inl ⟨⟨xs, zs, q1, q2, by omega⟩, hd σ H p⟩
theorem for_enum {a : Addr} {xs : List V} {σ : St} {H : Hp} (Pv : Nat → St → Hp → Prop) (h0 : Pv 0 σ H) (hl : ∀ i σ H, Pv i σ H → SqL K H a xs)
    (hs : ∀ i x p σ H, xs[i]? = some x → H p = none → Pv i σ H → g (.ref p) σ (upd H p (.tup [.int i, x])) fun σ2 H2 => tb { D with nx := Pv (i + 1), ct := Pv (i + 1), bk := D.nx } σ2 H2) (hd : ∀ σ H, Pv xs.length σ H → D.nx σ H) :
    ∃ W : Nat → Nat → St → Hp → Prop, (∃ m, W 0 m σ H) ∧ ∀ i m σ H, W i m σ H →
      ((Ite K a).stop i H ∧ D.nx σ H) ∨ ((Ite K a).go i H ∧ ∃ N : St → Hp → Prop, (∀ σ' H', N σ' H' → ∃ m', m' < m ∧ W (i + 1) m' σ' H') ∧ ∀ x H', (Ite K a).yld i H x H' → g x σ H' fun σ2 H2 => tb { D with nx := N, ct := N, bk := D.nx } σ2 H2) := by
  refine ⟨fun i m σ H => m + i = xs.length ∧ Pv i σ H, ⟨xs.length, rfl, h0⟩, ?_⟩
  rintro i m σ H ⟨hm, p⟩
  have q1 := hl i σ H p
  by_cases hlt : i < xs.length
  · refine .inr ⟨⟨xs, xs[i], q1, List.getElem?_eq_getElem _⟩, Pv (i + 1), fun σ' H' p' => ⟨m - 1, by omega, by omega, p'⟩, fun v H' hy => ?_⟩
    obtain ⟨t, x, ht, rfl, rfl, hx⟩ := hy
    exact hs i x t σ H (hx xs q1) ht p
  · have e : i = xs.length := by omega
    subst e
    exact .inl ⟨⟨xs, q1, by omega⟩, hd σ H p⟩
end
end L2

/-! MY OWN RULES, part 9: comprehensions whose block has cells of its own (a comprehension within it sees its names) -/
namespace L2
open PySem PySem.Spec PyProof.Rows
theorem cellsFrom_acc : ∀ (names : List (Str × NameKind)) (n : Nat) (acc : List (Str × Addr)), cellsFrom n names acc = cellsFrom n names [] ++ acc
  | [], _, acc => rfl
  | (x, k) :: r, n, acc => by
    unfold cellsFrom
    split
    · rw [cellsFrom_acc r (n + 1) ((x, n) :: acc), cellsFrom_acc r (n + 1) [(x, n)], List.append_assoc]; rfl
    · exact cellsFrom_acc r n acc
theorem cellsFrom_has {x : Str} : ∀ (names : List (Str × NameKind)) (n : Nat) (acc : List (Str × Addr)), ((x, NameKind.cell) ∈ names ∨ ∃ c, acc.lookup x = some c) → ∃ c, (cellsFrom n names acc).lookup x = some c
  | [], _, _, h => h.elim (fun z => by cases z) fun z => z
  | (y, k) :: r, n, acc, h => by
    unfold cellsFrom
    by_cases hk : (k == NameKind.cell) = true
    · rw [if_pos hk]
      refine cellsFrom_has r (n + 1) _ ?_
      by_cases e : x = y
      · subst e; exact .inr ⟨n, by simp⟩
      · rcases h with h | ⟨c, hc⟩
        · rcases List.mem_cons.mp h with z | z
          · cases z; exact absurd rfl e
          · exact .inl z
        · exact .inr ⟨c, by rw [List.lookup_cons, beq_eq_false_iff_ne.mpr e]; exact hc⟩
    · rw [if_neg hk]
      refine cellsFrom_has r n acc ?_
      rcases h with h | h
      · rcases List.mem_cons.mp h with z | z
        · cases z; exact absurd rfl hk
        · exact .inl z
      · exact .inr h
theorem cellsFrom_mem {x : Str} {c : Addr} : ∀ (names : List (Str × NameKind)) (n : Nat) (acc : List (Str × Addr)), (x, c) ∈ cellsFrom n names acc → (x, NameKind.cell) ∈ names ∨ (x, c) ∈ acc
  | [], _, _, h => .inr h
  | (y, k) :: r, n, acc, h => by
    unfold cellsFrom at h
    by_cases hk : (k == NameKind.cell) = true
    · rw [if_pos hk] at h
      rcases cellsFrom_mem r (n + 1) _ h with z | z
      · exact .inl (List.mem_cons_of_mem _ z)
      · rcases List.mem_cons.mp z with w | w
        · cases w
          have : k = .cell := by simpa using hk
          subst this
          exact .inl (List.mem_cons_self ..)
        · exact .inr w
    · rw [if_neg hk] at h
      rcases cellsFrom_mem r n acc h with z | z
      · exact .inl (List.mem_cons_of_mem _ z)
      · exact .inr z
/-- the block's cells: its own, and those that it takes over -/
def ownAt (scope : Scope) (s : Shared) : List (Str × Addr) := cellsFrom (s.heap.objs.size + 1) scope.names []
def clAt (scope : Scope) (env : Env) (s : Shared) : List (Str × Addr) := ownAt scope s ++ clOf scope env
def cxC (X : Cx) (pins : List (Addr × Obj)) (N : List Str) (scope : Scope) (fp : List Addr) (s : Shared) (H : Hp) : Cx where
  prog := X.prog
  w := X.w
  K := X.K
  mg := X.mg
  base := X.base
  A := X.A
  N := N
  s₀ := s
  H₀ := H
  env := compEnvC scope (clAt scope X.env s) s.heap.objs.size X.env
  outer := X.stack
  stack := X.stack
  ex := fp
  fn := fun x => scope.names.lookup x == some .cell
  calm := X.calm
  pn := X.pn ++ pins
  xe := fun _ _ => False
structure BlkC (X : Cx) (N : List Str) (fr : List (Option Nat)) (scope : Scope) : Prop where
  clos : closureFor scope X.env = pure (clOf scope X.env)
  kind : scope.kind = .function
  owned : ∀ y ∈ scope.names, y.2 = .cell → scope.names.lookup y.1 = some .cell
  names : ∀ y ∈ scope.names, y.2 = .local → scope.names.lookup y.1 = some .local
  cells : ∀ x c, (clOf scope X.env).lookup x = some c → X.env.cells.lookup x = some c
  has : ∀ x, ((relabel scope X.env).names.lookup x = some .cell ∨ (relabel scope X.env).names.lookup x = some .free) → scope.names.lookup x = some .cell ∨ ∃ c, (clOf scope X.env).lookup x = some c
  len : fr.length = N.length
  out : ∀ (i j : Nat) (x : Str), N[i]? = some x → fr[i]? = some (some j) → X.N[j]? = some x ∧ X.env.kindOf x = some .cell ∧ scope.names.lookup x = some .free ∧ ((relabel scope X.env).names.lookup x = some .cell ∨ (relabel scope X.env).names.lookup x = some .free) ∧ ∃ c, (clOf scope X.env).lookup x = some c
structure BlkSC (sc scope : Scope) (NX N : List Str) (fr : List (Option Nat)) : Prop where
  okind : sc.kind = .function
  kind : scope.kind = .function
  owned : ∀ y ∈ scope.names, y.2 = .cell → scope.names.lookup y.1 = some .cell
  names : ∀ y ∈ scope.names, y.2 = .local → scope.names.lookup y.1 = some .local
  free : ∀ y ∈ scope.names, y.2 = .free → sc.names.lookup y.1 = some .cell
  len : fr.length = N.length
  out : ((List.range N.length).all fun i => match fr[i]? with
    | some (some j) => (match N[i]? with
      | some x => (NX[j]? == some x) && (scope.names.lookup x == some .free)
      | none => false)
    | _ => true) = true
theorem BlkSC.blk {X : Cx} {sc scope : Scope} {NX N : List Str} {fr : List (Option Nat)} (B : BlkSC sc scope NX N fr) (e1 : X.env.scope = sc) (e2 : X.N = NX) (ok : X.Ok) : BlkC X N fr scope := by
  subst e1 e2
  have fc : ∀ y ∈ scope.names, y.2 = .free → ∃ c, X.env.cells.lookup y.1 = some c := fun y hy hf => ok.has y.1 (.inl (B.free y hy hf))
  have lk : ∀ x, (relabel scope X.env).names.lookup x = (scope.names.lookup x).map fun k => if (k == NameKind.free && X.env.scope.kind == .function && X.env.kindOf x == some .cell) = true then NameKind.cell else k := fun x => relabel_lookup x scope.names
  have isfree : ∀ x, scope.names.lookup x = some .free → (relabel scope X.env).names.lookup x = some .cell := fun x hx => by
    have hk : X.env.kindOf x = some .cell := B.free (x, .free) (mem_of_lk hx) rfl
    rw [lk, hx, Option.map_some, hk, B.okind]
    rfl
  refine ⟨clos_of fc, B.kind, B.owned, B.names, fun x c h => clGo_cells fc (fun x c h => by cases h) x c h, fun x h => ?_, B.len, fun i j x h1 h2 => ?_⟩
  · rw [lk] at h
    cases e : scope.names.lookup x with
    | none => rw [e] at h; rcases h with h | h <;> cases h
    | some k =>
      rw [e, Option.map_some] at h
      have hm := mem_of_lk e
      cases k with
      | free => exact .inr (clGo_has (.inl hm))
      | cell => exact .inl rfl
      | _ => rcases h with h | h <;> simp at h
  · have hi : i < N.length := (List.getElem?_eq_some_iff.mp h1).1
    have := List.all_eq_true.mp B.out i (List.mem_range.mpr hi)
    rw [h2] at this
    dsimp only at this
    rw [h1] at this
    dsimp only at this
    rw [Bool.and_eq_true] at this
    have a1 : X.N[j]? = some x := by simpa using this.1
    have a2 : scope.names.lookup x = some .free := by simpa using this.2
    exact ⟨a1, B.free (x, .free) (mem_of_lk a2) rfl, a2, .inl (isfree x a2), clGo_has (.inl (mem_of_lk a2))⟩
section
variable {X : Cx} {pins : List (Addr × Obj)} {σ : St} {H : Hp} {s : Shared} {N : List Str} {fr : List (Option Nat)} {scope : Scope} {fp : List Addr}
theorem own_gt {x : Str} {c : Addr} (h : (ownAt scope s).lookup x = some c) : s.heap.objs.size < c := by
  have ok := cellsFrom_ok scope.names (s.heap.push { cls := .type "dict", data := .dict #[] }) (s.heap.objs.size + 1) [] ⟨fun _ _ hm => (nomatch hm), List.Pairwise.nil⟩ (by rw [Heap.size_push]; exact Nat.le_refl _)
  rw [Heap.size_push] at ok
  exact (ok.empty x c (mem_of_lookup h)).2
theorem own_cell {x : Str} {c : Addr} (h : (ownAt scope s).lookup x = some c) : (pushCells (s.heap.push { cls := .type "dict", data := .dict #[] }) scope.names).IsCell c none := by
  have ok := cellsFrom_ok scope.names (s.heap.push { cls := .type "dict", data := .dict #[] }) (s.heap.objs.size + 1) [] ⟨fun _ _ hm => (nomatch hm), List.Pairwise.nil⟩ (by rw [Heap.size_push]; exact Nat.le_refl _)
  rw [Heap.size_push] at ok
  exact (ok.empty x c (mem_of_lookup h)).1
theorem own_inj {x y : Str} {c : Addr} (h : (ownAt scope s).lookup x = some c) (h' : (ownAt scope s).lookup y = some c) : x = y := by
  have ok := cellsFrom_ok scope.names (s.heap.push { cls := .type "dict", data := .dict #[] }) (s.heap.objs.size + 1) [] ⟨fun _ _ hm => (nomatch hm), List.Pairwise.nil⟩ (by rw [Heap.size_push]; exact Nat.le_refl _)
  rw [Heap.size_push] at ok
  exact name_of_addr ok.apart (mem_of_lookup h) (mem_of_lookup h')
theorem clAt_cases {env : Env} {x : Str} {c : Addr} (h : (clAt scope env s).lookup x = some c) : (ownAt scope s).lookup x = some c ∨ (ownAt scope s).lookup x = none ∧ (clOf scope env).lookup x = some c := by
  unfold clAt at h
  rw [List.lookup_append] at h
  cases e : (ownAt scope s).lookup x with
  | none => rw [e] at h; exact .inr ⟨rfl, by simpa using h⟩
  | some d => rw [e] at h; exact .inl (by simpa using h)
theorem clAt_own {env : Env} {x : Str} {c : Addr} (h : (ownAt scope s).lookup x = some c) : (clAt scope env s).lookup x = some c := by
  unfold clAt; rw [List.lookup_append, h]; rfl
theorem BlkC.clAt_free (B : BlkC X N fr scope) {x : Str} {c : Addr} (hf : scope.names.lookup x = some .free) (h : (clOf scope X.env).lookup x = some c) : (clAt scope X.env s).lookup x = some c := by
  have : (ownAt scope s).lookup x = none := by
    cases e : (ownAt scope s).lookup x with
    | none => rfl
    | some d =>
      rcases cellsFrom_mem _ _ _ (mem_of_lookup e) with z | z
      · have := B.owned _ z rfl
        rw [hf] at this; cases this
      · cases z
  unfold clAt; rw [List.lookup_append, this]; exact h
theorem blk_okC (B : BlkC X N fr scope) (I : Inv X pins σ H s) (f : ∀ b ∈ fp, FpOk X pins H b ∧ b < s.heap.objs.size) : (cxC X pins N scope fp s H).Ok where
  mod := I.mod
  kind := B.kind
  glob := I.ok.glob
  blt := I.ok.blt
  above := Nat.le_refl _
  inj := fun x y c h1 h2 => by
    have old : ∀ {x c}, (clOf scope X.env).lookup x = some c → c < s.heap.objs.size := fun h => by
      obtain ⟨v, o, ho, _⟩ := I.cell _ _ (B.cells _ _ h)
      exact Heap.lt_size ho
    rcases clAt_cases h1 with a | ⟨_, a⟩ <;> rcases clAt_cases h2 with b | ⟨_, b⟩
    · exact own_inj a b
    · exact absurd (Nat.lt_trans (own_gt a) (old b)) (Nat.lt_irrefl _)
    · exact absurd (Nat.lt_trans (own_gt b) (old a)) (Nat.lt_irrefl _)
    · exact I.ok.inj x y c (B.cells x c a) (B.cells y c b)
  has := fun x h => by
    rcases B.has x h with z | ⟨c, hc⟩
    · obtain ⟨c, hc⟩ := cellsFrom_has (x := x) scope.names (s.heap.objs.size + 1) [] (.inl (mem_of_lk z))
      exact ⟨c, clAt_own hc⟩
    · cases e : (ownAt scope s).lookup x with
      | none => exact ⟨c, by show (clAt scope X.env s).lookup x = some c; unfold clAt; rw [List.lookup_append, e]; exact hc⟩
      | some d => exact ⟨d, clAt_own e⟩
  cab := fun x c h hc => by
    have hx : scope.names.lookup x = some .cell := by simpa [cxC] using h
    obtain ⟨d, hd⟩ := cellsFrom_has (x := x) scope.names (s.heap.objs.size + 1) [] (.inl (mem_of_lk hx))
    have e : (clAt scope X.env s).lookup x = some d := clAt_own hd
    have e2 : (clAt scope X.env s).lookup x = some c := hc
    rw [e] at e2; cases e2
    exact Nat.le_of_lt (own_gt hd)
  hd := I.ok.hd
  frames := I.ok.frames
  stk := .inl rfl
  exf := fun b hb => ⟨Nat.ne_of_lt (f b hb).2, fun x c h => by
    rcases clAt_cases h with a | ⟨_, a⟩
    · exact fun z => absurd (Nat.lt_trans (own_gt a) (by rw [z]; exact (f b hb).2)) (Nat.lt_irrefl _)
    · exact (f b hb).1.2.2.2.2.1 x c (B.cells x c a)⟩
  bs := I.bs
  bsz := Nat.le_trans I.ok.bsz I.sz
  noex := fun b o e hb => by
    rcases (f b hb).1.2.2.2.1 with h | h
    · exact I.ok.noex b o e h
    · exact absurd (Nat.lt_of_lt_of_le (Heap.lt_size e) (Nat.le_trans I.ok.bsz h)) (Nat.lt_irrefl _)
  exfs := fun b hb h => by
    rcases List.mem_cons.mp (I.stkSub b h) with z | z
    · exact (f b hb).1.2.1 z
    · exact (f b hb).1.2.2.1 z
  funs := I.stack
  frf := I.stkFree
theorem blk_startC {h1 : Heap} {t1 : Nat} (B : BlkC X N fr scope) (I : Inv X pins σ H s) (f : ∀ b ∈ fp, FpOk X pins H b ∧ b < s.heap.objs.size) (hns : h1.Ns s.heap.objs.size fun _ => none)
    (hsb : ∀ b o, s.heap.get? b = some o → h1.get? b = some o) (hown : ∀ x c, (ownAt scope s).lookup x = some c → h1.IsCell c none) : Inv (cxC X pins N scope fp s H) [] (startB fr σ) H { s with heap := h1, toks := t1 } := by
  obtain ⟨m, hm, hl⟩ := I.loc
  refine ⟨blk_okC B I f, rfl, I.bare, Un.kept hsb, ⟨_, hns, fun i x v e1 e2 _ => ?_⟩, fun x c h => ?_, I.hok.fresh (Nat.le_refl _), fun x c h => ?_, fun p hp => ?_, I.hok.kept hsb, ?_⟩
  · obtain ⟨j, ej, es⟩ := startB_get e2
    obtain ⟨o1, o2, of, o3, c, hc⟩ := B.out i j x e1 ej
    obtain ⟨u, ru, L⟩ := hl j x v o1 es (.inr (.inl o2))
    refine ⟨u, ru, .inr ⟨o3, ?_⟩⟩
    rcases L with ⟨k1, _⟩ | ⟨_, c', hc', cc⟩
    · rw [o2] at k1; cases k1
    · rw [B.cells x c hc] at hc'
      cases hc'
      exact ⟨c, B.clAt_free of hc, cc.keeps hsb⟩
  · rcases clAt_cases h with a | ⟨_, a⟩
    · exact ⟨none, hown x c a⟩
    · obtain ⟨v, hv⟩ := I.cell x c (B.cells x c a)
      exact ⟨v, hv.keeps hsb⟩
  · rcases clAt_cases h with a | ⟨_, a⟩
    · exact I.hok.fresh (Nat.le_of_lt (own_gt a))
    · exact I.freeC x c (B.cells x c a)
  · have hp' : p ∈ X.pn ++ pins := by rw [List.append_nil] at hp; exact hp
    obtain ⟨p1, p2, p3, p4, p5⟩ := I.pin p hp'
    exact ⟨hsb _ _ p1, p2, Nat.ne_of_lt (Heap.lt_size p1), fun z => (List.mem_cons.mp (I.stkSub _ z)).elim p3 p4, p5⟩
  · show (startB fr σ).length = N.length
    unfold startB
    rw [List.length_map, B.len]
theorem newEnv_cells {M : Model} {A : Around} {E : Value → Shared → Prop} {globals : Addr} {cl : List (Str × Addr)} {qual : Str} {env : Env} {Q : Env → Shared → Prop}
    (hQ : Q { scope := scope, locals := s.heap.objs.size, globals := globals, cells := ownAt scope s ++ cl, qual := qual, func := none, code := env.code, frame := env.frame, builtins := env.builtins }
      { s with heap := pushCells (s.heap.push { cls := .type "dict", data := .dict #[] }) scope.names }) :
    wpAny M A (newFunctionEnv scope globals cl [] qual none .none (some env)) Q E s := by
  simp only [newFunctionEnv, Option.isSome_some, if_true]
  refine wpAny_bind (wpAny_alloc ?_)
  refine wpAny_bind (wpAny_layCells _ (fun name kind cells => by cases hkc : kind == NameKind.cell <;> simp [hkc]) _ _ _ _ ?_)
  rw [show ({ s with heap := s.heap.push { cls := .type "dict", data := .dict #[] } } : Shared).heap.objs.size = s.heap.objs.size + 1 from Heap.size_push .., cellsFrom_acc]
  rw [List.forIn_nil]
  exact wpAny_bind (wpAny_pure (wpAny_pure hQ))
end
section
variable {X : Cx} {elt tg iter : Expr} {ifs : List Expr} {scope : Scope} {pos spos py : Pos} {N : List Str} {fr : List (Option Nat)} {wi : TI} {g : TG} {tt : TT} {te : TE}
/-- the block's loop -/
theorem comp_inC (B : BlkC X N fr scope) (hc : X.calm = true)
    (hg : ∀ pins fp s H, PG (cxC X pins N scope fp s H) tg g) (ht : ∀ pins fp s H, PTs (cxC X pins N scope fp s H) ifs tt) (he : ∀ pins fp s H, PE (cxC X pins N scope fp s H) elt te)
    {pins : List (Addr × Obj)} {s3 : Shared} {σ : St} {H3 : Hp} {Q : VK} {it D : Addr} {fp : List Addr} {tn : Nat → Heap → Prop} {J : It} (I3 : Inv X pins σ H3 s3) (T : Turn X.prog X.w X.K tg J fp it tn) (st3 : tn 0 s3.heap) (f3 : ∀ b ∈ fp, FpOk X pins H3 b ∧ b < s3.heap.objs.size)
    {W : Nat → Nat → St → Hp → Prop} {m0 : Nat} (w0 : W 0 m0 (startB fr σ) H3)
    (turn : ∀ i m σ H, W i m σ H → (J.stop i H ∧ Q (.ref D) H) ∨ (J.go i H ∧ ∀ x H2, J.yld i H x H2 → g x σ H2 fun σ3 H3 => tt σ3 H3 fun b H4 => if b = true
        then te σ3 H4 fun y H5 => ∃ ys, H5 D = some (.lst ys) ∧ ys.length < sizeLine ∧ ∃ m', m' < m ∧ W (i + 1) m' σ3 (upd H5 D (.lst (ys ++ [y])))
        else ∃ m', m' < m ∧ W (i + 1) m' σ3 H4))
    {R : Result → Shared → Prop} (hR : ∀ s' H', Inv X pins σ H' s' → FpOk X pins H' s3.heap.objs.size → (∃ m, s'.heap.Ns s3.heap.objs.size m) → Q (.ref D) H' → R (.ok .next) s')
    {h₁ : Heap} {t1 : Nat} (hns : h₁.Ns s3.heap.objs.size fun _ => none) (up3 : ∀ b o, s3.heap.get? b = some o → h₁.get? b = some o) (hown : ∀ x c, (ownAt scope s3).lookup x = some c → h₁.IsCell c none) :
    codeAny (model X.prog X.w) X.A (.compLoop (.ListComp elt [⟨tg, iter, ifs, 0⟩] scope pos) 0 (.ref it) (.ref D) (compEnvC scope (clAt scope X.env s3) s3.heap.objs.size X.env)) R { s3 with heap := h₁, toks := t1 } := by
  have Ib := blk_startC (t1 := t1) B I3 f3 hns up3 hown
  have stat : ∀ {H' : Hp}, (∀ b ∈ fp, H' b = none) → ∀ b ∈ fp, FpOk (cxC X pins N scope fp s3 H3) [] H' b := fun hn b hb =>
    ⟨hn b hb, Nat.ne_of_lt (f3 b hb).2, (blk_okC B I3 f3).exfs b hb, .inl hb, ((blk_okC B I3 f3).exf b hb).2, fun p hp => (f3 b hb).1.2.2.2.2.2 p (by rw [List.append_nil] at hp; exact hp)⟩
  refine comp_loop (fun n s' => ∃ i σ' H', Inv (cxC X pins N scope fp s3 H3) [] σ' H' s' ∧ tn i s'.heap ∧ (∀ b ∈ fp, H' b = none) ∧ W i n σ' H') ?_ m0
    ⟨0, _, _, Ib, T.keep _ _ _ st3 fun b _ o e => up3 b o e, fun b hb => (f3 b hb).1.1, w0⟩
  rintro n s4 ⟨i, σ4, H4, I4, st4, fr4, w4⟩
  rcases turn i n σ4 H4 w4 with ⟨stop, qn⟩ | ⟨go, step⟩
  · refine thn (T.done (cxC X pins N scope fp s3 H3) rfl rfl rfl hc i [] s4 σ4 H4 _ I4 (stat fr4) st4 stop) fun r s5 ⟨hr, I5⟩ => ?_
    subst hr
    have J5 : Inv X pins σ H4 s5 := I3.call' (ch := fp) I5.os I5.base I5.hok I5.bare fun b hb => ⟨(f3 b hb).1.2.2.2.1, (f3 b hb).1.2.1, (f3 b hb).1.2.2.2.2.1, (f3 b hb).1.2.2.2.2.2⟩
    obtain ⟨mm, hmm, _⟩ := I5.loc
    exact hR s5 H4 J5 (I3.fpOk (Nat.le_refl _) I5.free) ⟨mm, hmm⟩ qn
  · refine thn (T.item (cxC X pins N scope fp s3 H3) rfl rfl rfl hc i [] s4 σ4 H4 _ I4 (stat fr4) st4 go) fun r s5 ⟨u, hr, h5⟩ => ?_
    subst hr
    refine thn h5 fun _ s6 ⟨x, H6, I6, r6, y6, st6, fr6⟩ => ?_
    have I6' := I6.pinned (stat fr6) (T.obj _ _ st6)
    have back : ∀ {s7 : Shared} {σ7 : St} {H7 : Hp} {m' : Nat}, Inv (cxC X pins N scope fp s3 H3) ([] ++ pinsAt fp s6.heap) σ7 H7 s7 → m' < n → W (i + 1) m' σ7 H7 →
        ∃ m, m < n ∧ ∃ i σ' H', Inv (cxC X pins N scope fp s3 H3) [] σ' H' s7 ∧ tn i s7.heap ∧ (∀ b ∈ fp, H' b = none) ∧ W i m σ' H' := fun {s7 σ7 H7 m'} I7 hm w7 => by
      refine ⟨m', hm, i + 1, σ7, H7, I7.unpinned, T.keep _ _ _ st6 fun b hb o e => (I7.pin (b, o) (List.mem_append_right _ (List.mem_append_right _ (mem_pinsAt hb e)))).1, fun b hb => ?_, w7⟩
      obtain ⟨o, e, d⟩ := T.obj _ _ st6 b hb
      exact (I7.pin (b, o) (List.mem_append_right _ (List.mem_append_right _ (mem_pinsAt hb e)))).2.1
    refine thn (hg _ _ _ _ _ s6 σ4 H6 x u _ I6' r6 (step x H6 y6)) fun _ s7 ⟨σ7, H7, I7, q7⟩ => ?_
    refine thn (ht _ _ _ _ _ s7 σ7 H7 _ I7 q7) fun ok s8 ⟨H8, I8, q8⟩ => ?_
    cases ok with
    | false =>
      rw [if_neg (by decide)] at q8 ⊢
      obtain ⟨m', hm, w8⟩ := q8
      exact back I8 hm w8
    | true =>
      rw [if_pos rfl] at q8 ⊢
      refine thn (he _ _ _ _ _ s8 σ7 H8 _ I8 q8) fun y s9 ⟨v9, H9, I9, r9, ys, hD9, hl9, m', hm, w9⟩ => ?_
      refine thn (mt_append _ s9 σ7 H9 (.ref D) [v9] _ [y] (fun _ H' => W (i + 1) m' σ7 H') I9 rfl (.cons r9 .nil) ⟨_, ys, v9, rfl, rfl, hD9, hl9, w9⟩) fun _ s10 ⟨_, H10, I10, _, q10⟩ => ?_
      exact back I10 hm q10

/-- the block: from its iterator on -/
theorem comp_blkC (B : BlkC X N fr scope) (hc : X.calm = true)
    (hg : ∀ pins fp s H, PG (cxC X pins N scope fp s H) tg g) (ht : ∀ pins fp s H, PTs (cxC X pins N scope fp s H) ifs tt) (he : ∀ pins fp s H, PE (cxC X pins N scope fp s H) elt te)
    {pins : List (Addr × Obj)} {s2 : Shared} {σ : St} {H2 : Hp} {Q : VK} {E : Value → Shared → Prop} {it : Addr} {fp : List Addr} {tn : Nat → Heap → Prop} {J : It} (I2 : Inv X pins σ H2 s2) (T : Turn X.prog X.w X.K tg J fp it tn) (st2 : tn 0 s2.heap) (f2 : ∀ b ∈ fp, FpOk X pins H2 b)
    (q : ∀ D, H2 D = none → ∃ W : Nat → Nat → St → Hp → Prop, (∃ m, W 0 m (startB fr σ) (upd H2 D (.lst []))) ∧ ∀ i m σ H, W i m σ H →
      (J.stop i H ∧ Q (.ref D) H) ∨ (J.go i H ∧ ∀ x H2, J.yld i H x H2 → g x σ H2 fun σ3 H3 => tt σ3 H3 fun b H4 => if b = true
        then te σ3 H4 fun y H5 => ∃ ys, H5 D = some (.lst ys) ∧ ys.length < sizeLine ∧ ∃ m', m' < m ∧ W (i + 1) m' σ3 (upd H5 D (.lst (ys ++ [y])))
        else ∃ m', m' < m ∧ W (i + 1) m' σ3 H4))
    {RR : Value → Addr → Result → Shared → Prop}
    (hRR : ∀ D C s' H', Inv X pins σ H' s' → FpOk X pins H' C → (∃ m, s'.heap.Ns C m) → Q (.ref D) H' → RR (.ref D) C (.ok .next) s') :
    wpAny (model X.prog X.w) X.A (newList []) (fun acc s₃ => wpAny (model X.prog X.w) X.A (newFunctionEnv scope X.env.globals (clOf scope X.env) [] X.env.qual none .none (some X.env)) (fun cenv s₄ =>
      codeAny (model X.prog X.w) X.A (.compStart (.ListComp elt [⟨tg, iter, ifs, 0⟩] scope pos) 0 (.ref it) acc { cenv with scope := relabel scope X.env }) (RR acc cenv.locals) s₄) E s₃) E s2 := by
  have hD : H2 s2.heap.objs.size = none := I2.hok.fresh (Nat.le_refl _)
  obtain ⟨W, ⟨m0, w0⟩, turn⟩ := q s2.heap.objs.size hD
  have I3 := I2.lnew (ys := []) (its := []) (t' := s2.toks) .nil (by decide)
  have lt2 : ∀ b ∈ fp, b < s2.heap.objs.size := fun b hb => by
    obtain ⟨o, e, _⟩ := T.obj _ _ st2 b hb
    exact Heap.lt_size e
  refine wpAny_newObj_type (newEnv_cells ?_)
  have up2 : ∀ b o, s2.heap.get? b = some o → (s2.heap.push { cls := .type "list", data := .seq ([] : List Value).toArray }).get? b = some o := fun b o e => Heap.get?_push_of_some _ e
  generalize hS3 : ({ s2 with heap := s2.heap.push { cls := .type "list", data := .seq ([] : List Value).toArray } } : Shared) = s3 at *
  have hh3 : s3.heap = s2.heap.push { cls := .type "list", data := .seq ([] : List Value).toArray } := by rw [← hS3]
  have up3 : ∀ b o, s3.heap.get? b = some o → (pushCells (s3.heap.push { cls := .type "dict", data := .dict #[] }) scope.names).get? b = some o := fun b o e => pushCells_keeps _ _ b o (Heap.get?_push_of_some _ e)
  have hns : (pushCells (s3.heap.push { cls := .type "dict", data := .dict #[] }) scope.names).Ns s3.heap.objs.size fun _ => none := (Heap.Ns.new s3.heap (.type "dict")).keeps (pushCells_keeps _ _)
  have f3 : ∀ b ∈ fp, FpOk X pins (upd H2 s2.heap.objs.size (.lst [])) b ∧ b < s3.heap.objs.size := fun b hb => by
    refine ⟨⟨?_, (f2 b hb).2⟩, ?_⟩
    · rw [upd_ne (Nat.ne_of_lt (lt2 b hb))]
      exact (f2 b hb).1
    · rw [hh3, Heap.size_push]
      exact Nat.lt_succ_of_lt (lt2 b hb)
  have st3 : tn 0 s3.heap := T.keep _ _ _ st2 fun b _ o e => by rw [hh3]; exact up2 b o e
  have fin := comp_inC (iter := iter) (pos := pos) (D := s2.heap.objs.size) (t1 := s3.toks) (R := RR (.ref s2.heap.objs.size) s3.heap.objs.size) B hc hg ht he I3 T st3 f3 w0 turn
    (fun s' H' J' f m q => hRR _ _ s' H' J' f m q) hns up3 fun x c h => own_cell h
  exact codeAny_compStart_list fin (T.self _ 0 _ _ _ (T.keep _ _ _ st3 fun b _ o e => up3 b o e) fin)

/-- [elt for tg in iter if ..] as a value -/
theorem pe_compC {sc : Scope} {NX : List Str} (S : BlkSC sc scope NX N fr) (e1 : X.env.scope = sc) (e2 : X.N = NX) (hc : X.calm = true) (hi : PI X tg iter wi)
    (hg : ∀ pins fp s H, PG (cxC X pins N scope fp s H) tg g) (ht : ∀ pins fp s H, PTs (cxC X pins N scope fp s H) ifs tt) (he : ∀ pins fp s H, PE (cxC X pins N scope fp s H) elt te)
    (hs : ∀ x, foldedSetIterable iter X.env x = pure x := by intro _; rfl) : PE X (.ListComp elt [⟨tg, iter, ifs, 0⟩] scope pos) (tComp wi fr g tt te) := by
  intro pins s σ H Q I h
  have B := S.blk e1 e2 I.ok
  rw [eval_ListComp]
  refine wpAny_comprehension_free (use := none) rfl hs B.clos B.kind B.names (thn (hi pins s σ H _ I h) fun v s1 h1 => thn h1 fun itv s2 h2 => ?_)
  obtain ⟨it, fp, tn, J, H2, e, I2, T, st2, f2, q⟩ := h2
  subst e
  refine comp_blkC (RR := fun acc C => compPost (model X.prog X.w) X.A X.xe none (EP X pins σ Q) acc C) B hc hg ht he I2 T st2 f2 q ?_
  intro D C s' H' J' fC ⟨m, hm⟩ qn
  refine ⟨m, hm, fun h' hs' => ⟨.ref D, H', ?_, rfl, qn⟩⟩
  obtain ⟨f0, f1, _, f3, f4, f5⟩ := fC
  exact J'.turned (t' := s'.toks) (fun b o hb e => (hs'.2 b hb).trans e) f0 f1 f3 f4 f5
/-- y = [elt for tg in iter if ..]: the name is stored ahead of the block's end -/
theorem ps_setCC {i : Nat} {y : Str} {sc : Scope} {NX : List Str} (hN : X.N.Nodup) (hi' : X.N[i]? = some y) (hy : Loc X.env.scope y) (S : BlkSC sc scope NX N fr) (e1 : X.env.scope = sc) (e2 : X.N = NX) (hc : X.calm = true) (hi : PI X tg iter wi)
    (hg : ∀ pins fp s H, PG (cxC X pins N scope fp s H) tg g) (ht : ∀ pins fp s H, PTs (cxC X pins N scope fp s H) ifs tt) (he : ∀ pins fp s H, PE (cxC X pins N scope fp s H) elt te)
    (hsw : swapsWith (.ListComp elt [⟨tg, iter, ifs, 0⟩] scope pos) (some (.Name y py)) spos.line X.env = pure true := by rfl) (hs : ∀ x, foldedSetIterable iter X.env x = pure x := by intro _; rfl)
    (hf : X.fn y = true ∨ X.env.scope.names.lookup y = some .local := by first | exact .inl rfl | exact .inr rfl | assumption) :
    PS X (.Assign [.Name y py] (.ListComp elt [⟨tg, iter, ifs, 0⟩] scope pos) spos) (tAsg (tComp wi fr g tt te) (gName i)) := by
  intro pins s σ H D I h
  have B := S.blk e1 e2 I.ok
  rw [exec_Assign_Name_used _ _ _ _ hsw]
  refine wpAny_bind (wpAny_standAt (wpAny_bind ?_))
  show wpAny _ X.A (do let _ ← comprehension (.ListComp elt [⟨tg, iter, ifs, 0⟩] scope pos) scope X.env _ (newList []) false (eval iter X.env) (some (assign (.Name y py) X.env))) _ _ s
  refine wpAny_bind (wpAny_mono (wpAny_comprehension_free (use := some (assign (.Name y py) X.env)) (Q := fun _ s' => SP X pins D .next s') rfl hs B.clos B.kind B.names (thn (hi pins s σ H _ I h) fun v s1 h1 => thn h1 fun itv s2 h2 => ?_)) (fun _ s' hq => wpAny_pure (wpAny_pure hq)) fun _ _ e => e)
  obtain ⟨it, fp, tn, J, H2, e, I2, T, st2, f2, q⟩ := h2
  subst e
  refine comp_blkC (Q := fun v H' => gName i v σ H' D.nx) (RR := fun acc C => compPost (model X.prog X.w) X.A X.xe (some (assign (.Name y py) X.env)) (fun _ s' => SP X pins D .next s') acc C) B hc hg ht he I2 T st2 f2 q ?_
  intro D' C s' H' J' fC ⟨m, hm⟩ qn
  obtain ⟨f0, f1, _, f3, f4, f5⟩ := fC
  show wpAny _ X.A (assign (.Name y py) X.env (.ref D')) _ _ _
  refine wpAny_assign_Name (store_ok2 J' hN hi' hy (v := .ref D') rfl (fun s'' J'' ⟨a, sb, ha⟩ => ?_) hf)
  have hCa : C ≠ a := by
    rcases ha with z | z
    · rw [z]; exact f1
    · exact fun w' => f4 _ _ z w'.symm
  refine ⟨m, hm.sameBut sb hCa, fun h' hs' => ⟨_, H', ?_, qn⟩⟩
  exact J''.turned (t' := s''.toks) (fun b o hb e => (hs'.2 b hb).trans e) f0 f1 f3 f4 f5
end
/-! ### in a block: readings with K told -/
section
variable {X : Cx} {tg : Expr} (K : PySem.W.Frag)
theorem pi_listK (hK : X.K = K) {l : Expr} {tl : TE} (hl : PE X l tl) : PI X tg l (iList K tl) := by subst hK; exact pi_list hl
theorem ix_listK (hK : X.K = K) : IxR X (rIxL K) := by subst hK; exact ix_list
theorem pi_zipK (hK : X.K = K) {elts : List Expr} {x1} {tpos : Pos} {a b : Expr} {ta : TA} {p pos : Pos} (hg : Gl X "zip") (hm : X.mg "zip" = none) (ha : PA X [a, b] ta) (hs : starEach [a, b] X.env = [(false, eval a X.env), (false, eval b X.env)] := by rfl)
    (hs2 : starEach [b] X.env = [(false, eval b X.env)] := by rfl) : PI X (.Tuple elts x1 tpos) (.Call (.Name "zip" p) [a, b] [] pos) (iZip K ta) := by subst hK; exact pi_zip hg hm ha hs hs2
theorem pe_fldK (hK : X.K = K) {e : Expr} {ta : TE} {f : Str} {pos : Pos} (he : PE X e ta) (hb : attributeBase e f X.env (eval e X.env) = eval e X.env) : PE X (.Attribute e f pos) (tFld K ta f) := by subst hK; exact pe_fld he hb
end
/-- a block's scope within a scope -/
def relabelS (scope sc : Scope) : Scope := { scope with names := scope.names.map fun (y : Str × NameKind) => match y with
  | (n, k) => if (k == NameKind.free && sc.kind == .function && sc.names.lookup n == some .cell) = true then (n, NameKind.cell) else (n, k) }
end L2

/-! MY OWN RULES, part 10: comprehensions whose items are new objects: what is said of them hangs on the heap -/
namespace L2
open PySem PySem.Spec PyProof.Rows
/-- all but one place kept -/
def But (L : Addr) (H H' : Hp) : Prop := ∀ b o, H b = some o → b ≠ L → H' b = some o
theorem But.of {L : Addr} {H H' : Hp} (e : Same H H') : But L H H' := fun b o h _ => e b o h
theorem But.trans {L : Addr} {H H1 H2 : Hp} (a : But L H H1) (b : But L H1 H2) : But L H H2 := fun c o h n => b c o (a c o h n) n
theorem But.upd {L : Addr} {H : Hp} {o : HO} : But L H (upd H L o) := fun b u h n => by rw [upd_ne n]; exact h
theorem But.seq {K : PySem.W.Frag} {L : Addr} {H H' : Hp} {a : Addr} {xs : List V} (e : But L H H') (h : SqL K H a xs) (n : H a ≠ none → a ≠ L) : SqL K H' a xs := by
  rcases h with (h | ⟨o, h⟩) | h
  · exact .inl (.inl (e _ _ h (n (by rw [h]; simp))))
  · exact .inl (.inr ⟨o, e _ _ h (n (by rw [h]; simp))⟩)
  · exact .inr h
section
variable {K : PySem.W.Frag} {g : TG} {tt : TT} {te : TE}
theorem comp_itH {J : It} {L : Addr} {Q : Hp → Prop} {σ : St} {H : Hp} (n : Nat) (H0 : Hp) (S : St → Prop) (Pv : Nat → List V → Hp → Prop) (hgo : ∀ i H', i < n → Same H0 H' → J.go i H') (hstop : ∀ H', Same H0 H' → J.stop n H')
    (stab : ∀ i ys H H', But L H H' → Pv i ys H → Pv i ys H')
    (hn0 : H0 L = none) (hσ : S σ) (h0 : Same H0 H) (hL : H L = some (.lst [])) (p0 : Pv 0 [] H) (hz : n ≤ sizeLine) (hl : ∀ i ys H, Pv i ys H → ys.length ≤ i)
    (turn : ∀ i σ H' ys, i < n → S σ → Same H0 H' → H' L = some (.lst ys) → Pv i ys H' → ∀ (N : St → V → Hp → Prop) (M : St → Hp → Prop), (∀ σ3 y H5, S σ3 → Same H0 H5 → H5 L = some (.lst ys) → Pv (i + 1) (ys ++ [y]) H5 → N σ3 y H5) →
      ∀ x H2, J.yld i H' x H2 → g x σ H2 fun σ3 H3 => tt σ3 H3 fun b H4 => if b = true then te σ3 H4 fun y H5 => N σ3 y H5 else M σ3 H4)
    (fin : ∀ H' ys, Same H0 H' → H' L = some (.lst ys) → Pv n ys H' → Q H') :
    ∃ W : Nat → Nat → St → Hp → Prop, (∃ m, W 0 m σ H) ∧ ∀ i m σ H, W i m σ H → (J.stop i H ∧ Q H) ∨ (J.go i H ∧ ∀ x H2, J.yld i H x H2 → g x σ H2 fun σ3 H3 => tt σ3 H3 fun b H4 => if b = true
      then te σ3 H4 fun y H5 => ∃ ys, H5 L = some (.lst ys) ∧ ys.length < sizeLine ∧ ∃ m', m' < m ∧ W (i + 1) m' σ3 (upd H5 L (.lst (ys ++ [y])))
      else ∃ m', m' < m ∧ W (i + 1) m' σ3 H4) := by
  refine ⟨fun i m σ H => m + i = n ∧ S σ ∧ Same H0 H ∧ ∃ ys, H L = some (.lst ys) ∧ Pv i ys H, ⟨n, rfl, hσ, h0, [], hL, p0⟩, ?_⟩
  rintro i m σ H ⟨hm, hs, hsame, ys, hys, hp⟩
  by_cases hi : i < n
  · refine .inr ⟨hgo i H hi hsame, fun x H2 hy => turn i σ H ys hi hs hsame hys hp _ _ (fun σ3 y H5 k1 k2 k3 k4 => ?_) x H2 hy⟩
    refine ⟨ys, k3, by have := hl i ys H hp; omega, m - 1, by omega, by omega, k1, fun b o e => ?_, ys ++ [y], upd_same, stab _ _ _ _ But.upd k4⟩
    rw [upd_ne (ne_of_none e hn0)]; exact k2 b o e
  · have e : i = n := by omega
    subst e
    exact .inl ⟨hstop H hsame, fin H ys hsame hys hp⟩
theorem comp_lstH {a L : Addr} {xs : List V} {Q : Hp → Prop} {σ : St} {H : Hp} (H0 : Hp) (S : St → Prop) (Pv : Nat → List V → Hp → Prop) (ha : SqL K H0 a xs) (stab : ∀ i ys H H', But L H H' → Pv i ys H → Pv i ys H')
    (hn0 : H0 L = none) (hσ : S σ) (h0 : Same H0 H) (hL : H L = some (.lst [])) (p0 : Pv 0 [] H) (hz : xs.length ≤ sizeLine) (hl : ∀ i ys H, Pv i ys H → ys.length ≤ i)
    (turn : ∀ i x σ H' ys, xs[i]? = some x → S σ → Same H0 H' → H' L = some (.lst ys) → Pv i ys H' → ∀ (N : St → V → Hp → Prop) (M : St → Hp → Prop), (∀ σ3 y H5, S σ3 → Same H0 H5 → H5 L = some (.lst ys) → Pv (i + 1) (ys ++ [y]) H5 → N σ3 y H5) →
      g x σ H' fun σ3 H3 => tt σ3 H3 fun b H4 => if b = true then te σ3 H4 fun y H5 => N σ3 y H5 else M σ3 H4)
    (fin : ∀ H' ys, Same H0 H' → H' L = some (.lst ys) → Pv xs.length ys H' → Q H') :
    ∃ W : Nat → Nat → St → Hp → Prop, (∃ m, W 0 m σ H) ∧ ∀ i m σ H, W i m σ H → ((Itl K a).stop i H ∧ Q H) ∨ ((Itl K a).go i H ∧ ∀ x H2, (Itl K a).yld i H x H2 → g x σ H2 fun σ3 H3 => tt σ3 H3 fun b H4 => if b = true
      then te σ3 H4 fun y H5 => ∃ ys, H5 L = some (.lst ys) ∧ ys.length < sizeLine ∧ ∃ m', m' < m ∧ W (i + 1) m' σ3 (upd H5 L (.lst (ys ++ [y])))
      else ∃ m', m' < m ∧ W (i + 1) m' σ3 H4) :=
  comp_itH xs.length H0 S Pv (fun i H' hi e => ⟨xs, xs[i], e.seq ha, List.getElem?_eq_getElem hi⟩) (fun H' e => ⟨xs, e.seq ha, Nat.le_refl _⟩) stab hn0 hσ h0 hL p0 hz hl
    (fun i σ H' ys _ hs e k p N M hN x H2 hy => by
      obtain ⟨rfl, hx⟩ := hy
      exact turn i x σ H2 ys (hx xs (e.seq ha)) hs e k p N M hN) fin
theorem comp_rngH {lo : Int} {n : Nat} {L : Addr} {Q : Hp → Prop} {σ : St} {H : Hp} (H0 : Hp) (S : St → Prop) (Pv : Nat → List V → Hp → Prop) (stab : ∀ i ys H H', But L H H' → Pv i ys H → Pv i ys H')
    (hn0 : H0 L = none) (hσ : S σ) (h0 : Same H0 H) (hL : H L = some (.lst [])) (p0 : Pv 0 [] H) (hz : n ≤ sizeLine) (hl : ∀ i ys H, Pv i ys H → ys.length ≤ i)
    (turn : ∀ i σ H' ys, i < n → S σ → Same H0 H' → H' L = some (.lst ys) → Pv i ys H' → ∀ (N : St → V → Hp → Prop) (M : St → Hp → Prop), (∀ σ3 y H5, S σ3 → Same H0 H5 → H5 L = some (.lst ys) → Pv (i + 1) (ys ++ [y]) H5 → N σ3 y H5) →
      g (.int (lo + i)) σ H' fun σ3 H3 => tt σ3 H3 fun b H4 => if b = true then te σ3 H4 fun y H5 => N σ3 y H5 else M σ3 H4)
    (fin : ∀ H' ys, Same H0 H' → H' L = some (.lst ys) → Pv n ys H' → Q H') :
    ∃ W : Nat → Nat → St → Hp → Prop, (∃ m, W 0 m σ H) ∧ ∀ i m σ H, W i m σ H → ((Itr lo n).stop i H ∧ Q H) ∨ ((Itr lo n).go i H ∧ ∀ x H2, (Itr lo n).yld i H x H2 → g x σ H2 fun σ3 H3 => tt σ3 H3 fun b H4 => if b = true
      then te σ3 H4 fun y H5 => ∃ ys, H5 L = some (.lst ys) ∧ ys.length < sizeLine ∧ ∃ m', m' < m ∧ W (i + 1) m' σ3 (upd H5 L (.lst (ys ++ [y])))
      else ∃ m', m' < m ∧ W (i + 1) m' σ3 H4) :=
  comp_itH n H0 S Pv (fun i H' hi e => hi) (fun H' e => Nat.le_refl _) stab hn0 hσ h0 hL p0 hz hl
    (fun i σ H' ys hi hs e k p N M hN x H2 hy => by
      obtain ⟨rfl, rfl⟩ := hy
      exact turn i σ H2 ys hi hs e k p N M hN) fin
end
/-! ### == of plain data with itself -/
mutual
theorem eqv_self : ∀ d : PyData, d.canLay0 = true → PyData.eqv d d = true
  | .none, _ => by simp [PyData.eqv]
  | .bool _, _ => by simp [PyData.eqv]
  | .int _, _ => by simp [PyData.eqv]
  | .str _, _ => by simp [PyData.eqv]
  | .list xs, h => by rw [PyData.eqv]; exact eqvAll_self xs (by simpa [PyData.canLay0] using h)
  | .tuple xs, h => by rw [PyData.eqv]; exact eqvAll_self xs (by simpa [PyData.canLay0] using h)
  | .dict _, h => by simp [PyData.canLay0] at h
theorem eqvAll_self : ∀ xs : List PyData, PyData.canLayAll0 xs = true → PyData.eqvAll xs xs = true
  | [], _ => by simp [PyData.eqvAll]
  | x :: xs, h => by
    have h' : x.canLay0 = true ∧ PyData.canLayAll0 xs = true := by simpa [PyData.canLayAll0] using h
    rw [PyData.eqvAll, eqv_self x h'.1, eqvAll_self xs h'.2]; rfl
end
theorem canLay_map {α : Type} (f : α → PyData) : ∀ l : List α, (∀ x ∈ l, (f x).canLay0 = true) → PyData.canLayAll0 (l.map f) = true
  | [], _ => by simp [PyData.canLayAll0]
  | x :: l, h => by
    rw [List.map_cons, PyData.canLayAll0, h x (List.mem_cons_self ..), canLay_map f l fun y hy => h y (List.mem_cons_of_mem _ hy)]; rfl
theorem depth_map {α : Type} (f : α → PyData) (n : Nat) : ∀ l : List α, (∀ x ∈ l, (f x).depth ≤ n) → PyData.depthAll (l.map f) ≤ n
  | [], _ => by simp [PyData.depthAll]
  | x :: l, h => by
    rw [List.map_cons, PyData.depthAll]
    exact Nat.max_le.mpr ⟨h x (List.mem_cons_self ..), depth_map f n l fun y hy => h y (List.mem_cons_of_mem _ hy)⟩
/-- lists of ints, lists of these -/
def dInts (ns : List Int) : PyData := .list (ns.map PyData.int)
def dCols (cs : List (List Int)) : PyData := .list (cs.map dInts)
theorem dInts_can (ns : List Int) : (dInts ns).canLay0 = true := by unfold dInts; rw [PyData.canLay0]; exact canLay_map _ ns fun _ _ => by simp [PyData.canLay0]
theorem dInts_depth (ns : List Int) : (dInts ns).depth ≤ 1 := by unfold dInts; rw [PyData.depth]; exact Nat.succ_le_succ (depth_map _ 0 ns fun _ _ => by simp [PyData.depth])
theorem dCols_can (cs : List (List Int)) : (dCols cs).canLay0 = true := by unfold dCols; rw [PyData.canLay0]; exact canLay_map _ cs fun c _ => dInts_can c
theorem dCols_depth (cs : List (List Int)) : (dCols cs).depth ≤ 2 := by unfold dCols; rw [PyData.depth]; exact Nat.succ_le_succ (depth_map _ 1 cs fun c _ => dInts_depth c)
theorem shaped_of {d : PyData} (h1 : d.canLay0 = true) (h2 : d.depth ≤ 64) : SeqAt.shaped d = true := by
  unfold SeqAt.shaped; rw [h1, decide_eq_true h2]; rfl
theorem dCols_shaped (cs : List (List Int)) : SeqAt.shaped (dCols cs) = true := shaped_of (dCols_can cs) (by have := dCols_depth cs; omega)
theorem RdD.ints {K : PySem.W.Frag} {H : Hp} {a : Addr} {ns : List Int} (h : SqL K H a (ns.map V.int)) : RdD K H (.ref a) (dInts ns) := .lst h (RdDs.ints ns)
/-- columns: lists at these places -/
def ColsAt (K : PySem.W.Frag) (H : Hp) : List Addr → List (List Int) → Prop := Paired fun a c => SqL K H a (c.map V.int)
theorem ColsAt.same {K : PySem.W.Frag} {H H' : Hp} (e : Same H H') : ∀ {as : List Addr} {cs : List (List Int)}, ColsAt K H as cs → ColsAt K H' as cs
  | _, _, .nil => .nil
  | _, _, .cons h t => .cons (e.seq h) (ColsAt.same e t)
theorem ColsAt.get {K : PySem.W.Frag} {H : Hp} : ∀ {as : List Addr} {cs : List (List Int)} {i : Nat} {a : Addr}, ColsAt K H as cs → as[i]? = some a → ∃ c, cs[i]? = some c ∧ SqL K H a (c.map V.int)
  | _, _, 0, _, .cons h _, e => by cases e; exact ⟨_, rfl, h⟩
  | _, _, i + 1, _, .cons _ t, e => ColsAt.get (i := i) t e
theorem ColsAt.length {K : PySem.W.Frag} {H : Hp} {as : List Addr} {cs : List (List Int)} (h : ColsAt K H as cs) : as.length = cs.length := Paired.length h
theorem ColsAt.rd {K : PySem.W.Frag} {H : Hp} : ∀ {as : List Addr} {cs : List (List Int)}, ColsAt K H as cs → RdDs K H (as.map V.ref) (cs.map dInts)
  | _, _, .nil => .nil
  | _, _, .cons h t => .cons (.ints h) (ColsAt.rd t)
theorem RdD.cols {K : PySem.W.Frag} {H : Hp} {a : Addr} {as : List Addr} {cs : List (List Int)} (h : SqL K H a (as.map V.ref)) (t : ColsAt K H as cs) : RdD K H (.ref a) (dCols cs) := .lst h t.rd
/-- .. own lists, away from one place -/
def ColsO (L : Addr) (H : Hp) : List Addr → List (List Int) → Prop := Paired fun a c => H a = some (.lst (c.map V.int)) ∧ a ≠ L
theorem ColsO.but {L : Addr} {H H' : Hp} (e : But L H H') : ∀ {as : List Addr} {cs : List (List Int)}, ColsO L H as cs → ColsO L H' as cs
  | _, _, .nil => .nil
  | _, _, .cons h t => .cons ⟨e _ _ h.1 h.2, h.2⟩ (ColsO.but e t)
theorem ColsO.at {K : PySem.W.Frag} {L : Addr} {H : Hp} : ∀ {as : List Addr} {cs : List (List Int)}, ColsO L H as cs → ColsAt K H as cs
  | _, _, .nil => .nil
  | _, _, .cons h t => .cons (SqL.of h.1) (ColsO.at t)
theorem ColsO.snoc {L : Addr} {H : Hp} {a : Addr} {c : List Int} (h : H a = some (.lst (c.map V.int))) (n : a ≠ L) : ∀ {as : List Addr} {cs : List (List Int)}, ColsO L H as cs → ColsO L H (as ++ [a]) (cs ++ [c])
  | _, _, .nil => .cons ⟨h, n⟩ .nil
  | _, _, .cons k t => .cons k (ColsO.snoc h n t)
theorem ref_at {as : List Addr} {i : Nat} {y : V} (h : (as.map V.ref)[i]? = some y) : ∃ z, as[i]? = some z ∧ y = V.ref z := by
  rw [List.getElem?_map] at h
  cases e : as[i]? with
  | none => rw [e] at h; cases h
  | some z => rw [e] at h; exact ⟨z, rfl, (Option.some.inj h).symm⟩
theorem snoc_take {α : Type} {l : List α} {i : Nat} {z : α} (h : l[i]? = some z) : l.take (i + 1) = l.take i ++ [z] := by
  rw [List.take_add_one, h]; rfl
section
variable {X : Cx} (K : PySem.W.Frag)
theorem call_sumK (hK : X.K = K) (hc : X.calm = true) : CallR X (.builtin "sum") (fun xs H Q => ∃ p, ∃ ns : List Int, xs = [.ref p] ∧ SqL K H p (ns.map V.int) ∧ Q (.int ns.sum) H) := by subst hK; exact call_sum hc
end
theorem ColsO.same {L : Addr} {H H' : Hp} (e : Same H H') {as : List Addr} {cs : List (List Int)} (h : ColsO L H as cs) : ColsO L H' as cs := h.but (But.of e)
/-- a new place is away from them -/
theorem ColsO.away {L L' : Addr} {H H' : Hp} (n : H L' = none) (e : Same H H') : ∀ {as : List Addr} {cs : List (List Int)}, ColsO L H as cs → ColsO L' H' as cs
  | _, _, .nil => .nil
  | _, _, .cons h t => .cons ⟨e _ _ h.1, ne_of_none h.1 n⟩ (ColsO.away n e t)
theorem ColsO.length {L : Addr} {H : Hp} {as : List Addr} {cs : List (List Int)} (h : ColsO L H as cs) : as.length = cs.length := Paired.length h
end L2

/-! MY OWN RULES, part 11: zip's comprehension whose items are new objects -/
namespace L2
open PySem PySem.Spec PyProof.Rows
section
variable {K : PySem.W.Frag} {g : TG} {tt : TT} {te : TE}
theorem comp_zipH {a c L : Addr} {xs zs : List V} {Q : Hp → Prop} {σ : St} {H : Hp} (H0 : Hp) (S : St → Prop) (Pv : Nat → List V → Hp → Prop) (ha : SqL K H0 a xs) (hc : SqL K H0 c zs) (stab : ∀ i ys H H', But L H H' → Pv i ys H → Pv i ys H')
    (hn0 : H0 L = none) (hσ : S σ) (h0 : Same H0 H) (hL : H L = some (.lst [])) (p0 : Pv 0 [] H) (hz : min xs.length zs.length ≤ sizeLine) (hl : ∀ i ys H, Pv i ys H → ys.length ≤ i)
    (turn : ∀ i x z p σ H' ys, xs[i]? = some x → zs[i]? = some z → H' p = none → S σ → Same H0 H' → H' L = some (.lst ys) → Pv i ys H' → ∀ (N : St → V → Hp → Prop) (M : St → Hp → Prop), (∀ σ3 y H5, S σ3 → Same H0 H5 → H5 L = some (.lst ys) → Pv (i + 1) (ys ++ [y]) H5 → N σ3 y H5) →
      g (.ref p) σ (upd H' p (.tup [x, z])) fun σ3 H3 => tt σ3 H3 fun b H4 => if b = true then te σ3 H4 fun y H5 => N σ3 y H5 else M σ3 H4)
    (fin : ∀ H' ys, Same H0 H' → H' L = some (.lst ys) → Pv (min xs.length zs.length) ys H' → Q H') :
    ∃ W : Nat → Nat → St → Hp → Prop, (∃ m, W 0 m σ H) ∧ ∀ i m σ H, W i m σ H → ((Itz K a c).stop i H ∧ Q H) ∨ ((Itz K a c).go i H ∧ ∀ x H2, (Itz K a c).yld i H x H2 → g x σ H2 fun σ3 H3 => tt σ3 H3 fun b H4 => if b = true
      then te σ3 H4 fun y H5 => ∃ ys, H5 L = some (.lst ys) ∧ ys.length < sizeLine ∧ ∃ m', m' < m ∧ W (i + 1) m' σ3 (upd H5 L (.lst (ys ++ [y])))
      else ∃ m', m' < m ∧ W (i + 1) m' σ3 H4) :=
  comp_itH (min xs.length zs.length) H0 S Pv
    (fun i H' hi e => ⟨xs, zs, xs[i]'(by omega), zs[i]'(by omega), e.seq ha, e.seq hc, List.getElem?_eq_getElem _, List.getElem?_eq_getElem _⟩) (fun H' e => ⟨xs, zs, e.seq ha, e.seq hc, by omega⟩) stab hn0 hσ h0 hL p0 hz hl
    (fun i σ H' ys _ hs e k p N M hN v H2 hy => by
      obtain ⟨t, x, z, ht, rfl, rfl, hx, hz'⟩ := hy
      exact turn i x z t σ H' ys (hx xs (e.seq ha)) (hz' zs (e.seq hc)) ht hs e k p N M hN) fin
end
/-- own lists away from one place, new since H0 -/
def ColsN (L : Addr) (H0 H : Hp) : List Addr → List (List Int) → Prop := Paired fun a c => H a = some (.lst (c.map V.int)) ∧ a ≠ L ∧ H0 a = none
theorem ColsN.but {L : Addr} {H0 H H' : Hp} (e : But L H H') : ∀ {as : List Addr} {cs : List (List Int)}, ColsN L H0 H as cs → ColsN L H0 H' as cs
  | _, _, .nil => .nil
  | _, _, .cons h t => .cons ⟨e _ _ h.1 h.2.1, h.2⟩ (ColsN.but e t)
theorem ColsN.length {L : Addr} {H0 H : Hp} {as : List Addr} {cs : List (List Int)} (h : ColsN L H0 H as cs) : as.length = cs.length := Paired.length h
theorem ColsN.snoc {L : Addr} {H0 H : Hp} {a : Addr} {c : List Int} (h : H a = some (.lst (c.map V.int))) (n : a ≠ L) (n0 : H0 a = none) : ∀ {as : List Addr} {cs : List (List Int)}, ColsN L H0 H as cs → ColsN L H0 H (as ++ [a]) (cs ++ [c])
  | _, _, .nil => .cons ⟨h, n, n0⟩ .nil
  | _, _, .cons k t => .cons k (ColsN.snoc h n n0 t)
theorem bt_any : bootBuiltins "any" = some (.builtin "any") := by decide +kernel
theorem bools_any (bs : List Bool) : (List.range bs.length).any (fun i => bs.getD i false) = bs.any id := by
  induction bs with
  | nil => rfl
  | cons b bs ih =>
    rw [List.length_cons, List.range_succ_eq_map, List.any_cons, List.any_map, List.any_cons]
    congr 1
theorem call_any {X : Cx} (hc : X.calm = true) : CallR X (.builtin "any") (fun xs H Q => ∃ p, ∃ bs : List Bool, xs = [.ref p] ∧ SqL X.K H p (bs.map V.bl) ∧ Q (.bl (bs.any id)) H) := by
  intro pins s σ H xs us Q I r h
  obtain ⟨p, bs, rfl, hS, q⟩ := h
  obtain ⟨u, rfl, ru⟩ := vals1 r
  cases ru
  obtain ⟨its, rv, pl, hz⟩ := I.list hS
  have ll := rv.length
  rw [List.length_map] at ll
  obtain ⟨o, ho, _⟩ := pl.isList
  have hI : p ≠ s.heap.objs.size := Nat.ne_of_lt (Heap.lt_size ho)
  refine call_any_walk (wpAny_pyIter_list pl.isList ?_)
  refine ⟨s.heap.objs.size, _, _, _, _, _, fun i => bs.getD i false, rfl, Walks.list (A := X.A.in1) (show X.A.in1.handled = none from I.ok.hd hc) s.heap.objs.size p hI its.toArray, ⟨⟨_, Heap.get?_push_size _ rfl, rfl, rfl⟩, pl.isList.push _⟩, ?_, fun h' tk hk => ?_⟩
  · intro i v s' Q' E' hP hq
    have hP : its[i]? = some v := by simpa using hP
    have hil : i < bs.length := by rw [ll]; exact (List.getElem?_eq_some_iff.mp hP).1
    obtain ⟨u, hu, ru⟩ := rv.get (i := i) (x := V.bl bs[i]) (by rw [List.getElem?_map, List.getElem?_eq_getElem hil]; rfl)
    rw [hP] at hu
    cases hu
    cases ru
    have e : bs.getD i false = bs[i] := by rw [List.getD_eq_getElem?_getD, List.getElem?_eq_getElem hil]; rfl
    have hq : Q' (bs.getD i false) s' := hq
    rw [e] at hq
    exact wpAny_truthy_bool hq
  · have e : (List.range its.toArray.size).any (fun i => bs.getD i false) = bs.any id := by
      rw [← bools_any bs, ll]; simp
    rw [e]
    exact ⟨.bl _, H, I.kept fun b o q => hk b o (fun z => by
      have z : b = s.heap.objs.size := by simpa using z
      exact absurd (Heap.lt_size q) (by rw [z]; exact Nat.lt_irrefl _)) (Heap.get?_push_of_some _ q), rfl, q⟩
end L2

/-! MY OWN RULES, part 12: sorted of ints, list(range(n)), max -/
namespace L2
open PySem PySem.Spec PyProof.Rows
theorem bt_sorted : bootBuiltins "sorted" = some (.builtin "sorted") := by decide +kernel
section
variable {X : Cx}
end
end L2

/-! MY OWN RULES, part 13: xs[::-1], a comprehension over a part of a list -/
namespace L2
open PySem PySem.Spec PyProof.Rows
section
variable {X : Cx}
end
end L2

/-! MY OWN RULES, part 14: the tree of questions of a sort, answered by an order: a sorted row -/
namespace L2
open PySem PySem.Spec PyProof.Rows PySem.W
section
variable {O : KeyOrd} {k : Nat → O.α} {n : Nat} {I : Shared → Prop} {cmp : Nat → Nat → (Bool → Shared → Prop) → Shared → Prop}
/-- the key at a place -/
def kat (k : Nat → O.α) (p : Array Nat) (i : Nat) : O.α := k (p.getD i 0)
def SrtTo (k : Nat → O.α) (p : Array Nat) (m : Nat) : Prop := ∀ i j, i ≤ j → j < m → O.kle (kat k p i) (kat k p j)
def DecTo (k : Nat → O.α) (p : Array Nat) (m : Nat) : Prop := ∀ i j, i ≤ j → j < m → O.kle (kat k p j) (kat k p i)
structure Row (n : Nat) (p : Array Nat) : Prop where
  perm : p.Perm (List.range n).toArray
theorem Row.size {p : Array Nat} (h : Row n p) : p.size = n := by rw [h.perm.size_eq]; simp
theorem Row.lt {p : Array Nat} (h : Row n p) (h0 : 0 < n) (i : Nat) : p.getD i 0 < n := by
  by_cases hi : i < p.size
  · have e : p.getD i 0 = p[i] := by simp [Array.getD, hi]
    rw [e]
    have hm : p[i] ∈ p.toList := by simp
    have := (Array.perm_iff_toList_perm.mp h.perm).mem_iff.mp hm
    simpa using this
  · have e : p.getD i 0 = 0 := by simp [Array.getD, hi]
    rw [e]; exact h0
theorem Row.rev {p : Array Nat} (h : Row n p) (i j : Nat) : Row n (kas_rev p i j) := ⟨(mirror_perm p i j _).trans h.perm⟩
theorem Row.bub {p : Array Nat} (h : Row n p) (i j : Nat) : Row n (bubble p i j) := ⟨(bubble_perm p i j).trans h.perm⟩
theorem getD_opt (p q : Array Nat) {i j : Nat} (h : p[i]? = q[j]?) : p.getD i 0 = q.getD j 0 := by
  rw [Array.getD_eq_getD_getElem?, Array.getD_eq_getD_getElem?, h]
theorem kat_rev {p : Array Nat} {i j : Nat} (hj : j ≤ p.size) (m : Nat) : kat k (kas_rev p i j) m = if i ≤ m ∧ m < j then kat k p (i + j - 1 - m) else kat k p m := by
  have e := getElem?_mirror_all (xs := p) (i := i) hj m
  unfold kat kas_rev
  by_cases h1 : i ≤ m ∧ m < j
  · rw [if_pos h1] at e ⊢; rw [getD_opt _ _ e]
  · rw [if_neg h1] at e ⊢; rw [getD_opt _ _ e]
theorem kat_rev_same {p : Array Nat} {i j : Nat} (hj : j ≤ p.size) (he : ∀ m, i ≤ m → m < j → kat k p m = kat k p (j - 1)) (m : Nat) : kat k (kas_rev p i j) m = kat k p m := by
  rw [kat_rev hj]
  split
  · rw [he _ (by omega) (by omega), he m (by omega) (by omega)]
  · rfl
theorem kat_bub {p : Array Nat} {src d : Nat} (hs : src < p.size) (hd : d ≤ src) (m : Nat) : kat k (bubble p src d) m = if m = src - d then kat k p src else if src - d < m ∧ m ≤ src then kat k p (m - 1) else kat k p m := by
  have e := getElem?_bubble hs d hd m
  unfold kat
  by_cases h1 : m = src - d
  · rw [if_pos h1] at e ⊢; rw [getD_opt _ _ e]
  · rw [if_neg h1] at e ⊢
    by_cases h2 : src - d < m ∧ m ≤ src
    · rw [if_pos h2] at e ⊢; rw [getD_opt _ _ e]
    · rw [if_neg h2] at e ⊢; rw [getD_opt _ _ e]
theorem SrtTo.one {p : Array Nat} {m : Nat} (h : m ≤ 1) : SrtTo k p m := fun i j a b => by
  have : i = j := by omega
  subst this; exact KeyOrd.kle_refl _
theorem SrtTo.snoc {p : Array Nat} {m : Nat} (h : SrtTo k p m) (h1 : 1 ≤ m) (e : O.kle (kat k p (m - 1)) (kat k p m)) : SrtTo k p (m + 1) := fun i j a b => by
  by_cases hj : j < m
  · exact h i j a hj
  · have : j = m := by omega
    subst this
    by_cases hi : i = j
    · subst hi; exact KeyOrd.kle_refl _
    · exact KeyOrd.kle_trans (h i (j - 1) (by omega) (by omega)) e
theorem DecTo.snoc {p : Array Nat} {m : Nat} (h : DecTo k p m) (h1 : 1 ≤ m) (e : O.kle (kat k p m) (kat k p (m - 1))) : DecTo k p (m + 1) := fun i j a b => by
  by_cases hj : j < m
  · exact h i j a hj
  · have : j = m := by omega
    subst this
    by_cases hi : i = j
    · subst hi; exact KeyOrd.kle_refl _
    · exact KeyOrd.kle_trans e (h i (j - 1) (by omega) (by omega))
/-- each question is answered by the order, and the state stays one of these -/
def Asks (O : KeyOrd) (k : Nat → O.α) (n : Nat) (I : Shared → Prop) (cmp : Nat → Nat → (Bool → Shared → Prop) → Shared → Prop) : Prop := ∀ i j C s, i < n → j < n → I s → (∀ s', I s' → C (O.blt (k i) (k j)) s') → cmp i j C s
theorem asc_ok (hc : Asks O k n I cmp) (h0 : 0 < n) {p : Array Nat} (R : Row n p) : ∀ (f a : Nat) (s : Shared) (Q : Nat → Shared → Prop), I s → 1 ≤ a → SrtTo k p a → (∀ m s', I s' → a ≤ m → m ≤ a + f → SrtTo k p m → (m = a + f ∨ O.klt (kat k p m) (kat k p (m - 1))) → Q m s') → (kas_asc p f a).kasWp cmp Q s
  | 0, a, s, Q, hI, h1, hs, q => q a s hI (Nat.le_refl _) (Nat.le_refl _) hs (.inl rfl)
  | f + 1, a, s, Q, hI, h1, hs, q => by
    refine hc _ _ _ s (R.lt h0 _) (R.lt h0 _) hI fun s' hI' => ?_
    show (if O.blt (kat k p a) (kat k p (a - 1)) = true then KasT.ret a else kas_asc p f (a + 1)).kasWp cmp Q s'
    cases e : O.blt (kat k p a) (kat k p (a - 1)) with
    | true =>
      rw [if_pos rfl]
      exact q a s' hI' (Nat.le_refl _) (by omega) hs (.inr e)
    | false =>
      rw [if_neg (by simp)]
      exact asc_ok hc h0 R f (a + 1) s' Q hI' (by omega) (hs.snoc h1 e) fun m s'' i1 i2 i3 i4 i5 => q m s'' i1 (by omega) (by omega) i4 (i5.elim (fun z => .inl (by omega)) .inr)
theorem desc_ok (hc : Asks O k n I cmp) (h0 : 0 < n) : ∀ (f : Nat) (p : Array Nat) (a q : Nat) (s : Shared) (Q : Array Nat × Nat × Nat → Shared → Prop), Row n p → I s → a + f ≤ n → q + 1 ≤ a → DecTo k p a → (∀ i, a - (q + 1) ≤ i → i < a → kat k p i = kat k p (a - 1)) →
    (∀ p' m q' s', Row n p' → I s' → a ≤ m → m ≤ a + f → q' + 1 ≤ m → DecTo k p' m → (∀ i, m - (q' + 1) ≤ i → i < m → kat k p' i = kat k p' (m - 1)) → Q (p', m, q') s') → (kas_desc f p a q).kasWp cmp Q s
  | 0, p, a, q, s, Q, R, hI, hn, hq, hd, he, k' => k' p a q s R hI (Nat.le_refl _) (Nat.le_refl _) hq hd he
  | f + 1, p, a, q, s, Q, R, hI, hn, hq, hd, he, k' => by
    refine hc _ _ _ s (R.lt h0 _) (R.lt h0 _) hI fun s' hI' => ?_
    show (if O.blt (kat k p a) (kat k p (a - 1)) = true then (if q > 0 then kas_desc f (kas_rev p (a - (q + 1)) a) (a + 1) 0 else kas_desc f p (a + 1) 0) else KasT.ask (p.getD (a - 1) 0) (p.getD a 0) fun d => if d = true then .ret (p, a, q) else kas_desc f p (a + 1) (q + 1)).kasWp cmp Q s'
    cases e : O.blt (kat k p a) (kat k p (a - 1)) with
    | true =>
      rw [if_pos rfl]
      have hd1 : DecTo k p (a + 1) := hd.snoc (by omega) (KeyOrd.kle_of_klt e)
      by_cases hq0 : q > 0
      · rw [if_pos hq0]
        have sm := kat_rev_same (k := k) (p := p) (i := a - (q + 1)) (j := a) (by rw [R.size]; omega) he
        refine desc_ok hc h0 f _ (a + 1) 0 s' Q (R.rev _ _) hI' (by omega) (by omega) (fun i j h1 h2 => by rw [sm, sm]; exact hd1 i j h1 h2) (fun i h1 h2 => by congr 1; omega) fun p' m q' s'' i1 i2 i3 i4 i5 i6 i7 => k' p' m q' s'' i1 i2 (by omega) (by omega) i5 i6 i7
      · rw [if_neg hq0]
        exact desc_ok hc h0 f p (a + 1) 0 s' Q R hI' (by omega) (by omega) hd1 (fun i h1 h2 => by congr 1; omega) fun p' m q' s'' i1 i2 i3 i4 i5 i6 i7 => k' p' m q' s'' i1 i2 (by omega) (by omega) i5 i6 i7
    | false =>
      rw [if_neg (by simp)]
      refine hc _ _ _ s' (R.lt h0 _) (R.lt h0 _) hI' fun s'' hI'' => ?_
      show (if O.blt (kat k p (a - 1)) (kat k p a) = true then KasT.ret (p, a, q) else kas_desc f p (a + 1) (q + 1)).kasWp cmp Q s''
      cases e2 : O.blt (kat k p (a - 1)) (kat k p a) with
      | true =>
        rw [if_pos rfl]
        exact k' p a q s'' R hI'' (Nat.le_refl _) (by omega) hq hd he
      | false =>
        rw [if_neg (by simp)]
        have eq : kat k p a = kat k p (a - 1) := O.total _ _ e e2
        refine desc_ok hc h0 f p (a + 1) (q + 1) s'' Q R hI'' (by omega) (by omega) (hd.snoc (by omega) e2) (fun i h1 h2 => ?_) fun p' m q' s3 i1 i2 i3 i4 i5 i6 i7 => k' p' m q' s3 i1 i2 (by omega) (by omega) i5 i6 i7
        show kat k p i = kat k p a
        by_cases hi : i < a
        · rw [he i (by omega) hi, eq]
        · have : i = a := by omega
          rw [this]
theorem tail_ok (hc : Asks O k n I cmp) (h0 : 0 < n) {p : Array Nat} (R : Row n p) {m nrem : Nat} {s : Shared} {Q : Nat × Array Nat → Shared → Prop} (hI : I s) (h1 : 1 ≤ m) (hm : m ≤ nrem) (hn : nrem ≤ n) (hd : DecTo k p m)
    (q : ∀ a p' s', Row n p' → I s' → 1 ≤ a → a ≤ nrem → SrtTo k p' a → Q (a, p') s') : (kas_tail3 m nrem p).kasWp cmp Q s := by
  unfold kas_tail3
  rw [KasT.kasWp_bind]
  have hz : m ≤ p.size := by rw [R.size]; omega
  refine asc_ok hc h0 (R.rev 0 m) (nrem - m) m s _ hI h1 (fun i j a b => ?_) fun a s' i1 i2 i3 i4 _ => q a _ s' (R.rev 0 m) i1 (by omega) (by omega) i4
  rw [kat_rev hz, kat_rev hz, if_pos (by omega), if_pos (by omega)]
  exact hd _ _ (by omega) (by omega)
theorem descPart_ok (hc : Asks O k n I cmp) (h0 : 0 < n) {p : Array Nat} (R : Row n p) {m nrem : Nat} {s : Shared} {Q : Nat × Array Nat → Shared → Prop} (hI : I s) (hm : m + 1 ≤ nrem) (hn : nrem ≤ n) (hd : DecTo k p (m + 1))
    (q : ∀ a p' s', Row n p' → I s' → 1 ≤ a → a ≤ nrem → SrtTo k p' a → Q (a, p') s') : (kas_descPart m nrem p).kasWp cmp Q s := by
  unfold kas_descPart
  rw [KasT.kasWp_bind]
  refine desc_ok hc h0 (nrem - (m + 1)) p (m + 1) 0 s _ R hI (by omega) (by omega) hd (fun i h1 h2 => by congr 1; omega) fun p' a q' s' R' hI' a1 a2 hq hd' he => ?_
  dsimp only
  by_cases hq0 : q' > 0
  · rw [if_pos hq0]
    have sm := kat_rev_same (k := k) (p := p') (i := a - (q' + 1)) (j := a) (by rw [R'.size]; omega) he
    exact tail_ok hc h0 (R'.rev _ _) hI' (by omega) (by omega) hn (fun i j h1 h2 => by rw [sm, sm]; exact hd' i j h1 h2) q
  · rw [if_neg hq0]
    exact tail_ok hc h0 R' hI' (by omega) (by omega) hn hd' q
theorem count_ok (hc : Asks O k n I cmp) (h0 : 0 < n) {p : Array Nat} (R : Row n p) {nrem : Nat} {s : Shared} {Q : Nat × Array Nat → Shared → Prop} (hI : I s) (h1 : 1 ≤ nrem) (hn : nrem ≤ n)
    (q : ∀ a p' s', Row n p' → I s' → 1 ≤ a → a ≤ nrem → SrtTo k p' a → Q (a, p') s') : (kas_count nrem p).kasWp cmp Q s := by
  unfold kas_count
  rw [KasT.kasWp_bind]
  refine asc_ok hc h0 R (nrem - 1) 1 s _ hI (Nat.le_refl _) (SrtTo.one (Nat.le_refl _)) fun a s' hI' a1 a2 hs hor => ?_
  by_cases ha : a = nrem
  · rw [if_pos (by simp [ha])]
    exact q a p s' R hI' a1 (by omega) hs
  · rw [if_neg (by simp [ha])]
    have hlt : O.klt (kat k p a) (kat k p (a - 1)) := hor.elim (fun z => absurd z (by omega)) id
    by_cases h2 : a > 1
    · rw [if_pos h2]
      refine hc _ _ _ s' (R.lt h0 _) (R.lt h0 _) hI' fun s'' hI'' => ?_
      show (if O.blt (kat k p 0) (kat k p (a - 1)) = true then KasT.ret (a, p) else kas_descPart a nrem (kas_rev p 0 a)).kasWp cmp Q s''
      cases e : O.blt (kat k p 0) (kat k p (a - 1)) with
      | true =>
        rw [if_pos rfl]
        exact q a p s'' R hI'' a1 (by omega) hs
      | false =>
        rw [if_neg (by simp)]
        have all : ∀ m, 0 ≤ m → m < a → kat k p m = kat k p (a - 1) := fun m _ hm => KeyOrd.kle_antisymm (hs m (a - 1) (by omega) (by omega)) (KeyOrd.kle_trans e (hs 0 m (by omega) hm))
        have sm := kat_rev_same (k := k) (p := p) (i := 0) (j := a) (by rw [R.size]; omega) all
        have hd : DecTo k p a := fun i j h1 h2 => by rw [all i (by omega) (by omega), all j (by omega) h2]; exact KeyOrd.kle_refl _
        have hd1 := hd.snoc a1 (KeyOrd.kle_of_klt hlt)
        exact descPart_ok hc h0 (R.rev 0 a) hI'' (by omega) hn (fun i j h1 h2 => by rw [sm, sm]; exact hd1 i j h1 h2) q
    · rw [if_neg h2]
      have e1 : a = 1 := by omega
      subst e1
      have hd : DecTo k p 1 := fun i j h1 h2 => by
        have : i = j := by omega
        subst this; exact KeyOrd.kle_refl _
      exact descPart_ok hc h0 R hI' (by omega) hn (hd.snoc (Nat.le_refl _) (KeyOrd.kle_of_klt hlt)) q
theorem place_ok (hc : Asks O k n I cmp) (h0 : 0 < n) {p : Array Nat} (R : Row n p) {m : Nat} (hs : SrtTo k p m) : ∀ (f l r : Nat) (s : Shared) (Q : Nat → Shared → Prop), I s → l ≤ r → r ≤ m → r - l ≤ f → (∀ i, i < l → O.kle (kat k p i) (kat k p m)) → (∀ i, r ≤ i → i < m → O.klt (kat k p m) (kat k p i)) →
    (∀ l s', I s' → l ≤ m → (∀ i, i < l → O.kle (kat k p i) (kat k p m)) → (∀ i, l ≤ i → i < m → O.klt (kat k p m) (kat k p i)) → Q l s') → (kas_place p m f l r).kasWp cmp Q s
  | 0, l, r, s, Q, hI, a1, a2, a3, b1, b2, q => q l s hI (by omega) b1 fun i h1 h2 => b2 i (by omega) h2
  | f + 1, l, r, s, Q, hI, a1, a2, a3, b1, b2, q => by
    show (if l ≥ r then KasT.ret l else KasT.ask (p.getD m 0) (p.getD ((l + r) / 2) 0) fun c => if c = true then kas_place p m f l ((l + r) / 2) else kas_place p m f ((l + r) / 2 + 1) r).kasWp cmp Q s
    by_cases hlr : l ≥ r
    · rw [if_pos hlr]
      exact q l s hI (by omega) b1 fun i h1 h2 => b2 i (by omega) h2
    · rw [if_neg hlr]
      refine hc _ _ _ s (R.lt h0 _) (R.lt h0 _) hI fun s' hI' => ?_
      show (if O.blt (kat k p m) (kat k p ((l + r) / 2)) = true then kas_place p m f l ((l + r) / 2) else kas_place p m f ((l + r) / 2 + 1) r).kasWp cmp Q s'
      cases e : O.blt (kat k p m) (kat k p ((l + r) / 2)) with
      | true =>
        rw [if_pos rfl]
        exact place_ok hc h0 R hs f l _ s' Q hI' (by omega) (by omega) (by omega) b1 (fun i h1 h2 => KeyOrd.klt_of_klt_of_kle e (hs _ i h1 h2)) q
      | false =>
        rw [if_neg (by simp)]
        exact place_ok hc h0 R hs f _ r s' Q hI' (by omega) (by omega) (by omega) (fun i h1 => KeyOrd.kle_trans (hs i ((l + r) / 2) (by omega) (by omega)) e) b2 q
theorem bin_ok (hc : Asks O k n I cmp) (h0 : 0 < n) : ∀ (f : Nat) (p : Array Nat) (m : Nat) (s : Shared) (Q : Array Nat → Shared → Prop), Row n p → I s → m + f ≤ n → SrtTo k p m → (∀ p' s', Row n p' → I s' → SrtTo k p' (m + f) → Q p' s') → (kas_bin f p m).kasWp cmp Q s
  | 0, p, m, s, Q, R, hI, hn, hs, q => q p s R hI hs
  | f + 1, p, m, s, Q, R, hI, hn, hs, q => by
    show ((kas_place p m m 0 m).bind fun l => kas_bin f (bubble p m (m - l)) (m + 1)).kasWp cmp Q s
    rw [KasT.kasWp_bind]
    refine place_ok hc h0 R hs m 0 m s _ hI (Nat.zero_le _) (Nat.le_refl _) (by omega) (fun i h => by omega) (fun i h1 h2 => by omega) fun l s' hI' hl b1 b2 => ?_
    refine bin_ok hc h0 f _ (m + 1) s' Q (R.bub _ _) hI' (by omega) (fun i j h1 h2 => ?_) fun p' s'' i1 i2 i3 => q p' s'' i1 i2 (by rw [show m + (f + 1) = m + 1 + f by omega]; exact i3)
    have kb := kat_bub (k := k) (p := p) (src := m) (d := m - l) (by rw [R.size]; omega) (by omega)
    rw [kb i, kb j, show m - (m - l) = l by omega]
    by_cases hj1 : j = l
    · rw [if_pos hj1]
      by_cases hi1 : i = l
      · rw [if_pos hi1]; exact KeyOrd.kle_refl _
      · rw [if_neg hi1, if_neg (by omega)]
        exact b1 i (by omega)
    · rw [if_neg hj1]
      by_cases hj2 : l < j ∧ j ≤ m
      · rw [if_pos hj2]
        by_cases hi1 : i = l
        · rw [if_pos hi1]
          exact KeyOrd.kle_of_klt (b2 (j - 1) (by omega) (by omega))
        · rw [if_neg hi1]
          by_cases hi2 : l < i ∧ i ≤ m
          · rw [if_pos hi2]; exact hs _ _ (by omega) (by omega)
          · rw [if_neg hi2]; exact hs _ _ (by omega) (by omega)
      · rw [if_neg hj2]
        rw [if_neg (by omega), if_neg (by omega)]
        exact hs _ _ h1 (by omega)
theorem sort_ok (hc : Asks O k n I cmp) (h0 : 0 < n) {s : Shared} {Q : Array Nat → Shared → Prop} (hI : I s) (q : ∀ p s', Row n p → I s' → SrtTo k p n → Q p s') : (kas_sort n).kasWp cmp Q s := by
  unfold kas_sort
  rw [KasT.kasWp_bind]
  refine count_ok hc h0 ⟨Array.Perm.refl _⟩ hI h0 (Nat.le_refl _) fun a p s' R hI' a1 a2 hs => ?_
  dsimp only
  by_cases ha : a < n
  · rw [if_pos ha]
    have e : max a 1 = a := by omega
    rw [e]
    exact bin_ok hc h0 (n - a) p a s' Q R hI' (by omega) hs fun p' s'' i1 i2 i3 => q p' s'' i1 i2 (by rw [show n = a + (n - a) by omega]; exact i3)
  · rw [if_neg ha]
    have e : a = n := by omega
    exact q p s' R hI' (e ▸ hs)
end
end L2

/-! MY OWN RULES, part 15: sorted of lists of ints -/
namespace PySem.SeqAt
open AutoSeq1 (wpAny_loadPart')
open MeetsSeq MeetsSeq2 MeetsSeq3
def RcLtAt (A : Around) (s : Shared) (y x : Value) (b : Bool) : Prop :=
  ∀ (prog : Program) (w : World) (E : Value → Shared → Prop) (Q : Value → Shared → Prop), Q (.bool b) s → wpAny (model prog w) A (richCompare .Lt y x) Q E s
def lexF (e c : Nat → Bool) : List Nat → Bool
  | [] => false
  | j :: r => if e j = true then lexF e c r else c j
theorem lt_loopAt (l b : Addr) (items items2 : Array Value) (n n2 : Nat) (dd dd2 : Option Addr) (sl sl2 : Array (Option Value)) (hsz : items.size = items2.size) (e c : Nat → Bool) (k : Nat) :
    ∀ i : Nat, items.size - i = k → Meets (Builtin.«list.__eq__.loop» ⟨[.ref l, .ref b, rawInt i, rawInt 0], []⟩)
      (fun A R s => s.heap.get? l = some { cls := .type "list", dict := dd, data := .seq items n, slots := sl } ∧ s.heap.get? b = some { cls := .type "list", dict := dd2, data := .seq items2 n2, slots := sl2 } ∧
        (∀ j (h1 : j < items.size) (h2 : j < items2.size), EqAt A.in1 s items[j] items2[j] (e j) ∧ RcLtAt A.in1 s items[j] items2[j] (c j)) ∧
        R (.ok (.ret (.bool (lexF e c ((List.range items.size).drop i))))) s) := by
  induction k with
  | zero =>
    intro i hk prog w A R s h
    obtain ⟨hp, g, d, tk, os⟩ := s; obtain ⟨hl, hb, he, h⟩ := h
    wp_walk using wpAny_loadPart' hl, wpAny_loadPart' hb
    have hi1 : items[((i : Nat) : Int).toNat]? = none := by simp; omega
    have hi2 : items2[((i : Nat) : Int).toNat]? = none := by simp; omega
    have hd : (List.range items.size).drop i = [] := by simp; omega
    rw [hd] at h
    rw [hi1, hi2]
    wp_walk using wpAny_loadPart' hl, wpAny_loadPart' hb
    show R (.ok (.ret (.bool (decide (items.size < items2.size))))) _
    rw [hsz]
    simpa [lexF] using h
  | succ k ih =>
    intro i hk prog w A R s h
    obtain ⟨hp, g, d, tk, os⟩ := s; obtain ⟨hl, hb, he, h⟩ := h
    wp_walk using wpAny_loadPart' hl, wpAny_loadPart' hb
    have hlt : i < items.size := by omega
    have hlt2 : i < items2.size := by omega
    have hi1 : items[((i : Nat) : Int).toNat]? = some items[i] := by simp [hlt]
    have hi2 : items2[((i : Nat) : Int).toNat]? = some items2[i] := by simp [hlt2]
    have hd : (List.range items.size).drop i = i :: (List.range items.size).drop (i + 1) := by simp [List.drop_eq_getElem_cons, hlt]
    have hc : ((i : Int) + 1) = ((i + 1 : Nat) : Int) := by push_cast; rfl
    rw [hd, lexF] at h
    rw [hi1, hi2]
    refine wpAny_bind ((he i hlt hlt2).1 prog w _ _ ?_)
    cases hb' : e i with
    | true =>
      rw [hb', if_pos rfl] at h
      wp_walk
      rw [hc]
      exact ⟨plainId_quiet plain_eq_loop _, codeAny_builtin entry_eq_loop (by
        rw [Around.under_plainId plain_eq_loop _]
        exact ih (i + 1) (by omega) prog w A R _ ⟨hl, hb, he, h⟩)⟩
    | false =>
      rw [hb', if_neg (by simp)] at h
      wp_walk using wpAny_loadPart' hl, wpAny_loadPart' hb
      rw [hi1, hi2]
      refine wpAny_bind ((he i hlt hlt2).2 prog w _ _ ?_)
      wp_walk
      exact h
theorem list_ltAt (l b : Addr) (items items2 : Array Value) (n n2 : Nat) (dd dd2 : Option Addr) (sl sl2 : Array (Option Value)) (hsz : items.size = items2.size) (e c : Nat → Bool) :
    Meets (Builtin.«list.__lt__» ⟨[.ref l, .ref b], []⟩)
      (fun A R s => s.heap.get? l = some { cls := .type "list", dict := dd, data := .seq items n, slots := sl } ∧ s.heap.get? b = some { cls := .type "list", dict := dd2, data := .seq items2 n2, slots := sl2 } ∧
        (∀ j (h1 : j < items.size) (h2 : j < items2.size), EqAt A.in1 s items[j] items2[j] (e j) ∧ RcLtAt A.in1 s items[j] items2[j] (c j)) ∧
        R (.ok (.ret (.bool (lexF e c (List.range items.size))))) s) := by
  intro prog w A R s h
  obtain ⟨hp, g, d, tk, os⟩ := s; obtain ⟨hl, hb, he, h⟩ := h
  have f3 := AutoSeq1.sub_list_list
  wp_walk using wpAny_loadPart' hl, wpAny_loadPart' hb
  exact ⟨plainId_quiet plain_eq_loop _, codeAny_builtin entry_eq_loop (by
    rw [Around.under_plainId plain_eq_loop _]
    exact lt_loopAt l b items items2 n n2 dd dd2 sl sl2 hsz e c _ 0 rfl prog w A R _ ⟨hl, hb, he, by simpa using h⟩)⟩
end PySem.SeqAt

namespace L2
open PySem PySem.Spec PyProof.Rows PySem.SeqAt PySem.W
@[reducible] def colOrd : KeyOrd where
  α := List Int
  blt a b := decide (a < b)
  irrefl a := by simp
  trans a b c h1 h2 := by simp only [decide_eq_true_eq] at *; exact List.lt_trans h1 h2
  negTrans a b c h := by
    simp only [decide_eq_true_eq] at *
    by_cases hab : a < b
    · exact .inl hab
    · exact .inr (List.lt_of_le_of_lt (List.not_lt.mp hab) h)
  total a b h1 h2 := by simp only [decide_eq_false_iff_not] at *; exact List.le_antisymm (List.not_lt.mp h2) (List.not_lt.mp h1)
theorem lexF_eq : ∀ (xs ys : List Int) (d : Nat) (f g : Nat → Int), xs.length = ys.length → (∀ j, j < xs.length → f (d + j) = xs.getD j 0) → (∀ j, j < xs.length → g (d + j) = ys.getD j 0) →
    lexF (fun j => f j == g j) (fun j => decide (f j < g j)) (List.range' d xs.length) = decide (xs < ys)
  | [], [], d, f, g, _, _, _ => by simp [lexF]
  | x :: xs, y :: ys, d, f, g, hl, hf, hg => by
    have h0 := hf 0 (by simp)
    have g0 := hg 0 (by simp)
    simp at h0 g0
    have ih := lexF_eq xs ys (d + 1) f g (by simpa using hl) (fun j hj => by
      have := hf (j + 1) (by simp; omega)
      rw [show d + 1 + j = d + (j + 1) by omega, this]; simp) (fun j hj => by
      have := hg (j + 1) (by simp; omega)
      rw [show d + 1 + j = d + (j + 1) by omega, this]; simp)
    rw [List.length_cons, List.range'_succ, lexF, ih, h0, g0]
    by_cases e : x = y
    · subst e
      rw [if_pos (by simp)]
      simp [List.cons_lt_cons_iff]
    · rw [if_neg (by simpa using e)]
      simp [List.cons_lt_cons_iff, e]
section
variable {prog : Program} {w : World} {A : Around} {E : Value → Shared → Prop} {s : Shared}
theorem rcLt_int (a : Int) (t : Tok) (b : Int) (u : Tok) : RcLtAt A s (.int a t) (.int b u) (decide (a < b)) := fun prog w E Q h => wpAny_lt_int h
theorem oneLt_lists {a b : Addr} {us vs : List Value} {xs ys : List Int} {Q : Bool → Shared → Prop} (ha : s.heap.IsList a us.toArray) (hb : s.heap.IsList b vs.toArray) (hx : IntsAre us xs) (hy : IntsAre vs ys) (hl : xs.length = ys.length) (hu : A.units < cLine)
    (h : Q (decide (xs < ys)) s) : wpAny (model prog w) A (oneLt' true (.ref a) (.ref b)) Q E s := by
  rw [oneLt'_eq]
  simp only [if_true]
  refine wpAny_bind (wpAny_cRoomFor hu ?_)
  obtain ⟨⟨cls, dd, data, sl⟩, ho, hc, n, hd⟩ := id ha
  obtain ⟨⟨cls2, dd2, data2, sl2⟩, ho2, hc2, n2, hd2⟩ := id hb
  simp only at hc hd hc2 hd2
  subst hc hd hc2 hd2
  have lu := hx.length
  have lv := hy.length
  have hsz : us.toArray.size = vs.toArray.size := by simp; omega
  refine wpAny_bind (wpAny_callSpecialIfBound?_slot (T := "list") (id := "list.__lt__") ⟨_, ho, rfl⟩ F.slot_list_lt (call_meets F.slot_list_lt ⟨_, ho, rfl⟩ F.entry_list_lt (F.args_list_lt_2 _ _) (list_ltAt a b us.toArray vs.toArray n n2 dd dd2 sl sl2 hsz (fun j => xs.getD j 0 == ys.getD j 0) (fun j => decide (xs.getD j 0 < ys.getD j 0))) ⟨ho, ho2, fun j h1 h2 => ?_, ?_⟩))
  · have h1' : j < us.length := by simpa using h1
    have h2' : j < vs.length := by simpa using h2
    obtain ⟨t, e1⟩ := PyProof.Rows.IntsAre.int_at hx j us[j] (List.getElem?_eq_getElem h1')
    obtain ⟨u, e2⟩ := PyProof.Rows.IntsAre.int_at hy j vs[j] (List.getElem?_eq_getElem h2')
    have e1 : us.toArray[j] = Value.int (xs.getD j 0) t := by simpa using e1
    have e2 : vs.toArray[j] = Value.int (ys.getD j 0) u := by simpa using e2
    rw [e1, e2]
    exact ⟨EqAt.int_int _ t _ u, rcLt_int _ t _ u⟩
  · have key := lexF_eq xs ys 0 (fun j => xs.getD j 0) (fun j => ys.getD j 0) hl (fun j _ => by simp) (fun j _ => by simp)
    rw [show us.toArray.size = xs.length by simpa using lu, List.range_eq_range', key]
    exact wpAny_truthy_bool h
/-- the items are lists of so many ints, none of them at a -/
structure ColVals (h : Heap) (m : Nat) (vs : List Value) (cs : List (List Int)) : Prop where
  len : vs.length = cs.length
  at' : ∀ i, i < vs.length → ∃ (b : Addr) (us : List Value), vs.getD i Value.none = .ref b ∧ h.IsList b us.toArray ∧ IntsAre us (cs.getD i []) ∧ (cs.getD i []).length = m
theorem ColVals.keep {h h' : Heap} {m : Nat} {vs : List Value} {cs : List (List Int)} (c : ColVals h m vs cs) (k : ∀ b o, h.get? b = some o → h'.get? b = some o) : ColVals h' m vs cs :=
  ⟨c.len, fun i hi => by
    obtain ⟨b, us, h1, ⟨o, ho, hc, n, hd⟩, h3, h4⟩ := c.at' i hi
    exact ⟨b, us, h1, ⟨o, k _ _ ho, hc, n, hd⟩, h3, h4⟩⟩
theorem sort_lists {a : Addr} {vs : List Value} {cs : List (List Int)} {m n : Nat} {P : PySem.Fin → Shared → Prop} (hu : A.units < cLine) (ho : s.heap.get? a = some (seqObj "list" vs.toArray n)) (h64 : vs.length < 64)
    (cv : ∀ h', (∀ b o, s.heap.get? b = some o → b ≠ a → h'.get? b = some o) → ColVals h' m vs cs)
    (h : ∀ p : Array Nat, Row vs.length p → SrtTo (O := colOrd) (fun i => cs.getD i []) p vs.length → P (.done (.ret .none)) { s with heap := sortedHeap s.heap a vs (List.toArray (p.toList.map fun i => vs.getD i Value.none)) }) :
    wpAny (model prog w) A (Builtin.«list.sort» ⟨[.ref a], []⟩) P E s := by
  rw [list_sort_plain]
  have ha : a < s.heap.objs.size := Heap.lt_size ho
  refine wpAny_bind (listItems_at ho rfl ?_)
  refine wpAny_bind (listUpdate_at ho rfl ?_)
  obtain ⟨e1, ho1⟩ : ∃ e1, (s.heap.update a (Obj.mapSeq fun _ => #[])).get? a = some (seqObj "list" #[] e1) := ⟨_, get?_update_seq ho (fun _ => #[])⟩
  refine wpAny_bind (seqEpoch_at ho1 rfl ?_)
  refine wpAny_bind (wpAny_newTuple ?_)
  refine wpAny_bind (wpAny_newList ?_)
  refine wpAny_holding ?_
  have ho6 : (((s.heap.update a (Obj.mapSeq fun _ => #[])).push (seqObj "tuple" vs.toArray 0)).push (seqObj "list" #[] 0)).get? a = some (seqObj "list" #[] e1) := by
    rw [Heap.get?_push_ne _ _ _ (by rw [size_push', Heap.size_update]; exact Nat.ne_of_lt (Nat.lt_succ_of_lt ha)), Heap.get?_push_ne _ _ _ (by rw [Heap.size_update]; exact Nat.ne_of_lt ha)]
    exact ho1
  have keep : ∀ b o, s.heap.get? b = some o → b ≠ a → (((s.heap.update a (Obj.mapSeq fun _ => #[])).push (seqObj "tuple" vs.toArray 0)).push (seqObj "list" #[] 0)).get? b = some o := fun b o hb hne =>
    Heap.get?_push_of_some _ (Heap.get?_push_of_some _ (by rw [Heap.get?_update_ne _ _ _ _ hne]; exact hb))
  have C := cv _ keep
  show wpAny (model prog w) A _ P E { s with heap := ((s.heap.update a (Obj.mapSeq fun _ => #[])).push (seqObj "tuple" vs.toArray 0)).push (seqObj "list" #[] 0) }
  dsimp only
  have hsz : vs.toArray.size = vs.length := by simp
  by_cases h2 : vs.toArray.size < 2
  · rw [if_pos h2, if_pos h2]
    refine wpAny_bind (wpAny_pure ?_)
    rw [StateT.run_pure]
    refine wpAny_bind (wpAny_pure ?_)
    dsimp only
    refine wpAny_bind (seqEpoch_at ho6 rfl ?_)
    refine wpAny_bind (listUpdate_at ho6 rfl ?_ (hsz2 := by rw [Array.size_map]; show (pairsOf vs).size ≤ _; rw [pairsOf_size, sizeLine_eq]; omega))
    simp only [bne_self_eq_false, Bool.false_eq_true, if_false]
    have hh := h (List.range vs.length).toArray ⟨Array.Perm.refl _⟩ (SrtTo.one (by omega))
    have eo : (arrOf (SortSt.mk' general' (vs.toArray.zip vs.toArray) #[] 7 none)).map (·.2) = List.toArray ((List.range vs.length).map fun i => vs.getD i Value.none) := by
      apply Array.toList_inj.mp
      show ((pairsOf vs).map (·.2)).toList = _
      have e := kas_range (pairsOf vs)
      rw [pairsOf_size] at e
      rw [← e, Array.map_map, Array.toList_map]
      exact List.map_congr_left fun i _ => by show (kas_item (pairsOf vs) i).2 = _; rw [kas_item_eq]
    refine wpAny_pure ?_
    rw [eo]
    exact hh
  · rw [if_neg h2, if_neg h2]
    have h2' : 2 ≤ vs.length := by omega
    refine wpAny_bind (kas_kind (T := Value.type "list") h2' (fun v hv => ?_) (by decide) (by decide) ?_)
    · obtain ⟨i, hi⟩ := List.getElem?_of_mem hv
      have hil := (List.getElem?_eq_some_iff.mp hi).1
      obtain ⟨b, us, e1, ⟨o, e2, e3, _⟩, _⟩ := C.at' i hil
      have : v = .ref b := by rw [← e1, List.getD_eq_getElem?_getD, hi]; rfl
      rw [this]
      exact kitAt_ty _ _ ⟨o, e2, e3⟩
    have est : SortSt.mk' oneType' (vs.toArray.zip vs.toArray) #[] 7 none = kas_st oneType' (pairsOf vs) (List.toArray (List.range vs.length)) := by
      have e := kas_range (pairsOf vs)
      rw [pairsOf_size] at e
      show SortSt.mk' oneType' (pairsOf vs) #[] 7 none = SortSt.mk' oneType' ((List.toArray (List.range vs.length)).map (kas_item (pairsOf vs))) #[] 7 none
      rw [e]
    generalize hs6 : ({ s with heap := ((s.heap.update a (Obj.mapSeq fun _ => #[])).push (seqObj "tuple" vs.toArray 0)).push (seqObj "list" #[] 0) } : Shared) = s6
    have C6 : ColVals s6.heap m vs cs := by rw [← hs6]; exact C
    have asks : Asks colOrd (fun i => cs.getD i []) vs.length (fun s' => s' = s6) (kas_cmp prog w A oneType' (pairsOf vs)) := by
      intro i j K s' hi hj e hK
      subst e
      unfold kas_cmp
      rw [kas_item_eq, kas_item_eq, keyLt'_oneType]
      obtain ⟨b, us, e1, e2, e3, e4⟩ := C6.at' i hi
      obtain ⟨b', us', e1', e2', e3', e4'⟩ := C6.at' j hj
      show wpAny _ _ (oneLt' true (vs.getD i Value.none) (vs.getD j Value.none)) _ _ _
      rw [e1, e1']
      exact oneLt_lists e2 e2' e3 e3' (by rw [e4, e4']) hu (hK _ rfl)
    have run := kas_runs (E := E) (prog := prog) (w := w) (A := A) (κ := oneType') (it := pairsOf vs) (n := vs.length) (Q := fun _ st' s' => ∃ p : Array Nat, Row vs.length p ∧ SrtTo (O := colOrd) (fun i => cs.getD i []) p vs.length ∧ arrOf st' = p.map (kas_item (pairsOf vs)) ∧ failedOf st' = none ∧ s' = s6) (G := fun p s' => Row vs.length p ∧ SrtTo (O := colOrd) (fun i => cs.getD i []) p vs.length ∧ s' = s6) (s := s6)
      h2' h64 (fun p' st' s' a1 a2 a3 a4 => ⟨p', a4.1, a4.2.1, a2, a3, a4.2.2⟩) (sort_ok asks (by omega) rfl fun p s' R hI hS => ⟨R, hS, hI⟩)
    rw [← est] at run
    refine wpAny_bind (wpAny_mono run ?_ fun _ _ e => e)
    rintro ⟨⟨⟩, st'⟩ s' ⟨p, R, hS, har, hf, rfl⟩
    subst hs6
    dsimp only
    have hout : (arrOf st').map (·.2) = List.toArray (p.toList.map fun i => vs.getD i Value.none) := by
      apply Array.toList_inj.mp
      rw [har, Array.map_map, Array.toList_map]
      exact List.map_congr_left fun i _ => by show (kas_item (pairsOf vs) i).2 = _; rw [kas_item_eq]
    rw [hout]
    refine wpAny_bind (seqEpoch_at ho6 rfl ?_)
    refine wpAny_bind (listUpdate_at ho6 rfl ?_ (hsz2 := by rw [List.size_toArray, List.length_map, Array.length_toList, R.size, sizeLine_eq]; omega))
    rw [hf]
    simp only [bne_self_eq_false, Bool.false_eq_true, if_false]
    exact wpAny_pure (h p R hS)
theorem sorted_lists {l : Addr} {vs : List Value} {cs : List (List Int)} {m : Nat} {Q : Value → Shared → Prop} (hu : A.in1.in1.units < cLine) (hl : s.heap.IsList l vs.toArray) (h64 : vs.length < 64) (cv : ColVals s.heap m vs cs)
    (h : ∀ p : Array Nat, Row vs.length p → SrtTo (O := colOrd) (fun i => cs.getD i []) p vs.length → Q (.ref (s.heap.objs.size + 1)) { s with heap := sortedAll s.heap vs (List.toArray (p.toList.map fun i => vs.getD i Value.none)) }) :
    wpAny (model prog w) A (call (.builtin "sorted") [.ref l]) Q E s := by
  refine Calls.call_function_entry kind_sorted plain_sorted entry_sorted (args_sorted1 _) ?_
  unfold Builtin.«sorted»
  refine wpAny_bind (m := checkCount "sorted" 1 1 _) (wpAny_pure ?_)
  refine wpAny_bind (collect_list hl ?_)
  refine wpAny_bind (wpAny_newList ?_)
  have hsz : ((s.heap.push (seqObj "list" #[] 0)).update s.heap.objs.size (Obj.mapSeq (· ++ vs.toArray))).objs.size = s.heap.objs.size + 1 := by
    rw [Heap.size_update, size_push']
  have hoL : (((s.heap.push (seqObj "list" #[] 0)).update s.heap.objs.size (Obj.mapSeq (· ++ vs.toArray))).push (seqObj "list" vs.toArray 0)).get? (s.heap.objs.size + 1) = some (seqObj "list" vs.toArray 0) := by
    rw [← hsz]; exact Heap.get?_push_size _ rfl
  have keep : ∀ b o, s.heap.get? b = some o → (((s.heap.push (seqObj "list" #[] 0)).update s.heap.objs.size (Obj.mapSeq (· ++ vs.toArray))).push (seqObj "list" vs.toArray 0)).get? b = some o := fun b o q => by
    have hlt : b < s.heap.objs.size := Heap.lt_size q
    rw [Heap.get?_push_ne _ _ _ (by rw [hsz]; exact Nat.ne_of_lt (Nat.lt_succ_of_lt hlt)), Heap.get?_update_ne _ _ _ _ (Nat.ne_of_lt hlt), Heap.get?_push_ne _ _ _ (Nat.ne_of_lt hlt)]
    exact q
  show wpAny _ _ _ _ _ { s with heap := ((s.heap.push (seqObj "list" #[] 0)).update s.heap.objs.size (Obj.mapSeq (· ++ vs.toArray))).push (seqObj "list" vs.toArray 0) }
  rw [hsz]
  refine wpAny_bind (wpAny_holding (wpAny_call_entry slot_list_sort ⟨_, hoL, rfl⟩ entry_list_sort (sort_lists hu hoL h64 (fun h' k => cv.keep fun b o hb => k b o (keep b o hb) (Nat.ne_of_lt (Nat.lt_succ_of_lt (Heap.lt_size hb)))) fun p a1 a2 => ⟨_, rfl, ?_⟩) (args_list_sort _)))
  exact wpAny_pure ⟨_, rfl, h p a1 a2⟩
end
section
variable {X : Cx}
theorem map_range {α : Type} (d : α) (l : List α) : (List.range l.length).map (fun i => l.getD i d) = l := by
  apply List.ext_getElem
  · simp
  · intro i h1 h2
    simp [List.getElem?_eq_getElem h2]
theorem vals_refsL : ∀ {as : List Addr} {us : List Value}, Vals (as.map V.ref) us → us = as.map Value.ref
  | [], _, r => by cases r; rfl
  | a :: as, _, r => by
    cases r with
    | cons h t => rw [vals_refsL t, show _ = Value.ref a from h]; rfl
theorem vals_of_refs : ∀ (as : List Addr), Vals (as.map V.ref) (as.map Value.ref)
  | [] => .nil
  | a :: as => .cons rfl (vals_of_refs as)
theorem call_sortedL (hu : X.A.units + 64 < cLine) : CallR X (.builtin "sorted") (fun xs H Q => ∃ (p : Addr) (as : List Addr) (cs : List (List Int)) (m : Nat), xs = [.ref p] ∧ SqL X.K H p (as.map V.ref) ∧ ColsAt X.K H as cs ∧ (∀ c ∈ cs, c.length = m) ∧ as.length < 64 ∧
    ∀ (l : Addr) (ps : List Nat), ps.Perm (List.range as.length) → (ps.map fun i => cs.getD i []).Pairwise (fun a b => ¬ b < a) → H l = none → Q (.ref l) (upd H l (.lst ((ps.map fun i => as.getD i 0).map V.ref)))) := by
  intro pins s σ H xs us Q I r h
  obtain ⟨p, as, cs, m, rfl, hS, hco, hm, h64, q⟩ := h
  obtain ⟨u, rfl, ru⟩ := vals1 r
  cases ru
  obtain ⟨its, rv, pl, hz⟩ := I.list hS
  have ei := vals_refsL rv
  subst ei
  have lac := hco.length
  have cv : ColVals s.heap m (as.map Value.ref) cs := ⟨by rw [List.length_map, lac], fun i hi => by
    rw [List.length_map] at hi
    obtain ⟨c, hc, hs⟩ := hco.get (List.getElem?_eq_getElem hi)
    obtain ⟨ws, rw', pw, _⟩ := I.list hs
    have ec : cs.getD i [] = c := by rw [List.getD_eq_getElem?_getD, hc]; rfl
    exact ⟨as[i], ws, by rw [List.getD_eq_getElem?_getD, List.getElem?_map, List.getElem?_eq_getElem hi]; rfl, pw.isList, by rw [ec]; exact intsAre_of rw', by rw [ec]; exact hm c (List.mem_of_getElem? hc)⟩⟩
  refine sorted_lists (by show X.A.units + 1 + 1 < cLine; omega) pl.isList (by rw [List.length_map]; exact h64) cv fun pp R hS' => ?_
  rw [List.length_map] at R hS'
  have mem : ∀ i ∈ pp.toList, i < as.length := fun i hi => by
    have := (Array.perm_iff_toList_perm.mp R.perm).mem_iff.mp hi
    simpa using this
  have epp : (pp.toList.map fun i => (as.map Value.ref).getD i Value.none) = (pp.toList.map fun i => as.getD i 0).map Value.ref := by
    rw [List.map_map]
    refine List.map_congr_left fun i hi => ?_
    rw [List.getD_eq_getElem?_getD, List.getElem?_map, List.getElem?_eq_getElem (mem i hi)]
    show _ = Value.ref (as.getD i 0)
    rw [List.getD_eq_getElem?_getD, List.getElem?_eq_getElem (mem i hi)]
    rfl
  rw [epp]
  have lpp : (pp.toList.map fun i => as.getD i 0).length = as.length := by rw [List.length_map, Array.length_toList, R.size]
  have hq := q (s.heap.objs.size + 1) pp.toList (by have := Array.perm_iff_toList_perm.mp R.perm; simpa using this) ?_ (I.hok.fresh (Nat.le_succ _))
  · generalize (pp.toList.map fun i => as.getD i 0) = bs at *
    obtain ⟨e, he⟩ := sortedAll_at s.heap (as.map Value.ref) (bs.map Value.ref).toArray
    have le : s.heap.objs.size ≤ s.heap.objs.size + 1 := Nat.le_succ _
    refine ⟨.ref (s.heap.objs.size + 1), _, I.laid (t' := s.toks) (o := .lst (bs.map V.ref)) (fun b ob q => sortedAll_old q) le ⟨?_, bs.map Value.ref, e, vals_of_refs bs, ?_⟩, rfl, hq⟩
    · rw [List.length_map, lpp]
      rw [List.length_map] at hz
      exact hz
    · rw [he]
  · rw [List.pairwise_map, List.pairwise_iff_getElem]
    intro i j hi hj hij
    have hj' : j < as.length := by rw [Array.length_toList, R.size] at hj; exact hj
    have hk : (decide (kat (O := colOrd) (fun i => cs.getD i []) pp j < kat (O := colOrd) (fun i => cs.getD i []) pp i)) = false := hS' i j (by omega) hj'
    have e : ∀ {t : Nat} (ht : t < pp.toList.length), kat (O := colOrd) (fun i => cs.getD i []) pp t = cs.getD pp.toList[t] [] := fun {t} ht => by
      have ht' : t < pp.size := by simpa using ht
      unfold kat
      simp [Array.getD, ht']
    rw [e hi, e hj] at hk
    simpa using hk
end
end L2

/-! MY OWN RULES, part 16: min of a list of ints -/
namespace L2
open PySem PySem.Spec PyProof.Rows
theorem bt_min : bootBuiltins "min" = some (.builtin "min") := by decide +kernel
section
variable {X : Cx}
theorem call_minL (hc : X.calm = true) : CallR X (.builtin "min") (fun xs H Q => ∃ p, ∃ ns : List Int, xs = [.ref p] ∧ SqL X.K H p (ns.map V.int) ∧ 0 < ns.length ∧ ∀ M, M ∈ ns → (∀ a ∈ ns, M ≤ a) → Q (.int M) H) := by
  intro pins s σ H xs us Q I r h
  obtain ⟨p, ns, rfl, hS, hne, q⟩ := h
  obtain ⟨u, rfl, ru⟩ := vals1 r
  cases ru
  obtain ⟨its, rv, pl, hz⟩ := I.list hS
  have hi : IntsAre its ns := intsAre_of rv
  obtain ⟨xs, e⟩ := hi.allInts.items
  have hns : ns = xs.toList.map (·.1) := by rw [← hi.numsOf, ← nums_intItems, ← e]
  have hsz : 0 < xs.size := by
    have h3 := hne; rw [hns, List.length_map, Array.length_toList] at h3; exact h3
  have hl : s.heap.IsList p (intItems xs) := e ▸ pl.isList
  refine min_intList (I.ok.hd hc) hl hsz fun v h' tk hv hk => ?_
  obtain ⟨t, rfl⟩ := intItems_at hv
  obtain ⟨h1, h2⟩ := argBest_lt (numAt xs) (xs.size - 1)
  refine ⟨.int _, H, I.kept hk, ⟨t, rfl⟩, q _ ?_ fun a ha => ?_⟩
  · rw [hns, numAt_eq]; exact getD_mem (by rw [List.length_map, Array.length_toList]; omega)
  · rw [hns] at ha
    obtain ⟨j, hj, rfl⟩ := mem_getD ha
    rw [List.length_map, Array.length_toList] at hj
    rw [← numAt_eq]; exact h2 j (by omega)
end
theorem bt_all : bootBuiltins "all" = some (.builtin "all") := by decide +kernel
theorem bools_all (bs : List Bool) : (List.range bs.length).all (fun i => bs.getD i false) = bs.all id := by
  induction bs with
  | nil => rfl
  | cons b bs ih =>
    rw [List.length_cons, List.range_succ_eq_map, List.all_cons, List.all_map, List.all_cons]
    congr 1
theorem call_all {X : Cx} (hc : X.calm = true) : CallR X (.builtin "all") (fun xs H Q => ∃ p, ∃ bs : List Bool, xs = [.ref p] ∧ SqL X.K H p (bs.map V.bl) ∧ Q (.bl (bs.all id)) H) := by
  intro pins s σ H xs us Q I r h
  obtain ⟨p, bs, rfl, hS, q⟩ := h
  obtain ⟨u, rfl, ru⟩ := vals1 r
  cases ru
  obtain ⟨its, rv, pl, hz⟩ := I.list hS
  have ll := rv.length
  rw [List.length_map] at ll
  obtain ⟨o, ho, _⟩ := pl.isList
  have hI : p ≠ s.heap.objs.size := Nat.ne_of_lt (Heap.lt_size ho)
  refine call_all_walk (wpAny_pyIter_list pl.isList ?_)
  refine ⟨s.heap.objs.size, _, _, _, _, _, fun i => bs.getD i false, rfl, Walks.list (A := X.A.in1) (show X.A.in1.handled = none from I.ok.hd hc) s.heap.objs.size p hI its.toArray, ⟨⟨_, Heap.get?_push_size _ rfl, rfl, rfl⟩, pl.isList.push _⟩, ?_, fun h' tk hk => ?_⟩
  · intro i v s' Q' E' hP hq
    have hP : its[i]? = some v := by simpa using hP
    have hil : i < bs.length := by rw [ll]; exact (List.getElem?_eq_some_iff.mp hP).1
    obtain ⟨u, hu, ru⟩ := rv.get (i := i) (x := V.bl bs[i]) (by rw [List.getElem?_map, List.getElem?_eq_getElem hil]; rfl)
    rw [hP] at hu
    cases hu
    cases ru
    have e : bs.getD i false = bs[i] := by rw [List.getD_eq_getElem?_getD, List.getElem?_eq_getElem hil]; rfl
    have hq : Q' (bs.getD i false) s' := hq
    rw [e] at hq
    exact wpAny_truthy_bool hq
  · have e : (List.range its.toArray.size).all (fun i => bs.getD i false) = bs.all id := by
      rw [← bools_all bs, ll]; simp
    rw [e]
    exact ⟨.bl _, H, I.kept fun b o q => hk b o (fun z => by
      have z : b = s.heap.objs.size := by simpa using z
      exact absurd (Heap.lt_size q) (by rw [z]; exact Nat.lt_irrefl _)) (Heap.get?_push_of_some _ q), rfl, q⟩
end L2

/-! MY OWN RULES, part 17: comprehensions with a test, by words of their own -/
namespace L2
open PySem PySem.Spec PyProof.Rows
section
variable {K : PySem.W.Frag} {g : TG} {tt : TT} {te : TE}
/-- any iterator of n turns; each turn adds one, or nothing -/
theorem comp_itT {J : It} {L : Addr} {Q : Hp → Prop} {σ : St} {H : Hp} (n : Nat) (H0 : Hp) (S : St → Prop) (Pv : Nat → List V → Prop) (hgo : ∀ i H', i < n → Same H0 H' → J.go i H') (hstop : ∀ H', Same H0 H' → J.stop n H')
    (hn0 : H0 L = none) (hσ : S σ) (h0 : Same H0 H) (hL : H L = some (.lst [])) (p0 : Pv 0 []) (hz : n ≤ sizeLine) (hl : ∀ i ys, Pv i ys → ys.length ≤ i)
    (turn : ∀ i σ H' ys, i < n → S σ → Same H0 H' → H' L = some (.lst ys) → Pv i ys → ∀ (N : St → V → Hp → Prop) (M : St → Hp → Prop), (∀ σ3 y H5, S σ3 → Same H0 H5 → H5 L = some (.lst ys) → Pv (i + 1) (ys ++ [y]) → N σ3 y H5) → (∀ σ3 H4, S σ3 → Same H0 H4 → H4 L = some (.lst ys) → Pv (i + 1) ys → M σ3 H4) →
      ∀ x H2, J.yld i H' x H2 → g x σ H2 fun σ3 H3 => tt σ3 H3 fun b H4 => if b = true then te σ3 H4 fun y H5 => N σ3 y H5 else M σ3 H4)
    (fin : ∀ H' ys, Same H0 H' → H' L = some (.lst ys) → Pv n ys → Q H') :
    ∃ W : Nat → Nat → St → Hp → Prop, (∃ m, W 0 m σ H) ∧ ∀ i m σ H, W i m σ H → (J.stop i H ∧ Q H) ∨ (J.go i H ∧ ∀ x H2, J.yld i H x H2 → g x σ H2 fun σ3 H3 => tt σ3 H3 fun b H4 => if b = true
      then te σ3 H4 fun y H5 => ∃ ys, H5 L = some (.lst ys) ∧ ys.length < sizeLine ∧ ∃ m', m' < m ∧ W (i + 1) m' σ3 (upd H5 L (.lst (ys ++ [y])))
      else ∃ m', m' < m ∧ W (i + 1) m' σ3 H4) := by
  refine ⟨fun i m σ H => m + i = n ∧ S σ ∧ Same H0 H ∧ ∃ ys, H L = some (.lst ys) ∧ Pv i ys, ⟨n, rfl, hσ, h0, [], hL, p0⟩, ?_⟩
  rintro i m σ H ⟨hm, hs, hsame, ys, hys, hp⟩
  by_cases hi : i < n
  · refine .inr ⟨hgo i H hi hsame, fun x H2 hy => turn i σ H ys hi hs hsame hys hp _ _ (fun σ3 y H5 k1 k2 k3 k4 => ?_) (fun σ3 H4 k1 k2 k3 k4 => ?_) x H2 hy⟩
    · refine ⟨ys, k3, by have := hl i ys hp; omega, m - 1, by omega, by omega, k1, fun b o e => ?_, ys ++ [y], upd_same, k4⟩
      rw [upd_ne (ne_of_none e hn0)]; exact k2 b o e
    · exact ⟨m - 1, by omega, by omega, k1, k2, ys, k3, k4⟩
  · have e : i = n := by omega
    subst e
    exact .inl ⟨hstop H hsame, fin H ys hsame hys hp⟩
theorem comp_lstT {a L : Addr} {xs : List V} {Q : Hp → Prop} {σ : St} {H : Hp} (H0 : Hp) (S : St → Prop) (Pv : Nat → List V → Prop) (ha : SqL K H0 a xs)
    (hn0 : H0 L = none) (hσ : S σ) (h0 : Same H0 H) (hL : H L = some (.lst [])) (p0 : Pv 0 []) (hz : xs.length ≤ sizeLine) (hl : ∀ i ys, Pv i ys → ys.length ≤ i)
    (turn : ∀ i x σ H' ys, xs[i]? = some x → S σ → Same H0 H' → H' L = some (.lst ys) → Pv i ys → ∀ (N : St → V → Hp → Prop) (M : St → Hp → Prop), (∀ σ3 y H5, S σ3 → Same H0 H5 → H5 L = some (.lst ys) → Pv (i + 1) (ys ++ [y]) → N σ3 y H5) → (∀ σ3 H4, S σ3 → Same H0 H4 → H4 L = some (.lst ys) → Pv (i + 1) ys → M σ3 H4) →
      g x σ H' fun σ3 H3 => tt σ3 H3 fun b H4 => if b = true then te σ3 H4 fun y H5 => N σ3 y H5 else M σ3 H4)
    (fin : ∀ H' ys, Same H0 H' → H' L = some (.lst ys) → Pv xs.length ys → Q H') :
    ∃ W : Nat → Nat → St → Hp → Prop, (∃ m, W 0 m σ H) ∧ ∀ i m σ H, W i m σ H → ((Itl K a).stop i H ∧ Q H) ∨ ((Itl K a).go i H ∧ ∀ x H2, (Itl K a).yld i H x H2 → g x σ H2 fun σ3 H3 => tt σ3 H3 fun b H4 => if b = true
      then te σ3 H4 fun y H5 => ∃ ys, H5 L = some (.lst ys) ∧ ys.length < sizeLine ∧ ∃ m', m' < m ∧ W (i + 1) m' σ3 (upd H5 L (.lst (ys ++ [y])))
      else ∃ m', m' < m ∧ W (i + 1) m' σ3 H4) :=
  comp_itT xs.length H0 S Pv (fun i H' hi e => ⟨xs, xs[i], e.seq ha, List.getElem?_eq_getElem hi⟩) (fun H' e => ⟨xs, e.seq ha, Nat.le_refl _⟩) hn0 hσ h0 hL p0 hz hl
    (fun i σ H' ys _ hs e k p N M hN hM x H2 hy => by
      obtain ⟨rfl, hx⟩ := hy
      exact turn i x σ H2 ys (hx xs (e.seq ha)) hs e k p N M hN hM) fin
theorem comp_zipT {a c L : Addr} {xs zs : List V} {Q : Hp → Prop} {σ : St} {H : Hp} (H0 : Hp) (S : St → Prop) (Pv : Nat → List V → Prop) (ha : SqL K H0 a xs) (hc : SqL K H0 c zs)
    (hn0 : H0 L = none) (hσ : S σ) (h0 : Same H0 H) (hL : H L = some (.lst [])) (p0 : Pv 0 []) (hz : min xs.length zs.length ≤ sizeLine) (hl : ∀ i ys, Pv i ys → ys.length ≤ i)
    (turn : ∀ i x z p σ H' ys, xs[i]? = some x → zs[i]? = some z → H' p = none → S σ → Same H0 H' → H' L = some (.lst ys) → Pv i ys → ∀ (N : St → V → Hp → Prop) (M : St → Hp → Prop), (∀ σ3 y H5, S σ3 → Same H0 H5 → H5 L = some (.lst ys) → Pv (i + 1) (ys ++ [y]) → N σ3 y H5) → (∀ σ3 H4, S σ3 → Same H0 H4 → H4 L = some (.lst ys) → Pv (i + 1) ys → M σ3 H4) →
      g (.ref p) σ (upd H' p (.tup [x, z])) fun σ3 H3 => tt σ3 H3 fun b H4 => if b = true then te σ3 H4 fun y H5 => N σ3 y H5 else M σ3 H4)
    (fin : ∀ H' ys, Same H0 H' → H' L = some (.lst ys) → Pv (min xs.length zs.length) ys → Q H') :
    ∃ W : Nat → Nat → St → Hp → Prop, (∃ m, W 0 m σ H) ∧ ∀ i m σ H, W i m σ H → ((Itz K a c).stop i H ∧ Q H) ∨ ((Itz K a c).go i H ∧ ∀ x H2, (Itz K a c).yld i H x H2 → g x σ H2 fun σ3 H3 => tt σ3 H3 fun b H4 => if b = true
      then te σ3 H4 fun y H5 => ∃ ys, H5 L = some (.lst ys) ∧ ys.length < sizeLine ∧ ∃ m', m' < m ∧ W (i + 1) m' σ3 (upd H5 L (.lst (ys ++ [y])))
      else ∃ m', m' < m ∧ W (i + 1) m' σ3 H4) :=
  comp_itT (min xs.length zs.length) H0 S Pv
    (fun i H' hi e => ⟨xs, zs, xs[i]'(by omega), zs[i]'(by omega), e.seq ha, e.seq hc, List.getElem?_eq_getElem _, List.getElem?_eq_getElem _⟩) (fun H' e => ⟨xs, zs, e.seq ha, e.seq hc, by omega⟩) hn0 hσ h0 hL p0 hz hl
    (fun i σ H' ys _ hs e k p N M hN hM v H2 hy => by
      obtain ⟨t, x, z, ht, rfl, rfl, hx, hz'⟩ := hy
      exact turn i x z t σ H' ys (hx xs (e.seq ha)) (hz' zs (e.seq hc)) ht hs e k p N M hN hM) fin
end
section
variable {X : Cx}
end
end L2

/-! MY OWN RULES, part 18: a comprehension with a test whose items are new objects; xs[::-1] in a block; xs[:-1] -/
namespace L2
open PySem PySem.Spec PyProof.Rows
section
variable {K : PySem.W.Frag} {g : TG} {tt : TT} {te : TE}
end
section
variable {X : Cx}
def tRev (K : PySem.W.Frag) (te tk : TE) : TE := fun σ H Q => te σ H fun x H1 => tk σ H1 fun y H2 => y = .int (-1) ∧ ∃ a xs, x = .ref a ∧ SqL K H2 a xs ∧ ∀ l, H2 l = none → Q (.ref l) (upd H2 l (.lst xs.reverse))
theorem call_anyK (K : PySem.W.Frag) (hK : X.K = K) (hc : X.calm = true) : CallR X (.builtin "any") (fun xs H Q => ∃ p, ∃ bs : List Bool, xs = [.ref p] ∧ SqL K H p (bs.map V.bl) ∧ Q (.bl (bs.any id)) H) := by subst hK; exact call_any hc
end
end L2

/-! MY OWN RULES, part 19: sorted of a dict whose keys are texts -/
namespace PySem.W
open PySem PySem.Calls PyProof.Rows PyProof.V PySem.Spec
section
variable {prog : Program} {w : World} {A : Around} {E : Value → Shared → Prop} {s : Shared} {T : String} {r d : Addr} {n : Nat} {P : Nat → Value → Prop} {OK : Heap → Prop}
end
end PySem.W
namespace L2
open PySem PySem.Spec PyProof.Rows PySem.W
section
variable {X : Cx}
end
end L2

/-! MY OWN RULES, part 20: xs == [] -/
namespace L2
open PySem PySem.Spec PyProof.Rows
section
variable {X : Cx}
def rEqE (K : PySem.W.Frag) : R2 := fun x y H Q => ∃ a b xs, x = .ref a ∧ y = .ref b ∧ SqL K H a xs ∧ SqL K H b [] ∧ Q (.bl xs.isEmpty) H
end
end L2

/-! MY OWN RULES, part 21: what is never come to; texts: slices, <=, int(a text) -/
namespace L2
open PySem PySem.Spec PyProof.Rows
section
variable {X : Cx}
/-- x[lo:hi] of a text -/
def rSlS : V → Option Int → Option Int → Hp → VK → Prop := fun x lo hi H Q => ∃ y, x = .str y ∧ y.length ≤ sizeLine ∧ Q (.str (Txt.slice y lo hi)) H
end
/-! ### for c in a text of plain signs -/
def Its (x : Str) : It := ⟨fun i _ => i < x.length, fun i H v H' => H' = H ∧ ∃ c, x.cps[i]? = some c ∧ v = .str ⟨#[c]⟩, fun i _ => x.length ≤ i⟩
section
variable {X : Cx} {tg : Expr}
def iStr (tl : TE) : TI := fun σ H R => tl σ H fun v H1 => ∃ x, v = .str x ∧ x.cps.all (· < 128) = true ∧ R (Its x) H1
end
end L2

/-! MY OWN RULES, part 22: xss != yss: lists of lists whose items are the very same objects -/
namespace L2
open PySem PySem.Spec PyProof.Rows
section
variable {X : Cx}
def rNeLL (K : PySem.W.Frag) : R2 := fun x y H Q => ∃ a b, ∃ ps qs : List Addr, x = .ref a ∧ y = .ref b ∧ SqL K H a (ps.map V.ref) ∧ SqL K H b (qs.map V.ref) ∧ ps.length = qs.length ∧
  (∀ (j : Nat) p q, ps[j]? = some p → qs[j]? = some q → p ≠ q ∧ ∃ xs : List Addr, SqL K H p (xs.map V.ref) ∧ SqL K H q (xs.map V.ref)) ∧ Q (.bl false) H
end
end L2

/-! MY OWN RULES, part 23: sorted of a dict of texts, told with its order; d.update(e) -/
namespace PySem.W
open PySem PySem.Calls PyProof.Rows PyProof.V PySem.Spec
section
variable {prog : Program} {w : World} {A : Around} {E : Value → Shared → Prop} {s : Shared} {T : String} {r d : Addr} {n : Nat} {P : Nat → Value → Prop} {OK : Heap → Prop}
end
end PySem.W
namespace L2
open PySem PySem.Spec PyProof.Rows PySem.W
section
variable {X : Cx}
end
section
variable {X : Cx} {pins : List (Addr × Obj)} {σ : St} {H : Hp} {s : Shared} {a b : Addr} {kvs more : List (Key × V)} {A : Around} {E : Value → Shared → Prop}
end
/-- d.update(e) -/
def tDUpd (td ty : TE) : TE := fun σ H Q => td σ H fun x H1 => ∃ a, x = .ref a ∧ IsD H1 a ∧ ty σ H1 fun y H2 => ∃ b kvs more, y = .ref b ∧ H2 a = some (.dK kvs) ∧ H2 b = some (.dK more) ∧ a ≠ b ∧ kvs.length + more.length ≤ sizeLine ∧ Q .non (upd H2 a (.dK (mergeK kvs more)))
section
variable {X : Cx} {o e : Expr} {apos cpos : Pos} {td ty : TE}
end
end L2
namespace L2
open PySem PySem.Spec PyProof.Rows
def leS (a b : Str) : Prop := ¬ b.cps.toList < a.cps.toList
end L2
namespace L2
open PySem PySem.Spec PyProof.Rows
end L2

/-! MY OWN RULES, part 24: sorted of a list of texts, in order -/
namespace L2
open PySem PySem.Spec PyProof.Rows PySem.W
section
variable {X : Cx}
end
end L2

/-! ### try: a body that never raises -/
namespace L2
open PySem PySem.Spec PyProof.Rows
end L2

namespace L2
open PySem PySem.Spec PyProof.Rows
section
variable {X : Cx}
/-- // by what is below 2 ** 64 -/
theorem op_fdivB : OpR X (binaryOp .FloorDiv) (rI (fun _ j => 0 < j ∧ j < 18446744073709551616) fun i j => .int (i / j)) := opI fun i j _ _ _ _ _ hc q => by
  have h1 : (0 : Int) < j := hc.1
  have h2 : j < 18446744073709551616 := hc.2
  refine floordiv_int (by omega) (by rw [Int.fdiv_eq_ediv_of_nonneg i (by omega)]; exact q) (.inl (PyProof.noPylong_of_log2 ?_))
  have := (Nat.log2_lt (n := j.natAbs) (by omega) (k := 64)).mpr (by omega)
  omega
end
end L2

/-! MY OWN RULES, part 27: any(a list of ints), x not in xss -/
namespace L2
open PySem PySem.Spec PyProof.Rows
section
variable {X : Cx}
theorem call_anyI (hc : X.calm = true) : CallR X (.builtin "any") (fun xs H Q => ∃ p, ∃ ns : List Int, xs = [.ref p] ∧ SqL X.K H p (ns.map V.int) ∧ Q (.bl (ns.any fun n => decide (n ≠ 0))) H) := by
  intro pins s σ H xs us Q I r h
  obtain ⟨p, ns, rfl, hS, q⟩ := h
  obtain ⟨u, rfl, ru⟩ := vals1 r
  cases ru
  obtain ⟨its, rv, pl, hz⟩ := I.list hS
  have ll := rv.length
  rw [List.length_map] at ll
  obtain ⟨o, ho, _⟩ := pl.isList
  have hI : p ≠ s.heap.objs.size := Nat.ne_of_lt (Heap.lt_size ho)
  refine call_any_walk (wpAny_pyIter_list pl.isList ?_)
  refine ⟨s.heap.objs.size, _, _, _, _, _, fun i => (ns.map fun n => decide (n ≠ 0)).getD i false, rfl, Walks.list (A := X.A.in1) (show X.A.in1.handled = none from I.ok.hd hc) s.heap.objs.size p hI its.toArray, ⟨⟨_, Heap.get?_push_size _ rfl, rfl, rfl⟩, pl.isList.push _⟩, ?_, fun h' tk hk => ?_⟩
  · intro i v s' Q' E' hP hq
    have hP : its[i]? = some v := by simpa using hP
    have hil : i < ns.length := by rw [ll]; exact (List.getElem?_eq_some_iff.mp hP).1
    obtain ⟨u, hu, ru⟩ := rv.get (i := i) (x := V.int ns[i]) (by rw [List.getElem?_map, List.getElem?_eq_getElem hil]; rfl)
    rw [hP] at hu
    cases hu
    obtain ⟨t, rfl⟩ := ru
    have e : (ns.map fun n => decide (n ≠ 0)).getD i false = decide (ns[i] ≠ 0) := by rw [List.getD_eq_getElem?_getD, List.getElem?_map, List.getElem?_eq_getElem hil]; rfl
    have hq : Q' ((ns.map fun n => decide (n ≠ 0)).getD i false) s' := hq
    rw [e] at hq
    have e2 : (ns[i] != 0) = decide (ns[i] ≠ 0) := by by_cases z : ns[i] = 0 <;> simp [z]
    exact P.truthy_int (by rw [e2]; exact hq)
  · have e : (List.range its.toArray.size).any (fun i => (ns.map fun n => decide (n ≠ 0)).getD i false) = ns.any fun n => decide (n ≠ 0) := by
      have e1 := bools_any (ns.map fun n => decide (n ≠ 0))
      rw [List.length_map, List.any_map] at e1
      rw [show its.toArray.size = ns.length by simpa using ll.symm, e1]
      rfl
    rw [e]
    exact ⟨.bl _, H, I.kept fun b o q => hk b o (fun z => by
      have z : b = s.heap.objs.size := by simpa using z
      exact absurd (Heap.lt_size q) (by rw [z]; exact Nat.lt_irrefl _)) (Heap.get?_push_of_some _ q), rfl, q⟩
/-- a list of ints in a list of lists of ints -/
def rNotInC (K : PySem.W.Frag) : R2 := fun x y H Q => ∃ (p a : Addr) (c : List Int) (as : List Addr) (cs : List (List Int)), x = .ref p ∧ y = .ref a ∧ SqL K H p (c.map V.int) ∧ SqL K H a (as.map V.ref) ∧ ColsAt K H as cs ∧ Q (.bl (!decide (c ∈ cs))) H
/-- xs[j], by values, j not below 0 -/
def rGetL (K : PySem.W.Frag) : V → V → Hp → VK → Prop := fun o i H Q => ∃ (p : Addr) (xs : List V) (j : Nat) (v : V), o = .ref p ∧ i = .int j ∧ SqL K H p xs ∧ xs[j]? = some v ∧ Q v H
theorem get_list : PGet X (rGetL X.K) := by
  intro pins s σ H o i ov iv Q I ro ri h
  obtain ⟨p, xs, j, v, rfl, rfl, hq, he, q⟩ := h
  cases ro
  obtain ⟨t, rfl⟩ := ri
  obtain ⟨its, r, pl, hz⟩ := I.list hq
  obtain ⟨w, ew, rw'⟩ := r.get he
  have hn := line63
  have hl := r.length
  have hj := (List.getElem?_eq_some_iff.mp he).1
  exact wpAny_getItem_list pl.isList (by omega) (by omega) (by simpa using ew) ⟨v, H, I, rw', q⟩
end
end L2

set_option maxHeartbeats 4000000
namespace K32
open PySem L2
/-! ### the text by places -/
def top (i : Nat) : Stmt := PySem.Challenge.pw_balancehall_k32_whole_every_balance_is_a.main.body.getD i (.Pass ⟨0, 0, 0, 0⟩)
abbrev sDivisor : Stmt := top 4
abbrev sLowest : Stmt := top 5
abbrev sWeigh : Stmt := top 6
abbrev sGather : Stmt := top 7
abbrev sKInit : Stmt := inClass (top 9) 0
abbrev sFInit : Stmt := inClass (top 10) 0
abbrev sShares : Stmt := inClass (top 10) 1
abbrev sRest : Stmt := inClass (top 10) 2
abbrev sRow : Stmt := inClass (top 10) 3
abbrev sLev : Stmt := inClass (top 10) 4
abbrev sFresh : Stmt := inClass (top 10) 5
abbrev sBind : Stmt := inClass (top 10) 6
abbrev sFreed : Stmt := inClass (top 10) 7
abbrev sKernel : Stmt := top 11
abbrev sTInit : Stmt := inClass (top 13) 0
abbrev sRaised : Stmt := inClass (top 13) 1
abbrev sAllRaised : Stmt := inClass (top 13) 2
abbrev sIsLevel : Stmt := inClass (top 13) 3
abbrev sRowsEnough : Stmt := top 14
abbrev sFits : Stmt := top 15
abbrev sLeast : Stmt := top 16
abbrev sIsBalance : Stmt := top 17
abbrev sTimes : Stmt := top 18
abbrev sSplit : Stmt := top 19
abbrev sHere : Stmt := top 21
abbrev sShaken : Stmt := top 22
abbrev sColumns : Stmt := top 23
abbrev sLists : Stmt := top 24
abbrev sLevels : Stmt := top 25
abbrev sBeneath : Stmt := top 26
abbrev sWholeL : Stmt := top 27
abbrev sLeastOnes : Stmt := top 28
abbrev sComesTo : Stmt := top 29
abbrev sLaw : Stmt := top 30
abbrev Vec := Nat → Int
/-- a form of k vectors: linear in each, nought at two neighbours alike, seeing the rows R alone, bounded -/
structure Form (k : Nat) (R : List Nat) (φ : List Vec → Int) : Prop where
  lin : ∀ (xs ys : List Vec) (u v : Vec) (a b : Int), xs.length + ys.length + 1 = k → φ (xs ++ (fun t => a * u t + b * v t) :: ys) = a * φ (xs ++ u :: ys) + b * φ (xs ++ v :: ys)
  alt : ∀ (xs ys : List Vec) (v : Vec), xs.length + ys.length + 2 = k → φ (xs ++ v :: v :: ys) = 0
  loc : ∀ (xs ys : List Vec) (u v : Vec), xs.length + ys.length + 1 = k → (∀ t ∈ R, u t = v t) → φ (xs ++ u :: ys) = φ (xs ++ v :: ys)
  bnd : ∀ (vs : List Vec) (M : Nat), vs.length = k → (∀ v ∈ vs, ∀ t ∈ R, (v t).natAbs ≤ M) → (φ vs).natAbs ≤ k ^ k * M ^ k
/-- the row e's number times the form of the others, with the signs in turn; pre stands ahead -/
def wdg (r : Nat) (φ : List Vec → Int) : List Vec → List Vec → Int
  | _, [] => 0
  | pre, v :: rest => v r * φ (pre ++ rest) - wdg r φ (pre ++ [v]) rest
section
variable {k r : Nat} {R : List Nat} {φ : List Vec → Int}
theorem wedge_lin_pre (F : Form k R φ) (u v : Vec) (a b : Int) : ∀ (ys p q : List Vec), p.length + q.length + 1 + ys.length = k + 1 →
    wdg r φ (p ++ (fun t => a * u t + b * v t) :: q) ys = a * wdg r φ (p ++ u :: q) ys + b * wdg r φ (p ++ v :: q) ys
  | [], p, q, _ => by simp [wdg]
  | y :: rest, p, q, h => by
    have h' : p.length + q.length + 1 + (rest.length + 1) = k + 1 := h
    have ih := wedge_lin_pre F u v a b rest p (q ++ [y]) (by rw [List.length_append]; simp; omega)
    have l := F.lin p (q ++ rest) u v a b (by rw [List.length_append]; omega)
    simp only [wdg, List.append_assoc, List.cons_append] at ih ⊢
    rw [ih, l]
    simp only [Int.mul_add, Int.mul_sub, Int.mul_left_comm]
    omega
theorem wedge_lin (F : Form k R φ) (u v : Vec) (a b : Int) : ∀ (xs ys pre : List Vec), pre.length + xs.length + 1 + ys.length = k + 1 →
    wdg r φ pre (xs ++ (fun t => a * u t + b * v t) :: ys) = a * wdg r φ pre (xs ++ u :: ys) + b * wdg r φ pre (xs ++ v :: ys)
  | [], ys, pre, h => by
    have l := wedge_lin_pre (r := r) F u v a b ys pre [] (by simpa using h)
    simp only [List.nil_append, wdg]
    rw [l]
    simp only [Int.mul_sub, Int.add_mul, Int.mul_assoc]
    omega
  | x :: xs, ys, pre, h => by
    have h' : pre.length + (xs.length + 1) + 1 + ys.length = k + 1 := h
    have ih := wedge_lin F u v a b xs ys (pre ++ [x]) (by rw [List.length_append]; simp; omega)
    have l := F.lin (pre ++ xs) ys u v a b (by rw [List.length_append]; omega)
    simp only [List.cons_append, wdg, List.append_assoc] at ih l ⊢
    rw [ih, l]
    simp only [Int.mul_add, Int.mul_sub, Int.mul_left_comm]
    omega
theorem wedge_alt_pre (F : Form k R φ) (v : Vec) : ∀ (ys p q : List Vec), p.length + q.length + 2 + ys.length = k + 1 → wdg r φ (p ++ v :: v :: q) ys = 0
  | [], _, _, _ => rfl
  | y :: rest, p, q, h => by
    have h' : p.length + q.length + 2 + (rest.length + 1) = k + 1 := h
    have ih := wedge_alt_pre F v rest p (q ++ [y]) (by rw [List.length_append]; simp; omega)
    have l := F.alt p (q ++ rest) v (by rw [List.length_append]; omega)
    simp only [wdg, List.append_assoc, List.cons_append] at ih ⊢
    rw [ih, l]; simp
theorem wedge_alt (F : Form k R φ) (v : Vec) : ∀ (xs ys pre : List Vec), pre.length + xs.length + 2 + ys.length = k + 1 → wdg r φ pre (xs ++ v :: v :: ys) = 0
  | [], ys, pre, h => by
    have l := wedge_alt_pre (r := r) F v ys pre [] (by simpa using h)
    simp only [List.nil_append, wdg, List.append_assoc, List.cons_append] at l ⊢
    rw [l]; omega
  | x :: xs, ys, pre, h => by
    have h' : pre.length + (xs.length + 1) + 2 + ys.length = k + 1 := h
    have ih := wedge_alt F v xs ys (pre ++ [x]) (by rw [List.length_append]; simp; omega)
    have l := F.alt (pre ++ xs) ys v (by rw [List.length_append]; omega)
    simp only [List.cons_append, wdg, List.append_assoc] at ih l ⊢
    rw [ih, l]; simp
theorem wedge_loc_pre (F : Form k R φ) (u v : Vec) (e : ∀ t ∈ R, u t = v t) : ∀ (ys p q : List Vec), p.length + q.length + 1 + ys.length = k + 1 → wdg r φ (p ++ u :: q) ys = wdg r φ (p ++ v :: q) ys
  | [], _, _, _ => rfl
  | y :: rest, p, q, h => by
    have h' : p.length + q.length + 1 + (rest.length + 1) = k + 1 := h
    have ih := wedge_loc_pre F u v e rest p (q ++ [y]) (by rw [List.length_append]; simp; omega)
    have l := F.loc p (q ++ rest) u v (by rw [List.length_append]; omega) e
    simp only [wdg, List.append_assoc, List.cons_append] at ih ⊢
    rw [ih, l]
theorem wedge_loc (F : Form k R φ) (u v : Vec) (e : ∀ t ∈ R, u t = v t) (er : u r = v r) : ∀ (xs ys pre : List Vec), pre.length + xs.length + 1 + ys.length = k + 1 → wdg r φ pre (xs ++ u :: ys) = wdg r φ pre (xs ++ v :: ys)
  | [], ys, pre, h => by
    have l := wedge_loc_pre (r := r) F u v e ys pre [] (by simpa using h)
    simp only [List.nil_append, wdg]
    rw [l, er]
  | x :: xs, ys, pre, h => by
    have h' : pre.length + (xs.length + 1) + 1 + ys.length = k + 1 := h
    have ih := wedge_loc F u v e er xs ys (pre ++ [x]) (by rw [List.length_append]; simp; omega)
    have l := F.loc (pre ++ xs) ys u v (by rw [List.length_append]; omega) e
    simp only [List.cons_append, wdg, List.append_assoc] at ih l ⊢
    rw [ih, l]
theorem wedge_bnd (F : Form k R φ) (M : Nat) : ∀ (vs pre : List Vec), pre.length + vs.length = k + 1 → (∀ v ∈ pre ++ vs, ∀ t ∈ r :: R, (v t).natAbs ≤ M) → (wdg r φ pre vs).natAbs ≤ vs.length * (M * (k ^ k * M ^ k))
  | [], _, _, _ => by simp [wdg]
  | v :: rest, pre, h, hb => by
    have h' : pre.length + (rest.length + 1) = k + 1 := h
    have ih := wedge_bnd F M rest (pre ++ [v]) (by rw [List.length_append]; simp; omega) (by simpa [List.append_assoc] using hb)
    have b1 := F.bnd (pre ++ rest) M (by rw [List.length_append]; omega) fun w hw t ht => hb w (by
      rcases List.mem_append.mp hw with z | z
      · exact List.mem_append_left _ z
      · exact List.mem_append_right _ (List.mem_cons_of_mem _ z)) t (List.mem_cons_of_mem _ ht)
    have b2 : (v r).natAbs ≤ M := hb v (List.mem_append_right _ (List.mem_cons_self ..)) r (List.mem_cons_self ..)
    have b3 : (v r * φ (pre ++ rest)).natAbs ≤ M * (k ^ k * M ^ k) := by rw [Int.natAbs_mul]; exact Nat.mul_le_mul b2 b1
    have e : (v :: rest).length * (M * (k ^ k * M ^ k)) = rest.length * (M * (k ^ k * M ^ k)) + M * (k ^ k * M ^ k) := by rw [List.length_cons, Nat.succ_mul]
    rw [e]
    simp only [wdg]
    omega
theorem Form.wedge (F : Form k R φ) (r : Nat) : Form (k + 1) (r :: R) (wdg r φ []) where
  lin := fun xs ys u v a b h => wedge_lin F u v a b xs ys [] (by simp; omega)
  alt := fun xs ys v h => wedge_alt F v xs ys [] (by simp; omega)
  loc := fun xs ys u v h e => wedge_loc F u v (fun t ht => e t (List.mem_cons_of_mem _ ht)) (e r (List.mem_cons_self ..)) xs ys [] (by simp; omega)
  bnd := fun vs M h hb => by
    have := wedge_bnd (r := r) F M vs [] (by simpa using h) (by simpa using hb)
    rw [h] at this
    refine Nat.le_trans this ?_
    have e : (k + 1) * (M * (k ^ k * M ^ k)) = ((k + 1) * k ^ k) * M ^ (k + 1) := by
      rw [Nat.pow_succ]
      simp only [Nat.mul_assoc, Nat.mul_left_comm, Nat.mul_comm]
    rw [e, Nat.pow_succ (k + 1) k, Nat.mul_comm ((k + 1) ^ k)]
    exact Nat.mul_le_mul_right _ (Nat.mul_le_mul_left _ (Nat.pow_le_pow_left (Nat.le_succ k) k))
theorem Form.swap (F : Form k R φ) (xs ys : List Vec) (u v : Vec) (h : xs.length + ys.length + 2 = k) : φ (xs ++ u :: v :: ys) = - φ (xs ++ v :: u :: ys) := by
  have key := F.alt xs ys (fun t => 1 * u t + 1 * v t) h
  have l1 := F.lin xs ((fun t => 1 * u t + 1 * v t) :: ys) u v 1 1 (by simp; omega)
  have l2 := F.lin (xs ++ [u]) ys u v 1 1 (by simp; omega)
  have l3 := F.lin (xs ++ [v]) ys u v 1 1 (by simp; omega)
  simp only [List.append_assoc, List.cons_append, List.nil_append] at l2 l3
  have a1 := F.alt xs ys u h
  have a2 := F.alt xs ys v h
  rw [l1, l2, l3, a1, a2] at key
  omega
theorem Form.rep (F : Form k R φ) (v : Vec) : ∀ (ys xs zs : List Vec), xs.length + ys.length + zs.length + 2 = k → φ (xs ++ v :: (ys ++ v :: zs)) = 0
  | [], xs, zs, h => F.alt xs zs v (by simpa using h)
  | y :: ys, xs, zs, h => by
    have h' : xs.length + (ys.length + 1) + zs.length + 2 = k := h
    have ih := Form.rep F v ys (xs ++ [y]) zs (by rw [List.length_append]; simp; omega)
    have s := F.swap xs (ys ++ v :: zs) v y (by rw [List.length_append]; simp; omega)
    simp only [List.append_assoc, List.cons_append, List.nil_append] at ih s ⊢
    rw [s, ih]; rfl
end
/-! ### sums -/
def sm : Nat → (Nat → Int) → Int
  | 0, _ => 0
  | n + 1, f => sm n f + f n
theorem sm_congr {n : Nat} {f g : Nat → Int} (h : ∀ t, t < n → f t = g t) : sm n f = sm n g := by
  induction n with
  | zero => rfl
  | succ n ih => rw [sm, sm, ih fun t ht => h t (Nat.lt_succ_of_lt ht), h n (Nat.lt_succ_self n)]
theorem sm_lin (n : Nat) (a b : Int) (f g : Nat → Int) : sm n (fun t => a * f t + b * g t) = a * sm n f + b * sm n g := by
  induction n with
  | zero => simp [sm]
  | succ n ih => simp only [sm, ih, Int.mul_add]; omega
theorem sm_zero {n : Nat} {f : Nat → Int} (h : ∀ t, t < n → f t = 0) : sm n f = 0 := by
  rw [sm_congr h]
  induction n with
  | zero => rfl
  | succ n ih => rw [sm, ih fun t ht => h t (Nat.lt_succ_of_lt ht)]; rfl
def dotV (n : Nat) (y b : Vec) : Int := sm n fun t => y t * b t
theorem dotV_lin (n : Nat) (a c : Int) (x y b : Vec) : dotV n (fun t => a * x t + c * y t) b = a * dotV n x b + c * dotV n y b := by
  unfold dotV
  rw [← sm_lin]
  exact sm_congr fun t _ => by rw [Int.add_mul, Int.mul_assoc, Int.mul_assoc]
def ev (t : Nat) : Vec := fun s => if s = t then 1 else 0
theorem dotV_ev {n t : Nat} (b : Vec) (h : t < n) : dotV n (ev t) b = b t := by
  unfold dotV
  induction n with
  | zero => omega
  | succ n ih =>
    rw [sm]
    by_cases e : t = n
    · subst e
      rw [sm_zero fun s hs => by unfold ev; rw [if_neg (Nat.ne_of_lt hs)]; simp]
      simp [ev]
    · rw [ih (by omega)]
      unfold ev; rw [if_neg (fun z => e z.symm)]; simp
/-- as many of these as the numbers say -/
def cmb : List Int → List Vec → Vec
  | a :: as, w :: ws => fun t => 1 * (a * w t) + 1 * cmb as ws t
  | _, _ => fun _ => 0
def ldot : List Int → List Int → Int
  | a :: as, b :: bs => a * b + ldot as bs
  | _, _ => 0
theorem comb_at : ∀ (as : List Int) (ws : List Vec) (t : Nat), cmb as ws t = ldot as (ws.map fun w => w t)
  | [], _, _ => by simp [cmb, ldot]
  | _ :: _, [], _ => by simp [cmb, ldot]
  | a :: as, w :: ws, t => by simp only [cmb, ldot, List.map_cons, comb_at as ws t]; omega
theorem dotV_comb (n : Nat) (b : Vec) : ∀ (as : List Int) (ws : List Vec), dotV n (cmb as ws) b = ldot as (ws.map fun w => dotV n w b)
  | [], _ => by simp only [cmb, ldot]; exact sm_zero fun t _ => by simp
  | _ :: _, [] => by simp only [cmb, ldot, List.map_nil]; exact sm_zero fun t _ => by simp
  | a :: as, w :: ws => by
    have h := dotV_lin n 1 1 (fun t => a * w t) (cmb as ws) b
    have h2 : dotV n (fun t => a * w t) b = a * dotV n w b := by
      have := dotV_lin n a 0 w w b
      simpa using this
    simp only [cmb, ldot, List.map_cons]
    rw [h, h2, dotV_comb n b as ws]
    omega
theorem comb_zero {t : Nat} : ∀ (as : List Int) (ws : List Vec), (∀ w ∈ ws, w t = 0) → cmb as ws t = 0
  | [], _, _ => rfl
  | _ :: _, [], _ => rfl
  | a :: as, w :: ws, h => by
    simp only [cmb]
    rw [h w (List.mem_cons_self ..), comb_zero as ws fun v hv => h v (List.mem_cons_of_mem _ hv)]; simp
/-- nought but at one place -/
theorem ldot_delta {S : Int} : ∀ (as ls : List Int) (j : Nat) (x : Int), as[j]? = some x → as.length = ls.length → (∀ i l, ls[i]? = some l → l = if i = j then S else 0) → ldot as ls = x * S
  | a :: as, l :: ls, 0, x, hx, hl, h => by
    cases hx
    have h0 := h 0 l rfl
    have hz : ∀ (as ls : List Int), (∀ z ∈ ls, z = 0) → ldot as ls = 0 := by
      intro as
      induction as with
      | nil => intro ls _; rfl
      | cons a as ih =>
        intro ls hh
        cases ls with
        | nil => rfl
        | cons l ls => simp only [ldot, hh l (List.mem_cons_self ..), ih ls fun z hz => hh z (List.mem_cons_of_mem _ hz)]; simp
    simp only [ldot]
    rw [hz as ls fun z hz => ?_, h0]
    · simp
    · obtain ⟨i, hi⟩ := List.getElem?_of_mem hz
      have := h (i + 1) z hi
      simpa using this
  | a :: as, l :: ls, j + 1, x, hx, hl, h => by
    have h0 := h 0 l rfl
    have ih := ldot_delta as ls j x hx (by simpa using hl) fun i z hz => by
      have := h (i + 1) z hz
      simpa using this
    simp only [ldot, ih, h0]; simp
  | [], _, _, _, hx, _, _ => by simp at hx
  | _ :: _, [], _, _, _, hl, _ => by simp at hl
section
variable {k : Nat} {R : List Nat} {φ : List Vec → Int}
theorem Form.zero (F : Form k R φ) (xs ys : List Vec) (d : Vec) (h : xs.length + ys.length + 1 = k) (hd : ∀ t ∈ R, d t = 0) : φ (xs ++ d :: ys) = 0 := by
  have l := F.lin xs ys d d 0 0 h
  rw [F.loc xs ys d (fun t => 0 * d t + 0 * d t) h fun t ht => by rw [hd t ht]; rfl, l]; simp
/-- the form by its values at the rows -/
theorem Form.expand (F : Form k R φ) {n : Nat} (hR : ∀ t ∈ R, t < n) (xs ys : List Vec) (b : Vec) (h : xs.length + ys.length + 1 = k) : φ (xs ++ b :: ys) = sm n fun t => b t * φ (xs ++ ev t :: ys) := by
  have key : ∀ m, φ (xs ++ (fun s => if s < m then b s else 0) :: ys) = sm m fun t => b t * φ (xs ++ ev t :: ys) := by
    intro m
    induction m with
    | zero => exact F.zero xs ys _ h fun t _ => by simp
    | succ m ih =>
      have l := F.lin xs ys (fun s => if s < m then b s else 0) (ev m) 1 (b m) h
      have e : (fun s => if s < m + 1 then b s else 0) = fun t => 1 * (if t < m then b t else 0) + b m * ev m t := by
        funext s
        unfold ev
        by_cases h1 : s < m
        · rw [if_pos (by omega), if_pos h1, if_neg (by omega)]; omega
        · by_cases h2 : s = m
          · subst h2; rw [if_pos (by omega), if_neg (by omega), if_pos rfl]; omega
          · rw [if_neg (by omega), if_neg h1, if_neg h2]; omega
      rw [e, l, ih, sm]; omega
  rw [← key n]
  exact F.loc xs ys b _ h fun t ht => by rw [if_pos (hR t ht)]
theorem Form.comb (F : Form k R φ) (xs ys : List Vec) (h : xs.length + ys.length + 1 = k) : ∀ (as : List Int) (bs : List Vec), (∀ b ∈ bs, φ (xs ++ b :: ys) = 0) → φ (xs ++ cmb as bs :: ys) = 0
  | [], _, _ => F.zero xs ys _ h fun _ _ => rfl
  | _ :: _, [], _ => F.zero xs ys _ h fun _ _ => rfl
  | a :: as, b :: bs, hb => by
    have l := F.lin xs ys (fun t => a * b t) (cmb as bs) 1 1 h
    have l2 := F.lin xs ys b b a 0 h
    have e : (fun t => a * b t) = fun t => a * b t + 0 * b t := by funext t; omega
    simp only [cmb]
    rw [l, e, l2, hb b (List.mem_cons_self ..), Form.comb F xs ys h as bs fun v hv => hb v (List.mem_cons_of_mem _ hv)]
    simp
end
/-- the last one seen in the new row alone -/
theorem wedge_last {k r : Nat} {R : List Nat} {φ : List Vec → Int} (F : Form k R φ) (d : Vec) (hd : ∀ t ∈ R, d t = 0) : ∀ (bs pre : List Vec), pre.length + bs.length = k →
    wdg r φ pre (bs ++ [d]) = d r * φ (pre ++ bs) ∨ wdg r φ pre (bs ++ [d]) = - (d r * φ (pre ++ bs))
  | [], pre, h => .inl (by simp [wdg])
  | b :: bs, pre, h => by
    have h' : pre.length + (bs.length + 1) = k := h
    have ih := wedge_last (r := r) F d hd bs (pre ++ [b]) (by rw [List.length_append]; simp; omega)
    have z := F.zero (pre ++ bs) [] d (by rw [List.length_append]; simp; omega) hd
    simp only [List.cons_append, wdg, List.append_assoc, List.nil_append] at ih z ⊢
    rw [z]
    rcases ih with e | e
    · right; rw [e]; omega
    · left; rw [e]; omega
/-- the bound columns bs, their weights ws, the scale, the rows that were chosen -/
structure Fr (n : Nat) (bs ws : List Vec) (S : Int) (R : List Nat) : Prop where
  pos : 0 < S
  form : ∃ φ, Form bs.length R φ ∧ (φ bs = S ∨ φ bs = -S)
  len : ws.length = bs.length
  dual : ∀ (i j : Nat) (w b : Vec), ws[i]? = some w → bs[j]? = some b → dotV n w b = if i = j then S else 0
  sup : ∀ w ∈ ws, ∀ t, t ∉ R → w t = 0
  lt : ∀ t ∈ R, t < n
  uniq : ∀ y : Vec, (∀ t, t ∉ R → y t = 0) → (∀ b ∈ bs, dotV n y b = 0) → ∀ t, y t = 0
theorem Fr.start (n : Nat) : Fr n [] [] 1 [] where
  pos := by decide
  form := ⟨fun _ => 1, ⟨fun _ _ _ _ _ _ h => absurd h (by simp), fun _ _ _ h => absurd h (by simp), fun _ _ _ _ h _ => absurd h (by simp), fun vs M h _ => by simp⟩, .inl rfl⟩
  len := rfl
  dual := fun i j w b h _ => by simp at h
  sup := fun w h => by cases h
  lt := fun t h => by cases h
  uniq := fun y h _ t => h t (by simp)
section
variable {n : Nat} {bs ws : List Vec} {S : Int} {R : List Nat}
/-- the shares of a column -/
def shares (n : Nat) (ws : List Vec) (c : Vec) : List Int := ws.map fun w => dotV n w c
/-- what they leave of it, times the scale -/
def left (n : Nat) (bs ws : List Vec) (S : Int) (c : Vec) : Vec := fun t => S * c t + (-1) * cmb (shares n ws c) bs t
theorem Fr.dual_list (F : Fr n bs ws S R) {j : Nat} {b : Vec} (hb : bs[j]? = some b) : ∀ i l, (ws.map fun w => dotV n w b)[i]? = some l → l = if i = j then S else 0 := by
  intro i l h
  rw [List.getElem?_map] at h
  cases e : ws[i]? with
  | none => rw [e] at h; cases h
  | some w => rw [e] at h; cases h; exact F.dual i j w b e hb
theorem Fr.comb_base (F : Fr n bs ws S R) {j : Nat} {b : Vec} (hb : bs[j]? = some b) (as : List Int) (hl : as.length = bs.length) {x : Int} (hx : as[j]? = some x) : dotV n (cmb as ws) b = x * S := by
  rw [dotV_comb]
  exact ldot_delta as _ j x hx (by rw [List.length_map, F.len, hl]) (F.dual_list hb)
/-- by these weights a base weighs nought, any column what is left of it in the row -/
def fresh (r : Nat) (bs ws : List Vec) (S : Int) : Vec := fun t => S * ev r t + (-1) * cmb (bs.map fun b => b r) ws t
theorem Fr.fresh_base (F : Fr n bs ws S R) {r : Nat} (hr : r < n) {b : Vec} (hb : b ∈ bs) : dotV n (fresh r bs ws S) b = 0 := by
  obtain ⟨j, hj⟩ := List.getElem?_of_mem hb
  unfold fresh
  rw [dotV_lin, dotV_ev b hr, F.comb_base hj (bs.map fun b => b r) (by rw [List.length_map]) (x := b r) (by rw [List.getElem?_map, hj]; rfl), Int.mul_comm S]
  omega
theorem ldot_comm : ∀ as bs : List Int, ldot as bs = ldot bs as
  | [], [] => rfl
  | [], _ :: _ => rfl
  | _ :: _, [] => rfl
  | a :: as, b :: bs => by simp only [ldot, ldot_comm as bs, Int.mul_comm a b]
theorem fresh_col {r : Nat} (hr : r < n) (c : Vec) : dotV n (fresh r bs ws S) c = left n bs ws S c r := by
  unfold fresh left shares
  rw [dotV_lin, dotV_ev c hr, dotV_comb, comb_at, ldot_comm]
/-- in the chosen rows nothing is left -/
theorem Fr.left_R (F : Fr n bs ws S R) (c : Vec) {t : Nat} (ht : t ∈ R) : left n bs ws S c t = 0 := by
  have key := F.uniq (fun s => S * ev t s + (-1) * cmb (bs.map fun b => b t) ws s) (fun s hs => by
    rw [comb_zero _ ws fun w hw => F.sup w hw s hs]
    unfold ev; rw [if_neg (fun z : s = t => hs (by rw [z]; exact ht))]; simp) (fun b hb => F.fresh_base (F.lt t ht) hb)
  rw [← fresh_col (F.lt t ht)]
  exact sm_zero fun s _ => by show fresh t bs ws S s * c s = 0; rw [show fresh t bs ws S s = 0 from key s]; simp
theorem Fr.fresh_sup (F : Fr n bs ws S R) {r : Nat} (t : Nat) (h : t ∉ r :: R) : fresh r bs ws S t = 0 := by
  unfold fresh
  rw [comb_zero _ ws fun w hw => F.sup w hw t fun z => h (List.mem_cons_of_mem _ z)]
  unfold ev; rw [if_neg fun z => h (by rw [z]; exact List.mem_cons_self ..)]; simp
/-- the row's vector is told apart by the bases and the new column -/
theorem Fr.uniq' (F : Fr n bs ws S R) {c : Vec} {r : Nat} (hr : r < n) (hl : left n bs ws S c r ≠ 0) (y : Vec) (hy : ∀ t, t ∉ r :: R → y t = 0) (hb : ∀ b ∈ bs, dotV n y b = 0) (hc : dotV n y c = 0) : ∀ t, y t = 0 := by
  have hrR : r ∉ R := fun z => hl (F.left_R c z)
  have fr : fresh r bs ws S r = S := by
    unfold fresh
    rw [comb_zero _ ws fun w hw => F.sup w hw r hrR]
    unfold ev; simp
  have z := F.uniq (fun t => S * y t + (- y r) * fresh r bs ws S t) (fun t ht => by
    by_cases e : t = r
    · subst e; rw [fr, Int.mul_comm S, Int.neg_mul]; omega
    · have : t ∉ r :: R := fun q => (List.mem_cons.mp q).elim e ht
      rw [hy t this, F.fresh_sup t this]; simp) (fun b hb' => by
    rw [dotV_lin, hb b hb', F.fresh_base hr hb']; simp)
  have z2 : S * dotV n y c + (- y r) * dotV n (fresh r bs ws S) c = 0 := by
    rw [← dotV_lin]
    exact sm_zero fun t _ => by show (S * y t + (- y r) * fresh r bs ws S t) * c t = 0; rw [z t]; simp
  rw [hc, fresh_col hr, Int.mul_zero, Int.zero_add] at z2
  have yr : y r = 0 := by
    rcases Int.mul_eq_zero.mp z2 with q | q
    · omega
    · exact absurd q hl
  intro t
  have zt := z t
  rw [yr] at zt
  have hS := F.pos
  have : S * y t = 0 := by simpa using zt
  rcases Int.mul_eq_zero.mp this with q | q
  · omega
  · exact q
theorem set_split {α : Type} {l : List α} {i : Nat} (h : i < l.length) (v : α) : l.set i v = l.take i ++ v :: l.drop (i + 1) := by
  rw [List.set_eq_take_append_cons_drop, if_pos h]
/-- in the place of one of the bases any vector: the form tells its share -/
theorem Form.at {k : Nat} {R : List Nat} {φ : List Vec → Int} (F : Form k R φ) {bs : List Vec} (hk : bs.length = k) {i j : Nat} {b : Vec} (hi : i < bs.length) (hj : bs[j]? = some b) : φ (bs.set i b) = if i = j then φ bs else 0 := by
  have hjl : j < bs.length := (List.getElem?_eq_some_iff.mp hj).1
  have hb : bs[j] = b := (List.getElem?_eq_some_iff.mp hj).2
  by_cases e : i = j
  · subst e
    rw [if_pos rfl]
    congr 1
    subst hb
    exact List.set_getElem_self hi
  · rw [if_neg e, set_split hi]
    rcases Nat.lt_or_gt_of_ne e with h | h
    · -- b stands behind
      have hd : (bs.drop (i + 1)) = (bs.drop (i + 1)).take (j - (i + 1)) ++ b :: bs.drop (j + 1) := by
        conv => lhs; rw [← List.take_append_drop (j - (i + 1)) (bs.drop (i + 1))]
        rw [List.drop_drop, show i + 1 + (j - (i + 1)) = j by omega, List.drop_eq_getElem_cons hjl, hb]
      rw [hd]
      refine F.rep b _ _ _ ?_
      rw [List.length_take, List.length_take, List.length_drop, List.length_drop]
      omega
    · have hd : bs.take i = bs.take j ++ b :: (bs.take i).drop (j + 1) := by
        conv => lhs; rw [← List.take_append_drop j (bs.take i)]
        rw [List.take_take, Nat.min_eq_left (by omega), List.drop_eq_getElem_cons (by rw [List.length_take]; omega)]
        congr 2
        rw [List.getElem_take, hb]
      rw [hd, List.append_assoc, List.cons_append]
      refine F.rep b _ _ _ ?_
      rw [List.length_take, List.length_drop, List.length_drop, List.length_take]
      omega
/-- the next frame's weights: exact -/
theorem Fr.step (F : Fr n bs ws S R) {c : Vec} {r : Nat} (hr : r < n) (hl : left n bs ws S c r ≠ 0) {g : Int} (hg : g = 1 ∨ g = -1) (hp : 0 < g * left n bs ws S c r) :
    Fr n (bs ++ [c]) ((ws.map fun w => fun t => (g * left n bs ws S c r * w t - dotV n w c * (g * fresh r bs ws S t)).fdiv S) ++ [fun t => g * fresh r bs ws S t]) (g * left n bs ws S c r) (r :: R) ∧
      ∀ w ∈ ws, ∀ t, S * (g * left n bs ws S c r * w t - dotV n w c * (g * fresh r bs ws S t)).fdiv S = g * left n bs ws S c r * w t - dotV n w c * (g * fresh r bs ws S t) := by
  obtain ⟨φ, Fo, hv⟩ := F.form
  have hS := F.pos
  generalize hD : g * left n bs ws S c r = S' at hp
  have F' := Fo.wedge r
  have hlen : (bs ++ [c]).length = bs.length + 1 := by simp
  have hR' : ∀ t ∈ r :: R, t < n := fun t ht => (List.mem_cons.mp ht).elim (fun e => by rw [e]; exact hr) (F.lt t)
  -- the form at the bases and the new column
  have e1 : S * wdg r φ [] (bs ++ [c]) = wdg r φ [] (bs ++ [left n bs ws S c]) := by
    have l := F'.lin bs [] c (cmb (shares n ws c) bs) S (-1) (by simp)
    have z : wdg r φ [] (bs ++ cmb (shares n ws c) bs :: []) = 0 := F'.comb bs [] (by simp) _ bs fun b hb => by
      obtain ⟨j, hj⟩ := List.getElem?_of_mem hb
      obtain ⟨h1, h2⟩ := List.getElem?_eq_some_iff.mp hj
      have hd : bs = bs.take j ++ b :: bs.drop (j + 1) := by
        conv => lhs; rw [← List.take_append_drop j bs]
        rw [List.drop_eq_getElem_cons h1, h2]
      have := F'.rep b (bs.drop (j + 1)) (bs.take j) [] (by rw [List.length_take, List.length_drop]; simp; omega)
      rw [hd, List.append_assoc, List.cons_append]
      exact this
    show _ = wdg r φ [] (bs ++ (fun t => S * c t + (-1) * cmb (shares n ws c) bs t) :: [])
    rw [l, z]; simp
  have e2 := wedge_last (r := r) Fo (left n bs ws S c) (fun t ht => F.left_R c ht) bs [] (by simp)
  have hΔ : wdg r φ [] (bs ++ [c]) = S' ∨ wdg r φ [] (bs ++ [c]) = -S' := by
    have cancel : ∀ {x y : Int}, S * x = S * y → x = y := fun h => Int.eq_of_mul_eq_mul_left (by omega) h
    have q : ∀ u : Int, (u = left n bs ws S c r ∨ u = - left n bs ws S c r) → u = S' ∨ u = -S' := by
      intro u hu
      rcases hg with hg | hg <;> rw [hg] at hD <;> rcases hu with hu | hu <;> omega
    apply q
    simp only [List.nil_append] at e2
    rcases hv with hv | hv <;> rcases e2 with e2 | e2 <;> rw [hv] at e2
    · left; apply cancel; rw [e1, e2, Int.mul_comm]
    · right; apply cancel; rw [e1, e2, Int.mul_neg, Int.mul_comm]
    · right; apply cancel; rw [e1, e2, Int.mul_neg, Int.mul_neg, Int.mul_comm]
    · left; apply cancel; rw [e1, e2, Int.mul_neg, Int.neg_neg, Int.mul_comm]
  have hΔ0 := hΔ
  obtain ⟨σ, hσ, hΔ⟩ : ∃ σ : Int, (σ * σ = 1) ∧ σ * wdg r φ [] (bs ++ [c]) = S' := by
    rcases hΔ with h | h
    · exact ⟨1, by decide, by omega⟩
    · exact ⟨-1, by decide, by omega⟩
  -- whole weights for the bases
  let u : Nat → Vec := fun i t => σ * wdg r φ [] ((bs ++ [c]).set i (ev t))
  have udot : ∀ i j b, i < bs.length → (bs ++ [c])[j]? = some b → dotV n (u i) b = if i = j then S' else 0 := by
    intro i j b hi hb
    have hi' : i < (bs ++ [c]).length := by omega
    have ex := F'.expand hR' ((bs ++ [c]).take i) ((bs ++ [c]).drop (i + 1)) b (by rw [List.length_take, List.length_drop]; omega)
    have a := F'.at hlen hi' hb
    rw [set_split hi'] at a
    have : dotV n (u i) b = σ * (sm n fun t => b t * wdg r φ [] ((bs ++ [c]).take i ++ ev t :: (bs ++ [c]).drop (i + 1))) := by
      have l := sm_lin n σ 0 (fun t => b t * wdg r φ [] ((bs ++ [c]).take i ++ ev t :: (bs ++ [c]).drop (i + 1))) (fun _ => 0)
      simp only [Int.zero_mul, Int.add_zero] at l
      rw [← l]
      refine sm_congr fun t _ => ?_
      show σ * wdg r φ [] ((bs ++ [c]).set i (ev t)) * b t = _
      rw [set_split hi', Int.mul_assoc, Int.mul_comm (wdg _ _ _ _)]
    rw [this, ← ex, a]
    by_cases e : i = j
    · rw [if_pos e, if_pos e, hΔ]
    · rw [if_neg e, if_neg e]; simp
  have usup : ∀ i t, i < bs.length → t ∉ r :: R → u i t = 0 := by
    intro i t hi ht
    show σ * wdg r φ [] ((bs ++ [c]).set i (ev t)) = 0
    rw [set_split (by omega), F'.zero _ _ (ev t) (by rw [List.length_take, List.length_drop]; omega) fun s hs => ?_]
    · simp
    · unfold ev; rw [if_neg fun z => ht (by rw [← z]; exact hs)]
  have fb : ∀ b ∈ bs, dotV n (fun t => g * fresh r bs ws S t) b = 0 := fun b hb => by
    have l := dotV_lin n g 0 (fresh r bs ws S) (fresh r bs ws S) b
    simp only [Int.zero_mul, Int.add_zero] at l
    rw [l, F.fresh_base hr hb]; simp
  have fc : dotV n (fun t => g * fresh r bs ws S t) c = S' := by
    have l := dotV_lin n g 0 (fresh r bs ws S) (fresh r bs ws S) c
    simp only [Int.zero_mul, Int.add_zero] at l
    rw [l, fresh_col hr, hD]
  have bat : ∀ {j : Nat} {b : Vec}, bs[j]? = some b → (bs ++ [c])[j]? = some b := fun {j b} h => by
    rw [List.getElem?_append_left (List.getElem?_eq_some_iff.mp h).1]; exact h
  have cat : (bs ++ [c])[bs.length]? = some c := by simp
  -- exact
  have exa : ∀ i w, ws[i]? = some w → ∀ t, S' * w t - dotV n w c * (g * fresh r bs ws S t) = S * u i t := by
    intro i w hw
    have hi : i < bs.length := by rw [← F.len]; exact (List.getElem?_eq_some_iff.mp hw).1
    have hwm := List.mem_of_getElem? hw
    have key := F.uniq' hr hl (fun t => 1 * (S' * w t + (- dotV n w c) * (g * fresh r bs ws S t)) + (-S) * u i t) (fun t ht => by
        show 1 * (S' * w t + (- dotV n w c) * (g * fresh r bs ws S t)) + (-S) * u i t = 0
        rw [F.sup w hwm t fun z => ht (List.mem_cons_of_mem _ z), F.fresh_sup t ht, usup i t hi ht]; simp) (fun b hb => by
        obtain ⟨j, hj⟩ := List.getElem?_of_mem hb
        rw [dotV_lin, dotV_lin, fb b hb, F.dual i j w b hw hj, udot i j b hi (bat hj)]
        by_cases e : i = j
        · rw [if_pos e, if_pos e, Int.mul_comm S' S, Int.neg_mul S S', Int.mul_zero]; omega
        · rw [if_neg e, if_neg e]; simp) (by
        rw [dotV_lin, dotV_lin, fc, udot i bs.length c hi cat, if_neg (by omega), Int.neg_mul, Int.mul_comm S']; simp; omega)
    intro t
    have := key t
    rw [Int.neg_mul, Int.neg_mul] at this
    omega
  have ex2 : ∀ i w, ws[i]? = some w → (fun t => (S' * w t - dotV n w c * (g * fresh r bs ws S t)).fdiv S) = u i := by
    intro i w hw
    funext t
    rw [exa i w hw t, Int.fdiv_eq_ediv_of_nonneg _ (by omega), Int.mul_ediv_cancel_left _ (by omega)]
  refine ⟨⟨hp, ⟨_, by rw [hlen]; exact F', ?_⟩, by simp [F.len], ?_, ?_, hR', ?_⟩, ?_⟩
  · exact hΔ0
  · intro i j w b hw hb
    by_cases hi : i < ws.length
    · rw [List.getElem?_append_left (by rw [List.length_map]; exact hi), List.getElem?_map] at hw
      have hwi := List.getElem?_eq_getElem hi
      rw [hwi] at hw
      have hw' := Option.some.inj hw
      rw [← hw']
      show dotV n (fun t => (S' * ws[i] t - dotV n ws[i] c * (g * fresh r bs ws S t)).fdiv S) b = _
      rw [ex2 i _ hwi]
      exact udot i j b (by rw [← F.len]; exact hi) hb
    · have hi2 : i = ws.length := by
        have := (List.getElem?_eq_some_iff.mp hw).1
        simp at this
        omega
      subst hi2
      have hw' : (fun t => g * fresh r bs ws S t) = w := by
        rw [List.getElem?_append_right (by simp)] at hw
        simpa using hw
      rw [← hw']
      by_cases hj : j < bs.length
      · rw [List.getElem?_append_left hj] at hb
        rw [fb b (List.mem_of_getElem? hb), if_neg (by rw [F.len]; omega)]
      · have hj2 : j = bs.length := by
          have := (List.getElem?_eq_some_iff.mp hb).1
          simp at this
          omega
        subst hj2
        rw [cat] at hb
        cases hb
        rw [fc, if_pos F.len]
  · intro w hw t ht
    rcases List.mem_append.mp hw with h | h
    · obtain ⟨w0, h0, rfl⟩ := List.mem_map.mp h
      obtain ⟨i, hi⟩ := List.getElem?_of_mem h0
      rw [ex2 i w0 hi]
      exact usup i t (by rw [← F.len]; exact (List.getElem?_eq_some_iff.mp hi).1) ht
    · have : w = fun t => g * fresh r bs ws S t := by simpa using h
      rw [this]
      show g * fresh r bs ws S t = 0
      rw [F.fresh_sup t ht]; simp
  · intro y hy hb
    exact F.uniq' hr hl y hy (fun b h => hb b (List.mem_append_left _ h)) (hb c (by simp))
  · intro w hw t
    obtain ⟨i, hi⟩ := List.getElem?_of_mem hw
    have this : (S' * w t - dotV n w c * (g * fresh r bs ws S t)).fdiv S = u i t := congrFun (ex2 i w hi) t
    rw [this, exa i w hi t]
/-- all numbers of a frame are minors -/
theorem Fr.bound (F : Fr n bs ws S R) {M : Nat} (hM : 1 ≤ M) (hb : ∀ b ∈ bs, ∀ t, (b t).natAbs ≤ M) : S.natAbs ≤ bs.length ^ bs.length * M ^ bs.length ∧ ∀ w ∈ ws, ∀ t, (w t).natAbs ≤ bs.length ^ bs.length * M ^ bs.length := by
  obtain ⟨φ, Fo, hv⟩ := F.form
  have hS := F.pos
  refine ⟨?_, fun w hw t => ?_⟩
  · have := Fo.bnd bs M rfl fun b hb' t _ => hb b hb' t
    rcases hv with h | h <;> rw [h] at this <;> omega
  obtain ⟨σ, hσ, hΔ⟩ : ∃ σ : Int, (σ = 1 ∨ σ = -1) ∧ σ * φ bs = S := by
    rcases hv with h | h
    · exact ⟨1, .inl rfl, by omega⟩
    · exact ⟨-1, .inr rfl, by omega⟩
  obtain ⟨i, hi⟩ := List.getElem?_of_mem hw
  have hil : i < bs.length := by rw [← F.len]; exact (List.getElem?_eq_some_iff.mp hi).1
  let u : Vec := fun t => σ * φ (bs.set i (ev t))
  have udot : ∀ j b, bs[j]? = some b → dotV n u b = if i = j then S else 0 := by
    intro j b hb
    have ex := Fo.expand F.lt (bs.take i) (bs.drop (i + 1)) b (by rw [List.length_take, List.length_drop]; omega)
    have a := Fo.at rfl hil hb
    rw [set_split hil] at a
    have : dotV n u b = σ * (sm n fun t => b t * φ (bs.take i ++ ev t :: bs.drop (i + 1))) := by
      have l := sm_lin n σ 0 (fun t => b t * φ (bs.take i ++ ev t :: bs.drop (i + 1))) (fun _ => 0)
      simp only [Int.zero_mul, Int.add_zero] at l
      rw [← l]
      refine sm_congr fun t _ => ?_
      show σ * φ (bs.set i (ev t)) * b t = _
      rw [set_split hil, Int.mul_assoc, Int.mul_comm (φ _)]
    rw [this, ← ex, a]
    by_cases e : i = j
    · rw [if_pos e, if_pos e, hΔ]
    · rw [if_neg e, if_neg e]; simp
  have key := F.uniq (fun t => 1 * w t + (-1) * u t) (fun t ht => by
      have z : u t = 0 := by
        show σ * φ (bs.set i (ev t)) = 0
        rw [set_split hil, Fo.zero _ _ (ev t) (by rw [List.length_take, List.length_drop]; omega) fun s hs => ?_]
        · simp
        · unfold ev; rw [if_neg fun z => ht (by rw [← z]; exact hs)]
      rw [F.sup w hw t ht, z]; rfl) (fun b hb' => by
      obtain ⟨j, hj⟩ := List.getElem?_of_mem hb'
      rw [dotV_lin, F.dual i j w b hi hj, udot j b hj]; omega)
  have e : w t = σ * φ (bs.set i (ev t)) := by
    have := key t
    show w t = u t
    omega
  have bd := Fo.bnd (bs.set i (ev t)) M (by simp) fun v hv' s _ => by
    rcases List.mem_or_eq_of_mem_set hv' with z | z
    · exact hb v z s
    · rw [z]; unfold ev; split <;> simp <;> omega
  rw [e, Int.natAbs_mul]
  have : σ.natAbs = 1 := by rcases hσ with h | h <;> rw [h] <;> rfl
  rw [this, Nat.one_mul]
  exact bd
end
theorem fmod_eq (a b : Int) : a.fmod b = a - b * a.fdiv b := by
  have := Int.fmod_add_mul_fdiv a b
  omega
theorem fmod_abs_lt {a b : Int} (hb : b ≠ 0) : (a.fmod b).natAbs < b.natAbs := by
  rcases Int.lt_or_lt_of_ne hb with h | h
  · have h1 : (-a).fmod (-b) = -(a.fmod b) := by
      rw [fmod_eq, fmod_eq, Int.neg_fdiv_neg]
      rw [Int.neg_mul]; omega
    have h2 := Int.fmod_nonneg_of_pos (-a) (show (0:Int) < -b by omega)
    have h3 := Int.fmod_lt_of_pos (-a) (show (0:Int) < -b by omega)
    omega
  · have h2 := Int.fmod_nonneg_of_pos a h
    have h3 := Int.fmod_lt_of_pos a h
    omega
theorem gcd_fmod (a b : Int) : Int.gcd b (a.fmod b) = Int.gcd a b := by
  rw [fmod_eq, Int.gcd_sub_mul_left_right, Int.gcd_comm]
/-- the greatest number that divides all -/
def gcdL (ns : List Int) : Int := ns.foldl (fun c n => ((Int.gcd c n : Nat) : Int)) 0
theorem gcdL_snoc (ns : List Int) (z : Int) : gcdL (ns ++ [z]) = ((Int.gcd (gcdL ns) z : Nat) : Int) := by
  unfold gcdL; rw [List.foldl_append]; rfl
theorem foldl_dvd : ∀ (ns : List Int) (c : Int), ns.foldl (fun c n => ((Int.gcd c n : Nat) : Int)) c ∣ c ∧ ∀ n ∈ ns, ns.foldl (fun c n => ((Int.gcd c n : Nat) : Int)) c ∣ n
  | [], c => ⟨Int.dvd_refl c, fun n h => by cases h⟩
  | z :: r, c => by
    obtain ⟨h1, h2⟩ := foldl_dvd r ((Int.gcd c z : Nat) : Int)
    refine ⟨Int.dvd_trans h1 (Int.gcd_dvd_left c z), fun n hn => ?_⟩
    rcases List.mem_cons.mp hn with e | e
    · rw [e]; exact Int.dvd_trans h1 (Int.gcd_dvd_right c z)
    · exact h2 n e
theorem gcdL_dvd {ns : List Int} {n : Int} (h : n ∈ ns) : gcdL ns ∣ n := (foldl_dvd ns 0).2 n h
theorem foldl_nonneg : ∀ (ns : List Int) (c : Int), 0 ≤ c → 0 ≤ ns.foldl (fun c n => ((Int.gcd c n : Nat) : Int)) c
  | [], c, h => h
  | z :: r, c, _ => foldl_nonneg r _ (Int.natCast_nonneg _)
theorem gcdL_nonneg (ns : List Int) : 0 ≤ gcdL ns := foldl_nonneg ns 0 (Int.le_refl 0)
theorem gcdL_le {ns : List Int} {B : Nat} (h : ∀ n ∈ ns, n.natAbs ≤ B) : (gcdL ns).natAbs ≤ B := by
  by_cases e : ∃ n ∈ ns, n ≠ 0
  · obtain ⟨n, hn, n0⟩ := e
    have := Nat.le_of_dvd (by omega) (Int.natAbs_dvd_natAbs.mpr (gcdL_dvd hn))
    exact Nat.le_trans this (h n hn)
  · have z : ∀ (l : List Int), (∀ n ∈ l, n = 0) → l.foldl (fun c n => ((Int.gcd c n : Nat) : Int)) 0 = 0 := by
      intro l
      induction l with
      | nil => intro _; rfl
      | cons x r ih =>
        intro hh
        rw [List.foldl_cons, hh x (List.mem_cons_self ..)]
        exact ih fun n hn => hh n (List.mem_cons_of_mem _ hn)
    have : gcdL ns = 0 := z ns fun n hn => Classical.byContradiction fun q => e ⟨n, hn, q⟩
    rw [this]; exact Nat.zero_le _
/-- in lowest numbers -/
def low (ns : List Int) : List Int := if gcdL ns = 0 then ns else ns.map fun n => n.fdiv (gcdL ns)
theorem low_length (ns : List Int) : (low ns).length = ns.length := by
  unfold low; split
  · rfl
  · rw [List.length_map]
theorem low_at {ns : List Int} {k : Nat} {n : Int} (h : ns[k]? = some n) : ∃ m, (low ns)[k]? = some m ∧ m * (if gcdL ns = 0 then 1 else gcdL ns) = n ∧ m.natAbs ≤ n.natAbs := by
  unfold low
  by_cases e : gcdL ns = 0
  · rw [if_pos e, if_pos e]
    exact ⟨n, h, Int.mul_one n, Nat.le_refl _⟩
  · rw [if_neg e, if_neg e]
    have hd := gcdL_dvd (List.mem_of_getElem? h)
    have h0 := gcdL_nonneg ns
    have key : n.fdiv (gcdL ns) * gcdL ns = n := by
      rw [Int.fdiv_eq_ediv_of_nonneg n h0]; exact Int.ediv_mul_cancel hd
    refine ⟨n.fdiv (gcdL ns), by rw [List.getElem?_map, h]; rfl, key, ?_⟩
    have : n.natAbs = (n.fdiv (gcdL ns)).natAbs * (gcdL ns).natAbs := by rw [← Int.natAbs_mul, key]
    rw [this]
    exact Nat.le_mul_of_pos_right _ (by omega)
def dot : List Int → List Int → Int
  | a :: r, b :: t => a * b + dot r t
  | _, _ => 0
theorem dot_nil (xs : List Int) : dot xs [] = 0 := by cases xs <;> rfl
theorem zip_sum : ∀ (xs ys : List Int), (List.zipWith (· * ·) xs ys).sum = dot xs ys
  | [], _ => rfl
  | _ :: _, [] => rfl
  | a :: r, b :: t => by rw [List.zipWith_cons_cons, List.sum_cons, zip_sum r t]; rfl
/-- by places -/
theorem range_dot : ∀ (n : Nat) (xs ys : List Int), xs.length = n → ys.length = n → ((List.range n).map fun k => xs.getD k 0 * ys.getD k 0).sum = dot xs ys
  | 0, xs, ys, hx, hy => by
    cases xs with
    | nil => rfl
    | cons _ _ => cases hx
  | n + 1, xs, ys, hx, hy => by
    match xs, ys, hx, hy with
    | a :: r, b :: t, hx, hy =>
      rw [List.range_succ_eq_map, List.map_cons, List.map_map, List.sum_cons]
      have := range_dot n r t (by simpa using hx) (by simpa using hy)
      show a * b + _ = a * b + dot r t
      rw [← this]
      rfl
/-- what the numbers gather in a row -/
def row (cols : List (List Int)) (r : Nat) : List Int := cols.map fun c => c.getD r 0
def gath (ns : List Int) (cols : List (List Int)) (w : Nat) : List Int := (List.range w).map fun r => dot ns (row cols r)
theorem sum_add_map {α : Type} (l : List α) (f g : α → Int) : (l.map fun x => f x + g x).sum = (l.map f).sum + (l.map g).sum := by
  induction l with
  | nil => rfl
  | cons x r ih => simp only [List.map_cons, List.sum_cons, ih]; omega
theorem sum_mul_map {α : Type} (l : List α) (c : Int) (f : α → Int) : (l.map fun x => c * f x).sum = c * (l.map f).sum := by
  induction l with
  | nil => simp
  | cons x r ih => simp only [List.map_cons, List.sum_cons, ih, Int.mul_add]
theorem range_dot' (w : Nat) (ws : List Int) (hw : ws.length = w) (f : Nat → Int) : dot ws ((List.range w).map f) = ((List.range w).map fun r => ws.getD r 0 * f r).sum := by
  rw [← range_dot w ws _ hw (by simp)]
  congr 1
  refine List.map_congr_left fun k hk => ?_
  have : k < w := List.mem_range.mp hk
  simp [List.getD, this]
theorem across (w : Nat) (ws : List Int) (hw : ws.length = w) : ∀ (ns : List Int) (cols : List (List Int)), ns.length = cols.length → (∀ c ∈ cols, c.length = w) →
    dot ns (cols.map fun c => dot ws c) = dot ws (gath ns cols w)
  | [], [], _, _ => by
    unfold gath
    rw [range_dot' w ws hw]
    have : ((List.range w).map fun r => ws.getD r 0 * dot [] (row [] r)).sum = ((List.range w).map fun r => (0 : Int) * 0).sum := by
      congr 1
      refine List.map_congr_left fun k _ => ?_
      show _ * 0 = _
      simp
    rw [this, sum_mul_map]
    show (0 : Int) = _
    simp
  | n :: r, c :: t, hl, hc => by
    have ih := across w ws hw r t (by simpa using hl) (fun d hd => hc d (List.mem_cons_of_mem _ hd))
    unfold gath at ih ⊢
    rw [range_dot' w ws hw] at ih ⊢
    have : ((List.range w).map fun k => ws.getD k 0 * dot (n :: r) (row (c :: t) k)).sum = ((List.range w).map fun k => n * (ws.getD k 0 * c.getD k 0) + ws.getD k 0 * dot r (row t k)).sum := by
      congr 1
      refine List.map_congr_left fun k _ => ?_
      show _ * (n * c.getD k 0 + dot r (row t k)) = _
      rw [Int.mul_add, Int.mul_left_comm]
    rw [this, sum_add_map, sum_mul_map, range_dot w ws c hw (hc c (List.mem_cons_self ..)), ← ih]
    rfl

/-! ### the program's own steps, on lists -/
def vec (l : List Int) : Vec := fun t => l.getD t 0
theorem vec_at {l : List Int} {t : Nat} {x : Int} (h : l[t]? = some x) : vec l t = x := by unfold vec; rw [List.getD_eq_getElem?_getD, h]; rfl
theorem vec_out {l : List Int} {t : Nat} (h : l.length ≤ t) : vec l t = 0 := by unfold vec; rw [List.getD_eq_getElem?_getD, List.getElem?_eq_none h]; rfl
theorem at_vec {l : List Int} {t : Nat} (h : t < l.length) : l[t]? = some (vec l t) := by unfold vec; rw [List.getD_eq_getElem?_getD, List.getElem?_eq_getElem h]; rfl
theorem dot_snoc : ∀ (xs ys : List Int) (a b : Int), xs.length = ys.length → dot (xs ++ [a]) (ys ++ [b]) = dot xs ys + a * b
  | [], [], a, b, _ => by simp [dot]
  | x :: xs, y :: ys, a, b, h => by
    have := dot_snoc xs ys a b (by simpa using h)
    simp only [List.cons_append, dot, this]; omega
theorem dot_vec : ∀ (n : Nat) (w c : List Int), w.length = n → c.length = n → dot w c = dotV n (vec w) (vec c) := by
  intro n w c hw hc
  rw [← range_dot n w c hw hc]
  unfold dotV
  clear hw hc
  induction n with
  | zero => rfl
  | succ n ih => rw [List.range_succ, List.map_append, List.sum_append, ih]; simp [sm, vec]
theorem ldot_eq : ∀ as bs : List Int, ldot as bs = dot as bs
  | [], _ => by simp [ldot, dot]
  | _ :: _, [] => by simp [ldot, dot]
  | a :: as, b :: bs => by simp only [ldot, dot, ldot_eq as bs]
structure KS where
  scale : Int
  places : List Nat
  bases : List (List Int)
  weights : List (List Int)
def sharesL (st : KS) (c : List Int) : List Int := st.weights.map fun w => dot w c
def restL (st : KS) (c sh : List Int) (r : Nat) : Int := st.scale * c.getD r 0 - dot sh (st.bases.map fun b => b.getD r 0)
def rowL (st : KS) (c sh : List Int) : Option Nat := (List.range c.length).find? fun r => !decide (restL st c sh r = 0)
def minusL (told : List Int) (x : Int) (w : List Int) : List Int := List.zipWith (fun one other => one - x * other) told w
def freshL (st : KS) (r n : Nat) : List Int := (st.bases.zip st.weights).foldl (fun told bw => minusL told (bw.1.getD r 0) bw.2) ((List.replicate n (0 : Int)).set r st.scale)
def signL (f c : List Int) : List Int := if dot f c < 0 then f.map fun x => -x else f
def freedL (S S' : Int) (w : List Int) (s : Int) (f : List Int) : List Int := List.zipWith (fun one other => (S' * one - s * other).fdiv S) w f
def bindL (st : KS) (place : Nat) (c sh : List Int) (r : Nat) : KS :=
  let f := signL (freshL st r c.length) c
  { scale := dot f c, places := st.places ++ [place], bases := st.bases ++ [c], weights := List.zipWith (fun w s => freedL st.scale (dot f c) w s f) st.weights sh ++ [f] }
def rawL (st : KS) (place : Nat) (sh : List Int) (many : Nat) : List Int := (st.places.zip sh).foldl (fun l ps => l.set ps.1 (-ps.2)) ((List.replicate many (0 : Int)).set place st.scale)
structure KR where
  st : KS
  free : List Nat
  numbers : List (List Int)
def stepL (many : Nat) (x : KR) (place : Nat) (c : List Int) : KR :=
  match rowL x.st c (sharesL x.st c) with
  | none => { x with free := x.free ++ [place], numbers := x.numbers ++ [low (rawL x.st place (sharesL x.st c) many)] }
  | some r => { x with st := bindL x.st place c (sharesL x.st c) r }
def kerL (many : Nat) (cs : List (List Int)) : KR := (cs.zipIdx).foldl (fun x ci => stepL many x ci.2 ci.1) ⟨⟨1, [], [], []⟩, [], []⟩
theorem kerL_snoc (many : Nat) (cs : List (List Int)) (c : List Int) : kerL many (cs ++ [c]) = stepL many (kerL many cs) cs.length c := by
  unfold kerL
  rw [List.zipIdx_append, List.foldl_append]
  simp
/-! the steps and the frames -/
/-- a frame of lists -/
structure FrL (n : Nat) (st : KS) : Prop where
  fr : ∃ R, Fr n (st.bases.map vec) (st.weights.map vec) st.scale R
  lb : ∀ b ∈ st.bases, b.length = n
  lw : ∀ w ∈ st.weights, w.length = n
theorem FrL.start (n : Nat) : FrL n ⟨1, [], [], []⟩ := ⟨⟨[], Fr.start n⟩, (fun _ h => by cases h), (fun _ h => by cases h)⟩
theorem shares_eq {n : Nat} {st : KS} (F : FrL n st) {c : List Int} (hc : c.length = n) : sharesL st c = shares n (st.weights.map vec) (vec c) := by
  unfold sharesL shares
  rw [List.map_map]
  exact List.map_congr_left fun w hw => dot_vec n w c (F.lw w hw) hc
theorem rest_eq {n : Nat} {st : KS} (F : FrL n st) {c : List Int} (hc : c.length = n) (r : Nat) : restL st c (sharesL st c) r = left n (st.bases.map vec) (st.weights.map vec) st.scale (vec c) r := by
  unfold restL left
  rw [comb_at, ldot_eq, List.map_map, shares_eq F hc]
  show _ = st.scale * vec c r + -1 * dot _ (st.bases.map fun b => b.getD r 0)
  unfold vec
  omega
theorem minus_len {told w : List Int} {n : Nat} (h : told.length = n) (hw : w.length = n) (x : Int) : (minusL told x w).length = n := by unfold minusL; rw [List.length_zipWith]; omega
theorem minus_vec {told w : List Int} {n : Nat} (h : told.length = n) (hw : w.length = n) (x : Int) (t : Nat) : vec (minusL told x w) t = vec told t + (-1) * (x * vec w t) := by
  by_cases ht : t < n
  · have a := at_vec (l := told) (t := t) (by omega)
    have b := at_vec (l := w) (t := t) (by omega)
    rw [vec_at (x := vec told t - x * vec w t) (by unfold minusL; rw [List.getElem?_zipWith, a, b])]
    omega
  · rw [vec_out (by rw [minus_len h hw]; omega), vec_out (l := told) (by omega), vec_out (l := w) (by omega)]; simp
theorem fresh_fold {n : Nat} (r : Nat) : ∀ (bs ws : List (List Int)) (told : List Int), told.length = n → (∀ w ∈ ws, w.length = n) →
    ((bs.zip ws).foldl (fun told bw => minusL told (bw.1.getD r 0) bw.2) told).length = n ∧ ∀ t, vec ((bs.zip ws).foldl (fun told bw => minusL told (bw.1.getD r 0) bw.2) told) t = vec told t + (-1) * cmb ((bs.map vec).map fun b => b r) (ws.map vec) t
  | [], _, told, h, _ => ⟨h, fun t => by simp [cmb]⟩
  | _ :: _, [], told, h, _ => ⟨h, fun t => by simp [cmb]⟩
  | b :: bs, w :: ws, told, h, hw => by
    have hw0 := hw w (List.mem_cons_self ..)
    obtain ⟨h1, h2⟩ := fresh_fold r bs ws (minusL told (b.getD r 0) w) (minus_len h hw0 _) fun v hv => hw v (List.mem_cons_of_mem _ hv)
    refine ⟨h1, fun t => ?_⟩
    rw [List.zip_cons_cons, List.foldl_cons, h2 t, minus_vec h hw0]
    simp only [List.map_cons, cmb]
    show _ + -1 * (vec b r * vec w t) + _ = _
    omega
theorem vec_set0 {n r : Nat} {S : Int} (hr : r < n) (t : Nat) : vec ((List.replicate n (0 : Int)).set r S) t = S * ev r t := by
  unfold vec ev
  rw [List.getD_eq_getElem?_getD, List.getElem?_set]
  by_cases e : r = t
  · subst e
    rw [if_pos rfl, if_pos (by simpa using hr), if_pos rfl]; simp
  · rw [if_neg e, if_neg (fun z => e z.symm)]
    by_cases h : t < n
    · rw [List.getElem?_replicate, if_pos h]; simp
    · rw [List.getElem?_replicate, if_neg h]; simp
theorem fresh_eq {n : Nat} {st : KS} (F : FrL n st) {r : Nat} (hr : r < n) : (freshL st r n).length = n ∧ vec (freshL st r n) = fresh r (st.bases.map vec) (st.weights.map vec) st.scale := by
  obtain ⟨h1, h2⟩ := fresh_fold (n := n) r st.bases st.weights ((List.replicate n (0 : Int)).set r st.scale) (by simp) F.lw
  refine ⟨h1, ?_⟩
  funext t
  unfold freshL fresh
  rw [h2 t, vec_set0 hr]
theorem row_some {st : KS} {c sh : List Int} {r : Nat} (h : rowL st c sh = some r) : r < c.length ∧ restL st c sh r ≠ 0 := by
  unfold rowL at h
  have h1 := List.mem_of_find?_eq_some h
  have h2 := List.find?_some h
  exact ⟨List.mem_range.mp h1, by simpa using h2⟩
theorem row_none {st : KS} {c sh : List Int} (h : rowL st c sh = none) {r : Nat} (hr : r < c.length) : restL st c sh r = 0 := by
  unfold rowL at h
  have := List.find?_eq_none.mp h r (List.mem_range.mpr hr)
  simpa using this
theorem neg_vec (f : List Int) (t : Nat) : vec (f.map fun x => -x) t = - vec f t := by
  by_cases h : t < f.length
  · rw [vec_at (x := - vec f t) (by rw [List.getElem?_map, at_vec h]; rfl)]
  · rw [vec_out (by rw [List.length_map]; omega), vec_out (by omega)]; rfl
theorem zip_map {α β γ : Type} (g : α → β → γ) (h : α → β) : ∀ l : List α, List.zipWith g l (l.map h) = l.map fun x => g x (h x)
  | [] => rfl
  | x :: l => by rw [List.map_cons, List.zipWith_cons_cons, List.map_cons, zip_map g h l]
theorem freed_vec {n : Nat} {S S' s : Int} {w f : List Int} (hw : w.length = n) (hf : f.length = n) (t : Nat) : vec (freedL S S' w s f) t = (S' * vec w t - s * vec f t).fdiv S := by
  by_cases h : t < n
  · rw [vec_at (x := (S' * vec w t - s * vec f t).fdiv S) (by unfold freedL; rw [List.getElem?_zipWith, at_vec (l := w) (by omega), at_vec (l := f) (by omega)])]
  · rw [vec_out (by unfold freedL; rw [List.length_zipWith]; omega), vec_out (l := w) (by omega), vec_out (l := f) (by omega)]; simp
/-- a bound column: the next frame -/
theorem FrL.bind {n : Nat} {st : KS} (F : FrL n st) {c : List Int} (hc : c.length = n) {r : Nat} (hr : rowL st c (sharesL st c) = some r) (place : Nat) :
    FrL n (bindL st place c (sharesL st c) r) ∧ (signL (freshL st r n) c).length = n ∧ (∀ w ∈ st.weights, ∀ t, st.scale * vec (freedL st.scale (dot (signL (freshL st r n) c) c) w (dot w c) (signL (freshL st r n) c)) t = dot (signL (freshL st r n) c) c * vec w t - dot w c * vec (signL (freshL st r n) c) t) := by
  obtain ⟨h1, h2⟩ := row_some hr
  obtain ⟨R, G⟩ := F.fr
  have hrn : r < n := by omega
  obtain ⟨fl, fv⟩ := fresh_eq F hrn
  have hl : left n (st.bases.map vec) (st.weights.map vec) st.scale (vec c) r ≠ 0 := by rw [← rest_eq F hc]; exact h2
  have d0 : dot (freshL st r n) c = left n (st.bases.map vec) (st.weights.map vec) st.scale (vec c) r := by rw [dot_vec n _ c fl hc, fv, fresh_col hrn]
  obtain ⟨g, hg, sl, sv, hp⟩ : ∃ g : Int, (g = 1 ∨ g = -1) ∧ (signL (freshL st r n) c).length = n ∧ (∀ t, vec (signL (freshL st r n) c) t = g * fresh r (st.bases.map vec) (st.weights.map vec) st.scale t) ∧ 0 < g * left n (st.bases.map vec) (st.weights.map vec) st.scale (vec c) r := by
    unfold signL
    rw [d0]
    by_cases h : left n (st.bases.map vec) (st.weights.map vec) st.scale (vec c) r < 0
    · rw [if_pos h]
      exact ⟨-1, .inr rfl, by rw [List.length_map]; exact fl, fun t => by rw [neg_vec, fv]; omega, by omega⟩
    · rw [if_neg h]
      exact ⟨1, .inl rfl, fl, fun t => by rw [fv]; omega, by omega⟩
  have sc : dot (signL (freshL st r n) c) c = g * left n (st.bases.map vec) (st.weights.map vec) st.scale (vec c) r := by
    rw [dot_vec n _ c sl hc, ← fresh_col hrn]
    have l := dotV_lin n g 0 (fresh r (st.bases.map vec) (st.weights.map vec) st.scale) (fresh r (st.bases.map vec) (st.weights.map vec) st.scale) (vec c)
    simp only [Int.zero_mul, Int.add_zero] at l
    rw [← l]
    exact sm_congr fun t _ => by rw [sv t]
  obtain ⟨G', ex⟩ := G.step hrn hl hg hp
  have key : ∀ w ∈ st.weights, vec (freedL st.scale (dot (signL (freshL st r n) c) c) w (dot w c) (signL (freshL st r n) c)) =
      fun t => (g * left n (st.bases.map vec) (st.weights.map vec) st.scale (vec c) r * vec w t - dotV n (vec w) (vec c) * (g * fresh r (st.bases.map vec) (st.weights.map vec) st.scale t)).fdiv st.scale := by
    intro w hw
    funext t
    rw [freed_vec (F.lw w hw) sl, sc, sv t, dot_vec n w c (F.lw w hw) hc]
  refine ⟨⟨⟨r :: R, ?_⟩, ?_, ?_⟩, sl, fun w hw t => ?_⟩
  · have e1 : (bindL st place c (sharesL st c) r).bases.map vec = st.bases.map vec ++ [vec c] := by simp [bindL]
    have e2 : (bindL st place c (sharesL st c) r).scale = g * left n (st.bases.map vec) (st.weights.map vec) st.scale (vec c) r := by
      show dot (signL (freshL st r c.length) c) c = _
      rw [hc]; exact sc
    have e3 : (bindL st place c (sharesL st c) r).weights.map vec = ((st.weights.map vec).map fun w => fun t => (g * left n (st.bases.map vec) (st.weights.map vec) st.scale (vec c) r * w t - dotV n w (vec c) * (g * fresh r (st.bases.map vec) (st.weights.map vec) st.scale t)).fdiv st.scale) ++ [fun t => g * fresh r (st.bases.map vec) (st.weights.map vec) st.scale t] := by
      show (List.zipWith (fun w s => freedL st.scale (dot (signL (freshL st r c.length) c) c) w s (signL (freshL st r c.length) c)) st.weights (st.weights.map fun w => dot w c) ++ [signL (freshL st r c.length) c]).map vec = _
      rw [hc, List.map_append, zip_map, List.map_map, List.map_map]
      congr 1
      · exact List.map_congr_left fun w hw => key w hw
      · simp only [List.map_cons, List.map_nil]
        congr 1
        funext t; exact sv t
    rw [e1, e2, e3]
    exact G'
  · intro b hb
    rcases List.mem_append.mp (show b ∈ st.bases ++ [c] from hb) with h | h
    · exact F.lb b h
    · have : b = c := by simpa using h
      rw [this]; exact hc
  · intro w hw
    have hw' : w ∈ List.zipWith (fun w s => freedL st.scale (dot (signL (freshL st r c.length) c) c) w s (signL (freshL st r c.length) c)) st.weights (st.weights.map fun w => dot w c) ++ [signL (freshL st r c.length) c] := hw
    rw [hc, zip_map] at hw'
    rcases List.mem_append.mp hw' with h | h
    · obtain ⟨w0, h0, rfl⟩ := List.mem_map.mp h
      unfold freedL
      rw [List.length_zipWith, F.lw w0 h0, sl, Nat.min_self]
    · have : w = signL (freshL st r n) c := by simpa using h
      rw [this]; exact sl
  · rw [congrFun (key w hw) t, ex (vec w) (List.mem_map.mpr ⟨w, hw, rfl⟩) t, sc, sv t, dot_vec n w c (F.lw w hw) hc]
/-- all its numbers are small -/
theorem FrL.small {n : Nat} {st : KS} (F : FrL n st) {M : Nat} (hM : 1 ≤ M) (hb : ∀ b ∈ st.bases, ∀ x ∈ b, x.natAbs ≤ M) :
    0 < st.scale ∧ st.scale.natAbs ≤ st.bases.length ^ st.bases.length * M ^ st.bases.length ∧ ∀ w ∈ st.weights, ∀ x ∈ w, x.natAbs ≤ st.bases.length ^ st.bases.length * M ^ st.bases.length := by
  obtain ⟨R, G⟩ := F.fr
  have := G.bound hM fun b hb' t => by
    obtain ⟨b0, h0, rfl⟩ := List.mem_map.mp hb'
    by_cases h : t < b0.length
    · exact hb b0 h0 _ (List.mem_of_getElem? (at_vec h))
    · rw [vec_out (by omega)]; exact Nat.zero_le _
  rw [List.length_map] at this
  refine ⟨G.pos, this.1, fun w hw x hx => ?_⟩
  obtain ⟨t, ht⟩ := List.getElem?_of_mem hx
  have := this.2 (vec w) (List.mem_map.mpr ⟨w, hw, rfl⟩) t
  rwa [vec_at ht] at this
/-! ### what the kernel tells -/
theorem dot_set : ∀ (l h : List Int) (i : Nat) (v : Int), l.length = h.length → i < l.length → dot (l.set i v) h = dot l h + (v - l.getD i 0) * h.getD i 0
  | [], _, i, _, _, hi => by simp at hi
  | a :: l, b :: h, 0, v, hl, _ => by
    simp only [List.set_cons_zero, dot]
    show _ = a * b + dot l h + (v - a) * b
    rw [Int.sub_mul]; omega
  | a :: l, b :: h, i + 1, v, hl, hi => by
    have ih := dot_set l h i v (by simpa using hl) (by simpa using hi)
    simp only [List.set_cons_succ, dot, ih]
    show _ = a * b + dot l h + (v - l.getD i 0) * h.getD i 0
    omega
  | _ :: _, [], _, _, hl, _ => by simp at hl
theorem getD_set_ne {l : List Int} {i j : Nat} {v : Int} (h : i ≠ j) : (l.set i v).getD j 0 = l.getD j 0 := by
  rw [List.getD_eq_getElem?_getD, List.getD_eq_getElem?_getD, List.getElem?_set_ne h]
theorem getD_set_eq {l : List Int} {i : Nat} {v : Int} (h : i < l.length) : (l.set i v).getD i 0 = v := by
  rw [List.getD_eq_getElem?_getD, List.getElem?_set_self h]; rfl
theorem setF_len : ∀ (ps : List (Nat × Int)) (l : List Int), (ps.foldl (fun l ps => l.set ps.1 (-ps.2)) l).length = l.length
  | [], _ => rfl
  | p :: ps, l => by rw [List.foldl_cons, setF_len ps, List.length_set]
theorem setF_other {j : Nat} : ∀ (ps : List Nat) (sh : List Int) (l : List Int), j ∉ ps → ((ps.zip sh).foldl (fun l ps => l.set ps.1 (-ps.2)) l).getD j 0 = l.getD j 0
  | [], _, _, _ => rfl
  | _ :: _, [], _, _ => rfl
  | p :: ps, s :: sh, l, h => by
    rw [List.zip_cons_cons, List.foldl_cons, setF_other ps sh _ fun z => h (List.mem_cons_of_mem _ z), getD_set_ne fun z => h (by rw [← z]; exact List.mem_cons_self ..)]
theorem setF_dot {h : List Int} : ∀ (ps : List Nat) (sh l : List Int), l.length = h.length → ps.Nodup → (∀ p ∈ ps, p < l.length ∧ l.getD p 0 = 0) → ps.length = sh.length →
    dot ((ps.zip sh).foldl (fun l ps => l.set ps.1 (-ps.2)) l) h = dot l h - dot sh (ps.map fun p => h.getD p 0)
  | [], sh, l, _, _, _, hs => by
    cases sh with
    | nil => simp [dot]
    | cons _ _ => cases hs
  | p :: ps, s :: sh, l, hl, nd, hp, hs => by
    obtain ⟨p1, p2⟩ := hp p (List.mem_cons_self ..)
    obtain ⟨n1, n2⟩ := List.nodup_cons.mp nd
    rw [List.zip_cons_cons, List.foldl_cons, setF_dot ps sh (l.set p (-s)) (by rw [List.length_set]; exact hl) n2 (fun p' hp' => ⟨by rw [List.length_set]; exact (hp p' (List.mem_cons_of_mem _ hp')).1, by
      rw [getD_set_ne fun z => n1 (by rw [z]; exact hp')]; exact (hp p' (List.mem_cons_of_mem _ hp')).2⟩) (by simpa using hs), dot_set l h p (-s) hl p1, p2]
    simp only [List.map_cons, dot, Int.sub_zero, Int.neg_mul]
    omega
  | _ :: _, [], _, _, _, _, hs => by cases hs
theorem dot_zeros (n : Nat) (h : List Int) : dot (List.replicate n (0 : Int)) h = 0 := by
  induction n generalizing h with
  | zero => rfl
  | succ n ih =>
    cases h with
    | nil => rfl
    | cons b h => rw [List.replicate_succ]; simp only [dot, ih]; simp
theorem zeros_getD (n j : Nat) : (List.replicate n (0 : Int)).getD j 0 = 0 := by
  rw [List.getD_eq_getElem?_getD, List.getElem?_replicate]; split <;> rfl
theorem dot_scale (g : Int) : ∀ (l h : List Int), dot (l.map fun x => x * g) h = g * dot l h
  | [], _ => by simp [dot]
  | _ :: _, [] => by simp [dot]
  | a :: l, b :: h => by
    have := dot_scale g l h
    simp only [List.map_cons, dot, this, Int.mul_add, Int.mul_assoc, Int.mul_left_comm]
theorem low_scale (ns : List Int) (h : gcdL ns ≠ 0) : (low ns).map (fun x => x * gcdL ns) = ns := by
  apply List.ext_getElem?
  intro k
  rw [List.getElem?_map]
  cases e : ns[k]? with
  | none =>
    rw [List.getElem?_eq_none (by rw [low_length]; exact List.getElem?_eq_none_iff.mp e)]; rfl
  | some n =>
    obtain ⟨m, h1, h2, _⟩ := low_at e
    rw [if_neg h] at h2
    rw [h1, ← h2]; rfl
/-- numbers told for a free column -/
structure LevT (cs : List (List Int)) (n : Nat) (pl : List Nat) (f : Nat) (T : List Int) : Prop where
  len : T.length = cs.length
  pos : 0 < T.getD f 0
  zero : ∀ j, j ≠ f → (j ∉ pl ∨ f < j) → T.getD j 0 = 0
  lev : ∀ r, r < n → dot T (row cs r) = 0
structure Told (n : Nat) (cs : List (List Int)) (i : Nat) (x : KR) : Prop where
  bases : x.st.bases = x.st.places.map fun p => cs.getD p []
  nd : x.st.places.Nodup
  plt : ∀ p ∈ x.st.places, p < i
  all : ∀ j, j < i → j ∈ x.st.places ∨ j ∈ x.free
  flt : ∀ j ∈ x.free, j < i ∧ j ∉ x.st.places
  fnd : x.free.Nodup
  nn : x.numbers.length = x.free.length
  lev : ∀ (a f : Nat) (T : List Int), x.free[a]? = some f → x.numbers[a]? = some T → LevT cs n x.st.places f T
theorem row_len (cs : List (List Int)) (r : Nat) : (row cs r).length = cs.length := by unfold row; rw [List.length_map]
theorem row_getD {cs : List (List Int)} {j r : Nat} (h : j < cs.length) : (row cs r).getD j 0 = (cs.getD j []).getD r 0 := by
  unfold row
  rw [List.getD_eq_getElem?_getD, List.getElem?_map, List.getElem?_eq_getElem h, List.getD_eq_getElem?_getD (l := cs), List.getElem?_eq_getElem h]; rfl
theorem wlenF {n : Nat} {st : KS} (F : FrL n st) : st.weights.length = st.bases.length := by
  obtain ⟨R, G⟩ := F.fr
  have := G.len
  simpa using this
theorem told_free {n : Nat} {cs : List (List Int)} {i : Nat} {x : KR} {c : List Int} (F : FrL n x.st) (pl : x.st.places.length = x.st.bases.length) (t : Told n cs i x) (hi : cs[i]? = some c) (hc : ∀ c ∈ cs, c.length = n) (hr : rowL x.st c (sharesL x.st c) = none) :
    LevT cs n x.st.places i (low (rawL x.st i (sharesL x.st c) cs.length)) := by
  have hil : i < cs.length := (List.getElem?_eq_some_iff.mp hi).1
  have hS : 0 < x.st.scale := by obtain ⟨R, G⟩ := F.fr; exact G.pos
  have nip : i ∉ x.st.places := fun z => Nat.lt_irrefl _ (t.plt i z)
  have lraw : (rawL x.st i (sharesL x.st c) cs.length).length = cs.length := by unfold rawL; rw [setF_len]; simp
  have ri : (rawL x.st i (sharesL x.st c) cs.length).getD i 0 = x.st.scale := by
    unfold rawL; rw [setF_other _ _ _ nip, getD_set_eq (by simp; exact hil)]
  have rj : ∀ j, j ≠ i → j ∉ x.st.places → (rawL x.st i (sharesL x.st c) cs.length).getD j 0 = 0 := fun j h1 h2 => by
    unfold rawL; rw [setF_other _ _ _ h2, getD_set_ne (Ne.symm h1), zeros_getD]
  have rd : ∀ r, r < n → dot (rawL x.st i (sharesL x.st c) cs.length) (row cs r) = 0 := fun r hrn => by
    have hcl : c.length = n := hc c (List.mem_of_getElem? hi)
    have z := row_none hr (r := r) (by omega)
    unfold restL at z
    unfold rawL
    rw [setF_dot (h := row cs r) _ _ _ (by simp [row_len]) t.nd (fun p hp => ⟨by simp; exact Nat.lt_trans (t.plt p hp) hil, by rw [getD_set_ne fun z => nip (by rw [z]; exact hp), zeros_getD]⟩) (by rw [pl]; unfold sharesL; rw [List.length_map, wlenF F]),
      dot_set _ _ _ _ (by simp [row_len]) (by simp; exact hil), dot_zeros, zeros_getD, row_getD hil]
    have e1 : cs.getD i [] = c := by rw [List.getD_eq_getElem?_getD, hi]; rfl
    have e2 : (x.st.places.map fun p => (row cs r).getD p 0) = x.st.bases.map fun b => b.getD r 0 := by
      rw [t.bases, List.map_map]
      exact List.map_congr_left fun p hp => row_getD (Nat.lt_trans (t.plt p hp) hil)
    rw [e1, e2]
    simp only [Int.sub_zero, Int.zero_add]
    exact z
  have g0 : gcdL (rawL x.st i (sharesL x.st c) cs.length) ≠ 0 := fun z => by
    have hm : x.st.scale ∈ rawL x.st i (sharesL x.st c) cs.length := by
      rw [← ri]
      exact List.mem_of_getElem? (at_vec (l := rawL x.st i (sharesL x.st c) cs.length) (t := i) (by omega))
    have := gcdL_dvd hm
    rw [z] at this
    have := Int.zero_dvd.mp this
    omega
  have gp : 0 < gcdL (rawL x.st i (sharesL x.st c) cs.length) := by have := gcdL_nonneg (rawL x.st i (sharesL x.st c) cs.length); omega
  have key : ∀ j, j < cs.length → (low (rawL x.st i (sharesL x.st c) cs.length)).getD j 0 * gcdL (rawL x.st i (sharesL x.st c) cs.length) = (rawL x.st i (sharesL x.st c) cs.length).getD j 0 := fun j hj => by
    obtain ⟨m, h1, h2, _⟩ := low_at (at_vec (l := rawL x.st i (sharesL x.st c) cs.length) (t := j) (by omega))
    rw [if_neg g0] at h2
    rw [List.getD_eq_getElem?_getD, h1]
    exact h2
  have ll : (low (rawL x.st i (sharesL x.st c) cs.length)).length = cs.length := by rw [low_length, lraw]
  refine ⟨ll, ?_, fun j hj h => ?_, fun r hrn => ?_⟩
  · have h := key i hil
    rw [ri] at h
    exact Int.pos_of_mul_pos_left (by rw [h]; exact hS) (by omega)
  · by_cases hjl : j < cs.length
    · have hjp : j ∉ x.st.places := h.elim (fun z => z) fun z w => Nat.lt_asymm (t.plt j w) z
      have h2 := key j hjl
      rw [rj j hj hjp] at h2
      rcases Int.mul_eq_zero.mp h2 with q | q
      · exact q
      · exact absurd q g0
    · rw [List.getD_eq_getElem?_getD, List.getElem?_eq_none (by omega)]; rfl
  · have h := rd r hrn
    rw [← low_scale _ g0, dot_scale] at h
    rcases Int.mul_eq_zero.mp h with q | q
    · exact absurd q g0
    · exact q
theorem LevT.more {cs : List (List Int)} {n : Nat} {pl : List Nat} {f : Nat} {T : List Int} (h : LevT cs n pl f T) (p : Nat) : LevT cs n (pl ++ [p]) f T :=
  ⟨h.len, h.pos, fun j hj k => h.zero j hj (k.elim (fun z => .inl fun w => z (List.mem_append_left _ w)) .inr), h.lev⟩
theorem told_ok {n : Nat} {cs : List (List Int)} (hc : ∀ c ∈ cs, c.length = n) : ∀ i, i ≤ cs.length → FrL n (kerL cs.length (cs.take i)).st ∧ (kerL cs.length (cs.take i)).st.places.length = (kerL cs.length (cs.take i)).st.bases.length ∧ Told n cs i (kerL cs.length (cs.take i))
  | 0, _ => ⟨FrL.start n, rfl, ⟨rfl, .nil, (fun p h => by cases h), (fun j h => by omega), (fun j h => by cases h), .nil, rfl, fun a f T h => by simp [kerL] at h⟩⟩
  | i + 1, hi => by
    obtain ⟨F, pl, t⟩ := told_ok hc i (by omega)
    have hci := List.getElem?_eq_getElem (l := cs) (i := i) (by omega)
    have hcm := List.mem_of_getElem? hci
    have ts : cs.take (i + 1) = cs.take i ++ [cs[i]] := by rw [List.take_add_one, hci]; rfl
    rw [ts, kerL_snoc, List.length_take, Nat.min_eq_left (by omega)]
    generalize kerL cs.length (cs.take i) = x at F pl t
    generalize cs[i] = c at hci hcm
    have nip : i ∉ x.st.places := fun z => Nat.lt_irrefl _ (t.plt i z)
    unfold stepL
    split
    · rename_i hr
      refine ⟨F, pl, ⟨t.bases, t.nd, fun p hp => Nat.lt_succ_of_lt (t.plt p hp), fun j hj => ?_, fun j hj => ?_, ?_, by simp; exact t.nn, fun a f T h1 h2 => ?_⟩⟩
      · rcases Nat.lt_succ_iff_lt_or_eq.mp hj with q | q
        · exact (t.all j q).imp id fun z => List.mem_append_left _ z
        · exact .inr (by rw [q]; simp)
      · rcases List.mem_append.mp hj with q | q
        · exact ⟨Nat.lt_succ_of_lt (t.flt j q).1, (t.flt j q).2⟩
        · have q : j = i := by simpa using q
          rw [q]; exact ⟨Nat.lt_succ_self i, nip⟩
      · rw [List.nodup_append]
        refine ⟨t.fnd, by simp, fun a ha b hb => ?_⟩
        have hb : b = i := by simpa using hb
        rw [hb]
        exact Nat.ne_of_lt (t.flt a ha).1
      · by_cases ha : a < x.free.length
        · rw [List.getElem?_append_left ha] at h1
          rw [List.getElem?_append_left (by rw [t.nn]; exact ha)] at h2
          exact t.lev a f T h1 h2
        · have ha2 : a = x.free.length := by
            have := (List.getElem?_eq_some_iff.mp h1).1
            simp at this
            omega
          subst ha2
          rw [List.getElem?_append_right (Nat.le_refl _)] at h1
          rw [List.getElem?_append_right (by rw [t.nn]; exact Nat.le_refl _), t.nn] at h2
          simp at h1 h2
          subst h1 h2
          exact told_free (x := x) F pl t hci hc hr
    · rename_i r hr
      obtain ⟨B1, _, _⟩ := F.bind (hc c hcm) hr i
      refine ⟨B1, by simp [bindL]; exact pl, ⟨?_, ?_, fun p hp => ?_, fun j hj => ?_, fun j hj => ?_, t.fnd, t.nn, fun a f T h1 h2 => (t.lev a f T h1 h2).more i⟩⟩
      · show x.st.bases ++ [c] = (x.st.places ++ [i]).map fun p => cs.getD p []
        rw [List.map_append, ← t.bases]
        simp only [List.map_cons, List.map_nil]
        rw [List.getD_eq_getElem?_getD, hci]; rfl
      · show (x.st.places ++ [i]).Nodup
        rw [List.nodup_append]
        refine ⟨t.nd, by simp, fun a ha b hb => ?_⟩
        have hb : b = i := by simpa using hb
        rw [hb]
        exact Nat.ne_of_lt (t.plt a ha)
      · rcases List.mem_append.mp (show p ∈ x.st.places ++ [i] from hp) with q | q
        · exact Nat.lt_succ_of_lt (t.plt p q)
        · have q : p = i := by simpa using q
          rw [q]; exact Nat.lt_succ_self i
      · rcases Nat.lt_succ_iff_lt_or_eq.mp hj with q | q
        · exact (t.all j q).imp (fun z => List.mem_append_left _ z) id
        · exact .inl (List.mem_append_right _ (by rw [q]; simp))
      · refine ⟨Nat.lt_succ_of_lt (t.flt j hj).1, fun z => ?_⟩
        rcases List.mem_append.mp z with q | q
        · exact (t.flt j hj).2 q
        · have q : j = i := by simpa using q
          have := (t.flt j hj).1
          omega
theorem dot_one : ∀ (z h : List Int) (p : Nat), (∀ j, j ≠ p → z.getD j 0 * h.getD j 0 = 0) → z.length = h.length → dot z h = z.getD p 0 * h.getD p 0
  | [], [], p, _, _ => by simp [dot]
  | a :: z, b :: h, 0, hz, hl => by
    have e : ∀ (z h : List Int), z.length = h.length → (∀ j, z.getD j 0 * h.getD j 0 = 0) → dot z h = 0 := by
      intro z
      induction z with
      | nil => intro h _ _; rfl
      | cons x z ih =>
        intro h hl hh
        cases h with
        | nil => rfl
        | cons y h =>
          have h0 : x * y = 0 := hh 0
          simp only [dot, h0, ih h (by simpa using hl) fun j => hh (j + 1)]; rfl
    simp only [dot, e z h (by simpa using hl) fun j => hz (j + 1) (by omega)]
    simp
  | a :: z, b :: h, p + 1, hz, hl => by
    have h0 : a * b = 0 := hz 0 (by omega)
    have ih := dot_one z h p (fun j hj => hz (j + 1) (by omega)) (by simpa using hl)
    simp only [dot, h0, ih]
    simp
/-- numbers that level and are nought at all free places are noughts -/
theorem only {n : Nat} {cs : List (List Int)} {x : KR} (F : FrL n x.st) (pl : x.st.places.length = x.st.bases.length) (t : Told n cs cs.length x) (hc : ∀ c ∈ cs, c.length = n) {z : List Int} (lz : z.length = cs.length) (hz : ∀ r, r < n → dot z (row cs r) = 0) (hf : ∀ j ∈ x.free, z.getD j 0 = 0) : ∀ j, z.getD j 0 = 0 := by
  intro p
  by_cases hp : p < cs.length
  · rcases t.all p hp with h | h
    · obtain ⟨R, G⟩ := F.fr
      obtain ⟨k, hk⟩ := List.getElem?_of_mem h
      have hkl : k < x.st.weights.length := by rw [wlenF F, ← pl]; exact (List.getElem?_eq_some_iff.mp hk).1
      have hw := List.getElem?_eq_getElem hkl
      have hwm := List.mem_of_getElem? hw
      generalize x.st.weights[k] = w at hw hwm
      have lw := F.lw w hwm
      have ac := across n w lw z cs lz hc
      have gz : gath z cs n = List.replicate n (0 : Int) := by
        unfold gath
        apply List.ext_getElem?
        intro r
        rw [List.getElem?_map]
        by_cases hr : r < n
        · rw [List.getElem?_range hr, List.getElem?_replicate, if_pos hr]
          exact congrArg some (hz r hr)
        · rw [List.getElem?_eq_none (by simp; omega), List.getElem?_replicate, if_neg hr]; rfl
      rw [gz] at ac
      have d0 : dot w (List.replicate n (0 : Int)) = 0 := by
        have := range_dot n w (List.replicate n (0 : Int)) lw (by simp)
        rw [← this]
        have e : ((List.range n).map fun k => w.getD k 0 * (List.replicate n (0 : Int)).getD k 0) = (List.range n).map fun k => (0 : Int) * 0 := List.map_congr_left fun k _ => by rw [zeros_getD]; simp
        rw [e, sum_mul_map]; simp
      rw [d0] at ac
      have hj : ∀ j, j < cs.length → (cs.map fun c => dot w c).getD j 0 = dot w (cs.getD j []) := fun j hj => by
        rw [List.getD_eq_getElem?_getD, List.getElem?_map, List.getElem?_eq_getElem hj, List.getD_eq_getElem?_getD (l := cs), List.getElem?_eq_getElem hj]; rfl
      have dl : ∀ (l b : Nat), x.st.places[l]? = some b → dot w (cs.getD b []) = if k = l then x.st.scale else 0 := fun l b hb => by
        have hbl : b < cs.length := t.plt b (List.mem_of_getElem? hb)
        have hbc : cs.getD b [] ∈ cs := by rw [List.getD_eq_getElem?_getD, List.getElem?_eq_getElem hbl]; exact List.getElem_mem hbl
        rw [dot_vec n w _ lw (hc _ hbc)]
        refine G.dual k l (vec w) (vec (cs.getD b [])) (by rw [List.getElem?_map, hw]; rfl) ?_
        rw [List.getElem?_map, t.bases, List.getElem?_map, hb]; rfl
      rw [dot_one z (cs.map fun c => dot w c) p (fun j hjp => ?_) (by rw [List.length_map]; exact lz), hj p hp, dl k p hk, if_pos rfl] at ac
      · rcases Int.mul_eq_zero.mp ac with q | q
        · exact q
        · have := G.pos; omega
      · by_cases hjl : j < cs.length
        · rcases t.all j hjl with q | q
          · obtain ⟨l, hl⟩ := List.getElem?_of_mem q
            rw [hj j hjl, dl l j hl, if_neg (fun e => hjp (by rw [e, hl] at hk; exact Option.some.inj hk))]; simp
          · rw [hf j q]; simp
        · rw [List.getD_eq_getElem?_getD, List.getElem?_eq_none (by omega)]; simp
    · exact hf p h
  · rw [List.getD_eq_getElem?_getD, List.getElem?_eq_none (by omega)]; rfl
/-! ### the promises of wholes and kernel -/
/-- numbers of few enough bits -/
def Few (ns : List Int) : Prop := ∀ n ∈ ns, Fit 60000000 n
def spDivisor : Sp := fun vs H Q _ => ∃ a b : Int, vs = [.int a, .int b] ∧ Q (.int (Int.gcd a b : Nat)) H
def spLowest (K : PySem.W.Frag) : Sp := fun vs H Q _ => ∃ (p : Addr) (ns : List Int), vs = [.ref p] ∧ SqL K H p (ns.map V.int) ∧ ns.length ≤ sizeLine ∧ (∀ n ∈ ns, n.natAbs < 2 ^ 8000) ∧
  ∀ l H', H l = none → Same H H' → H' l = some (.lst ((low ns).map V.int)) → Q (.ref l) H'
def spWeigh (K : PySem.W.Frag) : Sp := fun vs H Q _ => ∃ (p r : Addr) (ws cs : List Int), vs = [.ref p, .ref r] ∧ SqL K H p (ws.map V.int) ∧ SqL K H r (cs.map V.int) ∧ ws.length ≤ sizeLine ∧ Few ws ∧ Few cs ∧ ∀ H', Same H H' → Q (.int (dot ws cs)) H'
/-- a frame's fields -/
structure FF (fs : List (Str × V)) (S : Int) (aP aB aW : Addr) : Prop where
  s : fs.lookup ("scale" : Str) = some (.int S)
  p : fs.lookup ("places" : Str) = some (.ref aP)
  b : fs.lookup ("bases" : Str) = some (.ref aB)
  w : fs.lookup ("weights" : Str) = some (.ref aW)
  no : ∀ m : Str, m ≠ "scale" → m ≠ "places" → m ≠ "bases" → m ≠ "weights" → fs.lookup m = none
  len : fs.length ≤ 4
theorem put_len {f : Str} {v : V} : ∀ {fs : List (Str × V)}, (fs.lookup f).isSome = true → (putF f v fs).length = fs.length
  | [], h => by cases h
  | (g, u) :: r, h => by
    unfold putF
    by_cases e : g = f
    · rw [if_pos e]; rfl
    · rw [if_neg e]
      rw [List.lookup_cons, beq_eq_false_iff_ne.mpr (Ne.symm e)] at h
      rw [List.length_cons, put_len h, List.length_cons]
theorem FF.mk4 (S : Int) (aP aB aW : Addr) : FF (putF "weights" (.ref aW) (putF "bases" (.ref aB) (putF "places" (.ref aP) (putF "scale" (.int S) [])))) S aP aB aW where
  s := by rw [lookup_putF, if_neg (by decide +kernel), lookup_putF, if_neg (by decide +kernel), lookup_putF, if_neg (by decide +kernel), lookup_putF, if_pos rfl]
  p := by rw [lookup_putF, if_neg (by decide +kernel), lookup_putF, if_neg (by decide +kernel), lookup_putF, if_pos rfl]
  b := by rw [lookup_putF, if_neg (by decide +kernel), lookup_putF, if_pos rfl]
  w := by rw [lookup_putF, if_pos rfl]
  no := fun m h1 h2 h3 h4 => by rw [lookup_putF, if_neg h4, lookup_putF, if_neg h3, lookup_putF, if_neg h2, lookup_putF, if_neg h1]; rfl
  len := by
    have a1 := length_putF "scale" (.int S) []
    have a2 := length_putF "places" (.ref aP) (putF "scale" (.int S) [])
    have a3 := length_putF "bases" (.ref aB) (putF "places" (.ref aP) (putF "scale" (.int S) []))
    have a4 := length_putF "weights" (.ref aW) (putF "bases" (.ref aB) (putF "places" (.ref aP) (putF "scale" (.int S) [])))
    simp at a1
    omega
theorem FF.setW {fs : List (Str × V)} {S : Int} {aP aB aW : Addr} (h : FF fs S aP aB aW) (aW' : Addr) : FF (putF "weights" (.ref aW') fs) S aP aB aW' where
  s := by rw [lookup_putF, if_neg (by decide +kernel)]; exact h.s
  p := by rw [lookup_putF, if_neg (by decide +kernel)]; exact h.p
  b := by rw [lookup_putF, if_neg (by decide +kernel)]; exact h.b
  w := by rw [lookup_putF, if_pos rfl]
  no := fun m h1 h2 h3 h4 => by rw [lookup_putF, if_neg h4]; exact h.no m h1 h2 h3 h4
  len := by rw [put_len (by rw [h.w]; rfl)]; exact h.len
theorem FF.setS {fs : List (Str × V)} {S : Int} {aP aB aW : Addr} (h : FF fs S aP aB aW) (S' : Int) : FF (putF "scale" (.int S') fs) S' aP aB aW where
  s := by rw [lookup_putF, if_pos rfl]
  p := by rw [lookup_putF, if_neg (by decide +kernel)]; exact h.p
  b := by rw [lookup_putF, if_neg (by decide +kernel)]; exact h.b
  w := by rw [lookup_putF, if_neg (by decide +kernel)]; exact h.w
  no := fun m h1 h2 h3 h4 => by rw [lookup_putF, if_neg h1]; exact h.no m h1 h2 h3 h4
  len := by rw [put_len (by rw [h.s]; rfl)]; exact h.len
/-- lists at these places, which are none of W -/
def ColsS (W : List Addr) (H : Hp) : List Addr → List (List Int) → Prop := Paired fun a c => H a = some (.lst (c.map V.int)) ∧ a ∉ W
theorem ColsS.keep {W : List Addr} {H H' : Hp} (e : ∀ b o, H b = some o → b ∉ W → H' b = some o) : ∀ {as : List Addr} {cs : List (List Int)}, ColsS W H as cs → ColsS W H' as cs
  | _, _, .nil => .nil
  | _, _, .cons h t => .cons ⟨e _ _ h.1 h.2, h.2⟩ (ColsS.keep e t)
theorem ColsS.keepL {W : List Addr} {H H' : Hp} (e : ∀ b xs, H b = some (.lst xs) → b ∉ W → H' b = some (.lst xs)) : ∀ {as : List Addr} {cs : List (List Int)}, ColsS W H as cs → ColsS W H' as cs
  | _, _, .nil => .nil
  | _, _, .cons h t => .cons ⟨e _ _ h.1 h.2, h.2⟩ (ColsS.keepL e t)
theorem ColsS.same {W : List Addr} {H H' : Hp} (e : Same H H') {as : List Addr} {cs : List (List Int)} (h : ColsS W H as cs) : ColsS W H' as cs := h.keep fun b o q _ => e b o q
theorem ColsS.at {K : PySem.W.Frag} {W : List Addr} {H : Hp} : ∀ {as : List Addr} {cs : List (List Int)}, ColsS W H as cs → ColsAt K H as cs
  | _, _, .nil => .nil
  | _, _, .cons h t => .cons (SqL.of h.1) (ColsS.at t)
theorem ColsS.get {W : List Addr} {H : Hp} : ∀ {as : List Addr} {cs : List (List Int)} {i : Nat} {a : Addr}, ColsS W H as cs → as[i]? = some a → ∃ c, cs[i]? = some c ∧ H a = some (.lst (c.map V.int)) ∧ a ∉ W
  | _, _, 0, _, .cons h _, e => by cases e; exact ⟨_, rfl, h.1, h.2⟩
  | _, _, i + 1, _, .cons _ t, e => ColsS.get (i := i) t e
theorem ColsS.length {W : List Addr} {H : Hp} {as : List Addr} {cs : List (List Int)} (h : ColsS W H as cs) : as.length = cs.length := Paired.length h
theorem ColsS.snoc {W : List Addr} {H : Hp} {a : Addr} {c : List Int} (h : H a = some (.lst (c.map V.int))) (n : a ∉ W) : ∀ {as : List Addr} {cs : List (List Int)}, ColsS W H as cs → ColsS W H (as ++ [a]) (cs ++ [c])
  | _, _, .nil => .cons ⟨h, n⟩ .nil
  | _, _, .cons k t => .cons k (ColsS.snoc h n t)
structure FrameAt (FC : Addr) (X : List Addr) (H : Hp) (q dx aP aB aW : Addr) (st : KS) : Prop where
  obj : ∃ fs, H q = some (.ins FC dx fs) ∧ FF fs st.scale aP aB aW
  hP : H aP = some (.lst (st.places.map fun p => V.int (p : Nat)))
  hB : ∃ bA : List Addr, H aB = some (.lst (bA.map V.ref)) ∧ ColsS (aP :: aB :: X) H bA st.bases
  hW : ∃ wA : List Addr, H aW = some (.lst (wA.map V.ref)) ∧ ColsS (aP :: aB :: X) H wA st.weights
  ne : aP ≠ aB ∧ aW ≠ aP ∧ aW ≠ aB ∧ aP ∉ X ∧ aB ∉ X ∧ aW ∉ X ∧ q ∉ X
  has : ∀ b ∈ X, ∃ o, H b = some o
theorem FrameAt.same {FC : Addr} {X : List Addr} {H H' : Hp} {q dx aP aB aW : Addr} {st : KS} (F : FrameAt FC X H q dx aP aB aW st) (e : Same H H') : FrameAt FC X H' q dx aP aB aW st :=
  ⟨let ⟨fs, h, k⟩ := F.obj; ⟨fs, e _ _ h, k⟩, e _ _ F.hP, let ⟨bA, h, k⟩ := F.hB; ⟨bA, e _ _ h, k.same e⟩, let ⟨wA, h, k⟩ := F.hW; ⟨wA, e _ _ h, k.same e⟩, F.ne, fun b hb => let ⟨o, h⟩ := F.has b hb; ⟨o, e _ _ h⟩⟩
theorem ColsS.more {W : List Addr} {H H' : Hp} {b : Addr} (n : H b = none) (e : Same H H') : ∀ {as : List Addr} {cs : List (List Int)}, ColsS W H as cs → ColsS (b :: W) H' as cs
  | _, _, .nil => .nil
  | _, _, .cons h t => .cons ⟨e _ _ h.1, fun z => (List.mem_cons.mp z).elim (ne_of_none h.1 n) h.2⟩ (ColsS.more n e t)
theorem ColsS.perm {W W' : List Addr} {H : Hp} (w : ∀ b ∈ W', b ∈ W) : ∀ {as : List Addr} {cs : List (List Int)}, ColsS W H as cs → ColsS W' H as cs
  | _, _, .nil => .nil
  | _, _, .cons h t => .cons ⟨h.1, fun z => h.2 (w _ z)⟩ (ColsS.perm w t)
/-- a new object more to be away from -/
theorem FrameAt.more {FC : Addr} {X : List Addr} {H H' : Hp} {q dx aP aB aW b : Addr} {o : HO} {st : KS} (F : FrameAt FC X H q dx aP aB aW st) (n : H b = none) (e : Same H H') (hb : H' b = some o) : FrameAt FC (b :: X) H' q dx aP aB aW st := by
  obtain ⟨fs, hq, ff⟩ := F.obj
  obtain ⟨bA, hB, cB⟩ := F.hB
  obtain ⟨wA, hW, cW⟩ := F.hW
  obtain ⟨n1, n2, n3, n4, n5, n6, n7⟩ := F.ne
  have pr : ∀ c ∈ aP :: aB :: b :: X, c ∈ b :: aP :: aB :: X := fun c hc => by simp only [List.mem_cons] at hc ⊢; rcases hc with h | h | h | h <;> simp [h]
  have nm : ∀ {c : Addr} {u : HO}, H c = some u → c ∉ X → c ∉ b :: X := fun h k z => (List.mem_cons.mp z).elim (ne_of_none h n) k
  exact ⟨⟨fs, e _ _ hq, ff⟩, e _ _ F.hP, ⟨bA, e _ _ hB, (cB.more n e).perm pr⟩, ⟨wA, e _ _ hW, (cW.more n e).perm pr⟩, ⟨n1, n2, n3, nm F.hP n4, nm hB n5, nm hW n6, nm hq n7⟩, fun c hc => (List.mem_cons.mp hc).elim (fun z => ⟨o, by rw [z]; exact hb⟩) fun z => let ⟨u, hu⟩ := F.has c z; ⟨u, e _ _ hu⟩⟩
/-- one of the others changed -/
theorem FrameAt.but {FC : Addr} {X : List Addr} {H H' : Hp} {q dx aP aB aW b : Addr} {o : HO} {st : KS} (F : FrameAt FC X H q dx aP aB aW st) (hb : b ∈ X) (e : But b H H') (h' : H' b = some o) : FrameAt FC X H' q dx aP aB aW st := by
  obtain ⟨fs, hq, ff⟩ := F.obj
  obtain ⟨bA, hB, cB⟩ := F.hB
  obtain ⟨wA, hW, cW⟩ := F.hW
  obtain ⟨n1, n2, n3, n4, n5, n6, n7⟩ := F.ne
  have nm : ∀ {c : Addr}, c ∉ X → c ≠ b := fun k z => k (by rw [z]; exact hb)
  have kp : ∀ c u, H c = some u → c ∉ aP :: aB :: X → H' c = some u := fun c u h k => e _ _ h fun z => k (by rw [z]; simp [hb])
  refine ⟨⟨fs, e _ _ hq (nm n7), ff⟩, e _ _ F.hP (nm n4), ⟨bA, e _ _ hB (nm n5), cB.keep kp⟩, ⟨wA, e _ _ hW (nm n6), cW.keep kp⟩, F.ne, fun c hc => ?_⟩
  by_cases z : c = b
  · exact ⟨o, by rw [z]; exact h'⟩
  · obtain ⟨u, hu⟩ := F.has c hc
    exact ⟨u, e _ _ hu z⟩
/-- a frame of small numbers -/
structure Sm (n : Nat) (st : KS) : Prop where
  F : FrL n st
  n : n ≤ 1000
  many : st.bases.length ≤ 60
  pl : st.places.length = st.bases.length
  pos : 0 < st.scale
  s : Fit 4600 st.scale
  w : ∀ w ∈ st.weights, ∀ x ∈ w, Fit 4600 x
  b : ∀ b ∈ st.bases, ∀ x ∈ b, Fit 70 x
theorem Sm.of {n : Nat} {st : KS} (F : FrL n st) (hn : n ≤ 1000) (hk : st.bases.length ≤ 60) (pl : st.places.length = st.bases.length) (hb : ∀ b ∈ st.bases, ∀ x ∈ b, Fit 70 x) : Sm n st := by
  obtain ⟨p, s, w⟩ := F.small (M := 2 ^ 70) Nat.one_le_two_pow fun b h x hx => Nat.le_of_lt (hb b h x hx)
  have key : st.bases.length ^ st.bases.length * (2 ^ 70) ^ st.bases.length < 2 ^ 4600 := by
    generalize st.bases.length = k at hk
    have h1 : k ^ k ≤ (2 ^ 6) ^ k := Nat.pow_le_pow_left (by omega) k
    have h2 : k ^ k * (2 ^ 70) ^ k ≤ (2 ^ 6) ^ k * (2 ^ 70) ^ k := Nat.mul_le_mul_right _ h1
    have h3 : (2 ^ 6) ^ k * (2 ^ 70) ^ k = 2 ^ (76 * k) := by rw [← Nat.mul_pow, ← Nat.pow_add, ← Nat.pow_mul]
    rw [h3] at h2
    exact Nat.lt_of_le_of_lt h2 (Nat.pow_lt_pow_right (by decide) (by omega))
  exact ⟨F, hn, hk, pl, p, Nat.lt_of_le_of_lt s key, fun v hv x hx => Nat.lt_of_le_of_lt (w v hv x hx) key, hb⟩
theorem Fit.few {m : Nat} (hm : m ≤ 60000000) {ns : List Int} (h : ∀ x ∈ ns, Fit m x) : Few ns := fun x hx => (h x hx).mono hm
theorem dot_abs {A B : Nat} : ∀ (xs ys : List Int), (∀ x ∈ xs, x.natAbs ≤ A) → (∀ y ∈ ys, y.natAbs ≤ B) → (dot xs ys).natAbs ≤ xs.length * (A * B)
  | [], _, _, _ => by simp [dot]
  | _ :: _, [], _, _ => by simp [dot]
  | x :: xs, y :: ys, hx, hy => by
    have ih := dot_abs xs ys (fun z hz => hx z (List.mem_cons_of_mem _ hz)) (fun z hz => hy z (List.mem_cons_of_mem _ hz))
    have h1 : (x * y).natAbs ≤ A * B := by rw [Int.natAbs_mul]; exact Nat.mul_le_mul (hx x (List.mem_cons_self ..)) (hy y (List.mem_cons_self ..))
    rw [List.length_cons, Nat.succ_mul]
    show (x * y + dot xs ys).natAbs ≤ _
    omega
theorem dot_fit {a b : Nat} {xs ys : List Int} (hx : ∀ x ∈ xs, Fit a x) (hy : ∀ y ∈ ys, Fit b y) (hl : xs.length ≤ 1000) : Fit (10 + (a + b)) (dot xs ys) := by
  have h := dot_abs xs ys (fun x h => Nat.le_of_lt (hx x h)) (fun y h => Nat.le_of_lt (hy y h))
  unfold Fit
  refine Nat.lt_of_le_of_lt h ?_
  rw [Nat.pow_add, Nat.pow_add]
  exact Nat.mul_lt_mul_of_pos_right (by omega) (Nat.mul_pos (Nat.pow_pos (by decide)) (Nat.pow_pos (by decide)))
theorem mulN {a b : Nat} {i j : Int} (h : Fit a i) (h' : Fit b j) (hs : a + b ≤ 134217728 := by decide) : CMulF i j := .inr ⟨a, b, h, h', hs⟩
theorem getD_at {l : List Int} {i : Nat} (h : i < l.length) : l[i]? = some (l.getD i 0) := by rw [List.getD_eq_getElem?_getD, List.getElem?_eq_getElem h]; rfl
theorem shares_fit {n : Nat} {st : KS} (S : Sm n st) {c : List Int} (hf : ∀ x ∈ c, Fit 70 x) : ∀ x ∈ sharesL st c, Fit 4680 x := fun x hx => by
  unfold sharesL at hx
  obtain ⟨w, hw, rfl⟩ := List.mem_map.mp hx
  exact dot_fit (S.w w hw) hf (by rw [S.F.lw w hw]; exact S.n)
theorem wlen {n : Nat} {st : KS} (S : Sm n st) : st.weights.length = st.bases.length := by
  obtain ⟨R, G⟩ := S.F.fr
  have := G.len
  simpa using this
/-- a column of small numbers -/
structure Col (n : Nat) (H : Hp) (cA : Addr) (c : List Int) : Prop where
  at' : H cA = some (.lst (c.map V.int))
  len : c.length = n
  fit : ∀ x ∈ c, Fit 70 x
def spFInit (FC : Addr) : Sp := fun vs H Q _ => ∃ q dx : Addr, vs = [.ref q] ∧ H q = some (.ins FC dx []) ∧ ∀ aP aB aW H', H aP = none → H aB = none → FrameAt FC [] H' q dx aP aB aW ⟨1, [], [], []⟩ → (∀ b o, H b = some o → b ≠ q → H' b = some o) → Q .non H'
def spShares (FC : Addr) : Sp := fun vs H Q _ => ∃ (X : List Addr) (q dx aP aB aW cA : Addr) (st : KS) (n : Nat) (c : List Int), vs = [.ref q, .ref cA] ∧ FrameAt FC X H q dx aP aB aW st ∧ Sm n st ∧ Col n H cA c ∧ ∀ l H', H l = none → Same H H' → H' l = some (.lst ((sharesL st c).map V.int)) → Q (.ref l) H'
def spRest (FC : Addr) : Sp := fun vs H Q _ => ∃ (X : List Addr) (q dx aP aB aW cA sA : Addr) (st : KS) (n : Nat) (c : List Int) (r : Nat), vs = [.ref q, .ref cA, .ref sA, .int r] ∧ FrameAt FC X H q dx aP aB aW st ∧ Sm n st ∧ Col n H cA c ∧ H sA = some (.lst ((sharesL st c).map V.int)) ∧ r < n ∧ ∀ H', Same H H' → Q (.int (restL st c (sharesL st c) r)) H'
def spRow (FC : Addr) : Sp := fun vs H Q _ => ∃ (X : List Addr) (q dx aP aB aW cA sA : Addr) (st : KS) (n : Nat) (c : List Int), vs = [.ref q, .ref cA, .ref sA] ∧ FrameAt FC X H q dx aP aB aW st ∧ Sm n st ∧ Col n H cA c ∧ H sA = some (.lst ((sharesL st c).map V.int)) ∧
  ∀ H', Same H H' → (∀ r, rowL st c (sharesL st c) = some r → Q (.int (r : Nat)) H') ∧ (rowL st c (sharesL st c) = none → Q .non H')
def spLev (FC : Addr) : Sp := fun vs H Q _ => ∃ (X : List Addr) (q dx aP aB aW sA : Addr) (st : KS) (n : Nat) (c : List Int) (place many : Nat), vs = [.ref q, .int place, .ref sA, .int many] ∧ FrameAt FC X H q dx aP aB aW st ∧ Sm n st ∧ (∀ x ∈ c, Fit 70 x) ∧ H sA = some (.lst ((sharesL st c).map V.int)) ∧ place < many ∧ many ≤ 1000 ∧ (∀ p ∈ st.places, p < many) ∧
  ∀ l H', H l = none → Same H H' → H' l = some (.lst ((low (rawL st place (sharesL st c) many)).map V.int)) → Q (.ref l) H'
def spFresh (FC : Addr) : Sp := fun vs H Q _ => ∃ (X : List Addr) (q dx aP aB aW : Addr) (st : KS) (n r : Nat), vs = [.ref q, .int r, .int n] ∧ FrameAt FC X H q dx aP aB aW st ∧ Sm n st ∧ r < n ∧ ∀ l H', H l = none → Same H H' → H' l = some (.lst ((freshL st r n).map V.int)) → Q (.ref l) H'
def spFreed (FC : Addr) : Sp := fun vs H Q _ => ∃ (X : List Addr) (q dx aP aB aW wA fA : Addr) (st : KS) (n : Nat) (w f : List Int) (s S' : Int), vs = [.ref q, .ref wA, .int s, .ref fA, .int S'] ∧ FrameAt FC X H q dx aP aB aW st ∧ Sm n st ∧ H wA = some (.lst (w.map V.int)) ∧ H fA = some (.lst (f.map V.int)) ∧ w.length = n ∧ f.length = n ∧ (∀ x ∈ w, Fit 20000 x) ∧ (∀ x ∈ f, Fit 20000 x) ∧ Fit 20000 s ∧ Fit 20000 S' ∧
  ∀ l H', H l = none → Same H H' → H' l = some (.lst ((freedL st.scale S' w s f).map V.int)) → Q (.ref l) H'
def spBind (FC : Addr) : Sp := fun vs H Q _ => ∃ (X : List Addr) (q dx aP aB aW cA sA : Addr) (st : KS) (n : Nat) (c : List Int) (place r : Nat), vs = [.ref q, .int place, .ref cA, .ref sA, .int r] ∧ FrameAt FC X H q dx aP aB aW st ∧ Sm n st ∧ st.bases.length < 60 ∧ Col n H cA c ∧ cA ∉ aP :: aB :: X ∧ H sA = some (.lst ((sharesL st c).map V.int)) ∧ rowL st c (sharesL st c) = some r ∧
  ∀ aW' H', (∀ b o, H b = some o → b ∉ [q, aP, aB] → H' b = some o) → FrameAt FC X H' q dx aP aB aW' (bindL st place c (sharesL st c) r) → Q .non H'
theorem ixN_nat {n j : Nat} (h : j < n) : ixN n (j : Int) = some j := by
  unfold ixN
  rw [if_pos (by omega), if_pos (by omega)]; simp
theorem fold_len : ∀ (ps : List (Nat × Int)) (l : List Int), (ps.foldl (fun l ps => l.set ps.1 (-ps.2)) l).length = l.length
  | [], _ => rfl
  | p :: ps, l => by rw [List.foldl_cons, fold_len ps, List.length_set]
theorem fold_fit {m : Nat} : ∀ (ps : List (Nat × Int)) (l : List Int), (∀ x ∈ l, Fit m x) → (∀ p ∈ ps, Fit m p.2) → ∀ x ∈ ps.foldl (fun l ps => l.set ps.1 (-ps.2)) l, Fit m x
  | [], _, h, _ => h
  | p :: ps, l, h, hp => by
    rw [List.foldl_cons]
    refine fold_fit ps _ (fun x hx => ?_) fun p' hp' => hp p' (List.mem_cons_of_mem _ hp')
    rcases List.mem_or_eq_of_mem_set hx with z | z
    · exact h x z
    · rw [z]
      have := hp p (List.mem_cons_self ..)
      unfold Fit at this ⊢
      rw [Int.natAbs_neg]; exact this
theorem raw_fit {n : Nat} {st : KS} (S : Sm n st) {c : List Int} (hf : ∀ x ∈ c, Fit 70 x) {place many : Nat} : ∀ x ∈ rawL st place (sharesL st c) many, Fit 4680 x := by
  unfold rawL
  refine fold_fit _ _ (fun x hx => ?_) fun p hp => shares_fit S hf _ (List.of_mem_zip hp).2
  rcases List.mem_or_eq_of_mem_set hx with z | z
  · rw [(List.mem_replicate.mp z).2]
    exact Nat.pow_pos (by decide)
  · rw [z]; exact S.s.mono (by decide)
theorem minus_fold_len {n : Nat} (r : Nat) : ∀ (ps : List (List Int × List Int)) (told : List Int), told.length = n → (∀ p ∈ ps, p.2.length = n) → (ps.foldl (fun told bw => minusL told (bw.1.getD r 0) bw.2) told).length = n
  | [], _, h, _ => h
  | p :: ps, told, h, hp => by
    rw [List.foldl_cons]
    exact minus_fold_len r ps _ (minus_len h (hp p (List.mem_cons_self ..)) _) fun p' hp' => hp p' (List.mem_cons_of_mem _ hp')
theorem ColsN.toS {L : Addr} {H0 H H' : Hp} {W : List Addr} (hW : ∀ b ∈ W, ∃ o, H0 b = some o) (e : ∀ b xs, H b = some (.lst xs) → b ≠ L → b ∉ W → H' b = some (.lst xs)) : ∀ {as : List Addr} {cs : List (List Int)}, ColsN L H0 H as cs → ColsS W H' as cs
  | _, _, .nil => .nil
  | _, _, .cons h t => .cons (by
      have nm : ∀ z, z ∈ W → ¬ H0 z = none := fun z hz => by obtain ⟨o, ho⟩ := hW z hz; rw [ho]; simp
      exact ⟨e _ _ h.1 h.2.1 fun z => nm _ z h.2.2, fun z => nm _ z h.2.2⟩) (ColsN.toS hW e t)
theorem sign_fit {m : Nat} {f c : List Int} (h : ∀ x ∈ signL f c, Fit m x) : ∀ x ∈ f, Fit m x := fun x hx => by
  unfold signL at h
  split at h
  · have := h (-x) (List.mem_map.mpr ⟨x, hx, rfl⟩)
    unfold Fit at this ⊢
    rwa [Int.natAbs_neg] at this
  · exact h x hx
/-- a kernel's fields -/
structure KFl (fs : List (Str × V)) (b1 b2 b3 b4 : Addr) : Prop where
  f : fs.lookup ("free" : Str) = some (.ref b1)
  b : fs.lookup ("bound" : Str) = some (.ref b2)
  n : fs.lookup ("numbers" : Str) = some (.ref b3)
  w : fs.lookup ("weights" : Str) = some (.ref b4)
theorem KFl.mk4 (b1 b2 b3 b4 : Addr) : KFl (putF "weights" (.ref b4) (putF "numbers" (.ref b3) (putF "bound" (.ref b2) (putF "free" (.ref b1) [])))) b1 b2 b3 b4 where
  f := by rw [lookup_putF, if_neg (by decide +kernel), lookup_putF, if_neg (by decide +kernel), lookup_putF, if_neg (by decide +kernel), lookup_putF, if_pos rfl]
  b := by rw [lookup_putF, if_neg (by decide +kernel), lookup_putF, if_neg (by decide +kernel), lookup_putF, if_pos rfl]
  n := by rw [lookup_putF, if_neg (by decide +kernel), lookup_putF, if_pos rfl]
  w := by rw [lookup_putF, if_pos rfl]
def spKInit (KC : Addr) : Sp := fun vs H Q _ => ∃ (q dx a1 a2 a3 a4 : Addr) (x1 x2 x3 x4 : List V), vs = [.ref q, .ref a1, .ref a2, .ref a3, .ref a4] ∧ H q = some (.ins KC dx []) ∧ H a1 = some (.lst x1) ∧ H a2 = some (.lst x2) ∧ H a3 = some (.lst x3) ∧ H a4 = some (.lst x4) ∧
  ∀ b1 b2 b3 b4 fs H', (H b1 = none ∧ H b2 = none ∧ H b3 = none ∧ H b4 = none) → (H' q = some (.ins KC dx fs) ∧ KFl fs b1 b2 b3 b4) → H' b1 = some (.lst x1) → H' b2 = some (.lst x2) → H' b3 = some (.lst x3) → H' b4 = some (.lst x4) → (∀ b o, H b = some o → b ≠ q → H' b = some o) → Q .non H'
/-- what the kernel tells -/
structure KernelAt (KC : Addr) (H0 H : Hp) (kq : Addr) (x : KR) : Prop where
  obj : ∃ dx fs b1 b2 b3 b4, H kq = some (.ins KC dx fs) ∧ KFl fs b1 b2 b3 b4 ∧ (H0 kq = none ∧ H0 b1 = none ∧ H0 b2 = none ∧ H0 b3 = none ∧ H0 b4 = none) ∧ H b1 = some (.lst (x.free.map fun p => V.int (p : Nat))) ∧ H b2 = some (.lst (x.st.places.map fun p => V.int (p : Nat))) ∧
    (∃ nA : List Addr, H b3 = some (.lst (nA.map V.ref)) ∧ ColsN kq H0 H nA x.numbers) ∧ ∃ wA : List Addr, H b4 = some (.lst (wA.map V.ref)) ∧ ColsS [] H wA x.st.weights
def spKernel (KC : Addr) : Sp := fun vs H Q _ => ∃ (p : Addr) (as : List Addr) (cs : List (List Int)) (n : Nat), vs = [.ref p] ∧ H p = some (.lst (as.map V.ref)) ∧ ColsS [] H as cs ∧ (∀ c ∈ cs, c.length = n ∧ ∀ x ∈ c, Fit 70 x) ∧ n ≤ 1000 ∧ cs.length ≤ 60 ∧
  ∀ kq H', Same H H' → KernelAt KC H H' kq (kerL cs.length cs) → Q (.ref kq) H'
/-- how far the loop has come -/
structure Came (n : Nat) (cs : List (List Int)) (i : Nat) (x : KR) : Prop where
  F : FrL n x.st
  pl : x.st.places.length = x.st.bases.length
  few : x.st.bases.length ≤ i
  sub : ∀ b ∈ x.st.bases, b ∈ cs
  plt : ∀ p ∈ x.st.places, p < i
  nf : x.free.length ≤ i
  nn : x.numbers.length = x.free.length
theorem came {n many : Nat} {cs : List (List Int)} (hc : ∀ c ∈ cs, c.length = n) : ∀ i, i ≤ cs.length → Came n cs i (kerL many (cs.take i))
  | 0, _ => ⟨FrL.start n, rfl, Nat.le_refl _, (fun b h => by cases h), (fun p h => by cases h), Nat.le_refl _, rfl⟩
  | i + 1, hi => by
    have I := came (many := many) hc i (by omega)
    have hci := List.getElem?_eq_getElem (l := cs) (i := i) (by omega)
    rw [snoc_take hci, kerL_snoc, List.length_take, Nat.min_eq_left (by omega)]
    have hcm := List.mem_of_getElem? hci
    generalize cs[i] = c at hcm
    unfold stepL
    split
    · exact ⟨I.F, I.pl, Nat.le_trans I.few (Nat.le_succ i), I.sub, fun p hp => Nat.lt_succ_of_lt (I.plt p hp), by simp; exact I.nf, by simp; exact I.nn⟩
    · rename_i r hr
      obtain ⟨B1, _, _⟩ := I.F.bind (hc c hcm) hr i
      refine ⟨B1, by simp [bindL]; exact I.pl, by simp [bindL]; exact I.few, fun b hb => ?_, fun p hp => ?_, Nat.le_trans I.nf (Nat.le_succ i), I.nn⟩
      · rcases List.mem_append.mp (show b ∈ _ ++ [c] from hb) with h | h
        · exact I.sub b h
        · have h : b = c := by simpa using h
          rw [h]; exact hcm
      · rcases List.mem_append.mp (show p ∈ _ ++ [i] from hp) with h | h
        · exact Nat.lt_succ_of_lt (I.plt p h)
        · have h : p = i := by simpa using h
          rw [h]; exact Nat.lt_succ_self i
theorem Came.sm {n : Nat} {cs : List (List Int)} {i : Nat} {x : KR} (I : Came n cs i x) (hn : n ≤ 1000) (hi : i ≤ 60) (hf : ∀ c ∈ cs, ∀ x ∈ c, Fit 70 x) : Sm n x.st :=
  Sm.of I.F hn (Nat.le_trans I.few hi) I.pl fun b hb x hx => hf b (I.sub b hb) x hx
/-- all that is asked of what the kernel tells -/
structure Good (cs : List (List Int)) (n : Nat) (x : KR) : Prop where
  F : FrL n x.st
  pl : x.st.places.length = x.st.bases.length
  T : Told n cs cs.length x
  ps : x.st.places.Pairwise (· < ·)
  fs : x.free.Pairwise (· < ·)
  one : ∀ t ∈ x.numbers, gcdL t = 1
  fit : ∀ t ∈ x.numbers, ∀ y ∈ t, Fit 4680 y
  wf : ∀ v ∈ x.st.weights, ∀ y ∈ v, Fit 4600 y
  fl : x.free.length ≤ cs.length
theorem numbers_fit {n many : Nat} {cs : List (List Int)} (hn : n ≤ 1000) (hl : cs.length ≤ 60) (hc : ∀ c ∈ cs, c.length = n ∧ ∀ x ∈ c, Fit 70 x) : ∀ i, i ≤ cs.length → ∀ T ∈ (kerL many (cs.take i)).numbers, ∀ x ∈ T, Fit 4680 x
  | 0, _, T, h => by simp [kerL] at h
  | i + 1, hi, T, h => by
    have ih := numbers_fit (many := many) hn hl hc i (by omega)
    have S := (came (many := many) (fun c h => (hc c h).1) i (by omega)).sm hn (by omega) fun c h => (hc c h).2
    have hci := List.getElem?_eq_getElem (l := cs) (i := i) (by omega)
    rw [snoc_take hci, kerL_snoc, List.length_take, Nat.min_eq_left (by omega)] at h
    have hcm := List.mem_of_getElem? hci
    generalize cs[i] = c at hcm h
    generalize kerL many (cs.take i) = x at *
    unfold stepL at h
    split at h
    · rcases List.mem_append.mp h with q | q
      · exact ih T q
      · have q : T = low (rawL x.st i (sharesL x.st c) many) := by simpa using q
        intro y hy
        rw [q] at hy
        obtain ⟨k, hk⟩ := List.getElem?_of_mem hy
        have hkl : k < (rawL x.st i (sharesL x.st c) many).length := by rw [← low_length]; exact (List.getElem?_eq_some_iff.mp hk).1
        obtain ⟨m, h1, _, h3⟩ := low_at (List.getElem?_eq_getElem hkl)
        rw [hk] at h1
        cases h1
        exact Nat.lt_of_le_of_lt h3 (raw_fit S (hc c hcm).2 _ (List.getElem_mem hkl))
    · exact ih T h
def subL (cs : List (List Int)) (ch : List Nat) : List (List Int) := ch.map fun p => cs.getD p []
/-! ### least ones by raising, sum by sum: the mathematics (lev is any question) -/
def upL (v : List Int) (p : Nat) : List Int := v.set p (v.getD p 0 + 1)
abbrev Tri2 := List Int × Nat
def growL (m : Nat) (ts : List Tri2) : List Tri2 := ts.flatMap fun t => (List.range' t.2 (m - t.2)).map fun p => (upL t.1 p, p)
def fitL (a b : List Int) : Bool := (a.zip b).all fun p => decide (p.1 ≤ p.2)
def toldL (lev : List Int → Bool) (m : Nat) (told : List (List Int)) (ts : List Tri2) : List (List Int) := told ++ (((growL m ts).filter fun t => lev t.1).map (·.1)).filter fun v => !(told.any fun u => fitL u v)
def remL (lev : List Int → Bool) (m : Nat) (ts : List Tri2) : List Tri2 := (growL m ts).filter fun t => !lev t.1
def bfsL (lev : List Int → Bool) (m : Nat) : Nat → List (List Int) × List Tri2
  | 0 => ([], [(List.replicate m 0, 0)])
  | k + 1 => (toldL lev m (bfsL lev m k).1 (bfsL lev m k).2, remL lev m (bfsL lev m k).2)
/-- numbers of m places, none below 0 -/
def Nn (m : Nat) (v : List Int) : Prop := v.length = m ∧ ∀ x ∈ v, 0 ≤ x
def Le (u v : List Int) : Prop := ∀ t, u.getD t 0 ≤ v.getD t 0
/-- least: level, of a sum above 0, and nothing level of a sum above 0 beneath it but itself -/
def Lst (lev : List Int → Bool) (m : Nat) (v : List Int) : Prop := Nn m v ∧ 0 < v.sum ∧ lev v = true ∧ ∀ u, Nn m u → 0 < u.sum → lev u = true → Le u v → u = v
theorem nn_at {m : Nat} {v : List Int} (h : Nn m v) (t : Nat) : 0 ≤ v.getD t 0 := by
  by_cases ht : t < v.length
  · rw [List.getD_eq_getElem?_getD, List.getElem?_eq_getElem ht]
    exact h.2 _ (List.getElem_mem ht)
  · rw [List.getD_eq_getElem?_getD, List.getElem?_eq_none (by omega)]
    exact Int.le_refl _
theorem ext_at {a b : List Int} (hl : a.length = b.length) (h : ∀ t, a.getD t 0 = b.getD t 0) : a = b := by
  apply List.ext_getElem hl
  intro t h1 h2
  have := h t
  rwa [List.getD_eq_getElem?_getD, List.getD_eq_getElem?_getD, List.getElem?_eq_getElem h1, List.getElem?_eq_getElem h2] at this
theorem up_at {v : List Int} {p : Nat} (hp : p < v.length) (t : Nat) : (upL v p).getD t 0 = v.getD t 0 + if t = p then 1 else 0 := by
  unfold upL
  rw [List.getD_eq_getElem?_getD, List.getElem?_set]
  by_cases h : p = t
  · subst h
    rw [if_pos rfl, if_pos hp, if_pos rfl]
    rfl
  · rw [if_neg h, if_neg (fun z => h z.symm), List.getD_eq_getElem?_getD, Int.add_zero]
theorem up_len (v : List Int) (p : Nat) : (upL v p).length = v.length := by unfold upL; rw [List.length_set]
theorem sum_set : ∀ (v : List Int) (p : Nat) (x : Int), p < v.length → (v.set p x).sum = v.sum - v.getD p 0 + x
  | [], p, _, h => by simp at h
  | a :: v, 0, x, _ => by simp; omega
  | a :: v, p + 1, x, h => by
    have := sum_set v p x (by simpa using h)
    simp only [List.set_cons_succ, List.sum_cons, List.getD_cons_succ]
    omega
theorem up_sum {v : List Int} {p : Nat} (hp : p < v.length) : (upL v p).sum = v.sum + 1 := by
  unfold upL
  rw [sum_set v p _ hp]
  omega
theorem up_nn {m : Nat} {v : List Int} (h : Nn m v) {p : Nat} (hp : p < m) : Nn m (upL v p) := by
  refine ⟨by rw [up_len]; exact h.1, fun x hx => ?_⟩
  obtain ⟨t, ht, rfl⟩ := List.getElem_of_mem hx
  have e := up_at (v := v) (p := p) (by rw [h.1]; exact hp) t
  rw [List.getD_eq_getElem?_getD, List.getElem?_eq_getElem ht] at e
  have := nn_at h t
  have e : (upL v p)[t] = v.getD t 0 + if t = p then 1 else 0 := e
  rw [e]
  split <;> omega
theorem sum_nn : ∀ {v : List Int}, (∀ x ∈ v, 0 ≤ x) → 0 ≤ v.sum
  | [], _ => Int.le_refl _
  | a :: v, h => by
    have h1 := h a (List.mem_cons_self ..)
    have h2 := sum_nn (v := v) fun x hx => h x (List.mem_cons_of_mem _ hx)
    rw [List.sum_cons]
    omega
theorem le_sum : ∀ {u v : List Int}, u.length = v.length → Le u v → u.sum ≤ v.sum ∧ (u.sum = v.sum → u = v)
  | [], [], _, _ => ⟨Int.le_refl _, fun _ => rfl⟩
  | a :: u, b :: v, hl, h => by
    have h0 : a ≤ b := h 0
    have ih := le_sum (u := u) (v := v) (by simpa using hl) fun t => h (t + 1)
    rw [List.sum_cons, List.sum_cons]
    refine ⟨by omega, fun e => ?_⟩
    have e1 : a = b := by omega
    rw [e1, ih.2 (by omega)]
  | [], _ :: _, hl, _ => by simp at hl
  | _ :: _, [], hl, _ => by simp at hl
theorem zero_of : ∀ {v : List Int}, (∀ x ∈ v, 0 ≤ x) → v.sum = 0 → v = List.replicate v.length 0
  | [], _, _ => rfl
  | a :: v, h, e => by
    have h1 := h a (List.mem_cons_self ..)
    have h2 := sum_nn (v := v) fun x hx => h x (List.mem_cons_of_mem _ hx)
    rw [List.sum_cons] at e
    have e1 : a = 0 := by omega
    have e2 := zero_of (v := v) (fun x hx => h x (List.mem_cons_of_mem _ hx)) (by omega)
    rw [e1, List.length_cons, List.replicate_succ, ← e2]
/-- the last place of what is not 0 -/
theorem last_at : ∀ (v : List Int), (∀ x ∈ v, 0 ≤ x) → 0 < v.sum → ∃ p, p < v.length ∧ 0 < v.getD p 0 ∧ ∀ t, p < t → v.getD t 0 = 0
  | [], _, h => by simp at h
  | a :: v, h, hs => by
    have h1 := h a (List.mem_cons_self ..)
    have hv : ∀ x ∈ v, 0 ≤ x := fun x hx => h x (List.mem_cons_of_mem _ hx)
    by_cases z : 0 < v.sum
    · obtain ⟨p, p1, p2, p3⟩ := last_at v hv z
      refine ⟨p + 1, by simpa using p1, by simpa using p2, fun t ht => ?_⟩
      cases t with
      | zero => omega
      | succ t => simpa using p3 t (by omega)
    · have := sum_nn hv
      have e := zero_of hv (by omega)
      rw [List.sum_cons] at hs
      refine ⟨0, by simp, by show 0 < a; omega, fun t ht => ?_⟩
      cases t with
      | zero => omega
      | succ t =>
        rw [List.getD_cons_succ, e, List.getD_eq_getElem?_getD]
        by_cases z : t < v.length
        · rw [List.getElem?_replicate, if_pos z]
          rfl
        · rw [List.getElem?_replicate, if_neg z]
          rfl
theorem le_fit : ∀ {u v : List Int}, u.length = v.length → (fitL u v = true ↔ Le u v)
  | [], [], _ => ⟨fun _ _ => Int.le_refl _, fun _ => rfl⟩
  | a :: u, b :: v, hl => by
    have ih := le_fit (u := u) (v := v) (by simpa using hl)
    unfold fitL at ih ⊢
    rw [List.zip_cons_cons, List.all_cons, Bool.and_eq_true, decide_eq_true_eq, ih]
    constructor
    · rintro ⟨h1, h2⟩ t
      cases t with
      | zero => exact h1
      | succ t => exact h2 t
    · exact fun h => ⟨h 0, fun t => h (t + 1)⟩
  | [], _ :: _, hl => by simp at hl
  | _ :: _, [], hl => by simp at hl
theorem mem_grow {m : Nat} {ts : List Tri2} {v : List Int} {p : Nat} : (v, p) ∈ growL m ts ↔ ∃ t ∈ ts, t.2 ≤ p ∧ p < m ∧ v = upL t.1 p := by
  unfold growL
  rw [List.mem_flatMap]
  constructor
  · rintro ⟨t, ht, h⟩
    obtain ⟨q, hq, e⟩ := List.mem_map.mp h
    rw [List.mem_range'_1] at hq
    have e1 : upL t.1 q = v := congrArg Prod.fst e
    have e2 : q = p := congrArg Prod.snd e
    subst e2
    exact ⟨t, ht, hq.1, by omega, e1.symm⟩
  · rintro ⟨t, ht, h1, h2, rfl⟩
    exact ⟨t, ht, List.mem_map.mpr ⟨p, by rw [List.mem_range'_1]; omega, rfl⟩⟩
/-- what is known of the trials of a sum -/
structure Tri2Ok (m k : Nat) (ts : List Tri2) : Prop where
  nn : ∀ t ∈ ts, Nn m t.1 ∧ t.1.sum = k
  up : ∀ t ∈ ts, ∀ q, t.2 < q → t.1.getD q 0 = 0
  at_ : ∀ t ∈ ts, 0 < k → 0 < t.1.getD t.2 0
  nd : (ts.map (·.1)).Nodup
theorem rep_sum : ∀ m : Nat, (List.replicate m (0 : Int)).sum = 0
  | 0 => rfl
  | m + 1 => by rw [List.replicate_succ, List.sum_cons, Int.zero_add]; exact rep_sum m
theorem start_ok (m : Nat) : Tri2Ok m 0 [(List.replicate m 0, 0)] := by
  have e : ∀ t ∈ [((List.replicate m 0, 0) : Tri2)], t = (List.replicate m 0, 0) := fun t h => by simpa using h
  refine ⟨fun t h => ?_, fun t h q _ => ?_, fun t h z => absurd z (by decide), by simp⟩
  · rw [e t h]
    refine ⟨⟨List.length_replicate, fun x hx => ?_⟩, ?_⟩
    · rw [(List.mem_replicate.mp hx).2]
      exact Int.le_refl _
    · exact rep_sum m
  · rw [e t h]
    show (List.replicate m (0 : Int)).getD q 0 = 0
    rw [List.getD_eq_getElem?_getD, List.getElem?_replicate]
    split <;> rfl
theorem grow_ok {m k : Nat} {ts : List Tri2} (h : Tri2Ok m k ts) (hm : ∀ t ∈ ts, t.2 ≤ m) : Tri2Ok m (k + 1) (growL m ts) := by
  have get : ∀ t ∈ growL m ts, ∃ u ∈ ts, u.2 ≤ t.2 ∧ t.2 < m ∧ t.1 = upL u.1 t.2 := fun t ht => mem_grow.mp ht
  refine ⟨fun t ht => ?_, fun t ht q hq => ?_, fun t ht _ => ?_, ?_⟩
  · obtain ⟨u, hu, h1, h2, e⟩ := get t ht
    obtain ⟨n1, n2⟩ := h.nn u hu
    rw [e]
    refine ⟨up_nn n1 h2, ?_⟩
    rw [up_sum (by rw [n1.1]; exact h2), n2]
    rfl
  · obtain ⟨u, hu, h1, h2, e⟩ := get t ht
    rw [e, up_at (by rw [(h.nn u hu).1.1]; exact h2), h.up u hu q (by omega), if_neg (by omega)]
    rfl
  · obtain ⟨u, hu, h1, h2, e⟩ := get t ht
    rw [e, up_at (by rw [(h.nn u hu).1.1]; exact h2), if_pos rfl]
    have := nn_at (h.nn u hu).1 t.2
    omega
  · have key : ∀ (us : List Tri2), (∀ u ∈ us, u ∈ ts) → (us.map (·.1)).Nodup → ((growL m us).map (·.1)).Nodup := by
      intro us
      induction us with
      | nil => intro _ _; exact .nil
      | cons u r ih =>
        intro hs hn
        rw [List.map_cons, List.nodup_cons] at hn
        have hu := hs u (List.mem_cons_self ..)
        have hr : ∀ x ∈ r, x ∈ ts := fun x hx => hs x (List.mem_cons_of_mem _ hx)
        have e : growL m (u :: r) = (List.range' u.2 (m - u.2)).map (fun p => (upL u.1 p, p)) ++ growL m r := by
          unfold growL
          rw [List.flatMap_cons]
        rw [e, List.map_append, List.nodup_append]
        have lu := (h.nn u hu).1.1
        have same : ∀ {x y : Tri2} {p q : Nat}, x ∈ ts → y ∈ ts → x.2 ≤ p → p < m → y.2 ≤ q → q < m → upL x.1 p = upL y.1 q → p = q ∧ x.1 = y.1 := by
          intro x y p q hx hy xp pm yq qm eq
          have lx := (h.nn x hx).1.1
          have ly := (h.nn y hy).1.1
          have ex := fun t => up_at (v := x.1) (p := p) (by omega) t
          have ey := fun t => up_at (v := y.1) (p := q) (by omega) t
          have pq : p = q := by
            rcases Nat.lt_trichotomy p q with z | z | z
            · have a1 := ex q
              rw [eq, ey q, if_pos rfl, if_neg (by omega), h.up x hx q (by omega)] at a1
              have := nn_at (h.nn y hy).1 q
              omega
            · exact z
            · have a1 := ey p
              rw [← eq, ex p, if_pos rfl, if_neg (by omega), h.up y hy p (by omega)] at a1
              have := nn_at (h.nn x hx).1 p
              omega
          refine ⟨pq, ext_at (by omega) fun t => ?_⟩
          have a1 := ex t
          rw [eq, ey t, pq] at a1
          omega
        refine ⟨?_, ih hr hn.2, ?_⟩
        · rw [List.map_map]
          rw [List.nodup_iff_pairwise_ne, List.pairwise_map]
          have hp := List.pairwise_lt_range' (s := u.2) (n := m - u.2)
          refine (List.Pairwise.and_mem.mp hp).imp ?_
          rintro a b ⟨ha, hb, hab⟩ z
          rw [List.mem_range'_1] at ha hb
          have := (same hu hu ha.1 (by omega) hb.1 (by omega) z).1
          omega
        · rintro a ha b hb rfl
          obtain ⟨⟨_, p⟩, hp, rfl⟩ := List.mem_map.mp ha
          obtain ⟨p', hp', ep⟩ := List.mem_map.mp hp
          obtain ⟨⟨v, q⟩, hq, ev⟩ := List.mem_map.mp hb
          rw [List.mem_range'_1] at hp'
          obtain ⟨y, hy, y1, y2, y3⟩ := mem_grow.mp hq
          have e1 := congrArg Prod.fst ep
          have ev : v = _ := ev
          have y3 : v = upL y.1 q := y3
          have := (same hu (hr y hy) hp'.1 (by omega) y1 y2 (e1.trans (ev.symm.trans y3))).2
          exact hn.1 (List.mem_map.mpr ⟨y, hy, this.symm⟩)
    exact key ts (fun u h => h) h.nd
theorem rest_ok {lev : List Int → Bool} {m k : Nat} {ts : List Tri2} (h : Tri2Ok m k (growL m ts)) : Tri2Ok m k (remL lev m ts) := by
  have sub : ∀ t ∈ remL lev m ts, t ∈ growL m ts := fun t ht => (List.mem_filter.mp ht).1
  exact ⟨fun t ht => h.nn t (sub t ht), fun t ht => h.up t (sub t ht), fun t ht => h.at_ t (sub t ht), ((List.filter_sublist (l := growL m ts)).map _).nodup h.nd⟩
/-- the trials of each sum -/
theorem bfs_ok (lev : List Int → Bool) (m : Nat) : ∀ k, Tri2Ok m k (bfsL lev m k).2 ∧ ∀ t ∈ (bfsL lev m k).2, t.2 ≤ m
  | 0 => ⟨start_ok m, fun t h => by
      have e : t = (List.replicate m 0, 0) := by simpa [bfsL] using h
      rw [e]
      exact Nat.zero_le _⟩
  | k + 1 => by
    obtain ⟨h1, h2⟩ := bfs_ok lev m k
    refine ⟨rest_ok (grow_ok h1 h2), fun t ht => ?_⟩
    obtain ⟨u, _, _, h3, _⟩ := mem_grow.mp (List.mem_filter.mp ht).1
    exact Nat.le_of_lt h3
/-- nothing level beneath: come to -/
theorem bfs_in {lev : List Int → Bool} {m : Nat} : ∀ (k : Nat) (v : List Int), Nn m v → v.sum = ((k + 1 : Nat) : Int) → (∀ u, Nn m u → 0 < u.sum → lev u = true → Le u v → u = v) → ∃ p, (v, p) ∈ growL m (bfsL lev m k).2 ∧ ∀ t, p < t → v.getD t 0 = 0 := by
  intro k
  induction k with
  | zero =>
    intro v hv hs _
    obtain ⟨p, p1, p2, p3⟩ := last_at v hv.2 (by omega)
    refine ⟨p, mem_grow.mpr ⟨(List.replicate m 0, 0), by simp [bfsL], Nat.zero_le _, by rw [← hv.1]; exact p1, ?_⟩, p3⟩
    have l0 : (List.replicate m (0 : Int)).length = m := List.length_replicate
    refine (le_sum (u := upL (List.replicate m 0) p) (v := v) (by rw [up_len, l0, hv.1]) fun t => ?_).2 ?_ |>.symm
    · rw [up_at (by rw [l0, ← hv.1]; exact p1)]
      have e0 : (List.replicate m (0 : Int)).getD t 0 = 0 := by
        rw [List.getD_eq_getElem?_getD, List.getElem?_replicate]
        split <;> rfl
      rw [e0]
      by_cases z : t = p
      · rw [if_pos z, z]
        omega
      · rw [if_neg z]
        exact nn_at hv t
    · rw [up_sum (by rw [l0, ← hv.1]; exact p1), rep_sum, hs]
      rfl
  | succ k ih =>
    intro v hv hs hP
    obtain ⟨p, p1, p2, p3⟩ := last_at v hv.2 (by omega)
    have lp : p < m := by rw [← hv.1]; exact p1
    let u := v.set p (v.getD p 0 - 1)
    have lu : u.length = m := by show (v.set p _).length = m; rw [List.length_set, hv.1]
    have ua : ∀ t, u.getD t 0 = v.getD t 0 - if t = p then 1 else 0 := by
      intro t
      show (v.set p (v.getD p 0 - 1)).getD t 0 = _
      rw [List.getD_eq_getElem?_getD, List.getElem?_set]
      by_cases z : p = t
      · subst z
        rw [if_pos rfl, if_pos p1, if_pos rfl]
        rfl
      · rw [if_neg z, if_neg (fun w => z w.symm), List.getD_eq_getElem?_getD, Int.sub_zero]
    have un : Nn m u := by
      refine ⟨lu, fun x hx => ?_⟩
      obtain ⟨t, ht, rfl⟩ := List.getElem_of_mem hx
      have e := ua t
      rw [List.getD_eq_getElem?_getD, List.getElem?_eq_getElem ht] at e
      have := nn_at hv t
      have e : u[t] = v.getD t 0 - if t = p then 1 else 0 := e
      rw [e]
      split
      · rename_i z
        rw [z]
        omega
      · omega
    have us : u.sum = ((k + 1 : Nat) : Int) := by
      show (v.set p (v.getD p 0 - 1)).sum = _
      rw [sum_set v p _ p1]
      omega
    have ule : Le u v := fun t => by
      rw [ua t]
      split <;> omega
    have une : u ≠ v := fun z => by rw [z] at us; omega
    have ul : ¬ lev u = true := fun z => une (hP u un (by omega) z ule)
    obtain ⟨q, hq, q3⟩ := ih u un us fun w wn ws wl wu => by
      exfalso
      have := hP w wn ws wl fun t => Int.le_trans (wu t) (ule t)
      have h1 := (le_sum (by rw [wn.1, lu]) wu).1
      rw [this] at h1
      omega
    have ek : v = upL u p := ext_at (by rw [up_len, lu, hv.1]) fun t => by
      rw [up_at (by rw [lu]; exact lp), ua t]
      omega
    refine ⟨p, mem_grow.mpr ⟨(u, q), List.mem_filter.mpr ⟨hq, by simpa using ul⟩, ?_, lp, ek⟩, p3⟩
    show q ≤ p
    obtain ⟨h1, h2⟩ := bfs_ok lev m k
    have at1 := (grow_ok h1 h2).at_ (u, q) hq (by omega)
    have at1 : 0 < u.getD q 0 := at1
    rcases Nat.lt_or_ge p q with z | z
    · have := ua q
      rw [p3 q z, if_neg (by omega)] at this
      omega
    · exact z
/-- beneath what is level there is a least one -/
theorem least_beneath {lev : List Int → Bool} {m : Nat} : ∀ (k : Nat) (v : List Int), Nn m v → 0 < v.sum → v.sum ≤ k → lev v = true → ∃ u, Lst lev m u ∧ Le u v := by
  intro k
  induction k with
  | zero => intro v _ h1 h2 _; omega
  | succ k ih =>
    intro v hv h1 h2 hl
    by_cases z : ∀ u, Nn m u → 0 < u.sum → lev u = true → Le u v → u = v
    · exact ⟨v, ⟨hv, h1, hl, z⟩, fun t => Int.le_refl _⟩
    · simp only [Classical.not_forall] at z
      obtain ⟨u, un, us, ul, ule, une⟩ := z
      have h3 := le_sum (by rw [un.1, hv.1]) ule
      have : u.sum ≠ v.sum := fun e => une (h3.2 e)
      obtain ⟨w, hw, hwu⟩ := ih u un us (by omega) ul
      exact ⟨w, hw, fun t => Int.le_trans (hwu t) (ule t)⟩
/-- what is told is just the least ones of sums so far, each once -/
theorem bfs_told (lev : List Int → Bool) (m : Nat) : ∀ k, (∀ v, v ∈ (bfsL lev m k).1 ↔ Lst lev m v ∧ v.sum ≤ k) ∧ (bfsL lev m k).1.Nodup
  | 0 => ⟨fun v => ⟨fun h => by simp [bfsL] at h, fun ⟨h, h2⟩ => by have := h.2.1; omega⟩, by simp [bfsL]⟩
  | k + 1 => by
    obtain ⟨ih, nd⟩ := bfs_told lev m k
    obtain ⟨t1, t2⟩ := bfs_ok lev m k
    have gk := grow_ok t1 t2
    have mem : ∀ v, v ∈ (bfsL lev m (k + 1)).1 ↔ v ∈ (bfsL lev m k).1 ∨ ((∃ p, (v, p) ∈ growL m (bfsL lev m k).2) ∧ lev v = true ∧ ∀ u ∈ (bfsL lev m k).1, ¬ fitL u v = true) := by
      intro v
      show v ∈ toldL lev m _ _ ↔ _
      unfold toldL
      rw [List.mem_append, List.mem_filter, List.mem_map]
      constructor
      · rintro (h | ⟨⟨t, ht, rfl⟩, h2⟩)
        · exact .inl h
        · obtain ⟨h3, h4⟩ := List.mem_filter.mp ht
          refine .inr ⟨⟨t.2, h3⟩, h4, fun u hu z => ?_⟩
          have : ((bfsL lev m k).1.any fun u => fitL u t.1) = true := List.any_eq_true.mpr ⟨u, hu, z⟩
          rw [this] at h2
          cases h2
      · rintro (h | ⟨⟨p, hp⟩, hl, hn⟩)
        · exact .inl h
        · refine .inr ⟨⟨(v, p), List.mem_filter.mpr ⟨hp, hl⟩, rfl⟩, ?_⟩
          have : ((bfsL lev m k).1.any fun u => fitL u v) = false := by
            rw [List.any_eq_false]
            exact fun u hu => hn u hu
          rw [this]
          rfl
    refine ⟨fun v => ?_, ?_⟩
    · rw [mem v, ih v]
      constructor
      · rintro (⟨h1, h2⟩ | ⟨⟨p, hp⟩, hl, hn⟩)
        · exact ⟨h1, by omega⟩
        · obtain ⟨n1, n2⟩ := gk.nn (v, p) hp
          have n1 : Nn m v := n1
          have n2 : v.sum = ((k + 1 : Nat) : Int) := n2
          refine ⟨⟨n1, by omega, hl, fun u un us ul ule => ?_⟩, by omega⟩
          have h3 := le_sum (by rw [un.1, n1.1]) ule
          by_cases e : u.sum = v.sum
          · exact h3.2 e
          · exfalso
            obtain ⟨w, hw, hwu⟩ := least_beneath (lev := lev) (m := m) (k + 1) u un us (by omega) ul
            have h4 := (le_sum (by rw [hw.1.1, un.1]) hwu).1
            exact hn w ((ih w).mpr ⟨hw, by omega⟩) ((le_fit (by rw [hw.1.1, n1.1])).mpr fun t => Int.le_trans (hwu t) (ule t))
      · rintro ⟨h1, h2⟩
        by_cases e : v.sum ≤ k
        · exact .inl ⟨h1, e⟩
        · obtain ⟨p, hp, _⟩ := bfs_in (lev := lev) k v h1.1 (by omega) h1.2.2.2
          refine .inr ⟨⟨p, hp⟩, h1.2.2.1, fun u hu z => ?_⟩
          obtain ⟨hu, us⟩ := (ih u).mp hu
          have := h1.2.2.2 u hu.1 hu.2.1 hu.2.2.1 ((le_fit (by rw [hu.1.1, h1.1.1])).mp z)
          rw [this] at us
          exact e us
    · show (toldL lev m _ _).Nodup
      unfold toldL
      rw [List.nodup_append]
      refine ⟨nd, ?_, ?_⟩
      · exact (List.filter_sublist.trans (List.filter_sublist.map _)).nodup gk.nd
      · rintro a ha b hb rfl
        have h1 := (ih a).mp ha
        obtain ⟨t, ht, rfl⟩ := List.mem_map.mp (List.mem_filter.mp hb).1
        have := (gk.nn t (List.mem_filter.mp ht).1).2
        omega
/-! ### the promises of least -/
def inRowsEnough : Scope := match (defBody sRowsEnough).getD 0 (.Pass ⟨0, 0, 0, 0⟩) with
  | .Assign _ (.ListComp _ _ sc _) _ => sc
  | _ => defScope sRowsEnough
def inRowsEnough2 : Scope := match (defBody sRowsEnough).getD 2 (.Pass ⟨0, 0, 0, 0⟩) with
  | .Return (some (.ListComp _ _ sc _)) _ => sc
  | _ => defScope sRowsEnough
def inLeast : Scope := match (defBody sLeast).getD 3 (.Pass ⟨0, 0, 0, 0⟩) with
  | .For _ _ b _ _ => match b.getD 3 (.Pass ⟨0, 0, 0, 0⟩) with
    | .Assign _ (.BinOp _ _ (.ListComp _ _ sc _) _) _ => sc
    | _ => defScope sLeast
  | _ => defScope sLeast
/-- the rows, those that are enough, the columns cut to these -/
def rowsL (cs : List (List Int)) (n : Nat) : List (List Int) := (List.range n).map (row cs)
def enoughL (cs : List (List Int)) (n : Nat) : List Nat := (kerL (rowsL cs n).length (rowsL cs n)).st.places
def fewL (cs : List (List Int)) (n : Nat) : List (List Int) := cs.map fun c => (enoughL cs n).map fun r => c.getD r 0
def spRows : Sp := fun vs H Q _ => ∃ (p : Addr) (as : List Addr) (cs : List (List Int)) (n : Nat), vs = [.ref p] ∧ H p = some (.lst (as.map V.ref)) ∧ ColsS [] H as cs ∧ (∀ c ∈ cs, c.length = n ∧ ∀ x ∈ c, Fit 70 x) ∧ n ≤ 60 ∧ 1 ≤ cs.length ∧ cs.length ≤ 60 ∧
  ∀ l as' H', Same H H' → H' l = some (.lst (as'.map V.ref)) → ColsS [] H' as' (fewL cs n) → Q (.ref l) H'
/-- a trial: its fields; its numbers and the first place at which they may be raised -/
structure TFl (fs : List (Str × V)) (a b : Addr) (i : Int) : Prop where
  n : fs.lookup ("numbers" : Str) = some (.ref a)
  g : fs.lookup ("gathered" : Str) = some (.ref b)
  f : fs.lookup ("first" : Str) = some (.int i)
  no : ∀ s : Str, s ≠ "numbers" → s ≠ "gathered" → s ≠ "first" → fs.lookup s = none
theorem TFl.mk3 (a b : Addr) (i : Int) : TFl (putF "first" (.int i) (putF "gathered" (.ref b) (putF "numbers" (.ref a) []))) a b i where
  n := by rw [lookup_putF, if_neg (by decide +kernel), lookup_putF, if_neg (by decide +kernel), lookup_putF, if_pos rfl]
  g := by rw [lookup_putF, if_neg (by decide +kernel), lookup_putF, if_pos rfl]
  f := by rw [lookup_putF, if_pos rfl]
  no := fun s h1 h2 h3 => by rw [lookup_putF, if_neg h3, lookup_putF, if_neg h2, lookup_putF, if_neg h1]; rfl
def TriW (TC : Addr) (few : List (List Int)) (wd : Nat) (W : List Addr) (H0 H : Hp) (t : Addr) (x : Tri2) : Prop := ∃ dx fs a b, H t = some (.ins TC dx fs) ∧ TFl fs a b ((x.2 : Nat) : Int) ∧ H a = some (.lst (x.1.map V.int)) ∧ H b = some (.lst ((gath x.1 few wd).map V.int)) ∧ (t ∉ W ∧ a ∉ W ∧ b ∉ W) ∧ (H0 t = none ∧ H0 a = none ∧ H0 b = none)
def noH : Hp := fun _ => none
theorem TriW.keep {TC : Addr} {few : List (List Int)} {wd : Nat} {W : List Addr} {H0 H H' : Hp} {t : Addr} {x : Tri2} (h : TriW TC few wd W H0 H t x) (e : ∀ b o, H b = some o → b ∉ W → H' b = some o) : TriW TC few wd W H0 H' t x := by
  obtain ⟨dx, fs, a, b, h1, h2, h3, h4, ⟨w1, w2, w3⟩, n⟩ := h
  exact ⟨dx, fs, a, b, e _ _ h1 w1, h2, e _ _ h3 w2, e _ _ h4 w3, ⟨w1, w2, w3⟩, n⟩
theorem TriW.same {TC : Addr} {few : List (List Int)} {wd : Nat} {W : List Addr} {H0 H H' : Hp} {t : Addr} {x : Tri2} (h : TriW TC few wd W H0 H t x) (e : Same H H') : TriW TC few wd W H0 H' t x := h.keep fun b o z _ => e b o z
theorem TriW.cast {TC : Addr} {few : List (List Int)} {wd : Nat} {W W' : List Addr} {H0 H0' H : Hp} {t : Addr} {x : Tri2} (h : TriW TC few wd W H0 H t x) (e : ∀ b, b ∉ W → H0 b = none → (∃ o, H b = some o) → b ∉ W' ∧ H0' b = none) : TriW TC few wd W' H0' H t x := by
  obtain ⟨dx, fs, a, b, h1, h2, h3, h4, ⟨w1, w2, w3⟩, n1, n2, n3⟩ := h
  have e1 := e t w1 n1 ⟨_, h1⟩
  have e2 := e a w2 n2 ⟨_, h3⟩
  have e3 := e b w3 n3 ⟨_, h4⟩
  exact ⟨dx, fs, a, b, h1, h2, h3, h4, ⟨e1.1, e2.1, e3.1⟩, e1.2, e2.2, e3.2⟩
def TrisW (TC : Addr) (few : List (List Int)) (wd : Nat) (W : List Addr) (H0 H : Hp) : List Addr → List Tri2 → Prop := Paired (TriW TC few wd W H0 H)
theorem pair_imp {α β : Type} {p q : α → β → Prop} (h : ∀ a b, p a b → q a b) : ∀ {as : List α} {bs : List β}, Paired p as bs → Paired q as bs
  | _, _, .nil => .nil
  | _, _, .cons x t => .cons (h _ _ x) (pair_imp h t)
theorem pair_snoc {α β : Type} {p : α → β → Prop} {a : α} {b : β} (x : p a b) : ∀ {as : List α} {bs : List β}, Paired p as bs → Paired p (as ++ [a]) (bs ++ [b])
  | _, _, .nil => .cons x .nil
  | _, _, .cons y t => .cons y (pair_snoc x t)
theorem pair_app {α β : Type} {p : α → β → Prop} : ∀ {as : List α} {bs : List β} {as' : List α} {bs' : List β}, Paired p as bs → Paired p as' bs' → Paired p (as ++ as') (bs ++ bs')
  | _, _, _, _, .nil, h => h
  | _, _, _, _, .cons y t, h => .cons y (pair_app t h)
theorem pair_get {α β : Type} {p : α → β → Prop} : ∀ {as : List α} {bs : List β} {i : Nat} {a : α}, Paired p as bs → as[i]? = some a → ∃ b, bs[i]? = some b ∧ p a b
  | _, _, 0, _, .cons h _, e => ⟨_, rfl, (Option.some.inj e) ▸ h⟩
  | _, _, i + 1, _, .cons _ t, e => pair_get (i := i) t e
def spTInit (TC : Addr) : Sp := fun vs H Q _ => ∃ (q dx a1 a2 : Addr) (x1 x2 : List V) (i : Int), vs = [.ref q, .ref a1, .ref a2, .int i] ∧ H q = some (.ins TC dx []) ∧ H a1 = some (.lst x1) ∧ H a2 = some (.lst x2) ∧
  ∀ b1 b2 fs H', H b1 = none → H b2 = none → H' q = some (.ins TC dx fs) → TFl fs b1 b2 i → H' b1 = some (.lst x1) → H' b2 = some (.lst x2) → (∀ b o, H b = some o → b ≠ q → H' b = some o) → Q .non H'
def spRaised (TC : Addr) : Sp := fun vs H Q _ => ∃ (t c : Addr) (p : Nat) (col : List Int) (few : List (List Int)) (wd : Nat) (x : Tri2), vs = [.ref t, .int p, .ref c] ∧ TriW TC few wd [] noH H t x ∧ H c = some (.lst (col.map V.int)) ∧ few[p]? = some col ∧ col.length = wd ∧ x.1.length = few.length ∧ few.length ≤ 60 ∧ wd ≤ 60 ∧
  ∀ t' H', TriW TC few wd [] H H' t' (upL x.1 p, p) → Same H H' → Q (.ref t') H'
def spAllRaised (TC : Addr) : Sp := fun vs H Q _ => ∃ (t l : Addr) (cA : List Addr) (few : List (List Int)) (wd : Nat) (x : Tri2), vs = [.ref t, .ref l] ∧ TriW TC few wd [] noH H t x ∧ H l = some (.lst (cA.map V.ref)) ∧ ColsS [] H cA few ∧ (∀ c ∈ few, c.length = wd) ∧ x.1.length = few.length ∧ x.2 ≤ few.length ∧ few.length ≤ 60 ∧ wd ≤ 60 ∧
  ∀ L ts H', H L = none → H' L = some (.lst (ts.map V.ref)) → TrisW TC few wd [] H H' ts ((List.range' x.2 (few.length - x.2)).map fun p => (upL x.1 p, p)) → Same H H' → Q (.ref L) H'
def levL (few : List (List Int)) (wd : Nat) (v : List Int) : Bool := !((gath v few wd).any fun n => decide (n ≠ 0))
def spIsLevel (TC : Addr) : Sp := fun vs H Q _ => ∃ (t : Addr) (few : List (List Int)) (wd : Nat) (x : Tri2), vs = [.ref t] ∧ TriW TC few wd [] noH H t x ∧ Q (.bl (levL few wd x.1)) H
def spFits : Sp := fun vs H Q _ => ∃ (p r : Addr) (xs ys : List Int), vs = [.ref p, .ref r] ∧ H p = some (.lst (xs.map V.int)) ∧ H r = some (.lst (ys.map V.int)) ∧ xs.length ≤ 1000 ∧ ∀ H', Same H H' → Q (.bl (fitL xs ys)) H'
def spLeast : Sp := fun vs H Q _ => ∃ (p : Addr) (as : List Addr) (cs : List (List Int)) (n most : Nat), vs = [.ref p, .int most] ∧ H p = some (.lst (as.map V.ref)) ∧ ColsS [] H as cs ∧ (∀ c ∈ cs, c.length = n ∧ ∀ x ∈ c, Fit 70 x) ∧ n ≤ 60 ∧ 1 ≤ cs.length ∧ cs.length ≤ 60 ∧ most ≤ 60 ∧
  (∀ k, k < most → (growL cs.length (bfsL (levL (fewL cs n) (enoughL cs n).length) cs.length k).2).length ≤ 1100) ∧ (∀ k, k ≤ most → (bfsL (levL (fewL cs n) (enoughL cs n).length) cs.length k).1.length < 64) ∧
  ∀ l as' bs' H', H l = none → Same H H' → bs'.Perm (bfsL (levL (fewL cs n) (enoughL cs n).length) cs.length most).1 → bs'.Pairwise (fun a b => ¬ b < a) → H' l = some (.lst (as'.map V.ref)) → ColsS [] H' as' bs' → Q (.ref l) H'
def inGather : Scope := match defBody sGather with
  | [.Return (some (.ListComp _ _ sc _)) _] => sc
  | _ => defScope sGather
def spGather (K : PySem.W.Frag) : Sp := fun vs H Q _ => ∃ (p r : Addr) (ns : List Int) (as : List Addr) (cs : List (List Int)) (wd : Nat), vs = [.ref p, .ref r] ∧ SqL K H p (ns.map V.int) ∧ SqL K H r (as.map V.ref) ∧ ColsAt K H as cs ∧ cs ≠ [] ∧ (∀ c ∈ cs, c.length = wd) ∧
  ns.length ≤ sizeLine ∧ cs.length ≤ sizeLine ∧ wd ≤ 1000 ∧ Few ns ∧ (∀ c ∈ cs, Few c) ∧ ∀ l H', H l = none → Same H H' → H' l = some (.lst ((gath ns cs wd).map V.int)) → Q (.ref l) H'
structure Txt (K : PySem.W.Frag) (mg : Str → Option Value) (KC FC : Addr) : Prop where
  c_Kernel : Cls K KC
  c_Frame : Cls K FC
  na_free : NoAttr K KC "free"
  na_bound : NoAttr K KC "bound"
  na_numbers : NoAttr K KC "numbers"
  na_kweights : NoAttr K KC "weights"
  na_scale : NoAttr K FC "scale"
  na_places : NoAttr K FC "places"
  na_bases : NoAttr K FC "bases"
  na_weights : NoAttr K FC "weights"
  g_Kernel : mg "Kernel" = some (.ref KC)
  g_Frame : mg "Frame" = some (.ref FC)
  n_abs : mg "abs" = none
  n_list : mg "list" = none
  n_len : mg "len" = none
  n_range : mg "range" = none
  n_sum : mg "sum" = none
  n_zip : mg "zip" = none
  n_enumerate : mg "enumerate" = none
  n_min : mg "min" = none
  n_sorted : mg "sorted" = none
  n_int : mg "int" = none
  n_bool : mg "bool" = none
  n_isinstance : mg "isinstance" = none
  n_all : mg "all" = none
  k1 : PySem.W.kitOne K (.type "int") (.type "int") = some true
  k2 : PySem.W.kitOne K (.type "int") (.type "bool") = some false
  k3 : PySem.W.kitOne K (.type "list") (.type "list") = some true
structure TxtL (K : PySem.W.Frag) (mg : Str → Option Value) (KC FC TC : Addr) : Prop extends Txt K mg KC FC where
  c_Trial : Cls K TC
  na_tn : NoAttr K TC "numbers"
  na_tg : NoAttr K TC "gathered"
  na_tf : NoAttr K TC "first"
  g_Trial : mg "Trial" = some (.ref TC)
  n_any : mg "any" = none
def mu (i : Nat) : St → Hp → Nat := fun σ _ => match σ[i]? with
  | some (some (.int y)) => y.natAbs
  | _ => 0
theorem ne0 {y : Int} (e : (!decide (V.int y = V.int 0)) = true) : y ≠ 0 := by
  intro z; subst z; simp at e
theorem eq0 {y : Int} (e : ¬ (!decide (V.int y = V.int 0)) = true) : y = 0 := by
  simpa using e
theorem gcd_abs (a : Int) : (if a < 0 then -a else a) = ((Int.gcd a 0 : Nat) : Int) := by
  rw [Int.gcd_zero]; split <;> omega
section
seal PSs PS PE PT PW PA PG PGs PI PC PTs
variable {P : Program} {w : World} {K : PySem.W.Frag} {mg : Str → Option Value} {base : Heap} {KC FC TC C : Addr}
theorem scDivisor : FnScope ["one", "other", "rest"] ["one", "other"] (defScope sDivisor) := ⟨rfl, rfl, rfl, by decide +kernel, rfl, by decide +kernel, by decide +kernel⟩
theorem ok_divisor (D : Def K mg "divisor" "divisor" sDivisor ["one", "other"]) (T : Txt K mg KC FC) : CalE P w K mg base 1 "divisor" ["one", "other"] spDivisor := by
  refine D.cal scDivisor (fun vs H Q E h => ?_) (fun f cdv A outer s H vs Q E hr h => ?_)
  · obtain ⟨a, b, rfl, _⟩ := h
    rfl
  · obtain ⟨a, b, rfl, q⟩ := h
    refine ⟨_, (pss_cons
          (ps_while PassesOwn.never (pt_cmpR op_ne (pv 1) pe_int (nomark _))
            (pss_cons
              (ps_set (i := 2) scDivisor.nd rfl (Or.inl rfl) (pe_op op_modN (pv 0) (pv 1)))
            (pss_cons
              (ps_set (i := 0) scDivisor.nd rfl (Or.inl rfl) (pv 1))
            (pss_one
              (ps_set (i := 1) scDivisor.nd rfl (Or.inl rfl) (pv 2))))))
        (pss_one
          (ps_ret (pe_callB call_abs rfl T.n_abs bt_abs (pa_cons (pv 0) pa_nil))))), ?_⟩
    refine while_by (fun σ H' => ∃ (x y : Int) (v : Option V), σ = [some (.int x), some (.int y), v] ∧ H' = H ∧ Int.gcd x y = Int.gcd a b) (mu 1) ⟨a, b, none, rfl, rfl, rfl⟩ ?_
      (fun σ H Q Q' m ⟨v, e, s, k, e2, q⟩ => ⟨v, e, s, k, e2, m _ _ q⟩)
    rintro σ H' ⟨x, y, v, rfl, rfl, hg⟩
    refine ⟨_, rfl, rfl, _, rfl, ite2 (fun e => ?_) fun e => ?_⟩
    · have hy := ne0 e
      exact ⟨_, rfl, _, rfl, _, _, rfl, rfl, hy, _, rfl, _, rfl, ⟨y, x.fmod y, _, rfl, rfl, by rw [gcd_fmod]; exact hg⟩, fmod_abs_lt hy⟩
    · have hy := eq0 e
      subst hy
      refine ⟨_, rfl, _, rfl, ?_⟩
      rw [gcd_abs, hg]
      exact q
theorem scLowest : FnScope ["numbers", "common", "number"] ["numbers"] (defScope sLowest) := ⟨rfl, rfl, rfl, by decide +kernel, rfl, by decide +kernel, by decide +kernel⟩
theorem ok_lowest (D : Def K mg "lowest" "lowest" sLowest ["numbers"]) (T : Txt K mg KC FC) (c1 : CalE P w K mg base 1 "divisor" ["one", "other"] spDivisor) : CalE P w K mg base 2 "lowest" ["numbers"] (spLowest K) := by
  obtain ⟨_, _, c_divisor⟩ := c1
  refine D.cal scLowest (fun vs H Q E h => ?_) (fun f cdv A outer s H vs Q E hr h => ?_)
  · obtain ⟨p, ns, rfl, _⟩ := h
    rfl
  · obtain ⟨p, ns, rfl, hS, hz, hb, q⟩ := h
    refine ⟨_, (pss_cons
          (ps_set (i := 1) scLowest.nd rfl (Or.inr rfl) pe_int)
        (pss_cons
          (ps_for PassesOwn.never rfl (pi_list (pv 0)) (pg_name (i := 2) scLowest.nd rfl (Or.inl rfl))
            (pss_one
              (ps_set (i := 1) scLowest.nd rfl (Or.inr rfl) (pe_call c_divisor.ok (hr.mono (by decide)) rfl c_divisor.g c_divisor.kp c_divisor.b .nil pass0 (pa_cons (pv 1) (pa_cons (pv 2) pa_nil))))))
        (pss_cons
          (ps_if (pt_cmpR op_eq (pv 1) pe_int (nomark _))
            (pss_one
              (ps_ret (pe_callTy call_list_of rfl T.n_list bt_list (pa_cons (pv 0) pa_nil))))
            pss_nil)
        (pss_one
          (ps_ret (pe_comp (sc := (defScope sLowest)) (NX := ["numbers", "common", "number"]) (N := ["number", "common"]) (fr := [none, some 1]) ⟨by rfl, by rfl, by decide +kernel, by decide +kernel, by decide +kernel, by rfl, by decide +kernel⟩ rfl rfl rfl (pi_list (pv 0)) (fun _ _ _ _ => (pg_name (i := 0) (show (["number", "common"] : List Str).Nodup by decide +kernel) rfl (Or.inl rfl) (Or.inr rfl))) (fun _ _ _ _ => pts_nil) (fun _ _ _ _ => (pe_op op_fdivF (pv 0) (pv 1))))))))), ?_⟩
    refine ⟨_, rfl, p, rfl, ⟨_, hS⟩, for_list (xs := ns.map V.int) (fun i σ H' => ∃ v : Option V, σ = [some (.ref p), some (.int (gcdL (ns.take i))), v] ∧ H' = H) ⟨none, rfl, rfl⟩ ?_ ?_ ?_⟩
    · rintro i σ H' _ ⟨v, rfl, rfl⟩
      exact hS
    · rintro i x σ H' hx ⟨v, rfl, rfl⟩
      obtain ⟨z, hz', rfl⟩ := int_at hx
      refine ⟨_, rfl, _, rfl, _, z, rfl, some (.int z), ?_, rfl⟩
      rw [snoc_take hz', gcdL_snoc]
      rfl
    · rintro σ H' ⟨v, rfl, rfl⟩
      rw [List.length_map, List.take_length]
      refine ⟨_, rfl, rfl, _, rfl, ite2 (fun e => ?_) fun e => ?_⟩
      · have e : gcdL ns = 0 := by simpa using e
        refine ⟨_, rfl, p, _, rfl, .inl hS, fun l hl => q l _ hl (Same.new hl) ?_⟩
        unfold low
        rw [if_pos e]
        exact upd_same
      · have e : ¬ gcdL ns = 0 := by simpa using e
        have hg : Fit 9000 (gcdL ns) := by
          have := gcdL_le (B := 2 ^ 8000) (fun n hn => Nat.le_of_lt (hb n hn))
          exact Nat.lt_of_le_of_lt this (Nat.pow_lt_pow_right (by decide) (by decide))
        refine ⟨_, rfl, p, rfl, ⟨_, hS⟩, fun L hL => comp_lst (K := K) (a := p) (L := L) (xs := ns.map V.int) H' (fun σ => ∃ v : Option V, σ = [v, some (.int (gcdL ns))]) (fun i ys => ys = (ns.take i).map fun n => V.int (n.fdiv (gcdL ns)))
          hS hL ⟨none, rfl⟩ (Same.new hL) upd_same rfl (by rw [List.length_map]; exact hz) ?_ ?_ ?_⟩
        · rintro i ys rfl
          rw [List.length_map, List.length_take]; omega
        · rintro i x σ H2 ys hx ⟨v, rfl⟩ hs hL2 rfl N M hN
          obtain ⟨z, hz', rfl⟩ := int_at hx
          refine ⟨_, rfl, _, rfl, _, _, rfl, rfl, ⟨e, hg⟩, hN _ _ _ ⟨_, rfl⟩ hs hL2 ?_⟩
          rw [snoc_take hz', List.map_append]
          rfl
        · rintro H2 ys hs hL2 rfl
          refine q L H2 hL hs ?_
          rw [hL2, List.length_map, List.take_length]
          unfold low
          rw [if_neg e, List.map_map]
          rfl
theorem scWeigh : FnScope ["weights", "column"] ["weights", "column"] (defScope sWeigh) := ⟨rfl, rfl, rfl, by decide +kernel, rfl, by decide +kernel, by decide +kernel⟩
theorem ok_weigh (D : Def K mg "weigh" "weigh" sWeigh ["weights", "column"]) (T : Txt K mg KC FC) : CalE P w K mg base 1 "weigh" ["weights", "column"] (spWeigh K) := by
  refine D.cal scWeigh (fun vs H Q E h => ?_) (fun f cdv A outer s H vs Q E hr h => ?_)
  · obtain ⟨p, r, ws, cs, rfl, _⟩ := h
    rfl
  · obtain ⟨p, r, ws, cs, rfl, hp, hr', hz, fw, fc, q⟩ := h
    refine ⟨_, (pss_one
          (ps_ret (pe_callB (call_sum rfl) rfl T.n_sum bt_sum (pa_cons (pe_comp (sc := (defScope sWeigh)) (NX := ["weights", "column"]) (N := ["weight", "number"]) (fr := [none, none]) ⟨by rfl, by rfl, by decide +kernel, by decide +kernel, by decide +kernel, by rfl, by decide +kernel⟩ rfl rfl rfl (pi_zip rfl T.n_zip (pa_cons (pv 0) (pa_cons (pv 1) pa_nil))) (fun _ _ _ _ => (pg_tupK K 2 rfl rfl (pgs_cons (pg_name (i := 0) (show (["weight", "number"] : List Str).Nodup by decide +kernel) rfl (Or.inl rfl) (Or.inr rfl)) (pgs_cons (pg_name (i := 1) (show (["weight", "number"] : List Str).Nodup by decide +kernel) rfl (Or.inl rfl) (Or.inr rfl)) pgs_nil)))) (fun _ _ _ _ => pts_nil) (fun _ _ _ _ => (pe_op op_mulF (pv 0) (pv 1)))) pa_nil)))), ?_⟩
    refine ⟨_, rfl, _, rfl, p, r, rfl, ⟨_, hp⟩, ⟨_, hr'⟩, fun L hL => comp_zip (K := K) (a := p) (c := r) (L := L) (xs := ws.map V.int) (zs := cs.map V.int) H (fun σ => ∃ v u : Option V, σ = [v, u]) (fun i ys => ys = (List.zipWith (· * ·) ws cs |>.take i).map V.int)
      hp hr' hL ⟨none, none, rfl⟩ (Same.new hL) upd_same rfl (by rw [List.length_map]; omega) ?_ ?_ ?_⟩
    · rintro i ys rfl
      rw [List.length_map, List.length_take]; omega
    · rintro i x z t σ H2 ys hx hz' ht ⟨v, u, rfl⟩ hs hL2 rfl N M hN
      obtain ⟨x, hx', rfl⟩ := int_at hx
      obtain ⟨z, hz'', rfl⟩ := int_at hz'
      have hzw : (List.zipWith (· * ·) ws cs)[i]? = some (x * z) := by rw [List.getElem?_zipWith, hx', hz'']
      refine ⟨t, _, rfl, SqT.of upd_same, rfl, _, _, rfl, _, _, rfl, rfl, _, rfl, _, rfl, _, _, rfl, rfl, .inr ⟨60000000, 60000000, fw x (List.mem_of_getElem? hx'), fc z (List.mem_of_getElem? hz''), by decide⟩, hN _ _ _ ⟨_, _, rfl⟩ (hs.trans (Same.new ht)) ?_ ?_⟩
      · rw [upd_ne (ne_of_none hL2 ht)]; exact hL2
      · rw [snoc_take hzw, List.map_append]; rfl
    · rintro H2 ys hs hL2 rfl
      refine ⟨L, List.zipWith (· * ·) ws cs, rfl, SqL.of ?_, ?_⟩
      · rw [hL2, List.take_of_length_le (by rw [List.length_zipWith, List.length_map, List.length_map]; exact Nat.le_refl _)]
      · rw [zip_sum]
        exact q _ hs
theorem scFInit : FnScope ["self"] ["self"] (defScope sFInit) := ⟨rfl, rfl, rfl, by decide +kernel, rfl, by decide +kernel, by decide +kernel⟩
theorem ok_finit (D : DefI K FC "Frame.__init__" sFInit ["self"] []) (T : Txt K mg KC FC) : CalIE P w K mg base 1 FC ["self"] [] (spFInit FC) := by
  refine D.cal scFInit (fun vs H Q E h => ?_) (fun f cdv A outer s H vs Q E hr h => ?_)
  · obtain ⟨q, dx, rfl, _⟩ := h
    rfl
  · obtain ⟨q, dx, rfl, hq, k⟩ := h
    refine ⟨_, (pss_cons
          (ps_fld (pv 0) pe_int rfl)
        (pss_cons
          (ps_fld (pv 0) (pe_lst pa_nil) rfl)
        (pss_cons
          (ps_fld (pv 0) (pe_lst pa_nil) rfl)
        (pss_one
          (ps_fld (pv 0) (pe_lst pa_nil) rfl))))), ?_⟩
    refine ⟨_, rfl, q, FC, dx, [], rfl, hq, T.c_Frame, T.na_scale, (by show 0 < 1000; decide), ?_⟩
    have h1 : (upd H q (.ins FC dx (putF "scale" (.int 1) []))) q = some (.ins FC dx (putF "scale" (.int 1) [])) := upd_same
    have e1 : But q H (upd H q (.ins FC dx (putF "scale" (.int 1) []))) := But.upd
    generalize upd H q (.ins FC dx (putF "scale" (.int 1) [])) = H1 at *
    have len : ∀ (f : Str) (v : V) (fs : List (Str × V)) (n : Nat), fs.length ≤ n → (putF f v fs).length ≤ n + 1 := fun f v fs n h => Nat.le_trans (length_putF f v fs) (by omega)
    refine ⟨(by show 0 ≤ sizeLine; omega), fun aP haP => ⟨_, rfl, q, FC, dx, _, rfl, by rw [upd_ne (ne_of_none h1 haP)]; exact h1, T.c_Frame, T.na_places, by have := len "scale" (.int 1) [] 0 (by simp); omega, ?_⟩⟩
    have nP : aP ≠ q := Ne.symm (ne_of_none h1 haP)
    have h2 : (upd (upd H1 aP (.lst [])) q (.ins FC dx (putF "places" (.ref aP) (putF "scale" (.int 1) [])))) q = some (.ins FC dx (putF "places" (.ref aP) (putF "scale" (.int 1) []))) := upd_same
    have p2 : (upd (upd H1 aP (.lst [])) q (.ins FC dx (putF "places" (.ref aP) (putF "scale" (.int 1) [])))) aP = some (.lst []) := by rw [upd_ne nP]; exact upd_same
    have e2 : But q H1 (upd (upd H1 aP (.lst [])) q (.ins FC dx (putF "places" (.ref aP) (putF "scale" (.int 1) [])))) := (But.of (Same.new haP)).trans But.upd
    generalize upd (upd H1 aP (.lst [])) q (.ins FC dx (putF "places" (.ref aP) (putF "scale" (.int 1) []))) = H2 at *
    refine ⟨(by show 0 ≤ sizeLine; omega), fun aB haB => ⟨_, rfl, q, FC, dx, _, rfl, by rw [upd_ne (ne_of_none h2 haB)]; exact h2, T.c_Frame, T.na_bases, by have := len "places" (.ref aP) _ 1 (len "scale" (.int 1) [] 0 (by simp)); omega, ?_⟩⟩
    have nB : aB ≠ q := Ne.symm (ne_of_none h2 haB)
    have nPB : aP ≠ aB := ne_of_none p2 haB
    have h3 : (upd (upd H2 aB (.lst [])) q (.ins FC dx (putF "bases" (.ref aB) (putF "places" (.ref aP) (putF "scale" (.int 1) []))))) q = some (.ins FC dx (putF "bases" (.ref aB) (putF "places" (.ref aP) (putF "scale" (.int 1) [])))) := upd_same
    have p3 : (upd (upd H2 aB (.lst [])) q (.ins FC dx (putF "bases" (.ref aB) (putF "places" (.ref aP) (putF "scale" (.int 1) []))))) aP = some (.lst []) := by rw [upd_ne nP, upd_ne nPB]; exact p2
    have b3 : (upd (upd H2 aB (.lst [])) q (.ins FC dx (putF "bases" (.ref aB) (putF "places" (.ref aP) (putF "scale" (.int 1) []))))) aB = some (.lst []) := by rw [upd_ne nB]; exact upd_same
    have e3 : But q H2 (upd (upd H2 aB (.lst [])) q (.ins FC dx (putF "bases" (.ref aB) (putF "places" (.ref aP) (putF "scale" (.int 1) []))))) := (But.of (Same.new haB)).trans But.upd
    generalize upd (upd H2 aB (.lst [])) q (.ins FC dx (putF "bases" (.ref aB) (putF "places" (.ref aP) (putF "scale" (.int 1) [])))) = H3 at *
    refine ⟨(by show 0 ≤ sizeLine; omega), fun aW haW => ⟨_, rfl, q, FC, dx, _, rfl, by rw [upd_ne (ne_of_none h3 haW)]; exact h3, T.c_Frame, T.na_weights, by have := len "bases" (.ref aB) _ 2 (len "places" (.ref aP) _ 1 (len "scale" (.int 1) [] 0 (by simp))); omega, ?_⟩⟩
    have nW : aW ≠ q := Ne.symm (ne_of_none h3 haW)
    have nPW : aP ≠ aW := ne_of_none p3 haW
    have nBW : aB ≠ aW := ne_of_none b3 haW
    have eA : But q H H2 := e1.trans e2
    have back : ∀ {b : Addr}, b ≠ q → H1 b = none → H b = none := fun {b} n h => by
      cases e : H b with
      | none => rfl
      | some o => rw [e1 b o e n] at h; cases h
    have back2 : ∀ {b : Addr}, b ≠ q → H2 b = none → H b = none := fun {b} n h => by
      cases e : H b with
      | none => rfl
      | some o => rw [eA b o e n] at h; cases h
    refine k aP aB aW _ (back nP haP) (back2 nB haB) ⟨⟨_, upd_same, FF.mk4 1 aP aB aW⟩, ?_, ⟨[], ?_, .nil⟩, ⟨[], ?_, .nil⟩, ⟨nPB, Ne.symm nPW, Ne.symm nBW, by simp, by simp, by simp, by simp⟩, fun b hb => by cases hb⟩ fun b o h n => ?_
    · rw [upd_ne nP, upd_ne nPW]; exact p3
    · rw [upd_ne nB, upd_ne nBW]; exact b3
    · rw [upd_ne nW]; exact upd_same
    · rw [upd_ne n, upd_ne (ne_of_none (e3 b o (eA b o h n) n) haW)]; exact e3 b o (eA b o h n) n
theorem scShares : FnScope ["self", "column"] ["self", "column"] (defScope sShares) := ⟨rfl, rfl, rfl, by decide +kernel, rfl, by decide +kernel, by decide +kernel⟩
theorem ok_shares (D : DefM K FC "shares" "Frame.shares" sShares ["self", "column"]) (T : Txt K mg KC FC) (c1 : CalE P w K mg base 1 "weigh" ["weights", "column"] (spWeigh K)) : CalME P w K mg base 2 FC "shares" ["self", "column"] (spShares FC) := by
  obtain ⟨_, _, c_weigh⟩ := c1
  refine D.cal scShares (fun vs H Q E h => ?_) (fun f cdv A outer s H vs Q E hr h => ?_)
  · obtain ⟨X, q, dx, aP, aB, aW, cA, st, n, c, rfl, _⟩ := h
    rfl
  · obtain ⟨X, q, dx, aP, aB, aW, cA, st, n, c, rfl, FA, S, hc, k⟩ := h
    obtain ⟨fs, hq, ff⟩ := FA.obj
    obtain ⟨wA, hW, cW⟩ := FA.hW
    have big : (1001 : Nat) ≤ sizeLine := by decide
    have lw := cW.length
    have l1 := wlen S
    have l2 := S.many
    refine ⟨_, (pss_one
          (ps_ret (pe_comp (sc := (defScope sShares)) (NX := ["self", "column"]) (N := ["weights", "column"]) (fr := [none, some 1]) ⟨by rfl, by rfl, by decide +kernel, by decide +kernel, by decide +kernel, by rfl, by decide +kernel⟩ rfl rfl rfl (pi_list (pe_fld (pv 0) rfl)) (fun _ _ _ _ => (pg_name (i := 0) (show (["weights", "column"] : List Str).Nodup by decide +kernel) rfl (Or.inl rfl) (Or.inr rfl))) (fun _ _ _ _ => pts_nil) (fun _ _ _ _ => (pe_call c_weigh.ok (hr.mono (by decide)) rfl c_weigh.g c_weigh.kp c_weigh.b .nil pass0 (pa_cons (pv 0) (pa_cons (pv 1) pa_nil))))))), ?_⟩
    refine ⟨_, rfl, q, FC, dx, fs, _, rfl, hq, T.c_Frame, T.na_weights, ff.w, aW, rfl, ⟨_, SqL.of hW⟩, fun L hL => comp_lst (K := K) (a := aW) (L := L) (xs := wA.map V.ref) H (fun σ => ∃ v : Option V, σ = [v, some (.ref cA)]) (fun i ys => ys = (st.weights.take i).map fun w => V.int (dot w c))
      (SqL.of hW) hL ⟨none, rfl⟩ (Same.new hL) upd_same rfl (by rw [List.length_map]; omega) ?_ ?_ ?_⟩
    · rintro i ys rfl
      rw [List.length_map, List.length_take]; omega
    · rintro i x σ H2 ys hx ⟨v, rfl⟩ hs hL2 rfl N M hN
      obtain ⟨a, ha, rfl⟩ := ref_at hx
      obtain ⟨v, hv, hva, _⟩ := cW.get ha
      have hvm := List.mem_of_getElem? hv
      refine ⟨_, rfl, _, rfl, a, cA, v, c, rfl, SqL.of (hs _ _ hva), SqL.of (hs _ _ hc.at'), by rw [S.F.lw v hvm]; have := S.n; omega, Fit.few (by decide) (S.w v hvm), Fit.few (by decide) hc.fit, fun H3 e3 => hN _ _ _ ⟨_, rfl⟩ (hs.trans e3) (e3 _ _ hL2) ?_⟩
      rw [snoc_take hv, List.map_append]
      rfl
    · rintro H2 ys hs hL2 rfl
      refine k L H2 hL hs ?_
      rw [hL2, List.length_map, lw, List.take_length]
      unfold sharesL
      rw [List.map_map]
      rfl
theorem scRest : FnScope ["self", "column", "shares", "row"] ["self", "column", "shares", "row"] (defScope sRest) := ⟨rfl, rfl, rfl, by decide +kernel, rfl, by decide +kernel, by decide +kernel⟩
theorem ok_rest (D : DefM K FC "rest" "Frame.rest" sRest ["self", "column", "shares", "row"]) (T : Txt K mg KC FC) : CalME P w K mg base 1 FC "rest" ["self", "column", "shares", "row"] (spRest FC) := by
  refine D.cal scRest (fun vs H Q E h => ?_) (fun f cdv A outer s H vs Q E hr h => ?_)
  · obtain ⟨X, q, dx, aP, aB, aW, cA, sA, st, n, c, r, rfl, _⟩ := h
    rfl
  · obtain ⟨X, q, dx, aP, aB, aW, cA, sA, st, n, c, r, rfl, FA, S, hc, hs, hr', k⟩ := h
    obtain ⟨fs, hq, ff⟩ := FA.obj
    obtain ⟨bA, hB, cB⟩ := FA.hB
    have big : (1001 : Nat) ≤ sizeLine := by decide
    have lb := cB.length
    have l2 := S.many
    have l1 := wlen S
    have ls : (sharesL st c).length = st.bases.length := by unfold sharesL; rw [List.length_map]; exact l1
    have gc := getD_at (l := c) (i := r) (by rw [hc.len]; exact hr')
    refine ⟨_, (pss_one
          (ps_ret (pe_op op_sub (pe_op op_mulF (pe_fld (pv 0) rfl) (pe_ix ix_list (pv 1) (pv 3) (fun _ _ => rfl))) (pe_callB (call_sum rfl) rfl T.n_sum bt_sum (pa_cons (pe_comp (sc := (defScope sRest)) (NX := ["self", "column", "shares", "row"]) (N := ["share", "base", "row"]) (fr := [none, none, some 3]) ⟨by rfl, by rfl, by decide +kernel, by decide +kernel, by decide +kernel, by rfl, by decide +kernel⟩ rfl rfl rfl (pi_zip rfl T.n_zip (pa_cons (pv 2) (pa_cons (pe_fld (pv 0) rfl) pa_nil))) (fun _ _ _ _ => (pg_tupK K 2 rfl rfl (pgs_cons (pg_name (i := 0) (show (["share", "base", "row"] : List Str).Nodup by decide +kernel) rfl (Or.inl rfl) (Or.inr rfl)) (pgs_cons (pg_name (i := 1) (show (["share", "base", "row"] : List Str).Nodup by decide +kernel) rfl (Or.inl rfl) (Or.inr rfl)) pgs_nil)))) (fun _ _ _ _ => pts_nil) (fun _ _ _ _ => (pe_op op_mulF (pv 0) (pe_ix (ix_listK K rfl) (pv 1) (pv 2) (fun _ _ => rfl))))) pa_nil))))), ?_⟩
    refine ⟨_, rfl, q, FC, dx, fs, _, rfl, hq, T.c_Frame, T.na_scale, ff.s, _, rfl, _, rfl, cA, _, _, .int (c.getD r 0), rfl, rfl, SqL.of hc.at', atI_nat (by rw [List.getElem?_map, gc]; rfl), _, _, rfl, rfl, mulN S.s (hc.fit _ (List.mem_of_getElem? gc)), ?_⟩
    refine ⟨_, rfl, _, rfl, q, FC, dx, fs, _, rfl, hq, T.c_Frame, T.na_bases, ff.b, sA, aB, rfl, ⟨_, SqL.of hs⟩, ⟨_, SqL.of hB⟩, fun L hL => comp_zip (K := K) (a := sA) (c := aB) (L := L) (xs := (sharesL st c).map V.int) (zs := bA.map V.ref) H (fun σ => ∃ v u : Option V, σ = [v, u, some (.int r)])
      (fun i ys => ys = (List.zipWith (· * ·) (sharesL st c) (st.bases.map fun b => b.getD r 0) |>.take i).map V.int)
      (SqL.of hs) (SqL.of hB) hL ⟨none, none, rfl⟩ (Same.new hL) upd_same rfl (by rw [List.length_map, List.length_map]; omega) ?_ ?_ ?_⟩
    · rintro i ys rfl
      rw [List.length_map, List.length_take]; omega
    · rintro i x z t σ H2 ys hx hz ht ⟨v, u, rfl⟩ hs2 hL2 rfl N M hN
      obtain ⟨x, hx', rfl⟩ := int_at hx
      obtain ⟨a, ha, rfl⟩ := ref_at hz
      obtain ⟨b, hb, hba, _⟩ := cB.get ha
      have hbm := List.mem_of_getElem? hb
      have gb := getD_at (l := b) (i := r) (by rw [S.F.lb b hbm]; exact hr')
      have hzw : (List.zipWith (· * ·) (sharesL st c) (st.bases.map fun b => b.getD r 0))[i]? = some (x * b.getD r 0) := by rw [List.getElem?_zipWith, hx', List.getElem?_map, hb]; rfl
      refine ⟨t, _, rfl, SqT.of upd_same, rfl, _, _, rfl, _, _, rfl, rfl, _, rfl, _, rfl, _, rfl, a, _, _, .int (b.getD r 0), rfl, rfl, SqL.of (Same.new ht _ _ (hs2 _ _ hba)), atI_nat (by rw [List.getElem?_map, gb]; rfl), _, _, rfl, rfl, mulN (shares_fit S hc.fit x (List.mem_of_getElem? hx')) (S.b b hbm _ (List.mem_of_getElem? gb)), hN _ _ _ ⟨_, _, rfl⟩ (hs2.trans (Same.new ht)) ?_ ?_⟩
      · rw [upd_ne (ne_of_none hL2 ht)]; exact hL2
      · rw [snoc_take hzw, List.map_append]; rfl
    · rintro H2 ys hs2 hL2 rfl
      refine ⟨L, List.zipWith (· * ·) (sharesL st c) (st.bases.map fun b => b.getD r 0), rfl, SqL.of ?_, ?_⟩
      · rw [hL2, List.take_of_length_le (by rw [List.length_zipWith, List.length_map, List.length_map, List.length_map, lb]; exact Nat.le_refl _)]
      · rw [zip_sum]
        exact ⟨_, _, rfl, rfl, k _ hs2⟩
theorem scRow : FnScope ["self", "column", "shares", "row"] ["self", "column", "shares"] (defScope sRow) := ⟨rfl, rfl, rfl, by decide +kernel, rfl, by decide +kernel, by decide +kernel⟩
theorem range_find {p : Nat → Bool} : ∀ {n i : Nat}, i < n → (∀ j, j < i → p j = false) → p i = true → (List.range n).find? p = some i := by
  intro n i hi h0 h1
  rw [List.find?_range_eq_some]
  exact ⟨h1, List.mem_range.mpr hi, fun j hj => by simpa using h0 j hj⟩
theorem ok_row (D : DefM K FC "row_with_rest" "Frame.row_with_rest" sRow ["self", "column", "shares"]) (T : Txt K mg KC FC) (c1 : CalME P w K mg base 1 FC "rest" ["self", "column", "shares", "row"] (spRest FC)) : CalME P w K mg base 2 FC "row_with_rest" ["self", "column", "shares"] (spRow FC) := by
  obtain ⟨_, _, c_Frame_rest⟩ := c1
  refine D.cal scRow (fun vs H Q E h => ?_) (fun f cdv A outer s H vs Q E hr h => ?_)
  · obtain ⟨X, q, dx, aP, aB, aW, cA, sA, st, n, c, rfl, _⟩ := h
    rfl
  · obtain ⟨X, q, dx, aP, aB, aW, cA, sA, st, n, c, rfl, FA, S, hc, hs, k⟩ := h
    have n2 := S.n
    have n3 := hc.len
    refine ⟨_, (pss_cons
          (ps_for PassesOwn.never rfl (pi_range1 rfl T.n_range (pa_cons (pe_callB call_len_seq rfl T.n_len bt_len (pa_cons (pv 1) pa_nil)) pa_nil)) (pg_name (i := 3) scRow.nd rfl (Or.inl rfl))
            (pss_one
              (ps_if (pt_cmpR op_ne (pe_meth (pv 0) T.c_Frame c_Frame_rest.m c_Frame_rest.ok (hr.mono (by decide)) c_Frame_rest.b .nil pass0 (pa_cons (pv 1) (pa_cons (pv 2) (pa_cons (pv 3) pa_nil)))) pe_int (nomark _))
                (pss_one
                  (ps_ret (pv 3)))
                pss_nil)))
        (pss_one
          (ps_ret pe_non))), ?_⟩
    refine ⟨_, rfl, cA, _, rfl, .inl (SqL.of hc.at'), _, rfl, by omega, by rw [List.length_map]; omega, for_range (fun i σ H' => ∃ v : Option V, σ = [some (.ref q), some (.ref cA), some (.ref sA), v] ∧ Same H H' ∧ ∀ j, j < i → restL st c (sharesL st c) j = 0) ⟨none, rfl, Same.refl _, fun j hj => by omega⟩ ?_ ?_⟩
    · rintro i σ H' hi ⟨v, rfl, e, h0⟩
      have hi : i < n := by
        have : i < (List.map V.int c).length := hi
        rw [List.length_map] at this; omega
      dsimp only [gName]
      rw [Int.zero_add]
      obtain ⟨fs, hq, ff⟩ := FA.obj
      refine ⟨_, rfl, q, dx, fs, rfl, e _ _ hq, ff.no _ (by decide +kernel) (by decide +kernel) (by decide +kernel) (by decide +kernel), _, rfl, _, rfl, _, rfl, X, q, dx, aP, aB, aW, cA, sA, st, n, c, i, rfl, FA.same e, S, ⟨e _ _ hc.at', hc.len, hc.fit⟩, e _ _ hs, hi, fun H2 e2 => ⟨rfl, _, rfl, ite2 (fun z => ?_) fun z => ?_⟩⟩
      · have z : restL st c (sharesL st c) i ≠ 0 := ne0 z
        refine ⟨_, rfl, ((k _ (e.trans e2)).1 i ?_)⟩
        unfold rowL
        exact range_find (by omega) (fun j hj => by simp [h0 j hj]) (by simpa using z)
      · have z : restL st c (sharesL st c) i = 0 := eq0 z
        refine ⟨_, rfl, e.trans e2, fun j hj => ?_⟩
        rcases Nat.lt_succ_iff_lt_or_eq.mp hj with q1 | q1
        · exact h0 j q1
        · rw [q1]; exact z
    · rintro σ H' ⟨v, rfl, e, h0⟩
      refine (k _ e).2 ?_
      unfold rowL
      rw [List.find?_eq_none]
      intro j hj
      have hj : j < c.length := List.mem_range.mp hj
      have := h0 j (by show j < (List.map V.int c).length; rw [List.length_map]; exact hj)
      simp [this]
theorem scFreed : FnScope ["self", "weights", "share", "fresh", "scale"] ["self", "weights", "share", "fresh", "scale"] (defScope sFreed) := ⟨rfl, rfl, rfl, by decide +kernel, rfl, by decide +kernel, by decide +kernel⟩
theorem ok_freed (D : DefM K FC "freed" "Frame.freed" sFreed ["self", "weights", "share", "fresh", "scale"]) (T : Txt K mg KC FC) : CalME P w K mg base 1 FC "freed" ["self", "weights", "share", "fresh", "scale"] (spFreed FC) := by
  refine D.cal scFreed (fun vs H Q E h => ?_) (fun f cdv A outer s H vs Q E hr h => ?_)
  · obtain ⟨X, q, dx, aP, aB, aW, wA, fA, st, n, wt, fr, sh, S', rfl, _⟩ := h
    rfl
  · obtain ⟨X, q, dx, aP, aB, aW, wA, fA, st, n, wt, fr, sh, S', rfl, FA, S, hw, hf, lw, lf, bw, bf, bs, bS, k⟩ := h
    obtain ⟨fs, hq, ff⟩ := FA.obj
    have n2 := S.n
    have big : (1001 : Nat) ≤ sizeLine := by decide
    refine ⟨_, (pss_one
          (ps_ret (pe_comp (sc := (defScope sFreed)) (NX := ["self", "weights", "share", "fresh", "scale"]) (N := ["one", "other", "self", "scale", "share"]) (fr := [none, none, some 0, some 4, some 2]) ⟨by rfl, by rfl, by decide +kernel, by decide +kernel, by decide +kernel, by rfl, by decide +kernel⟩ rfl rfl rfl (pi_zip rfl T.n_zip (pa_cons (pv 1) (pa_cons (pv 3) pa_nil))) (fun _ _ _ _ => (pg_tupK K 2 rfl rfl (pgs_cons (pg_name (i := 0) (show (["one", "other", "self", "scale", "share"] : List Str).Nodup by decide +kernel) rfl (Or.inl rfl) (Or.inr rfl)) (pgs_cons (pg_name (i := 1) (show (["one", "other", "self", "scale", "share"] : List Str).Nodup by decide +kernel) rfl (Or.inl rfl) (Or.inr rfl)) pgs_nil)))) (fun _ _ _ _ => pts_nil) (fun _ _ _ _ => (pe_op op_fdivF (pe_op op_sub (pe_op op_mulF (pv 3) (pv 0)) (pe_op op_mulF (pv 4) (pv 1))) (pe_fldK K rfl (pv 2) rfl)))))), ?_⟩
    refine ⟨_, rfl, _, rfl, wA, fA, rfl, ⟨_, SqL.of hw⟩, ⟨_, SqL.of hf⟩, fun L hL => comp_zip (K := K) (a := wA) (c := fA) (L := L) (xs := wt.map V.int) (zs := fr.map V.int) H (fun σ => ∃ v u : Option V, σ = [v, u, some (.ref q), some (.int S'), some (.int sh)])
      (fun i ys => ys = ((freedL st.scale S' wt sh fr).take i).map V.int)
      (SqL.of hw) (SqL.of hf) hL ⟨none, none, rfl⟩ (Same.new hL) upd_same rfl (by rw [List.length_map]; omega) ?_ ?_ ?_⟩
    · rintro i ys rfl
      rw [List.length_map, List.length_take]; omega
    · rintro i x z t σ H2 ys hx hz ht ⟨v, u, rfl⟩ hs2 hL2 rfl N M hN
      obtain ⟨x, hx', rfl⟩ := int_at hx
      obtain ⟨z, hz', rfl⟩ := int_at hz
      have hzw : (freedL st.scale S' wt sh fr)[i]? = some ((S' * x - sh * z).fdiv st.scale) := by unfold freedL; rw [List.getElem?_zipWith, hx', hz']
      have S0 := S.pos
      refine ⟨t, _, rfl, SqT.of upd_same, rfl, _, _, rfl, _, _, rfl, rfl, _, rfl, _, rfl, _, _, rfl, rfl, mulN bS (bw x (List.mem_of_getElem? hx')), _, rfl, _, rfl, _, _, rfl, rfl, mulN bs (bf z (List.mem_of_getElem? hz')), _, _, rfl, rfl, _, rfl, q, FC, dx, fs, _, rfl, Same.new ht _ _ (hs2 _ _ hq), T.c_Frame, T.na_scale, ff.s, _, _, rfl, rfl, ⟨by omega, S.s.mono (by decide)⟩, hN _ _ _ ⟨_, _, rfl⟩ (hs2.trans (Same.new ht)) ?_ ?_⟩
      · rw [upd_ne (ne_of_none hL2 ht)]; exact hL2
      · rw [snoc_take hzw, List.map_append]; rfl
    · rintro H2 ys hs2 hL2 rfl
      refine k L H2 hL hs2 ?_
      rw [hL2, List.take_of_length_le (by unfold freedL; rw [List.length_zipWith, List.length_map, List.length_map]; exact Nat.le_refl _)]
theorem rep_zeros (n : Nat) : (List.replicate n [V.int 0]).flatten = (List.replicate n (0 : Int)).map V.int := by
  induction n with
  | zero => rfl
  | succ n ih => rw [List.replicate_succ, List.flatten_cons, ih, List.replicate_succ]; rfl
theorem scLev : FnScope ["self", "place", "shares", "many", "numbers", "base_place", "share"] ["self", "place", "shares", "many"] (defScope sLev) := ⟨rfl, rfl, rfl, by decide +kernel, rfl, by decide +kernel, by decide +kernel⟩
theorem ok_lev (D : DefM K FC "levelling" "Frame.levelling" sLev ["self", "place", "shares", "many"]) (T : Txt K mg KC FC) (c1 : CalE P w K mg base 2 "lowest" ["numbers"] (spLowest K)) : CalME P w K mg base 3 FC "levelling" ["self", "place", "shares", "many"] (spLev FC) := by
  obtain ⟨_, _, c_lowest⟩ := c1
  refine D.cal scLev (fun vs H Q E h => ?_) (fun f cdv A outer s H vs Q E hr h => ?_)
  · obtain ⟨X, q, dx, aP, aB, aW, sA, st, n, c, place, many, rfl, _⟩ := h
    rfl
  · obtain ⟨X, q, dx, aP, aB, aW, sA, st, n, c, place, many, rfl, FA, S, hc, hs, hp, hm, hpl, k⟩ := h
    obtain ⟨fs, hq, ff⟩ := FA.obj
    have big : (1001 : Nat) ≤ sizeLine := by decide
    refine ⟨_, (pss_cons
          (ps_set (i := 4) scLev.nd rfl (Or.inl rfl) (pe_op op_rep (pe_lst (pa_cons pe_int pa_nil)) (pv 3)))
        (pss_cons
          (ps_asg (pe_fld (pv 0) rfl) (pg_sub (pv 4) (pv 1) set_list))
        (pss_cons
          (ps_for PassesOwn.never rfl (pi_zip rfl T.n_zip (pa_cons (pe_fld (pv 0) rfl) (pa_cons (pv 2) pa_nil))) (pg_tup rfl (pgs_cons (pg_name (i := 5) scLev.nd rfl (Or.inl rfl)) (pgs_cons (pg_name (i := 6) scLev.nd rfl (Or.inl rfl)) pgs_nil)))
            (pss_one
              (ps_asg (pe_un un_neg (pv 6)) (pg_sub (pv 4) (pv 5) set_list))))
        (pss_one
          (ps_ret (pe_call c_lowest.ok (hr.mono (by decide)) rfl c_lowest.g c_lowest.kp c_lowest.b .nil pass0 (pa_cons (pv 4) pa_nil))))))), ?_⟩
    refine ⟨(by show 1 ≤ sizeLine; omega), fun l0 hl0 => ⟨_, rfl, l0, _, _, rfl, rfl, upd_same, by omega, by omega, by show 1 * _ ≤ sizeLine; rw [Int.toNat_natCast]; omega, fun l hl => ?_⟩⟩
    rw [Int.toNat_natCast, rep_zeros]
    have e1 : Same H (upd (upd H l0 (.lst [.int 0])) l (.lst ((List.replicate many (0 : Int)).map V.int))) := (Same.new hl0).trans (Same.new hl)
    have h1 : (upd (upd H l0 (.lst [.int 0])) l (.lst ((List.replicate many (0 : Int)).map V.int))) l = some (.lst ((List.replicate many (0 : Int)).map V.int)) := upd_same
    have nl : H l = none := (Same.new hl0).free hl
    generalize upd (upd H l0 (.lst [.int 0])) l (.lst ((List.replicate many (0 : Int)).map V.int)) = H1 at *
    dsimp only [gName]
    refine ⟨_, rfl, q, FC, dx, fs, _, rfl, e1 _ _ hq, T.c_Frame, T.na_scale, ff.s, _, rfl, _, rfl, l, _, _, place, rfl, rfl, h1, ixN_nat (by rw [List.length_map, List.length_replicate]; exact hp), ?_⟩
    rw [← List.map_set]
    have h2 : (upd H1 l (.lst (((List.replicate many (0 : Int)).set place st.scale).map V.int))) l = some (.lst (((List.replicate many (0 : Int)).set place st.scale).map V.int)) := upd_same
    have e2 : But l H (upd H1 l (.lst (((List.replicate many (0 : Int)).set place st.scale).map V.int))) := (But.of e1).trans But.upd
    generalize upd H1 l (.lst (((List.replicate many (0 : Int)).set place st.scale).map V.int)) = H2 at *
    have ne : ∀ {b : Addr} {o : HO}, H b = some o → b ≠ l := fun h => ne_of_none h nl
    refine ⟨_, rfl, q, FC, dx, fs, _, rfl, e2 _ _ hq (ne hq), T.c_Frame, T.na_places, ff.p, _, rfl, aP, sA, rfl, ⟨_, SqL.of (e2 _ _ FA.hP (ne FA.hP))⟩, ⟨_, SqL.of (e2 _ _ hs (ne hs))⟩, for_zip (K := K) (a := aP) (c := sA) (xs := st.places.map fun p => V.int (p : Nat)) (zs := (sharesL st c).map V.int)
      (fun i σ H' => ∃ v5 v6 : Option V, σ = [some (.ref q), some (.int place), some (.ref sA), some (.int many), some (.ref l), v5, v6] ∧ But l H H' ∧ H' l = some (.lst ((((st.places.zip (sharesL st c)).take i).foldl (fun l ps => l.set ps.1 (-ps.2)) ((List.replicate many (0 : Int)).set place st.scale)).map V.int)))
      ⟨none, none, rfl, e2, h2⟩ ?_ ?_ ?_⟩
    · rintro i σ H' ⟨v5, v6, rfl, e, _⟩
      exact ⟨SqL.of (e _ _ FA.hP (ne FA.hP)), SqL.of (e _ _ hs (ne hs))⟩
    · rintro i x z t σ H' hx hz ht ⟨v5, v6, rfl, e, h'⟩
      rw [List.getElem?_map] at hx
      cases ep : st.places[i]? with
      | none => rw [ep] at hx; cases hx
      | some p =>
        rw [ep] at hx
        cases hx
        obtain ⟨z, hz', rfl⟩ := int_at hz
        have hzip : (st.places.zip (sharesL st c))[i]? = some (p, z) := by rw [List.getElem?_zip_eq_some]; exact ⟨ep, hz'⟩
        have h'' : (upd H' t (.tup [V.int (p : Nat), V.int z])) l = _ := Same.new ht _ _ h'
        refine ⟨t, _, rfl, SqT.of upd_same, rfl, _, _, rfl, _, _, rfl, rfl, _, rfl, _, rfl, _, rfl, _, rfl, l, _, _, p, rfl, rfl, h'', ixN_nat (by rw [List.length_map, fold_len]; simp; exact hpl p (List.mem_of_getElem? ep)), _, _, rfl, ?_, ?_⟩
        · exact (e.trans (But.of (Same.new ht))).trans But.upd
        · rw [upd_same, snoc_take hzip, List.foldl_append, ← List.map_set]
          rfl
    · rintro σ H3 ⟨v5, v6, rfl, e3, h3⟩
      rw [List.take_of_length_le (by rw [List.length_zip, List.length_map, List.length_map]; exact Nat.le_refl _)] at h3
      have s3 : Same H H3 := fun b o h => e3 b o h (ne h)
      refine ⟨_, rfl, l, rawL st place (sharesL st c) many, rfl, SqL.of h3, by unfold rawL; rw [fold_len]; simp; omega, fun x hx => ?_, fun l2 H4 hl2 e4 h4 => k l2 H4 (s3.free hl2) (s3.trans e4) h4⟩
      exact Nat.lt_of_lt_of_le (raw_fit S hc x hx) (Nat.pow_le_pow_right (by decide) (by decide))
theorem scFresh : FnScope ["self", "row", "many", "told", "base", "weights"] ["self", "row", "many"] (defScope sFresh) := ⟨rfl, rfl, rfl, by decide +kernel, rfl, by decide +kernel, by decide +kernel⟩
theorem rep_zeros' (n : Nat) : (List.replicate n [V.int 0]).flatten = (List.replicate n (0 : Int)).map V.int := by
  induction n with
  | zero => rfl
  | succ n ih => rw [List.replicate_succ, List.flatten_cons, ih, List.replicate_succ]; rfl
theorem ok_fresh (D : DefM K FC "weights_of_rest" "Frame.weights_of_rest" sFresh ["self", "row", "many"]) (T : Txt K mg KC FC) : CalME P w K mg base 1 FC "weights_of_rest" ["self", "row", "many"] (spFresh FC) := by
  refine D.cal scFresh (fun vs H Q E h => ?_) (fun f cdv A outer s H vs Q E hr h => ?_)
  · obtain ⟨X, q, dx, aP, aB, aW, st, n, r, rfl, _⟩ := h
    rfl
  · obtain ⟨X, q, dx, aP, aB, aW, st, n, r, rfl, FA, S, hr', k⟩ := h
    obtain ⟨fs, hq, ff⟩ := FA.obj
    obtain ⟨bA, hB, cB⟩ := FA.hB
    obtain ⟨wA, hW, cW⟩ := FA.hW
    have n2 := S.n
    have lb := cB.length
    have lw := cW.length
    have l1 := wlen S
    have big : (1001 : Nat) ≤ sizeLine := by decide
    refine ⟨_, (pss_cons
          (ps_set (i := 3) scFresh.nd rfl (Or.inl rfl) (pe_op op_rep (pe_lst (pa_cons pe_int pa_nil)) (pv 2)))
        (pss_cons
          (ps_asg (pe_fld (pv 0) rfl) (pg_sub (pv 3) (pv 1) set_list))
        (pss_cons
          (ps_for PassesOwn.never rfl (pi_zip rfl T.n_zip (pa_cons (pe_fld (pv 0) rfl) (pa_cons (pe_fld (pv 0) rfl) pa_nil))) (pg_tup rfl (pgs_cons (pg_name (i := 4) scFresh.nd rfl (Or.inr rfl)) (pgs_cons (pg_name (i := 5) scFresh.nd rfl (Or.inl rfl)) pgs_nil)))
            (pss_one
              (ps_setC (i := 3) scFresh.nd rfl (Or.inl rfl) (sc := (defScope sFresh)) (NX := ["self", "row", "many", "told", "base", "weights"]) (N := ["one", "other", "base", "row"]) (fr := [none, none, some 4, some 1]) ⟨by rfl, by rfl, by decide +kernel, by decide +kernel, by decide +kernel, by rfl, by decide +kernel⟩ rfl rfl rfl (pi_zip rfl T.n_zip (pa_cons (pv 3) (pa_cons (pv 5) pa_nil))) (fun _ _ _ _ => (pg_tupK K 2 rfl rfl (pgs_cons (pg_name (i := 0) (show (["one", "other", "base", "row"] : List Str).Nodup by decide +kernel) rfl (Or.inl rfl) (Or.inr rfl)) (pgs_cons (pg_name (i := 1) (show (["one", "other", "base", "row"] : List Str).Nodup by decide +kernel) rfl (Or.inl rfl) (Or.inr rfl)) pgs_nil)))) (fun _ _ _ _ => pts_nil) (fun _ _ _ _ => (pe_op op_sub (pv 0) (pe_op op_mulF (pe_ix (ix_listK K rfl) (pv 2) (pv 3) (fun _ _ => rfl)) (pv 1)))))))
        (pss_one
          (ps_ret (pv 3)))))), ?_⟩
    refine ⟨(by show 1 ≤ sizeLine; omega), fun l0 hl0 => ⟨_, rfl, l0, _, _, rfl, rfl, upd_same, by omega, by omega, by show 1 * _ ≤ sizeLine; rw [Int.toNat_natCast]; omega, fun l hl => ?_⟩⟩
    rw [Int.toNat_natCast, rep_zeros']
    have e1 : Same H (upd (upd H l0 (.lst [.int 0])) l (.lst ((List.replicate n (0 : Int)).map V.int))) := (Same.new hl0).trans (Same.new hl)
    have h1 : (upd (upd H l0 (.lst [.int 0])) l (.lst ((List.replicate n (0 : Int)).map V.int))) l = some (.lst ((List.replicate n (0 : Int)).map V.int)) := upd_same
    have nl : H l = none := (Same.new hl0).free hl
    generalize upd (upd H l0 (.lst [.int 0])) l (.lst ((List.replicate n (0 : Int)).map V.int)) = H1 at *
    dsimp only [gName]
    refine ⟨_, rfl, q, FC, dx, fs, _, rfl, e1 _ _ hq, T.c_Frame, T.na_scale, ff.s, _, rfl, _, rfl, l, _, _, r, rfl, rfl, h1, ixN_nat (by rw [List.length_map, List.length_replicate]; exact hr'), ?_⟩
    rw [← List.map_set]
    have h2 : (upd H1 l (.lst (((List.replicate n (0 : Int)).set r st.scale).map V.int))) l = some (.lst (((List.replicate n (0 : Int)).set r st.scale).map V.int)) := upd_same
    have s2 : Same H (upd H1 l (.lst (((List.replicate n (0 : Int)).set r st.scale).map V.int))) := fun b o h => ((But.of e1).trans But.upd) b o h (ne_of_none h nl)
    generalize upd H1 l (.lst (((List.replicate n (0 : Int)).set r st.scale).map V.int)) = H2 at *
    refine ⟨_, rfl, q, FC, dx, fs, _, rfl, s2 _ _ hq, T.c_Frame, T.na_bases, ff.b, _, rfl, q, FC, dx, fs, _, rfl, s2 _ _ hq, T.c_Frame, T.na_weights, ff.w, aB, aW, rfl, ⟨_, SqL.of (s2 _ _ hB)⟩, ⟨_, SqL.of (s2 _ _ hW)⟩, for_zip (K := K) (a := aB) (c := aW) (xs := bA.map V.ref) (zs := wA.map V.ref)
      (fun i σ H' => ∃ (l' : Addr) (v4 v5 : Option V), σ = [some (.ref q), some (.int r), some (.int n), some (.ref l'), v4, v5] ∧ Same H H' ∧ H l' = none ∧ H' l' = some (.lst ((((st.bases.zip st.weights).take i).foldl (fun told bw => minusL told (bw.1.getD r 0) bw.2) ((List.replicate n (0 : Int)).set r st.scale)).map V.int)))
      ⟨l, none, none, rfl, s2, nl, h2⟩ ?_ ?_ ?_⟩
    · rintro i σ H' ⟨l', v4, v5, rfl, e, _, _⟩
      exact ⟨SqL.of (e _ _ hB), SqL.of (e _ _ hW)⟩
    · rintro i x z t σ H' hx hz ht ⟨l', v4, v5, rfl, e, nl', h'⟩
      obtain ⟨a, ha, rfl⟩ := ref_at hx
      obtain ⟨b, hb, hba, _⟩ := cB.get ha
      obtain ⟨a2, ha2, rfl⟩ := ref_at hz
      obtain ⟨wt, hwt, hwa, _⟩ := cW.get ha2
      have hbm := List.mem_of_getElem? hb
      have hwm := List.mem_of_getElem? hwt
      have gb := getD_at (l := b) (i := r) (by rw [S.F.lb b hbm]; exact hr')
      have hzip : (st.bases.zip st.weights)[i]? = some (b, wt) := by rw [List.getElem?_zip_eq_some]; exact ⟨hb, hwt⟩
      have lt := minus_fold_len (n := n) r ((st.bases.zip st.weights).take i) ((List.replicate n (0 : Int)).set r st.scale) (by simp) fun p hp => S.F.lw _ (List.of_mem_zip (List.mem_of_mem_take hp)).2
      generalize hto : ((st.bases.zip st.weights).take i).foldl (fun told bw => minusL told (bw.1.getD r 0) bw.2) ((List.replicate n (0 : Int)).set r st.scale) = told at *
      have lwt : wt.length = n := S.F.lw wt hwm
      refine ⟨t, _, rfl, SqT.of upd_same, rfl, _, _, rfl, _, _, rfl, rfl, ?_⟩
      have et : Same H' (upd H' t (.tup [.ref a, .ref a2])) := Same.new ht
      have h'' := et _ _ h'
      have e' := e.trans et
      generalize upd H' t (.tup [.ref a, .ref a2]) = H3 at *
      dsimp only [gName]
      refine ⟨_, rfl, _, rfl, l', a2, rfl, ⟨_, SqL.of h''⟩, ⟨_, SqL.of (e' _ _ hwa)⟩, fun L hL => comp_zip (K := K) (a := l') (c := a2) (L := L) (xs := told.map V.int) (zs := wt.map V.int) H3 (fun σ => ∃ v u : Option V, σ = [v, u, some (.ref a), some (.int r)])
        (fun i ys => ys = ((minusL told (b.getD r 0) wt).take i).map V.int) (SqL.of h'') (SqL.of (e' _ _ hwa)) hL ⟨none, none, rfl⟩ (Same.new hL) upd_same rfl (by rw [List.length_map]; omega) ?_ ?_ ?_⟩
      · rintro j ys rfl
        rw [List.length_map, List.length_take]; omega
      · rintro j x z t2 σ H4 ys hx hz ht2 ⟨v, u, rfl⟩ hs4 hL4 rfl N M hN
        obtain ⟨x, hx', rfl⟩ := int_at hx
        obtain ⟨z, hz', rfl⟩ := int_at hz
        have hzw : (minusL told (b.getD r 0) wt)[j]? = some (x - b.getD r 0 * z) := by unfold minusL; rw [List.getElem?_zipWith, hx', hz']
        refine ⟨t2, _, rfl, SqT.of upd_same, rfl, _, _, rfl, _, _, rfl, rfl, _, rfl, _, rfl, _, rfl, a, _, _, .int (b.getD r 0), rfl, rfl, SqL.of (Same.new ht2 _ _ (hs4 _ _ (e' _ _ hba))), atI_nat (by rw [List.getElem?_map, gb]; rfl), _, rfl, _, _, rfl, rfl, mulN (S.b b hbm _ (List.mem_of_getElem? gb)) (S.w wt hwm z (List.mem_of_getElem? hz')), _, _, rfl, rfl, hN _ _ _ ⟨_, _, rfl⟩ (hs4.trans (Same.new ht2)) ?_ ?_⟩
        · rw [upd_ne (ne_of_none hL4 ht2)]; exact hL4
        · rw [snoc_take hzw, List.map_append]; rfl
      · rintro H4 ys hs4 hL4 rfl
        refine ⟨L, some (.ref a), some (.ref a2), rfl, e'.trans hs4, e'.free hL, ?_⟩
        rw [hL4, List.take_of_length_le (by unfold minusL; rw [List.length_zipWith, List.length_map, List.length_map]; exact Nat.le_refl _), snoc_take hzip, List.foldl_append, hto]
        rfl
    · rintro σ H3 ⟨l', v4, v5, rfl, e3, nl', h3⟩
      rw [List.take_of_length_le (by rw [List.length_zip, List.length_map, List.length_map]; omega)] at h3
      exact ⟨_, rfl, k l' H3 nl' e3 h3⟩
theorem scBind : FnScope ["self", "place", "column", "shares", "row", "fresh", "scale"] ["self", "place", "column", "shares", "row"] (defScope sBind) := ⟨rfl, rfl, rfl, by decide +kernel, rfl, by decide +kernel, by decide +kernel⟩
theorem ok_bind (D : DefM K FC "bind" "Frame.bind" sBind ["self", "place", "column", "shares", "row"]) (T : Txt K mg KC FC) (c1 : CalE P w K mg base 1 "weigh" ["weights", "column"] (spWeigh K)) (c2 : CalME P w K mg base 1 FC "weights_of_rest" ["self", "row", "many"] (spFresh FC))
    (c3 : CalME P w K mg base 1 FC "freed" ["self", "weights", "share", "fresh", "scale"] (spFreed FC)) : CalME P w K mg base 2 FC "bind" ["self", "place", "column", "shares", "row"] (spBind FC) := by
  obtain ⟨_, _, c_weigh⟩ := c1
  obtain ⟨_, _, c_Frame_weights_of_rest⟩ := c2
  obtain ⟨_, _, c_Frame_freed⟩ := c3
  refine D.cal scBind (fun vs H Q E h => ?_) (fun f cdv A outer s H vs Q E hr h => ?_)
  · obtain ⟨X, q, dx, aP, aB, aW, cA, sA, st, n, c, place, r, rfl, _⟩ := h
    rfl
  · obtain ⟨X, q, dx, aP, aB, aW, cA, sA, st, n, c, place, r, rfl, FA, S, lt60, hc, ncA, hs, hrow, k⟩ := h
    obtain ⟨fs, hq, ff⟩ := FA.obj
    obtain ⟨r1, _⟩ := row_some hrow
    have n2 := S.n
    have n3 := hc.len
    subst n3
    have big : (1001 : Nat) ≤ sizeLine := by decide
    obtain ⟨B1, B2, _⟩ := S.F.bind hc.len hrow place
    have Sm' : Sm c.length (bindL st place c (sharesL st c) r) := Sm.of B1 S.n (by show (st.bases ++ [c]).length ≤ 60; simp; omega) (by show (st.places ++ [place]).length = (st.bases ++ [c]).length; simp; exact S.pl) fun b hb x hx => by
      rcases List.mem_append.mp (show b ∈ st.bases ++ [c] from hb) with h | h
      · exact S.b b h x hx
      · have h : b = c := by simpa using h
        rw [h] at hx; exact hc.fit x hx
    refine ⟨_, (pss_cons
          (ps_set (i := 5) scBind.nd rfl (Or.inr rfl) (pe_meth (pv 0) T.c_Frame c_Frame_weights_of_rest.m c_Frame_weights_of_rest.ok (hr.mono (by decide)) c_Frame_weights_of_rest.b .nil pass0 (pa_cons (pv 4) (pa_cons (pe_callB call_len_seq rfl T.n_len bt_len (pa_cons (pv 2) pa_nil)) pa_nil))))
        (pss_cons
          (ps_if (pt_cmpR op_lt (pe_call c_weigh.ok (hr.mono (by decide)) rfl c_weigh.g c_weigh.kp c_weigh.b .nil pass0 (pa_cons (pv 5) (pa_cons (pv 2) pa_nil))) pe_int (nomark _))
            (pss_one
              (ps_set (i := 5) scBind.nd rfl (Or.inr rfl) (pe_comp (sc := (defScope sBind)) (NX := ["self", "place", "column", "shares", "row", "fresh", "scale"]) (N := ["weight"]) (fr := [none]) ⟨by rfl, by rfl, by decide +kernel, by decide +kernel, by decide +kernel, by rfl, by decide +kernel⟩ rfl rfl rfl (pi_list (pv 5)) (fun _ _ _ _ => (pg_name (i := 0) (show (["weight"] : List Str).Nodup by decide +kernel) rfl (Or.inl rfl) (Or.inr rfl))) (fun _ _ _ _ => pts_nil) (fun _ _ _ _ => (pe_un un_neg (pv 0))))))
            pss_nil)
        (pss_cons
          (ps_set (i := 6) scBind.nd rfl (Or.inr rfl) (pe_call c_weigh.ok (hr.mono (by decide)) rfl c_weigh.g c_weigh.kp c_weigh.b .nil pass0 (pa_cons (pv 5) (pa_cons (pv 2) pa_nil))))
        (pss_cons
          (ps_fld (pv 0) (pe_comp (sc := (defScope sBind)) (NX := ["self", "place", "column", "shares", "row", "fresh", "scale"]) (N := ["weights", "share", "fresh", "scale", "self"]) (fr := [none, none, some 5, some 6, some 0]) ⟨by rfl, by rfl, by decide +kernel, by decide +kernel, by decide +kernel, by rfl, by decide +kernel⟩ rfl rfl rfl (pi_zip rfl T.n_zip (pa_cons (pe_fld (pv 0) rfl) (pa_cons (pv 3) pa_nil))) (fun _ _ _ _ => (pg_tupK K 2 rfl rfl (pgs_cons (pg_name (i := 0) (show (["weights", "share", "fresh", "scale", "self"] : List Str).Nodup by decide +kernel) rfl (Or.inl rfl) (Or.inr rfl)) (pgs_cons (pg_name (i := 1) (show (["weights", "share", "fresh", "scale", "self"] : List Str).Nodup by decide +kernel) rfl (Or.inl rfl) (Or.inr rfl)) pgs_nil)))) (fun _ _ _ _ => pts_nil) (fun _ _ _ _ => (pe_meth (pv 4) T.c_Frame c_Frame_freed.m c_Frame_freed.ok (hr.mono (by decide)) c_Frame_freed.b .nil pass0 (pa_cons (pv 0) (pa_cons (pv 1) (pa_cons (pv 2) (pa_cons (pv 3) pa_nil))))))) rfl)
        (pss_cons
          (ps_expr (pe_bm PySem.F.plainAttrs_list PySem.F.slot_list_append PySem.F.type_list_append mt_append (pe_fld (pv 0) rfl) (pa_cons (pv 5) pa_nil)))
        (pss_cons
          (ps_expr (pe_bm PySem.F.plainAttrs_list PySem.F.slot_list_append PySem.F.type_list_append mt_append (pe_fld (pv 0) rfl) (pa_cons (pv 1) pa_nil)))
        (pss_cons
          (ps_expr (pe_bm PySem.F.plainAttrs_list PySem.F.slot_list_append PySem.F.type_list_append mt_append (pe_fld (pv 0) rfl) (pa_cons (pv 2) pa_nil)))
        (pss_one
          (ps_fld (pv 0) (pv 6) rfl))))))))), ?_⟩
    refine ⟨_, rfl, q, dx, fs, rfl, hq, ff.no _ (by decide +kernel) (by decide +kernel) (by decide +kernel) (by decide +kernel), _, rfl, _, rfl, cA, _, rfl, .inl (SqL.of hc.at'), X, q, dx, aP, aB, aW, st, c.length, r, (by rw [List.length_map]; rfl), FA, S, r1, fun fA H1 hf1 e1 h1 => ?_⟩
    have fs' : ∀ x ∈ signL (freshL st r c.length) c, Fit 4600 x := Sm'.w _ (List.mem_append_right _ (List.mem_singleton.mpr rfl))
    have f0' := sign_fit fs'
    obtain ⟨fl0, _⟩ := fresh_eq S.F r1
    have fS : Fit 4600 (dot (signL (freshL st r c.length) c) c) := Sm'.s
    have few0 := Fit.few (by decide) f0'
    have fewc := Fit.few (by decide) hc.fit
    dsimp only [gName]
    refine join_if (fun σ' H' => ∃ fA' : Addr, σ' = [some (.ref q), some (.int place), some (.ref cA), some (.ref sA), some (.int r), some (.ref fA'), none] ∧ Same H H' ∧ H fA' = none ∧ H' fA' = some (.lst ((signL (freshL st r c.length) c).map V.int)))
      (fun N hN => ⟨_, rfl, _, rfl, fA, cA, freshL st r c.length, c, rfl, SqL.of h1, SqL.of (e1 _ _ hc.at'), by omega, few0, fewc, fun H2 e2 => ⟨_, _, rfl, rfl, _, rfl, ite2 (fun z => ?_) fun z => ?_⟩⟩) ?_
    · have z : dot (freshL st r c.length) c < 0 := by simpa using z
      have h2 := e2 _ _ h1
      refine ⟨_, rfl, fA, rfl, ⟨_, SqL.of h2⟩, fun L hL => comp_lst (K := K) (a := fA) (L := L) (xs := (freshL st r c.length).map V.int) H2 (fun σ => ∃ v : Option V, σ = [v]) (fun i ys => ys = ((freshL st r c.length).take i).map fun x => V.int (-x))
        (SqL.of h2) hL ⟨none, rfl⟩ (Same.new hL) upd_same rfl (by rw [List.length_map]; omega) ?_ ?_ ?_⟩
      · rintro i ys rfl
        rw [List.length_map, List.length_take]; omega
      · rintro i x σ H3 ys hx ⟨v, rfl⟩ hs3 hL3 rfl N2 M2 hN2
        obtain ⟨x, hx', rfl⟩ := int_at hx
        refine ⟨_, rfl, _, rfl, hN2 _ _ _ ⟨_, rfl⟩ hs3 hL3 ?_⟩
        rw [snoc_take hx', List.map_append]
        rfl
      · rintro H3 ys hs3 hL3 rfl
        refine hN _ _ ⟨L, rfl, (e1.trans e2).trans hs3, (e1.trans e2).free hL, ?_⟩
        rw [hL3, List.length_map, List.take_length]
        unfold signL
        rw [if_pos z, List.map_map]
        rfl
    · have z : ¬ dot (freshL st r c.length) c < 0 := by simpa using z
      refine hN _ _ ⟨fA, rfl, e1.trans e2, hf1, ?_⟩
      unfold signL
      rw [if_neg z]
      exact e2 _ _ h1
    rintro σ' H3 ⟨fA', rfl, e3, nf, h3⟩
    clear hf1 e1 h1 fA
    generalize hfr : signL (freshL st r c.length) c = fr at *
    refine ⟨_, rfl, _, rfl, fA', cA, fr, c, rfl, SqL.of h3, SqL.of (e3 _ _ hc.at'), by omega, Fit.few (by decide) fs', fewc, fun H4 e4 => ?_⟩
    have e34 := e3.trans e4
    have h4 := e4 _ _ h3
    obtain ⟨wA, hW, cW⟩ := FA.hW
    obtain ⟨bA, hB, cB⟩ := FA.hB
    have lw := cW.length
    have l1 := wlen S
    have lsh : (sharesL st c).length = st.weights.length := by unfold sharesL; rw [List.length_map]
    have q4 := e34 _ _ hq
    dsimp only [gName]
    refine ⟨_, rfl, q, FC, dx, fs, _, rfl, q4, T.c_Frame, T.na_weights, ff.w, _, rfl, aW, sA, rfl, ⟨_, SqL.of (e34 _ _ hW)⟩, ⟨_, SqL.of (e34 _ _ hs)⟩, fun L hL => comp_zipH (K := K) (a := aW) (c := sA) (L := L) (xs := wA.map V.ref) (zs := (sharesL st c).map V.int) H4
      (fun σ => ∃ v u : Option V, σ = [v, u, some (.ref fA'), some (.int (dot fr c)), some (.ref q)]) (fun i ys H' => ∃ nA : List Addr, ys = nA.map V.ref ∧ ColsN L H H' nA ((List.zipWith (fun w s => freedL st.scale (dot fr c) w s fr) st.weights (sharesL st c)).take i))
      (SqL.of (e34 _ _ hW)) (SqL.of (e34 _ _ hs)) ?_ hL ⟨none, none, rfl⟩ (Same.new hL) upd_same ⟨[], rfl, .nil⟩ (by rw [List.length_map, List.length_map]; have := S.many; omega) ?_ ?_ ?_⟩
    · rintro i ys Ha Hb e ⟨nA, rfl, h⟩
      exact ⟨nA, rfl, h.but e⟩
    · rintro i ys Ha ⟨nA, rfl, h⟩
      have := h.length
      rw [List.length_take] at this
      rw [List.length_map]; omega
    · rintro i x z t σ H5 ys hx hz ht ⟨v, u, rfl⟩ hs5 hL5 ⟨nA, rfl, hn⟩ N M hN
      obtain ⟨a, ha, rfl⟩ := ref_at hx
      obtain ⟨wt, hwt, hwa, _⟩ := cW.get ha
      obtain ⟨z, hz', rfl⟩ := int_at hz
      have hwm := List.mem_of_getElem? hwt
      have hzw : (List.zipWith (fun w s => freedL st.scale (dot fr c) w s fr) st.weights (sharesL st c))[i]? = some (freedL st.scale (dot fr c) wt z fr) := by rw [List.getElem?_zipWith, hwt, hz']
      have e5 : Same H (upd H5 t (.tup [.ref a, .int z])) := (e34.trans hs5).trans (Same.new ht)
      have h5 : (upd H5 t (.tup [.ref a, .int z])) fA' = some (.lst (fr.map V.int)) := Same.new ht _ _ (hs5 _ _ h4)
      refine ⟨t, _, rfl, SqT.of upd_same, rfl, _, _, rfl, _, _, rfl, rfl, _, rfl, q, dx, fs, rfl, e5 _ _ hq, ff.no _ (by decide +kernel) (by decide +kernel) (by decide +kernel) (by decide +kernel), _, rfl, _, rfl, _, rfl, _, rfl, X, q, dx, aP, aB, aW, a, fA', st, c.length, wt, fr, z, dot fr c, rfl, FA.same e5, S, e5 _ _ hwa, h5, S.F.lw wt hwm, B2, fun x hx => (S.w wt hwm x hx).mono (by decide), fun x hx => (fs' x hx).mono (by decide), (shares_fit S hc.fit z (List.mem_of_getElem? hz')).mono (by decide), fS.mono (by decide), fun l H6 hl e6 h6 => ?_⟩
      have hL6 : H6 L = _ := e6 _ _ (Same.new ht _ _ hL5)
      refine hN _ _ _ ⟨_, _, rfl⟩ ((hs5.trans (Same.new ht)).trans e6) hL6 ⟨nA ++ [l], by simp, ?_⟩
      rw [snoc_take hzw]
      exact (hn.but (But.of ((Same.new ht).trans e6))).snoc h6 (Ne.symm (ne_of_none (Same.new ht _ _ hL5) hl)) (e5.free hl)
    rintro H5 ys hs5 hL5 ⟨nA, rfl, hn⟩
    rw [List.take_of_length_le (by rw [List.length_zipWith, List.length_map, List.length_map]; omega)] at hn
    have e5 := e34.trans hs5
    have nL : H L = none := e34.free hL
    have q5 := e5 _ _ hq
    have lnA := hn.length
    rw [List.length_zipWith] at lnA
    have nqL : q ≠ L := ne_of q5 hL5 (by intro z; cases z)
    have nqP : q ≠ aP := ne_of hq FA.hP (by intro z; cases z)
    have nqB : q ≠ aB := ne_of hq hB (by intro z; cases z)
    have nPL : aP ≠ L := ne_of_none FA.hP nL
    have nBL : aB ≠ L := ne_of_none hB nL
    obtain ⟨nPB, _, _, nPX, nBX, _, nqX⟩ := FA.ne
    have P5 := e5 _ _ FA.hP
    have B5 := e5 _ _ hB
    have fL := ff.len
    refine ⟨_, rfl, q, FC, dx, _, rfl, q5, T.c_Frame, T.na_weights, by omega, ?_⟩
    have fw := ff.setW L
    generalize putF "weights" (.ref L) fs = fs2 at *
    have q6 : (upd H5 q (.ins FC dx fs2)) q = some (.ins FC dx fs2) := upd_same
    have L6 : (upd H5 q (.ins FC dx fs2)) L = some (.lst (nA.map V.ref)) := by rw [upd_ne (Ne.symm nqL)]; exact hL5
    have P6 : (upd H5 q (.ins FC dx fs2)) aP = _ := (upd_ne (Ne.symm nqP)).trans P5
    have B6 : (upd H5 q (.ins FC dx fs2)) aB = _ := (upd_ne (Ne.symm nqB)).trans B5
    have k6 : But q H5 (upd H5 q (.ins FC dx fs2)) := But.upd
    generalize upd H5 q (.ins FC dx fs2) = H6 at *
    refine ⟨_, rfl, q, FC, dx, _, _, rfl, q6, T.c_Frame, T.na_weights, fw.w, .inl ⟨rfl, _, SqL.of L6⟩, _, rfl, L, _, _, rfl, rfl, L6, by rw [List.length_map]; omega, ?_⟩
    have q7 : (upd H6 L (.lst (nA.map V.ref ++ [.ref fA']))) q = _ := (upd_ne nqL).trans q6
    have L7 : (upd H6 L (.lst (nA.map V.ref ++ [.ref fA']))) L = some (.lst ((nA ++ [fA']).map V.ref)) := by rw [upd_same]; simp
    have P7 : (upd H6 L (.lst (nA.map V.ref ++ [.ref fA']))) aP = _ := (upd_ne nPL).trans P6
    have B7 : (upd H6 L (.lst (nA.map V.ref ++ [.ref fA']))) aB = _ := (upd_ne nBL).trans B6
    have k7 : But L H6 (upd H6 L (.lst (nA.map V.ref ++ [.ref fA']))) := But.upd
    generalize upd H6 L (.lst (nA.map V.ref ++ [.ref fA'])) = H7 at *
    refine ⟨_, rfl, q, FC, dx, _, _, rfl, q7, T.c_Frame, T.na_places, fw.p, .inl ⟨rfl, _, SqL.of P7⟩, _, rfl, aP, _, _, rfl, rfl, P7, by rw [List.length_map]; have := S.pl; omega, ?_⟩
    have q8 : (upd H7 aP (.lst (st.places.map (fun p => V.int (p : Nat)) ++ [.int place]))) q = _ := (upd_ne nqP).trans q7
    have L8 : (upd H7 aP (.lst (st.places.map (fun p => V.int (p : Nat)) ++ [.int place]))) L = _ := (upd_ne (Ne.symm nPL)).trans L7
    have P8 : (upd H7 aP (.lst (st.places.map (fun p => V.int (p : Nat)) ++ [.int place]))) aP = some (.lst ((st.places ++ [place]).map fun p => V.int (p : Nat))) := by rw [upd_same]; simp
    have B8 : (upd H7 aP (.lst (st.places.map (fun p => V.int (p : Nat)) ++ [.int place]))) aB = _ := (upd_ne (Ne.symm nPB)).trans B7
    have k8 : But aP H7 (upd H7 aP (.lst (st.places.map (fun p => V.int (p : Nat)) ++ [.int place]))) := But.upd
    generalize upd H7 aP (.lst (st.places.map (fun p => V.int (p : Nat)) ++ [.int place])) = H8 at *
    refine ⟨_, rfl, q, FC, dx, _, _, rfl, q8, T.c_Frame, T.na_bases, fw.b, .inl ⟨rfl, _, SqL.of B8⟩, _, rfl, aB, _, _, rfl, rfl, B8, by rw [List.length_map, cB.length]; omega, ?_⟩
    have q9 : (upd H8 aB (.lst (bA.map V.ref ++ [.ref cA]))) q = _ := (upd_ne nqB).trans q8
    have L9 : (upd H8 aB (.lst (bA.map V.ref ++ [.ref cA]))) L = _ := (upd_ne (Ne.symm nBL)).trans L8
    have P9 : (upd H8 aB (.lst (bA.map V.ref ++ [.ref cA]))) aP = _ := (upd_ne nPB).trans P8
    have B9 : (upd H8 aB (.lst (bA.map V.ref ++ [.ref cA]))) aB = some (.lst ((bA ++ [cA]).map V.ref)) := by rw [upd_same]; simp
    have k9 : But aB H8 (upd H8 aB (.lst (bA.map V.ref ++ [.ref cA]))) := But.upd
    generalize upd H8 aB (.lst (bA.map V.ref ++ [.ref cA])) = H9 at *
    have fl2 := fw.len
    refine ⟨_, rfl, _, rfl, q, FC, dx, _, rfl, q9, T.c_Frame, T.na_scale, by omega, ?_⟩
    have k10 : ∀ b o, H5 b = some o → b ≠ q → b ≠ L → b ≠ aP → b ≠ aB → (upd H9 q (.ins FC dx (putF "scale" (.int (dot fr c)) fs2))) b = some o := fun b o h n1 n2 n3 n4 => by
      rw [upd_ne n1]; exact k9 _ _ (k8 _ _ (k7 _ _ (k6 _ _ h n1) n2) n3) n4
    have mem2 : ∀ {b : Addr}, b ∉ aP :: aB :: X → b ≠ aP ∧ b ≠ aB := fun h => ⟨fun z => h (by simp [z]), fun z => h (by simp [z])⟩
    have kl : ∀ b xs, H b = some (.lst xs) → b ∉ aP :: aB :: X → (upd H9 q (.ins FC dx (putF "scale" (.int (dot fr c)) fs2))) b = some (.lst xs) := fun b xs h hn =>
      k10 b _ (e5 _ _ h) (Ne.symm (ne_of hq h (by intro z; cases z))) (ne_of_none h nL) (mem2 hn).1 (mem2 hn).2
    refine k L _ (fun b o h hn => ?_) ⟨⟨_, upd_same, ?_⟩, ?_, ⟨bA ++ [cA], ?_, ?_⟩, ⟨nA ++ [fA'], ?_, ?_⟩, ⟨nPB, Ne.symm nPL, Ne.symm nBL, nPX, nBX, (fun z => by obtain ⟨o, ho⟩ := FA.has _ z; rw [nL] at ho; cases ho), nqX⟩, fun b hb => ?_⟩
    · simp only [List.mem_cons, List.not_mem_nil, or_false, not_or] at hn
      exact k10 b o (e5 _ _ h) hn.1 (ne_of_none h nL) hn.2.1 hn.2.2
    · show FF _ (dot (signL (freshL st r c.length) c) c) aP aB L
      rw [hfr]
      exact fw.setS _
    · rw [upd_ne (Ne.symm nqP)]; exact P9
    · rw [upd_ne (Ne.symm nqB)]; exact B9
    · exact (cB.keepL kl).snoc (kl _ _ hc.at' ncA) ncA
    · rw [upd_ne (Ne.symm nqL)]; exact L9
    · show ColsS (aP :: aB :: X) _ _ (List.zipWith (fun w s => freedL st.scale (dot (signL (freshL st r c.length) c) c) w s (signL (freshL st r c.length) c)) st.weights (sharesL st c) ++ [signL (freshL st r c.length) c])
      rw [hfr]
      have hfA5 := hs5 _ _ h4
      have nfL : fA' ≠ L := ne_of_none h4 hL
      have nfq : fA' ≠ q := Ne.symm (ne_of q5 hfA5 (by intro z; cases z))
      have nfP : fA' ≠ aP := fun z => by rw [z, FA.hP] at nf; cases nf
      have nfB : fA' ≠ aB := fun z => by rw [z, hB] at nf; cases nf
      have nfX : fA' ∉ X := fun z => by obtain ⟨o, ho⟩ := FA.has _ z; rw [nf] at ho; cases ho
      refine (ColsN.toS (W := aP :: aB :: X) (fun b hb => ?_) (fun b xs h n1 n2 => ?_) hn).snoc (k10 _ _ hfA5 nfq nfL nfP nfB) (by simp [nfP, nfB, nfX])
      · simp only [List.mem_cons] at hb
        rcases hb with z | z | z
        · rw [z]; exact ⟨_, FA.hP⟩
        · rw [z]; exact ⟨_, hB⟩
        · exact FA.has b z
      · exact k10 b _ h (Ne.symm (ne_of q5 h (by intro z; cases z))) n1 (mem2 n2).1 (mem2 n2).2
    · obtain ⟨o, ho⟩ := FA.has b hb
      exact ⟨o, k10 b o (e5 _ _ ho) (fun z => nqX (z ▸ hb)) (ne_of_none ho nL) (fun z => nPX (z ▸ hb)) (fun z => nBX (z ▸ hb))⟩
theorem scKInit : FnScope ["self", "free", "bound", "numbers", "weights"] ["self", "free", "bound", "numbers", "weights"] (defScope sKInit) := ⟨rfl, rfl, rfl, by decide +kernel, rfl, by decide +kernel, by decide +kernel⟩
theorem ok_kinit (D : DefI K KC "Kernel.__init__" sKInit ["self", "free", "bound", "numbers", "weights"] []) (T : Txt K mg KC FC) : CalIE P w K mg base 1 KC ["self", "free", "bound", "numbers", "weights"] [] (spKInit KC) := by
  refine D.cal scKInit (fun vs H Q E h => ?_) (fun f cdv A outer s H vs Q E hr h => ?_)
  · obtain ⟨q, dx, a1, a2, a3, a4, x1, x2, x3, x4, rfl, _⟩ := h
    rfl
  · obtain ⟨q, dx, a1, a2, a3, a4, x1, x2, x3, x4, rfl, hq, h1, h2, h3, h4, k⟩ := h
    refine ⟨_, (pss_cons
          (ps_fld (pv 0) (pe_callTy call_list_of rfl T.n_list bt_list (pa_cons (pv 1) pa_nil)) rfl)
        (pss_cons
          (ps_fld (pv 0) (pe_callTy call_list_of rfl T.n_list bt_list (pa_cons (pv 2) pa_nil)) rfl)
        (pss_cons
          (ps_fld (pv 0) (pe_callTy call_list_of rfl T.n_list bt_list (pa_cons (pv 3) pa_nil)) rfl)
        (pss_one
          (ps_fld (pv 0) (pe_callTy call_list_of rfl T.n_list bt_list (pa_cons (pv 4) pa_nil)) rfl))))), ?_⟩
    have n1 : a1 ≠ q := ne_of h1 hq (by intro z; cases z)
    have n2 : a2 ≠ q := ne_of h2 hq (by intro z; cases z)
    have n3 : a3 ≠ q := ne_of h3 hq (by intro z; cases z)
    have n4 : a4 ≠ q := ne_of h4 hq (by intro z; cases z)
    have len : ∀ (f : Str) (v : V) (fs : List (Str × V)) (n : Nat), fs.length ≤ n → (putF f v fs).length ≤ n + 1 := fun f v fs n h => Nat.le_trans (length_putF f v fs) (by omega)
    refine ⟨_, rfl, a1, _, rfl, .inl (SqL.of h1), fun b1 hb1 => ⟨_, rfl, q, KC, dx, _, rfl, by rw [upd_ne (ne_of_none hq hb1)]; exact hq, T.c_Kernel, T.na_free, (by show 0 < 1000; decide), ?_⟩⟩
    have m1 : b1 ≠ q := Ne.symm (ne_of_none hq hb1)
    have q1 : (upd (upd H b1 (.lst x1)) q (.ins KC dx (putF "free" (.ref b1) []))) q = some (.ins KC dx (putF "free" (.ref b1) [])) := upd_same
    have l1 : (upd (upd H b1 (.lst x1)) q (.ins KC dx (putF "free" (.ref b1) []))) b1 = some (.lst x1) := by rw [upd_ne m1]; exact upd_same
    have e1 : But q H (upd (upd H b1 (.lst x1)) q (.ins KC dx (putF "free" (.ref b1) []))) := (But.of (Same.new hb1)).trans But.upd
    generalize upd (upd H b1 (.lst x1)) q (.ins KC dx (putF "free" (.ref b1) [])) = H1 at *
    refine ⟨_, rfl, a2, _, rfl, .inl (SqL.of (e1 _ _ h2 n2)), fun b2 hb2 => ⟨_, rfl, q, KC, dx, _, rfl, by rw [upd_ne (ne_of_none q1 hb2)]; exact q1, T.c_Kernel, T.na_bound, by have := len "free" (.ref b1) [] 0 (by simp); omega, ?_⟩⟩
    have m2 : b2 ≠ q := Ne.symm (ne_of_none q1 hb2)
    have q2 : (upd (upd H1 b2 (.lst x2)) q (.ins KC dx (putF "bound" (.ref b2) (putF "free" (.ref b1) [])))) q = some (.ins KC dx (putF "bound" (.ref b2) (putF "free" (.ref b1) []))) := upd_same
    have l2 : (upd (upd H1 b2 (.lst x2)) q (.ins KC dx (putF "bound" (.ref b2) (putF "free" (.ref b1) [])))) b2 = some (.lst x2) := by rw [upd_ne m2]; exact upd_same
    have e2 : But q H1 (upd (upd H1 b2 (.lst x2)) q (.ins KC dx (putF "bound" (.ref b2) (putF "free" (.ref b1) [])))) := (But.of (Same.new hb2)).trans But.upd
    generalize upd (upd H1 b2 (.lst x2)) q (.ins KC dx (putF "bound" (.ref b2) (putF "free" (.ref b1) []))) = H2 at *
    have e12 := e1.trans e2
    refine ⟨_, rfl, a3, _, rfl, .inl (SqL.of (e12 _ _ h3 n3)), fun b3 hb3 => ⟨_, rfl, q, KC, dx, _, rfl, by rw [upd_ne (ne_of_none q2 hb3)]; exact q2, T.c_Kernel, T.na_numbers, by have := len "bound" (.ref b2) _ 1 (len "free" (.ref b1) [] 0 (by simp)); omega, ?_⟩⟩
    have m3 : b3 ≠ q := Ne.symm (ne_of_none q2 hb3)
    have q3 : (upd (upd H2 b3 (.lst x3)) q (.ins KC dx (putF "numbers" (.ref b3) (putF "bound" (.ref b2) (putF "free" (.ref b1) []))))) q = some (.ins KC dx (putF "numbers" (.ref b3) (putF "bound" (.ref b2) (putF "free" (.ref b1) [])))) := upd_same
    have l3 : (upd (upd H2 b3 (.lst x3)) q (.ins KC dx (putF "numbers" (.ref b3) (putF "bound" (.ref b2) (putF "free" (.ref b1) []))))) b3 = some (.lst x3) := by rw [upd_ne m3]; exact upd_same
    have e3 : But q H2 (upd (upd H2 b3 (.lst x3)) q (.ins KC dx (putF "numbers" (.ref b3) (putF "bound" (.ref b2) (putF "free" (.ref b1) []))))) := (But.of (Same.new hb3)).trans But.upd
    generalize upd (upd H2 b3 (.lst x3)) q (.ins KC dx (putF "numbers" (.ref b3) (putF "bound" (.ref b2) (putF "free" (.ref b1) [])))) = H3 at *
    have e13 := e12.trans e3
    refine ⟨_, rfl, a4, _, rfl, .inl (SqL.of (e13 _ _ h4 n4)), fun b4 hb4 => ⟨_, rfl, q, KC, dx, _, rfl, by rw [upd_ne (ne_of_none q3 hb4)]; exact q3, T.c_Kernel, T.na_kweights, by have := len "numbers" (.ref b3) _ 2 (len "bound" (.ref b2) _ 1 (len "free" (.ref b1) [] 0 (by simp))); omega, ?_⟩⟩
    have m4 : b4 ≠ q := Ne.symm (ne_of_none q3 hb4)
    have e4 : But q H3 (upd (upd H3 b4 (.lst x4)) q (.ins KC dx (putF "weights" (.ref b4) (putF "numbers" (.ref b3) (putF "bound" (.ref b2) (putF "free" (.ref b1) [])))))) := (But.of (Same.new hb4)).trans But.upd
    have back : ∀ {Hx : Hp} {b : Addr}, But q H Hx → b ≠ q → Hx b = none → H b = none := fun {Hx b} e n h => by
      cases z : H b with
      | none => rfl
      | some o => rw [e b o z n] at h; cases h
    refine k b1 b2 b3 b4 _ _ ⟨hb1, back e1 m2 hb2, back e12 m3 hb3, back e13 m4 hb4⟩ ⟨upd_same, KFl.mk4 b1 b2 b3 b4⟩ (e4 _ _ (e3 _ _ (e2 _ _ l1 m1) m1) m1) (e4 _ _ (e3 _ _ l2 m2) m2) (e4 _ _ l3 m3) (by rw [upd_ne m4]; exact upd_same) fun b o h n => (e13.trans e4) b o h n
theorem scKernel : FnScope ["columns", "frame", "free", "numbers", "place", "column", "shares", "row"] ["columns"] (defScope sKernel) := ⟨rfl, rfl, rfl, by decide +kernel, rfl, by decide +kernel, by decide +kernel⟩
theorem ok_kernel (D : Def K mg "kernel" "kernel" sKernel ["columns"]) (T : Txt K mg KC FC) (c1 : CalIE P w K mg base 1 FC ["self"] [] (spFInit FC)) (c2 : CalIE P w K mg base 1 KC ["self", "free", "bound", "numbers", "weights"] [] (spKInit KC)) (c3 : CalME P w K mg base 2 FC "shares" ["self", "column"] (spShares FC))
    (c4 : CalME P w K mg base 2 FC "row_with_rest" ["self", "column", "shares"] (spRow FC)) (c5 : CalME P w K mg base 3 FC "levelling" ["self", "place", "shares", "many"] (spLev FC)) (c6 : CalME P w K mg base 2 FC "bind" ["self", "place", "column", "shares", "row"] (spBind FC)) :
    CalE P w K mg base 4 "kernel" ["columns"] (spKernel KC) := by
  obtain ⟨_, _, c_Frame⟩ := c1
  obtain ⟨_, _, c_Kernel⟩ := c2
  obtain ⟨_, _, c_Frame_shares⟩ := c3
  obtain ⟨_, _, c_Frame_row_with_rest⟩ := c4
  obtain ⟨_, _, c_Frame_levelling⟩ := c5
  obtain ⟨_, _, c_Frame_bind⟩ := c6
  obtain ⟨_, v_Frame_0, b_Frame_0⟩ := c_Frame.b 0 (by decide)
  obtain ⟨_, v_Kernel_0, b_Kernel_0⟩ := c_Kernel.b 0 (by decide)
  refine D.cal scKernel (fun vs H Q E h => ?_) (fun f cdv A outer s H vs Q E hr h => ?_)
  · obtain ⟨p, as, cs, n, rfl, _⟩ := h
    rfl
  · obtain ⟨p, as, cs, n, rfl, hp, hco, hcs, hn, hl, k⟩ := h
    have big : (1001 : Nat) ≤ sizeLine := by decide
    have las := hco.length
    refine ⟨_, (pss_cons
          (ps_set (i := 1) scKernel.nd rfl (Or.inl rfl) (pe_make0 c_Frame.m c_Frame.ok (hr.mono (by decide)) rfl T.g_Frame b_Frame_0 v_Frame_0 pass0))
        (pss_cons
          (ps_set (i := 2) scKernel.nd rfl (Or.inl rfl) (pe_lst pa_nil))
        (pss_cons
          (ps_set (i := 3) scKernel.nd rfl (Or.inl rfl) (pe_lst pa_nil))
        (pss_cons
          (ps_for PassesOwn.never rfl (pi_enum rfl T.n_enumerate (pa_cons (pv 0) pa_nil)) (pg_tup rfl (pgs_cons (pg_name (i := 4) scKernel.nd rfl (Or.inl rfl)) (pgs_cons (pg_name (i := 5) scKernel.nd rfl (Or.inl rfl)) pgs_nil)))
            (pss_cons
              (ps_set (i := 6) scKernel.nd rfl (Or.inl rfl) (pe_meth (pv 1) T.c_Frame c_Frame_shares.m c_Frame_shares.ok (hr.mono (by decide)) c_Frame_shares.b .nil pass0 (pa_cons (pv 5) pa_nil)))
            (pss_cons
              (ps_set (i := 7) scKernel.nd rfl (Or.inl rfl) (pe_meth (pv 1) T.c_Frame c_Frame_row_with_rest.m c_Frame_row_with_rest.ok (hr.mono (by decide)) c_Frame_row_with_rest.b .nil pass0 (pa_cons (pv 5) (pa_cons (pv 6) pa_nil))))
            (pss_one
              (ps_if (pt_cmp (pc_isN (pv 7)))
                (pss_cons
                  (ps_expr (pe_bm PySem.F.plainAttrs_list PySem.F.slot_list_append PySem.F.type_list_append mt_append (pv 2) (pa_cons (pv 4) pa_nil)))
                (pss_one
                  (ps_expr (pe_bm PySem.F.plainAttrs_list PySem.F.slot_list_append PySem.F.type_list_append mt_append (pv 3) (pa_cons (pe_meth (pv 1) T.c_Frame c_Frame_levelling.m c_Frame_levelling.ok (hr.mono (by decide)) c_Frame_levelling.b .nil pass0 (pa_cons (pv 4) (pa_cons (pv 6) (pa_cons (pe_callB call_len_seq rfl T.n_len bt_len (pa_cons (pv 0) pa_nil)) pa_nil)))) pa_nil)))))
                (pss_one
                  (ps_expr (pe_meth (pv 1) T.c_Frame c_Frame_bind.m c_Frame_bind.ok (hr.mono (by decide)) c_Frame_bind.b .nil pass0 (pa_cons (pv 4) (pa_cons (pv 5) (pa_cons (pv 6) (pa_cons (pv 7) pa_nil))))))))))))
        (pss_one
          (ps_ret (pe_make c_Kernel.m c_Kernel.ok (hr.mono (by decide)) rfl T.g_Kernel b_Kernel_0 v_Kernel_0 pass0 (pa_cons (pv 2) (pa_cons (pe_fld (pv 1) rfl) (pa_cons (pv 3) (pa_cons (pe_fld (pv 1) rfl) pa_nil))))))))))), ?_⟩
    refine fun q dx nq ndx neq => ⟨q, dx, rfl, upd_same, fun aP aB aW H1 hP1 hB1 FA1 kp1 => ⟨rfl, ?_⟩⟩
    have s1 : Same H H1 := fun b o h => kp1 b o (by rw [upd_ne (ne_of_none h nq), upd_ne (ne_of_none h ndx)]; exact h) (ne_of_none h nq)
    refine ⟨(by show 0 ≤ sizeLine; omega), fun fr hfr => ⟨(by show 0 ≤ sizeLine; omega), fun nu hnu => ?_⟩⟩
    have FA2 : FrameAt FC [nu, fr] (upd (upd H1 fr (.lst [])) nu (.lst [])) q dx aP aB aW ⟨1, [], [], []⟩ := (FA1.more (o := .lst []) hfr (Same.new hfr) upd_same).more (o := .lst []) hnu (Same.new hnu) upd_same
    have f2 : (upd (upd H1 fr (.lst [])) nu (.lst [])) fr = some (.lst []) := by rw [upd_ne (ne_of_none upd_same hnu)]; exact upd_same
    have u2 : (upd (upd H1 fr (.lst [])) nu (.lst [])) nu = some (.lst []) := upd_same
    have nfu : fr ≠ nu := ne_of_none upd_same hnu
    have s2 : Same H (upd (upd H1 fr (.lst [])) nu (.lst [])) := (s1.trans (Same.new hfr)).trans (Same.new hnu)
    have nq0 : H q = none := nq
    have nP0 : H aP = none := by
      cases z : H aP with
      | none => rfl
      | some o => rw [upd_ne (ne_of_none z nq), upd_ne (ne_of_none z ndx), z] at hP1; cases hP1
    have nB0 : H aB = none := by
      cases z : H aB with
      | none => rfl
      | some o => rw [upd_ne (ne_of_none z nq), upd_ne (ne_of_none z ndx), z] at hB1; cases hB1
    have nf0 : H fr = none := s1.free hfr
    have nu0 : H nu = none := (s1.trans (Same.new hfr)).free hnu
    generalize upd (upd H1 fr (.lst [])) nu (.lst []) = H2 at *
    have base : ∀ {b : Addr} {o : HO}, H b = some o → b ∉ [q, aP, aB] ∧ b ∉ [fr, nu] := fun {b o} h => by
      have a1 := ne_of_none h nq0
      have a2 := ne_of_none h nP0
      have a3 := ne_of_none h nB0
      have a4 := ne_of_none h nf0
      have a5 := ne_of_none h nu0
      simp [a1, a2, a3, a4, a5]
    dsimp only [gName]
    refine ⟨_, rfl, p, rfl, ⟨_, SqL.of (s2 _ _ hp)⟩, for_enum (K := K) (a := p) (xs := as.map V.ref) (fun i σ H' => ∃ (aW : Addr) (nA : List Addr) (v4 v5 v6 v7 : Option V), σ = [some (.ref p), some (.ref q), some (.ref fr), some (.ref nu), v4, v5, v6, v7] ∧ Same H H' ∧ FrameAt FC [nu, fr] H' q dx aP aB aW (kerL cs.length (cs.take i)).st ∧
        H' fr = some (.lst ((kerL cs.length (cs.take i)).free.map fun p => V.int (p : Nat))) ∧ H' nu = some (.lst (nA.map V.ref)) ∧ ColsS [q, aP, aB, fr, nu] H' nA (kerL cs.length (cs.take i)).numbers ∧ ∀ a ∈ nA, H a = none)
      ⟨aW, [], none, none, none, none, rfl, s2, FA2, f2, u2, .nil, fun a h => by cases h⟩ ?_ ?_ ?_⟩
    · rintro i σ H' ⟨aW, nA, v4, v5, v6, v7, rfl, e, _⟩
      exact SqL.of (e _ _ hp)
    · rintro i x t σ H' hx ht ⟨aW, nA, v4, v5, v6, v7, rfl, e, FA, hf', hu', hnA, nn⟩
      obtain ⟨cA, hcA, rfl⟩ := ref_at hx
      obtain ⟨c, hci, hca, _⟩ := hco.get hcA
      have hcm := List.mem_of_getElem? hci
      obtain ⟨lc, fc⟩ := hcs c hcm
      have hi : i < cs.length := (List.getElem?_eq_some_iff.mp hci).1
      have I := came (n := n) (many := cs.length) (fun c h => (hcs c h).1) i (by omega)
      have S := I.sm hn (by omega) fun c h => (hcs c h).2
      have stp : kerL cs.length (cs.take (i + 1)) = stepL cs.length (kerL cs.length (cs.take i)) i c := by rw [snoc_take hci, kerL_snoc, List.length_take, Nat.min_eq_left (by omega)]
      generalize kerL cs.length (cs.take i) = x at *
      have et : Same H' (upd H' t (.tup [.int i, .ref cA])) := Same.new ht
      refine ⟨t, _, rfl, SqT.of upd_same, rfl, _, _, rfl, _, _, rfl, rfl, ?_⟩
      replace hf' := et _ _ hf'
      replace hu' := et _ _ hu'
      replace FA := FA.same et
      replace hnA := hnA.same et
      replace e := e.trans et
      generalize upd H' t (.tup [.int i, .ref cA]) = H3 at *
      obtain ⟨fs, hq, ff⟩ := FA.obj
      dsimp only [gName]
      refine ⟨_, rfl, q, dx, fs, rfl, hq, ff.no _ (by decide +kernel) (by decide +kernel) (by decide +kernel) (by decide +kernel), _, rfl, [nu, fr], q, dx, aP, aB, aW, cA, x.st, n, c, rfl, FA, S, ⟨e _ _ hca, lc, fc⟩, fun sA H4 hs4 e4 h4 => ?_⟩
      have FA4 := FA.same e4
      refine ⟨_, rfl, q, dx, fs, rfl, e4 _ _ hq, ff.no _ (by decide +kernel) (by decide +kernel) (by decide +kernel) (by decide +kernel), _, rfl, _, rfl, [nu, fr], q, dx, aP, aB, aW, cA, sA, x.st, n, c, rfl, FA4, S, ⟨(e.trans e4) _ _ hca, lc, fc⟩, h4, fun H5 e5 => ⟨fun r hrow => ?_, fun hrow => ?_⟩⟩
      · -- bound
        have FA5 := FA4.same e5
        have s5 := e5 _ _ h4
        have e35 := e4.trans e5
        have ncA : cA ∉ aP :: aB :: [nu, fr] := fun z => by
          have b := base hca
          simp only [List.mem_cons, List.not_mem_nil, or_false, not_or] at b z
          rcases z with z | z | z | z
          · exact b.1.2.1 z
          · exact b.1.2.2 z
          · exact b.2.2 z
          · exact b.2.1 z
        refine ⟨_, rfl, _, rfl, iteN (by intro z; cases z) ⟨_, rfl, q, dx, fs, rfl, e35 _ _ hq, ff.no _ (by decide +kernel) (by decide +kernel) (by decide +kernel) (by decide +kernel), _, rfl, _, rfl, _, rfl, _, rfl, [nu, fr], q, dx, aP, aB, aW, cA, sA, x.st, n, c, i, r, rfl, FA5, S, by have := I.few; omega, ⟨(e.trans e35) _ _ hca, lc, fc⟩, ncA, s5, hrow, fun aW' H6 k6 FA6 => ?_⟩⟩
        obtain ⟨_, _, _, nPX, nBX, _, nqX⟩ := FA.ne
        simp only [List.mem_cons, List.not_mem_nil, or_false, not_or] at nPX nBX nqX
        have sx : kerL cs.length (cs.take (i + 1)) = { x with st := bindL x.st i c (sharesL x.st c) r } := by
          rw [stp]; unfold stepL; rw [hrow]
        have kf : H6 fr = _ := k6 _ _ (e35 _ _ hf') (by simp [Ne.symm nqX.2, Ne.symm nPX.2, Ne.symm nBX.2])
        have ku : H6 nu = _ := k6 _ _ (e35 _ _ hu') (by simp [Ne.symm nqX.1, Ne.symm nPX.1, Ne.symm nBX.1])
        refine ⟨aW', nA, _, _, _, _, rfl, fun b o h => k6 _ _ (e35 _ _ (e _ _ h)) (base h).1, by rw [sx]; exact FA6, by rw [sx]; exact kf, ku, by rw [sx]; exact (hnA.same e35).keep fun b o h hb => k6 _ _ h fun z => hb (by simp only [List.mem_cons, List.not_mem_nil, or_false] at z ⊢; rcases z with z | z | z <;> simp [z]), nn⟩
      · -- free
        have FA5 := FA4.same e5
        have s5 := e5 _ _ h4
        have e35 := e4.trans e5
        have f5 := e35 _ _ hf'
        have u5 := e35 _ _ hu'
        have n5 := hnA.same e35
        have q5 := e35 _ _ hq
        have eH5 := e.trans e35
        have lf := I.nf
        have lnn := I.nn
        have lnA := hnA.length
        refine ⟨_, rfl, _, rfl, iteP rfl ⟨_, rfl, .inl ⟨rfl, _, SqL.of f5⟩, _, rfl, fr, _, _, rfl, rfl, f5, by rw [List.length_map]; omega, ?_⟩⟩
        have nfs : sA ≠ fr := fun z => by rw [z] at hs4; rw [hf'] at hs4; cases hs4
        obtain ⟨_, _, _, nPX, nBX, _, nqX⟩ := FA.ne
        simp only [List.mem_cons, List.not_mem_nil, or_false, not_or] at nPX nBX nqX
        have FA6 : FrameAt FC [nu, fr] (upd H5 fr (.lst (x.free.map (fun p => V.int (p : Nat)) ++ [.int i]))) q dx aP aB aW x.st := FA5.but (b := fr) (by simp) But.upd upd_same
        have f6 : (upd H5 fr (.lst (x.free.map (fun p => V.int (p : Nat)) ++ [.int i]))) fr = some (.lst ((x.free ++ [i]).map fun p => V.int (p : Nat))) := by rw [upd_same]; simp
        have u6 : (upd H5 fr (.lst (x.free.map (fun p => V.int (p : Nat)) ++ [.int i]))) nu = _ := (upd_ne (Ne.symm nfu)).trans u5
        have n6 : ColsS [q, aP, aB, fr, nu] (upd H5 fr (.lst (x.free.map (fun p => V.int (p : Nat)) ++ [.int i]))) nA x.numbers := n5.keep fun b o h hb => by rw [upd_ne (fun z => hb (by simp [z]))]; exact h
        have s6 : (upd H5 fr (.lst (x.free.map (fun p => V.int (p : Nat)) ++ [.int i]))) sA = _ := (upd_ne nfs).trans s5
        have eH6 : Same H (upd H5 fr (.lst (x.free.map (fun p => V.int (p : Nat)) ++ [.int i]))) := fun b o h => by rw [upd_ne (ne_of_none h nf0)]; exact eH5 _ _ h
        generalize upd H5 fr (.lst (x.free.map (fun p => V.int (p : Nat)) ++ [.int i])) = H6 at *
        obtain ⟨fs6, q6, ff6⟩ := FA6.obj
        refine ⟨_, rfl, .inl ⟨rfl, _, SqL.of u6⟩, _, rfl, q, dx, fs6, rfl, q6, ff6.no _ (by decide +kernel) (by decide +kernel) (by decide +kernel) (by decide +kernel), _, rfl, _, rfl, _, rfl, p, _, rfl, .inl (SqL.of (eH6 _ _ hp)), [nu, fr], q, dx, aP, aB, aW, sA, x.st, n, c, i, cs.length, (by rw [List.length_map, las]; rfl), FA6, S, fc, s6, hi, by omega, fun p hp => Nat.lt_trans (I.plt p hp) hi, fun l H7 hl e7 h7 => ?_⟩
        have u7 := e7 _ _ u6
        refine ⟨nu, _, _, rfl, rfl, u7, by rw [List.length_map]; omega, ?_⟩
        have sx : kerL cs.length (cs.take (i + 1)) = { x with free := x.free ++ [i], numbers := x.numbers ++ [low (rawL x.st i (sharesL x.st c) cs.length)] } := by
          rw [stp]; unfold stepL; rw [hrow]
        have nlu : l ≠ nu := fun z => by rw [z, u6] at hl; cases hl
        have lW : l ∉ [q, aP, aB, fr, nu] := fun z => by
          obtain ⟨bA6, hB6, _⟩ := FA6.hB
          simp only [List.mem_cons, List.not_mem_nil, or_false] at z
          rcases z with z | z | z | z | z
          · rw [z, q6] at hl; cases hl
          · rw [z, FA6.hP] at hl; cases hl
          · rw [z, hB6] at hl; cases hl
          · rw [z, f6] at hl; cases hl
          · exact nlu z
        have up : ∀ b o, H7 b = some o → b ≠ nu → (upd H7 nu (.lst (nA.map V.ref ++ [.ref l]))) b = some o := fun b o h n => by rw [upd_ne n]; exact h
        refine ⟨aW, nA ++ [l], _, _, _, _, rfl, fun b o h => up _ _ (e7 _ _ (eH6 _ _ h)) (ne_of_none h nu0), by rw [sx]; exact (FA6.same e7).but (b := nu) (by simp) But.upd upd_same, by rw [sx]; exact up _ _ (e7 _ _ f6) nfu, by rw [upd_same]; simp, ?_, fun a ha => ?_⟩
        · rw [sx]
          exact ((n6.same e7).keep fun b o h hb => up _ _ h fun z => hb (by simp [z])).snoc (up _ _ h7 nlu) lW
        · rcases List.mem_append.mp ha with z | z
          · exact nn a z
          · have z : a = l := by simpa using z
            rw [z]; exact eH6.free hl
    · rintro σ H' ⟨aW, nA, v4, v5, v6, v7, rfl, e, FA, hf', hu', hnA, nn⟩
      rw [List.length_map, las, List.take_length] at FA hf' hnA
      obtain ⟨fs, hq, ff⟩ := FA.obj
      obtain ⟨wA, hW, cW⟩ := FA.hW
      refine ⟨_, rfl, _, rfl, q, FC, dx, fs, _, rfl, hq, T.c_Frame, T.na_places, ff.p, _, rfl, _, rfl, q, FC, dx, fs, _, rfl, hq, T.c_Frame, T.na_weights, ff.w, fun kq dk nk ndk nek => ?_⟩
      have sk : Same H' (upd (upd H' dk (.own kq)) kq (.ins KC dk [])) := fun b o h => by rw [upd_ne (ne_of_none h nk), upd_ne (ne_of_none h ndk)]; exact h
      refine ⟨kq, dk, fr, aP, nu, aW, _, _, _, _, rfl, upd_same, sk _ _ hf', sk _ _ FA.hP, sk _ _ hu', sk _ _ hW, fun b1 b2 b3 b4 fs2 H2 ⟨m1, m2, m3, m4⟩ ⟨hk, kfl⟩ l1 l2 l3 l4 kp => ⟨rfl, ?_⟩⟩
      have s2' : Same H' H2 := fun b o h => kp _ _ (sk _ _ h) (ne_of_none h nk)
      have bk : ∀ {b : Addr}, (upd (upd H' dk (.own kq)) kq (.ins KC dk [])) b = none → H b = none := fun h => (e.trans sk).free h
      have toN : ∀ {as : List Addr} {ds : List (List Int)}, (∀ a ∈ as, H a = none) → ColsS [q, aP, aB, fr, nu] H' as ds → ColsN kq H H2 as ds := fun {as ds} hn h => by
        induction h with
        | nil => exact .nil
        | cons hd _ ih => exact .cons ⟨s2' _ _ hd.1, ne_of_none hd.1 nk, hn _ (List.mem_cons_self ..)⟩ (ih fun a ha => hn a (List.mem_cons_of_mem _ ha))
      exact k kq H2 (e.trans s2') ⟨dk, fs2, b1, b2, b3, b4, hk, kfl, ⟨e.free nk, bk m1, bk m2, bk m3, bk m4⟩, l1, l2, ⟨nA, l3, toN nn hnA⟩, wA, l4, (cW.perm (by simp)).same s2'⟩
theorem dvd_gcdL {k : Int} : ∀ (ns : List Int) (c : Int), k ∣ c → (∀ n ∈ ns, k ∣ n) → k ∣ ns.foldl (fun c n => ((Int.gcd c n : Nat) : Int)) c
  | [], c, hc, _ => hc
  | z :: r, c, hc, h => dvd_gcdL r _ (Int.dvd_coe_gcd hc (h z (List.mem_cons_self ..))) fun n hn => h n (List.mem_cons_of_mem _ hn)
theorem low_one {ns : List Int} (h : gcdL ns ≠ 0) : gcdL (low ns) = 1 := by
  have h0 := gcdL_nonneg (low ns)
  have hd : gcdL (low ns) * gcdL ns ∣ gcdL ns := by
    refine dvd_gcdL ns 0 (Int.dvd_zero _) fun n hn => ?_
    rw [← low_scale ns h] at hn
    obtain ⟨m, hm, rfl⟩ := List.mem_map.mp hn
    exact Int.mul_dvd_mul_right _ (gcdL_dvd hm)
  obtain ⟨k, hk⟩ := hd
  have : gcdL (low ns) * k = 1 := by
    have e : gcdL ns * (gcdL (low ns) * k) = gcdL ns * 1 := by rw [Int.mul_one, ← Int.mul_assoc, Int.mul_comm (gcdL ns)]; exact hk.symm
    exact Int.eq_of_mul_eq_mul_left h e
  exact Int.eq_one_of_mul_eq_one_right h0 this
theorem good_ok {n : Nat} {cs : List (List Int)} (hn : n ≤ 1000) (hl : cs.length ≤ 60) (hc : ∀ c ∈ cs, c.length = n ∧ ∀ x ∈ c, Fit 70 x) : Good cs n (kerL cs.length cs) := by
  have hc1 : ∀ c ∈ cs, c.length = n := fun c h => (hc c h).1
  have key : ∀ i, i ≤ cs.length → (kerL cs.length (cs.take i)).st.places.Pairwise (· < ·) ∧ (kerL cs.length (cs.take i)).free.Pairwise (· < ·) ∧ ∀ t ∈ (kerL cs.length (cs.take i)).numbers, gcdL t = 1 := by
    intro i
    induction i with
    | zero => intro _; exact ⟨.nil, .nil, fun t h => by simp [kerL] at h⟩
    | succ i ih =>
      intro hi
      obtain ⟨h1, h2, h3⟩ := ih (by omega)
      obtain ⟨F, pl, t⟩ := told_ok hc1 i (by omega)
      have hci := List.getElem?_eq_getElem (l := cs) (i := i) (by omega)
      rw [snoc_take hci, kerL_snoc, List.length_take, Nat.min_eq_left (by omega)]
      generalize kerL cs.length (cs.take i) = x at *
      generalize cs[i] = c at *
      unfold stepL
      split
      · refine ⟨h1, ?_, fun u hu => ?_⟩
        · rw [List.pairwise_append]
          refine ⟨h2, by simp, fun a ha b hb => ?_⟩
          have hb : b = i := by simpa using hb
          rw [hb]; exact (t.flt a ha).1
        · rcases List.mem_append.mp hu with z | z
          · exact h3 u z
          · have z : u = low (rawL x.st i (sharesL x.st c) cs.length) := by simpa using z
            rw [z]
            refine low_one fun g => ?_
            have nip : i ∉ x.st.places := fun z => Nat.lt_irrefl _ (t.plt i z)
            have ri : (rawL x.st i (sharesL x.st c) cs.length).getD i 0 = x.st.scale := by
              unfold rawL; rw [setF_other _ _ _ nip, getD_set_eq (by simp; omega)]
            have lraw : (rawL x.st i (sharesL x.st c) cs.length).length = cs.length := by unfold rawL; rw [setF_len]; simp
            have hm : x.st.scale ∈ rawL x.st i (sharesL x.st c) cs.length := by
              rw [← ri]; exact List.mem_of_getElem? (getD_at (by omega))
            have := gcdL_dvd hm
            rw [g] at this
            have := Int.zero_dvd.mp this
            obtain ⟨R, G⟩ := F.fr
            have := G.pos
            omega
      · rename_i r hr
        refine ⟨?_, h2, h3⟩
        show (x.st.places ++ [i]).Pairwise (· < ·)
        rw [List.pairwise_append]
        refine ⟨h1, by simp, fun a ha b hb => ?_⟩
        have hb : b = i := by simpa using hb
        rw [hb]; exact t.plt a ha
  have k := key cs.length (Nat.le_refl _)
  have tk := told_ok hc1 cs.length (Nat.le_refl _)
  have nf := numbers_fit (many := cs.length) hn hl hc cs.length (Nat.le_refl _)
  have sm := (came (n := n) (many := cs.length) hc1 cs.length (Nat.le_refl _)).sm hn hl fun c h => (hc c h).2
  have cf := (came (n := n) (many := cs.length) hc1 cs.length (Nat.le_refl _)).nf
  rw [List.take_length] at k tk nf sm cf
  exact ⟨tk.1, tk.2.1, tk.2.2, k.1, k.2.1, k.2.2, nf, sm.w, cf⟩
theorem rep0 (n : Nat) : (List.replicate n [V.int 0]).flatten = (List.replicate n (0 : Int)).map V.int := by
  induction n with
  | zero => rfl
  | succ n ih => rw [List.replicate_succ, List.flatten_cons, ih, List.replicate_succ]; rfl
theorem colsS_pick {W : List Addr} {H : Hp} {as : List Addr} {cs : List (List Int)} (h : ColsS W H as cs) : ∀ (ps : List Nat), (∀ i ∈ ps, i < as.length) → ColsS W H (ps.map fun i => as.getD i 0) (subL cs ps)
  | [], _ => .nil
  | i :: ps, hp => by
    have hi := hp i (List.mem_cons_self ..)
    obtain ⟨c, hc, hs⟩ := h.get (List.getElem?_eq_getElem hi)
    refine .cons ?_ (colsS_pick h ps fun j hj => hp j (List.mem_cons_of_mem _ hj))
    show H (as.getD i 0) = some (.lst ((cs.getD i []).map V.int)) ∧ as.getD i 0 ∉ W
    rw [List.getD_eq_getElem?_getD, List.getD_eq_getElem?_getD, hc, List.getElem?_eq_getElem hi]
    exact hs
theorem scTInit : FnScope ["self", "numbers", "gathered", "first"] ["self", "numbers", "gathered", "first"] (defScope sTInit) := ⟨rfl, rfl, rfl, by decide +kernel, rfl, by decide +kernel, by decide +kernel⟩
theorem ok_tinit (D : DefI K TC "Trial.__init__" sTInit ["self", "numbers", "gathered", "first"] []) (T : TxtL K mg KC FC TC) : CalIE P w K mg base 1 TC ["self", "numbers", "gathered", "first"] [] (spTInit TC) := by
  refine D.cal scTInit (fun vs H Q E h => ?_) (fun f cdv A outer s H vs Q E hr h => ?_)
  · obtain ⟨q, dx, a1, a2, x1, x2, i, rfl, _⟩ := h
    rfl
  · obtain ⟨q, dx, a1, a2, x1, x2, i, rfl, hq, h1, h2, k⟩ := h
    refine ⟨_, (pss_cons
          (ps_fld (pv 0) (pe_callTy call_list_of rfl T.n_list bt_list (pa_cons (pv 1) pa_nil)) rfl)
        (pss_cons
          (ps_fld (pv 0) (pe_callTy call_list_of rfl T.n_list bt_list (pa_cons (pv 2) pa_nil)) rfl)
        (pss_one
          (ps_fld (pv 0) (pv 3) rfl)))), ?_⟩
    have n2 : a2 ≠ q := ne_of h2 hq (by intro z; cases z)
    have len : ∀ (f : Str) (v : V) (fs : List (Str × V)) (n : Nat), fs.length ≤ n → (putF f v fs).length ≤ n + 1 := fun f v fs n h => Nat.le_trans (length_putF f v fs) (by omega)
    refine ⟨_, rfl, a1, _, rfl, .inl (SqL.of h1), fun b1 hb1 => ⟨_, rfl, q, TC, dx, _, rfl, by rw [upd_ne (ne_of_none hq hb1)]; exact hq, T.c_Trial, T.na_tn, (by show 0 < 1000; decide), ?_⟩⟩
    have m1 : b1 ≠ q := Ne.symm (ne_of_none hq hb1)
    have q1 : (upd (upd H b1 (.lst x1)) q (.ins TC dx (putF "numbers" (.ref b1) []))) q = some (.ins TC dx (putF "numbers" (.ref b1) [])) := upd_same
    have l1 : (upd (upd H b1 (.lst x1)) q (.ins TC dx (putF "numbers" (.ref b1) []))) b1 = some (.lst x1) := by rw [upd_ne m1]; exact upd_same
    have e1 : But q H (upd (upd H b1 (.lst x1)) q (.ins TC dx (putF "numbers" (.ref b1) []))) := (But.of (Same.new hb1)).trans But.upd
    generalize upd (upd H b1 (.lst x1)) q (.ins TC dx (putF "numbers" (.ref b1) [])) = H1 at *
    refine ⟨_, rfl, a2, _, rfl, .inl (SqL.of (e1 _ _ h2 n2)), fun b2 hb2 => ⟨_, rfl, q, TC, dx, _, rfl, by rw [upd_ne (ne_of_none q1 hb2)]; exact q1, T.c_Trial, T.na_tg, by have := len "numbers" (.ref b1) [] 0 (by simp); omega, ?_⟩⟩
    have m2 : b2 ≠ q := Ne.symm (ne_of_none q1 hb2)
    have n12 : b1 ≠ b2 := ne_of_none l1 hb2
    have nb2 : H b2 = none := by
      cases z : H b2 with
      | none => rfl
      | some o => rw [e1 _ _ z m2] at hb2; cases hb2
    have q2 : (upd (upd H1 b2 (.lst x2)) q (.ins TC dx (putF "gathered" (.ref b2) (putF "numbers" (.ref b1) [])))) q = some (.ins TC dx (putF "gathered" (.ref b2) (putF "numbers" (.ref b1) []))) := upd_same
    have l2 : (upd (upd H1 b2 (.lst x2)) q (.ins TC dx (putF "gathered" (.ref b2) (putF "numbers" (.ref b1) [])))) b2 = some (.lst x2) := by rw [upd_ne m2]; exact upd_same
    have l21 : (upd (upd H1 b2 (.lst x2)) q (.ins TC dx (putF "gathered" (.ref b2) (putF "numbers" (.ref b1) [])))) b1 = some (.lst x1) := by rw [upd_ne m1, upd_ne n12]; exact l1
    have e2 : But q H (upd (upd H1 b2 (.lst x2)) q (.ins TC dx (putF "gathered" (.ref b2) (putF "numbers" (.ref b1) [])))) := (e1.trans (But.of (Same.new hb2))).trans But.upd
    generalize upd (upd H1 b2 (.lst x2)) q (.ins TC dx (putF "gathered" (.ref b2) (putF "numbers" (.ref b1) []))) = H2 at *
    refine ⟨_, rfl, _, rfl, q, TC, dx, _, rfl, q2, T.c_Trial, T.na_tf, ?_, ?_⟩
    · have := len "gathered" (.ref b2) (putF "numbers" (.ref b1) []) 1 (len "numbers" (.ref b1) [] 0 (by simp))
      omega
    · exact k b1 b2 _ _ hb1 nb2 upd_same (TFl.mk3 b1 b2 i) (by rw [upd_ne m1]; exact l21) (by rw [upd_ne m2]; exact l2) fun b o z w => by rw [upd_ne w]; exact e2 b o z w
theorem scIsLevel : FnScope ["self"] ["self"] (defScope sIsLevel) := ⟨rfl, rfl, rfl, by decide +kernel, rfl, by decide +kernel, by decide +kernel⟩
theorem ok_islevel (D : DefM K TC "is_level" "Trial.is_level" sIsLevel ["self"]) (T : TxtL K mg KC FC TC) : CalME P w K mg base 1 TC "is_level" ["self"] (spIsLevel TC) := by
  refine D.cal scIsLevel (fun vs H Q E h => ?_) (fun f cdv A outer s H vs Q E hr h => ?_)
  · obtain ⟨t, few, wd, x, rfl, _⟩ := h
    rfl
  · obtain ⟨t, few, wd, x, rfl, ⟨dx, fs, a, b, h1, h2, h3, h4, _⟩, q⟩ := h
    refine ⟨_, (pss_one
          (ps_ret (pe_not (pe_callB (call_anyI rfl) rfl T.n_any bt_any (pa_cons (pe_fld (pv 0) rfl) pa_nil))))), ?_⟩
    exact ⟨_, rfl, t, TC, dx, fs, _, rfl, h1, T.c_Trial, T.na_tg, h2.g, b, _, rfl, SqL.of h4, _, rfl, q⟩
theorem scFits : FnScope ["small", "great"] ["small", "great"] (defScope sFits) := ⟨rfl, rfl, rfl, by decide +kernel, rfl, by decide +kernel, by decide +kernel⟩
theorem ok_fits (D : Def K mg "fits" "fits" sFits ["small", "great"]) (T : TxtL K mg KC FC TC) : CalE P w K mg base 1 "fits" ["small", "great"] spFits := by
  refine D.cal scFits (fun vs H Q E h => ?_) (fun f cdv A outer s H vs Q E hr h => ?_)
  · obtain ⟨p, r, xs, ys, rfl, _⟩ := h
    rfl
  · obtain ⟨p, r, xs, ys, rfl, hp, hr', lx, q⟩ := h
    have big : (1001 : Nat) ≤ sizeLine := by decide
    refine ⟨_, (pss_one
          (ps_ret (pe_callB (call_all rfl) rfl T.n_all bt_all (pa_cons (pe_comp (sc := (defScope sFits)) (NX := ["small", "great"]) (N := ["one", "other"]) (fr := [none, none]) ⟨by rfl, by rfl, by decide +kernel, by decide +kernel, by decide +kernel, by rfl, by decide +kernel⟩ rfl rfl rfl (pi_zip rfl T.n_zip (pa_cons (pv 0) (pa_cons (pv 1) pa_nil))) (fun _ _ _ _ => (pg_tupK K 2 rfl rfl (pgs_cons (pg_name (i := 0) (show (["one", "other"] : List Str).Nodup by decide +kernel) rfl (Or.inl rfl) (Or.inr rfl)) (pgs_cons (pg_name (i := 1) (show (["one", "other"] : List Str).Nodup by decide +kernel) rfl (Or.inl rfl) (Or.inr rfl)) pgs_nil)))) (fun _ _ _ _ => pts_nil) (fun _ _ _ _ => (pe_cmpR op_le (pv 0) (pv 1) (nomark _)))) pa_nil)))), ?_⟩
    refine ⟨_, rfl, _, rfl, p, r, rfl, ⟨_, SqL.of hp⟩, ⟨_, SqL.of hr'⟩, fun L hL => comp_zip (K := K) (a := p) (c := r) (L := L) (xs := xs.map V.int) (zs := ys.map V.int) H (fun σ => ∃ v u : Option V, σ = [v, u]) (fun i us => us = (((xs.zip ys).take i).map fun ab => decide (ab.1 ≤ ab.2)).map V.bl ∧ i ≤ (xs.zip ys).length)
      (SqL.of hp) (SqL.of hr') hL ⟨none, none, rfl⟩ (Same.new hL) upd_same ⟨rfl, Nat.zero_le _⟩ (by rw [List.length_map]; omega) ?_ ?_ ?_⟩
    · rintro i us ⟨rfl, _⟩
      rw [List.length_map, List.length_map, List.length_take]
      omega
    · rintro i x z t σ H2 us hx hz ht ⟨v, u, rfl⟩ hs hL2 ⟨rfl, hi⟩ N M hN
      obtain ⟨x, hx', rfl⟩ := int_at hx
      obtain ⟨z, hz', rfl⟩ := int_at hz
      have hzw : (xs.zip ys)[i]? = some (x, z) := by rw [List.getElem?_zip_eq_some]; exact ⟨hx', hz'⟩
      have hil : i + 1 ≤ (xs.zip ys).length := (List.getElem?_eq_some_iff.mp hzw).1
      have hL3 : (upd H2 t (.tup [V.int x, V.int z])) L = _ := Same.new ht _ _ hL2
      refine ⟨t, _, rfl, SqT.of upd_same, rfl, _, _, rfl, _, _, rfl, rfl, _, rfl, _, rfl, _, _, rfl, rfl, hN _ _ _ ⟨_, _, rfl⟩ (hs.trans (Same.new ht)) hL3 ⟨?_, hil⟩⟩
      rw [snoc_take hzw, List.map_append, List.map_append]
      rfl
    · rintro H2 us hs hL2 ⟨rfl, _⟩
      have e : (xs.zip ys).take (min (xs.map V.int).length (ys.map V.int).length) = xs.zip ys := List.take_of_length_le (by rw [List.length_zip, List.length_map, List.length_map]; exact Nat.le_refl _)
      rw [e] at hL2
      refine ⟨L, _, rfl, SqL.of hL2, ?_⟩
      have := q _ hs
      rw [List.all_map]
      exact this
theorem dot_up : ∀ (v y : List Int) (p : Nat), p < v.length → v.length = y.length → dot (upL v p) y = dot v y + y.getD p 0
  | a :: v, b :: y, 0, _, _ => by
    show (a + 1) * b + dot v y = a * b + dot v y + b
    rw [Int.add_mul, Int.one_mul]
    omega
  | a :: v, b :: y, p + 1, h, hl => by
    have ih := dot_up v y p (by simpa using h) (by simpa using hl)
    show a * b + dot (upL v p) y = a * b + dot v y + y.getD p 0
    rw [ih]
    omega
  | [], _, _, h, _ => by simp at h
  | _ :: _, [], _, _, h => by simp at h
theorem gath_up {few : List (List Int)} {wd p : Nat} {v col : List Int} (hv : v.length = few.length) (hc : few[p]? = some col) (hl : col.length = wd) : gath (upL v p) few wd = ((gath v few wd).zip col).map fun ab => ab.1 + ab.2 := by
  have hp : p < few.length := (List.getElem?_eq_some_iff.mp hc).1
  apply List.ext_getElem?
  intro r
  by_cases hr : r < wd
  · have e1 : (gath (upL v p) few wd)[r]? = some (dot (upL v p) (row few r)) := by unfold gath; rw [List.getElem?_map, List.getElem?_range hr]; rfl
    have e2 : (gath v few wd)[r]? = some (dot v (row few r)) := by unfold gath; rw [List.getElem?_map, List.getElem?_range hr]; rfl
    have e3 : col[r]? = some (col.getD r 0) := by rw [List.getD_eq_getElem?_getD, List.getElem?_eq_getElem (by omega)]; rfl
    have e4 : (((gath v few wd).zip col)[r]?) = some (dot v (row few r), col.getD r 0) := by rw [List.getElem?_zip_eq_some]; exact ⟨e2, e3⟩
    have e5 : few.getD p [] = col := by rw [List.getD_eq_getElem?_getD, hc]; rfl
    rw [e1, List.getElem?_map, e4, dot_up v (row few r) p (by omega) (by rw [row_len]; exact hv), row_getD hp, e5]
    rfl
  · rw [List.getElem?_eq_none (by unfold gath; simp; omega), List.getElem?_eq_none (by rw [List.length_map, List.length_zip]; omega)]
theorem scRaised : FnScope ["self", "place", "column", "numbers"] ["self", "place", "column"] (defScope sRaised) := ⟨rfl, rfl, rfl, by decide +kernel, rfl, by decide +kernel, by decide +kernel⟩
theorem ok_raised (D : DefM K TC "raised" "Trial.raised" sRaised ["self", "place", "column"]) (T : TxtL K mg KC FC TC) (c1 : CalIE P w K mg base 1 TC ["self", "numbers", "gathered", "first"] [] (spTInit TC)) : CalME P w K mg base 3 TC "raised" ["self", "place", "column"] (spRaised TC) := by
  obtain ⟨_, _, c_Trial⟩ := c1
  obtain ⟨_, v_Trial_0, b_Trial_0⟩ := c_Trial.b 0 (by decide)
  refine D.cal scRaised (fun vs H Q E h => ?_) (fun f cdv A outer s H vs Q E hr h => ?_)
  · obtain ⟨t, c, p, col, few, wd, x, rfl, _⟩ := h
    rfl
  · obtain ⟨t, c, p, col, few, wd, x, rfl, ⟨dx, fs, a, b, h1, h2, h3, h4, _⟩, hc, hfc, lc, lx, lf, lw, q⟩ := h
    have big : (1001 : Nat) ≤ sizeLine := by decide
    have hp : p < few.length := (List.getElem?_eq_some_iff.mp hfc).1
    have hpx : p < x.1.length := by omega
    have lg : (gath x.1 few wd).length = wd := by unfold gath; simp
    have gx : (x.1.map V.int)[p]? = some (V.int (x.1.getD p 0)) := by
      rw [List.getElem?_map, List.getD_eq_getElem?_getD, List.getElem?_eq_getElem hpx]
      rfl
    have hix : ixN (x.1.map V.int).length (p : Int) = some p := by
      rw [List.length_map]
      unfold ixN
      rw [if_pos (by omega), if_pos (by omega)]
      rfl
    refine ⟨_, (pss_cons
          (ps_set (i := 3) scRaised.nd rfl (Or.inl rfl) (pe_callTy call_list_of rfl T.n_list bt_list (pa_cons (pe_fld (pv 0) rfl) pa_nil)))
        (pss_cons
          (ps_augS (pv 3) (pv 1) get_list pe_int ip_add set_list)
        (pss_one
          (ps_ret (pe_make c_Trial.m c_Trial.ok (hr.mono (by decide)) rfl T.g_Trial b_Trial_0 v_Trial_0 pass0 (pa_cons (pv 3) (pa_cons (pe_comp (sc := (defScope sRaised)) (NX := ["self", "place", "column", "numbers"]) (N := ["one", "other"]) (fr := [none, none]) ⟨by rfl, by rfl, by decide +kernel, by decide +kernel, by decide +kernel, by rfl, by decide +kernel⟩ rfl rfl rfl (pi_zip rfl T.n_zip (pa_cons (pe_fld (pv 0) rfl) (pa_cons (pv 2) pa_nil))) (fun _ _ _ _ => (pg_tupK K 2 rfl rfl (pgs_cons (pg_name (i := 0) (show (["one", "other"] : List Str).Nodup by decide +kernel) rfl (Or.inl rfl) (Or.inr rfl)) (pgs_cons (pg_name (i := 1) (show (["one", "other"] : List Str).Nodup by decide +kernel) rfl (Or.inl rfl) (Or.inr rfl)) pgs_nil)))) (fun _ _ _ _ => pts_nil) (fun _ _ _ _ => (pe_op op_add (pv 0) (pv 1)))) (pa_cons (pv 1) pa_nil)))))))), ?_⟩
    refine ⟨_, rfl, t, TC, dx, fs, _, rfl, h1, T.c_Trial, T.na_tn, h2.n, a, _, rfl, .inl (SqL.of h3), fun n hn => ?_⟩
    refine ⟨_, rfl, _, rfl, n, _, p, _, rfl, rfl, SqL.of upd_same, gx, _, _, rfl, rfl, n, _, _, p, rfl, rfl, upd_same, hix, ?_⟩
    rw [upd_upd]
    have sn := Same.new (o := .lst ((x.1.map V.int).set p (V.int (x.1.getD p 0 + 1)))) hn
    have hn2 : (upd H n (.lst ((x.1.map V.int).set p (V.int (x.1.getD p 0 + 1))))) n = some (.lst ((upL x.1 p).map V.int)) := by
      rw [upd_same]
      unfold upL
      rw [List.map_set]
    generalize upd H n (.lst ((x.1.map V.int).set p (V.int (x.1.getD p 0 + 1)))) = H2 at sn hn2 ⊢
    have h4' := sn _ _ h4
    have hc' := sn _ _ hc
    refine ⟨_, rfl, _, rfl, t, TC, dx, fs, _, rfl, sn _ _ h1, T.c_Trial, T.na_tg, h2.g, _, rfl, b, c, rfl, ⟨_, SqL.of h4'⟩, ⟨_, SqL.of hc'⟩, fun L hL => comp_zip (K := K) (a := b) (c := c) (L := L) (xs := (gath x.1 few wd).map V.int) (zs := col.map V.int) H2 (fun σ => ∃ v u : Option V, σ = [v, u]) (fun i us => us = ((((gath x.1 few wd).zip col).take i).map fun ab => ab.1 + ab.2).map V.int ∧ i ≤ ((gath x.1 few wd).zip col).length)
      (SqL.of h4') (SqL.of hc') hL ⟨none, none, rfl⟩ (Same.new hL) upd_same ⟨rfl, Nat.zero_le _⟩ (by rw [List.length_map]; omega) ?_ ?_ ?_⟩
    · rintro i us ⟨rfl, _⟩
      rw [List.length_map, List.length_map, List.length_take]
      omega
    · rintro i y z u σ H3 us hy hz hu ⟨v1, v2, rfl⟩ hs hL2 ⟨rfl, hi⟩ N M hN
      obtain ⟨y, hy', rfl⟩ := int_at hy
      obtain ⟨z, hz', rfl⟩ := int_at hz
      have hzw : ((gath x.1 few wd).zip col)[i]? = some (y, z) := by rw [List.getElem?_zip_eq_some]; exact ⟨hy', hz'⟩
      have hil : i + 1 ≤ ((gath x.1 few wd).zip col).length := (List.getElem?_eq_some_iff.mp hzw).1
      have hL3 : (upd H3 u (.tup [V.int y, V.int z])) L = _ := Same.new hu _ _ hL2
      refine ⟨u, _, rfl, SqT.of upd_same, rfl, _, _, rfl, _, _, rfl, rfl, _, rfl, _, rfl, _, _, rfl, rfl, hN _ _ _ ⟨_, _, rfl⟩ (hs.trans (Same.new hu)) hL3 ⟨?_, hil⟩⟩
      rw [snoc_take hzw, List.map_append, List.map_append]
      rfl
    · rintro H3 us hs hL2 ⟨rfl, _⟩
      have e : ((gath x.1 few wd).zip col).take (min ((gath x.1 few wd).map V.int).length (col.map V.int).length) = (gath x.1 few wd).zip col := List.take_of_length_le (by rw [List.length_zip, List.length_map, List.length_map]; exact Nat.le_refl _)
      rw [e, ← gath_up lx hfc lc] at hL2
      have s3 := sn.trans hs
      have hn3 := hs _ _ hn2
      refine ⟨_, rfl, fun q' dq nq ndq neq => ?_⟩
      have s4 : Same H3 (upd (upd H3 dq (.own q')) q' (.ins TC dq [])) := (Same.new ndq).trans (Same.new (by rw [upd_ne (Ne.symm neq)]; exact nq))
      refine ⟨q', dq, n, L, _, _, ((p : Nat) : Int), rfl, upd_same, s4 _ _ hn3, s4 _ _ hL2, fun b1 b2 fs' H5 nb1 nb2 hq5 tf5 l1 l2 kp => ⟨rfl, q q' H5 ⟨dq, fs', b1, b2, hq5, tf5, l1, l2, ⟨by simp, by simp, by simp⟩, s3.free nq, (s3.trans s4).free nb1, (s3.trans s4).free nb2⟩ fun b' o z => ?_⟩⟩
      have zb : b' ≠ q' := ne_of_none (s3 _ _ z) nq
      exact kp b' o (s4 _ _ (s3 _ _ z)) zb
theorem TriW.has {TC : Addr} {few : List (List Int)} {wd : Nat} {W : List Addr} {H0 H : Hp} {t : Addr} {x : Tri2} (h : TriW TC few wd W H0 H t x) : TriW TC few wd [] noH H t x := h.cast fun b _ _ _ => ⟨by simp, rfl⟩
theorem scAllRaised : FnScope ["self", "columns"] ["self", "columns"] (defScope sAllRaised) := ⟨rfl, rfl, rfl, by decide +kernel, rfl, by decide +kernel, by decide +kernel⟩
theorem ok_allraised (D : DefM K TC "all_raised" "Trial.all_raised" sAllRaised ["self", "columns"]) (T : TxtL K mg KC FC TC) (c1 : CalME P w K mg base 3 TC "raised" ["self", "place", "column"] (spRaised TC)) : CalME P w K mg base 4 TC "all_raised" ["self", "columns"] (spAllRaised TC) := by
  obtain ⟨_, _, c_Trial_raised⟩ := c1
  refine D.cal scAllRaised (fun vs H Q E h => ?_) (fun f cdv A outer s H vs Q E hr h => ?_)
  · obtain ⟨t, l, cA, few, wd, x, rfl, _⟩ := h
    rfl
  · obtain ⟨t, l, cA, few, wd, x, rfl, hT, hl, hco, hwd, lx, lp, lf, lw, q⟩ := h
    have big : (1001 : Nat) ≤ sizeLine := by decide
    obtain ⟨dx, fs, a, b, h1, h2, _⟩ := id hT
    have lc := hco.length
    refine ⟨_, (pss_one
          (ps_ret (pe_comp (sc := (defScope sAllRaised)) (NX := ["self", "columns"]) (N := ["place", "self", "columns"]) (fr := [none, some 0, some 1]) ⟨by rfl, by rfl, by decide +kernel, by decide +kernel, by decide +kernel, by rfl, by decide +kernel⟩ rfl rfl rfl (pi_range2 rfl T.n_range (pa_cons (pe_fld (pv 0) rfl) (pa_cons (pe_callB call_len_seq rfl T.n_len bt_len (pa_cons (pv 1) pa_nil)) pa_nil))) (fun _ _ _ _ => (pg_name (i := 0) (show (["place", "self", "columns"] : List Str).Nodup by decide +kernel) rfl (Or.inl rfl) (Or.inr rfl))) (fun _ _ _ _ => pts_nil) (fun _ _ _ _ => (pe_meth (pv 1) T.c_Trial c_Trial_raised.m c_Trial_raised.ok (hr.mono (by decide)) c_Trial_raised.b .nil pass0 (pa_cons (pv 0) (pa_cons (pe_ix (ix_listK K rfl) (pv 2) (pv 0) (fun _ _ => rfl)) pa_nil))))))), ?_⟩
    refine ⟨_, rfl, t, TC, dx, fs, _, rfl, h1, T.c_Trial, T.na_tf, h2.f, _, rfl, l, _, rfl, .inl (SqL.of hl), _, _, rfl, ⟨by omega, by omega, by omega, by rw [List.length_map]; omega⟩, fun L hL => comp_rngH (L := L) H (fun σ => ∃ v : Option V, σ = [v, some (.ref t), some (.ref l)]) (fun i ys H' => ∃ ts : List Addr, ys = ts.map V.ref ∧ TrisW TC few wd [L] H H' ts ((List.range' x.2 i).map fun p => (upL x.1 p, p)))
      ?_ hL ⟨none, rfl⟩ (Same.new hL) upd_same ⟨[], rfl, .nil⟩ (by rw [List.length_map]; omega) ?_ ?_ ?_⟩
    · rintro i ys Ha Hb e ⟨ts, rfl, hts⟩
      exact ⟨ts, rfl, pair_imp (fun _ _ z => z.keep fun b o z1 z2 => e _ _ z1 (by simpa using z2)) hts⟩
    · rintro i ys Ha ⟨ts, rfl, hts⟩
      have := Paired.length hts
      rw [List.length_map, List.length_range'] at this
      rw [List.length_map]
      omega
    · rintro i σ H2 ys hi ⟨v, rfl⟩ hs hL2 ⟨ts, rfl, hts⟩ N M hN
      rw [List.length_map] at hi
      have hp : x.2 + i < few.length := by omega
      have ep : ((x.2 : Nat) : Int) + (i : Int) = ((x.2 + i : Nat) : Int) := by omega
      have ga : cA[x.2 + i]? = some (cA.getD (x.2 + i) 0) := by rw [List.getD_eq_getElem?_getD, List.getElem?_eq_getElem (by omega)]; rfl
      obtain ⟨col, hcol, hca, _⟩ := (hco.same hs).get ga
      dsimp only [gName]
      rw [ep]
      refine ⟨_, rfl, t, dx, fs, rfl, hs _ _ h1, h2.no _ (by decide +kernel) (by decide +kernel) (by decide +kernel), _, rfl, _, rfl, _, rfl, l, _, _, .ref (cA.getD (x.2 + i) 0), rfl, rfl, SqL.of (hs _ _ hl), atI_nat (by rw [List.getElem?_map, ga]; rfl), ?_⟩
      refine ⟨t, cA.getD (x.2 + i) 0, x.2 + i, col, few, wd, x, rfl, hT.same hs, hca, hcol, hwd col (List.mem_of_getElem? hcol), lx, lf, lw, fun t' H3 hT' e3 => hN _ _ _ ⟨_, rfl⟩ (hs.trans e3) (e3 _ _ hL2) ⟨ts ++ [t'], by rw [List.map_append]; rfl, ?_⟩⟩
      rw [List.range'_concat, List.map_append]
      refine pair_snoc (p := TriW TC few wd [L] H H3) ?_ (pair_imp (fun _ _ z => z.same e3) hts)
      have hT' : TriW TC few wd [] H2 H3 t' (upL x.1 (x.2 + 1 * i), x.2 + 1 * i) := by rw [Nat.one_mul]; exact hT'
      exact hT'.cast fun b _ z _ => ⟨by simp only [List.mem_cons, List.not_mem_nil, or_false]; exact Ne.symm (ne_of_none hL2 z), hs.free z⟩
    · rintro H2 ys hs hL2 ⟨ts, rfl, hts⟩
      have e : (((cA.map V.ref).length : Int) - ((x.2 : Nat) : Int)).toNat = few.length - x.2 := by rw [List.length_map]; omega
      rw [e] at hts
      exact q L ts H2 hL hL2 (pair_imp (fun _ _ z => z.cast fun b _ z _ => ⟨by simp, z⟩) hts) hs
theorem rise_len {n : Nat} : ∀ (l : List Nat) (a : Nat), l.Pairwise (· < ·) → (∀ x ∈ l, a ≤ x ∧ x < n) → l.length ≤ n - a
  | [], _, _, _ => Nat.zero_le _
  | x :: r, a, hp, h => by
    rw [List.pairwise_cons] at hp
    have hx := h x (List.mem_cons_self ..)
    have ih := rise_len r (x + 1) hp.2 fun y hy => ⟨hp.1 y hy, (h y (List.mem_cons_of_mem _ hy)).2⟩
    rw [List.length_cons]
    omega
theorem scRowsEnough : FnScope ["columns", "rows", "chosen"] ["columns"] (defScope sRowsEnough) := ⟨rfl, rfl, rfl, by decide +kernel, rfl, by decide +kernel, by decide +kernel⟩
theorem ok_rows (D : Def K mg "rows_enough" "rows_enough" sRowsEnough ["columns"]) (T : TxtL K mg KC FC TC) (c1 : CalE P w K mg base 4 "kernel" ["columns"] (spKernel KC)) : CalE P w K mg base 5 "rows_enough" ["columns"] spRows := by
  obtain ⟨_, _, c_kernel⟩ := c1
  refine D.cal scRowsEnough (fun vs H Q E h => ?_) (fun f cdv A outer s H vs Q E hr h => ?_)
  · obtain ⟨p, as, cs, n, rfl, _⟩ := h
    rfl
  · obtain ⟨p, as, cs, n, rfl, hp, hco, fit, hn, l1, l60, q⟩ := h
    have big : (1001 : Nat) ≤ sizeLine := by decide
    have las := hco.length
    have ga0 : as[0]? = some (as.getD 0 0) := by rw [List.getD_eq_getElem?_getD, List.getElem?_eq_getElem (by omega)]; rfl
    obtain ⟨c0, hc0, hca0, _⟩ := hco.get ga0
    have lc0 := (fit c0 (List.mem_of_getElem? hc0)).1
    refine ⟨_, (pss_cons
          (ps_setCC (i := 1) scRowsEnough.nd rfl (Or.inl rfl) (sc := (defScope sRowsEnough)) (NX := ["columns", "rows", "chosen"]) (N := ["row", "columns"]) (fr := [none, some 0]) ⟨by rfl, by rfl, by decide +kernel, by decide +kernel, by decide +kernel, by rfl, by decide +kernel⟩ rfl rfl rfl (pi_range1 rfl T.n_range (pa_cons (pe_callB call_len_seq rfl T.n_len bt_len (pa_cons (pe_ix ix_list (pv 0) pe_int (fun _ _ => rfl)) pa_nil)) pa_nil)) (fun _ _ _ _ => (pg_name (i := 0) (show (["row", "columns"] : List Str).Nodup by decide +kernel) rfl (Or.inr rfl) (Or.inl rfl))) (fun _ _ _ _ => pts_nil) (fun _ _ _ _ => (pe_comp (sc := (relabelS inRowsEnough (defScope sRowsEnough))) (NX := ["row", "columns"]) (N := ["column", "row"]) (fr := [none, some 0]) ⟨by rfl, by rfl, by decide +kernel, by decide +kernel, by decide +kernel, by rfl, by decide +kernel⟩ rfl rfl rfl (pi_listK K rfl (pv 1)) (fun _ _ _ _ => (pg_name (i := 0) (show (["column", "row"] : List Str).Nodup by decide +kernel) rfl (Or.inl rfl) (Or.inr rfl))) (fun _ _ _ _ => pts_nil) (fun _ _ _ _ => (pe_ix (ix_listK K rfl) (pv 0) (pv 1) (fun _ _ => rfl))))))
        (pss_cons
          (ps_set (i := 2) scRowsEnough.nd rfl (Or.inr rfl) (pe_fld (pe_call c_kernel.ok (hr.mono (by decide)) rfl c_kernel.g c_kernel.kp c_kernel.b .nil pass0 (pa_cons (pv 1) pa_nil)) rfl))
        (pss_one
          (ps_ret (pe_compC (sc := (defScope sRowsEnough)) (NX := ["columns", "rows", "chosen"]) (N := ["column", "chosen"]) (fr := [none, some 2]) ⟨by rfl, by rfl, by decide +kernel, by decide +kernel, by decide +kernel, by rfl, by decide +kernel⟩ rfl rfl rfl (pi_list (pv 0)) (fun _ _ _ _ => (pg_name (i := 0) (show (["column", "chosen"] : List Str).Nodup by decide +kernel) rfl (Or.inr rfl) (Or.inl rfl))) (fun _ _ _ _ => pts_nil) (fun _ _ _ _ => (pe_comp (sc := (relabelS inRowsEnough2 (defScope sRowsEnough))) (NX := ["column", "chosen"]) (N := ["row", "column"]) (fr := [none, some 0]) ⟨by rfl, by rfl, by decide +kernel, by decide +kernel, by decide +kernel, by rfl, by decide +kernel⟩ rfl rfl rfl (pi_listK K rfl (pv 1)) (fun _ _ _ _ => (pg_name (i := 0) (show (["row", "column"] : List Str).Nodup by decide +kernel) rfl (Or.inl rfl) (Or.inr rfl))) (fun _ _ _ _ => pts_nil) (fun _ _ _ _ => (pe_ix (ix_listK K rfl) (pv 1) (pv 0) (fun _ _ => rfl)))))))))), ?_⟩
    refine ⟨_, rfl, p, _, _, .ref (as.getD 0 0), rfl, rfl, SqL.of hp, atI_nat (j := 0) (by rw [List.getElem?_map, ga0]; rfl), as.getD 0 0, _, rfl, .inl (SqL.of hca0), _, rfl, by omega, by rw [List.length_map]; omega, fun L hL => comp_rngH (L := L) H (fun σ => ∃ v : Option V, σ = [v, some (.ref p)]) (fun i ys H' => ∃ rs : List Addr, ys = rs.map V.ref ∧ ColsN L H H' rs ((List.range i).map (row cs)))
      ?_ hL ⟨none, rfl⟩ (Same.new hL) upd_same ⟨[], rfl, .nil⟩ (by rw [List.length_map]; omega) ?_ ?_ ?_⟩
    · rintro i ys Ha Hb e ⟨rs, rfl, hrs⟩
      exact ⟨rs, rfl, ColsN.but e hrs⟩
    · rintro i ys Ha ⟨rs, rfl, hrs⟩
      have := hrs.length
      rw [List.length_map, List.length_range] at this
      rw [List.length_map]
      omega
    · rintro i σ H2 ys hi ⟨v, rfl⟩ hs hL2 ⟨rs, rfl, hrs⟩ N M hN
      have hi : i < n := by
        have : i < (c0.map V.int).length := by simpa using hi
        rw [List.length_map] at this; omega
      dsimp only [gName]
      rw [Int.zero_add]
      refine ⟨_, rfl, p, rfl, ⟨_, SqL.of (hs _ _ hp)⟩, fun L2 hL2' => comp_lst (K := K) (a := p) (L := L2) (xs := as.map V.ref) H2 (fun σ => ∃ v : Option V, σ = [v, some (.int i)]) (fun j ys => ys = ((cs.take j).map fun c => c.getD i 0).map V.int)
        (SqL.of (hs _ _ hp)) hL2' ⟨none, rfl⟩ (Same.new hL2') upd_same rfl (by rw [List.length_map]; omega) ?_ ?_ ?_⟩
      · rintro j ys rfl
        rw [List.length_map, List.length_map, List.length_take]; omega
      · rintro j y σ H3 ys hy ⟨v, rfl⟩ hs3 hL3 rfl N2 M2 hN2
        obtain ⟨aj, haj, rfl⟩ := ref_at hy
        obtain ⟨b, hbj, hba, _⟩ := (hco.same (hs.trans hs3)).get haj
        have gb := getD_at (l := b) (i := i) (by rw [(fit b (List.mem_of_getElem? hbj)).1]; exact hi)
        refine ⟨_, rfl, _, rfl, aj, _, _, .int (b.getD i 0), rfl, rfl, SqL.of hba, atI_nat (by rw [List.getElem?_map, gb]; rfl), hN2 _ _ _ ⟨_, rfl⟩ hs3 hL3 ?_⟩
        rw [snoc_take hbj, List.map_append, List.map_append]
        rfl
      · rintro H3 ys hs3 hL3 rfl
        rw [List.length_map, las, List.take_length] at hL3
        refine hN _ _ _ ⟨_, rfl⟩ (hs.trans hs3) (hs3 _ _ hL2) ⟨rs ++ [L2], by rw [List.map_append]; rfl, ?_⟩
        rw [List.range_succ, List.map_append]
        exact (hrs.but (But.of hs3)).snoc hL3 (Ne.symm (ne_of_none hL2 hL2')) (hs.free hL2')
    rintro H2 ys hs hL2 ⟨rs, rfl, hrs⟩
    have e0 : (((c0.map V.int).length : Nat) : Int).toNat = n := by rw [List.length_map]; omega
    rw [e0] at hrs
    have hrs : ColsN L H H2 rs (rowsL cs n) := hrs
    have lrs := hrs.length
    have lrow : (rowsL cs n).length = n := by unfold rowsL; simp
    have rfit : ∀ c ∈ rowsL cs n, c.length = cs.length ∧ ∀ x ∈ c, Fit 70 x := by
      intro c hc
      obtain ⟨r, hr, rfl⟩ := List.mem_map.mp hc
      refine ⟨row_len cs r, fun x hx => ?_⟩
      obtain ⟨d, hd, rfl⟩ := List.mem_map.mp hx
      have hr : r < n := by simpa using hr
      exact (fit d hd).2 _ (List.mem_of_getElem? (getD_at (by rw [(fit d hd).1]; exact hr)))
    dsimp only [gName]
    refine ⟨_, rfl, L, rs, rowsL cs n, cs.length, rfl, hL2, ColsN.toS (by simp) (fun b xs z _ _ => z) hrs, rfit, by omega, by omega, fun kq H3 e3 KA => ?_⟩
    obtain ⟨dk, fs, b1, b2, b3, b4, hk, kf, _, _, hb2, _⟩ := KA.obj
    have hb2 : H3 b2 = some (.lst ((enoughL cs n).map fun p => V.int (p : Nat))) := hb2
    have g := good_ok (n := cs.length) (cs := rowsL cs n) (by omega) (by omega) rfit
    have pin : ∀ r ∈ enoughL cs n, r < n := fun r hr => by
      have := g.T.plt r hr
      omega
    have ple : (enoughL cs n).length ≤ 60 := by
      have h1 := rise_len (n := n) (enoughL cs n) 0 g.ps fun x hx => ⟨Nat.zero_le _, pin x hx⟩
      omega
    have e13 := hs.trans e3
    refine ⟨kq, KC, dk, fs, _, rfl, hk, T.c_Kernel, T.na_bound, kf.b, ?_⟩
    refine ⟨_, rfl, p, rfl, ⟨_, SqL.of (e13 _ _ hp)⟩, fun L3 hL3 => comp_lstH (K := K) (a := p) (L := L3) (xs := as.map V.ref) H3 (fun σ => ∃ v : Option V, σ = [v, some (.ref b2)]) (fun i ys H' => ∃ ds : List Addr, ys = ds.map V.ref ∧ ColsN L3 H3 H' ds ((fewL cs n).take i))
      (SqL.of (e13 _ _ hp)) ?_ hL3 ⟨none, rfl⟩ (Same.new hL3) upd_same ⟨[], rfl, .nil⟩ (by rw [List.length_map]; omega) ?_ ?_ ?_⟩
    · rintro i ys Ha Hb e ⟨ds, rfl, hds⟩
      exact ⟨ds, rfl, ColsN.but e hds⟩
    · rintro i ys Ha ⟨ds, rfl, hds⟩
      have := hds.length
      rw [List.length_take] at this
      rw [List.length_map]
      omega
    · rintro i y σ H4 ys hy ⟨v, rfl⟩ hs4 hL4 ⟨ds, rfl, hds⟩ N M hN
      obtain ⟨aj, haj, rfl⟩ := ref_at hy
      obtain ⟨c, hcj, hca, _⟩ := (hco.same (e13.trans hs4)).get haj
      have lcj := (fit c (List.mem_of_getElem? hcj)).1
      have hfw : (fewL cs n)[i]? = some ((enoughL cs n).map fun r => c.getD r 0) := by unfold fewL; rw [List.getElem?_map, hcj]; rfl
      refine ⟨_, rfl, b2, rfl, ⟨_, SqL.of (hs4 _ _ hb2)⟩, fun L4 hL4' => comp_lst (K := K) (a := b2) (L := L4) (xs := (enoughL cs n).map fun p => V.int (p : Nat)) H4 (fun σ => ∃ v : Option V, σ = [v, some (.ref aj)]) (fun j ys => ys = (((enoughL cs n).take j).map fun r => c.getD r 0).map V.int)
        (SqL.of (hs4 _ _ hb2)) hL4' ⟨none, rfl⟩ (Same.new hL4') upd_same rfl (by rw [List.length_map]; omega) ?_ ?_ ?_⟩
      · rintro j ys rfl
        rw [List.length_map, List.length_map, List.length_take]; omega
      · rintro j y σ H5 ys hy ⟨v, rfl⟩ hs5 hL5 rfl N2 M2 hN2
        rw [List.getElem?_map] at hy
        cases ez : (enoughL cs n)[j]? with
        | none => rw [ez] at hy; cases hy
        | some r =>
          rw [ez] at hy
          have hy : V.int ((r : Nat) : Int) = y := Option.some.inj hy
          subst hy
          have gb := getD_at (l := c) (i := r) (by rw [lcj]; exact pin r (List.mem_of_getElem? ez))
          refine ⟨_, rfl, _, rfl, aj, _, _, .int (c.getD r 0), rfl, rfl, SqL.of (hs5 _ _ hca), atI_nat (by rw [List.getElem?_map, gb]; rfl), hN2 _ _ _ ⟨_, rfl⟩ hs5 hL5 ?_⟩
          rw [snoc_take ez, List.map_append, List.map_append]
          rfl
      · rintro H5 ys hs5 hL5 rfl
        rw [List.length_map, List.take_length] at hL5
        refine hN _ _ _ ⟨_, rfl⟩ (hs4.trans hs5) (hs5 _ _ hL4) ⟨ds ++ [L4], by rw [List.map_append]; rfl, ?_⟩
        rw [snoc_take hfw]
        exact (hds.but (But.of hs5)).snoc hL5 (Ne.symm (ne_of_none hL4 hL4')) (hs4.free hL4')
    · rintro H4 ys hs4 hL4 ⟨ds, rfl, hds⟩
      have lf : (fewL cs n).length = as.length := by unfold fewL; rw [List.length_map, las]
      rw [List.length_map, ← lf, List.take_length] at hds
      exact q L3 ds H4 (e13.trans hs4) hL4 (ColsN.toS (by simp) (fun b xs z _ _ => z) hds)
theorem dot_zero : ∀ (m : Nat) (y : List Int), dot (List.replicate m 0) y = 0
  | 0, _ => by cases ‹List Int› <;> rfl
  | m + 1, [] => dot_nil _
  | m + 1, b :: y => by
    show 0 * b + dot (List.replicate m 0) y = 0
    rw [Int.zero_mul, dot_zero m y]
    rfl
theorem gath_zero (m : Nat) (few : List (List Int)) (wd : Nat) : gath (List.replicate m 0) few wd = List.replicate wd 0 := by
  unfold gath
  rw [List.eq_replicate_iff]
  refine ⟨by simp, fun b hb => ?_⟩
  obtain ⟨r, _, rfl⟩ := List.mem_map.mp hb
  exact dot_zero m _
theorem grow_snoc {m i : Nat} {ts : List Tri2} {x : Tri2} (h : ts[i]? = some x) : growL m (ts.take (i + 1)) = growL m (ts.take i) ++ (List.range' x.2 (m - x.2)).map fun p => (upL x.1 p, p) := by
  unfold growL
  rw [snoc_take h, List.flatMap_append, List.flatMap_cons, List.flatMap_nil, List.append_nil]
theorem grow_take (m i : Nat) (ts : List Tri2) : (growL m (ts.take i)).length ≤ (growL m ts).length := by
  have e : growL m ts = growL m (ts.take i) ++ growL m (ts.drop i) := by
    unfold growL
    rw [← List.flatMap_append, List.take_append_drop]
  rw [e, List.length_append]
  omega
theorem colsS_app {W : List Addr} {H : Hp} {as as' : List Addr} {cs cs' : List (List Int)} (h : ColsS W H as cs) (h' : ColsS W H as' cs') : ColsS W H (as ++ as') (cs ++ cs') := pair_app h h'
theorem scLeast : FnScope ["columns", "most", "few", "told", "trials", "size", "grown", "trial", "level"] ["columns", "most"] (defScope sLeast) := ⟨rfl, rfl, rfl, by decide +kernel, rfl, by decide +kernel, by decide +kernel⟩
theorem ok_least (D : Def K mg "least" "least" sLeast ["columns", "most"]) (T : TxtL K mg KC FC TC) (c1 : CalE P w K mg base 5 "rows_enough" ["columns"] spRows) (c2 : CalIE P w K mg base 1 TC ["self", "numbers", "gathered", "first"] [] (spTInit TC)) (c3 : CalME P w K mg base 4 TC "all_raised" ["self", "columns"] (spAllRaised TC)) (c4 : CalME P w K mg base 1 TC "is_level" ["self"] (spIsLevel TC)) (c5 : CalE P w K mg base 1 "fits" ["small", "great"] spFits) : CalE P w K mg base 6 "least" ["columns", "most"] spLeast := by
  obtain ⟨_, _, c_rows_enough⟩ := c1
  obtain ⟨_, _, c_Trial⟩ := c2
  obtain ⟨_, _, c_Trial_all_raised⟩ := c3
  obtain ⟨_, _, c_Trial_is_level⟩ := c4
  obtain ⟨_, _, c_fits⟩ := c5
  obtain ⟨_, v_Trial_0, b_Trial_0⟩ := c_Trial.b 0 (by decide)
  refine D.cal scLeast (fun vs H Q E h => ?_) (fun f cdv A outer s H vs Q E hr h => ?_)
  · obtain ⟨p, as, cs, n, most, rfl, _⟩ := h
    rfl
  · obtain ⟨p, as, cs, n, most, rfl, hp, hco, fit, hn, l1, l60, lm, hgr, hto, q⟩ := h
    have hu64 := hr.units
    have big : (5000 : Nat) ≤ sizeLine := by decide
    have lw : (enoughL cs n).length ≤ 60 := by
      have rfit : ∀ c ∈ rowsL cs n, c.length = cs.length ∧ ∀ x ∈ c, Fit 70 x := by
        intro c hc
        obtain ⟨r, hr, rfl⟩ := List.mem_map.mp hc
        refine ⟨row_len cs r, fun x hx => ?_⟩
        obtain ⟨d, hd, rfl⟩ := List.mem_map.mp hx
        have hr : r < n := by simpa using hr
        exact (fit d hd).2 _ (List.mem_of_getElem? (getD_at (by rw [(fit d hd).1]; exact hr)))
      have lrow : (rowsL cs n).length = n := by unfold rowsL; simp
      have g := good_ok (n := cs.length) (cs := rowsL cs n) (by omega) (by omega) rfit
      have := rise_len (n := n) (enoughL cs n) 0 g.ps fun x hx => ⟨Nat.zero_le _, by have := g.T.plt x hx; omega⟩
      omega
    have lfw : (fewL cs n).length = cs.length := by unfold fewL; rw [List.length_map]
    have hwd : ∀ c ∈ fewL cs n, c.length = (enoughL cs n).length := fun c hc => by
      obtain ⟨d, _, rfl⟩ := List.mem_map.mp hc
      rw [List.length_map]
    have nnk := fun k => bfs_ok (levL (fewL cs n) (enoughL cs n).length) cs.length k
    have ntk := fun k => (bfs_told (levL (fewL cs n) (enoughL cs n).length) cs.length k).1
    refine ⟨_, (pss_cons
          (ps_set (i := 2) scLeast.nd rfl (Or.inl rfl) (pe_call c_rows_enough.ok (hr.mono (by decide)) rfl c_rows_enough.g c_rows_enough.kp c_rows_enough.b .nil pass0 (pa_cons (pv 0) pa_nil)))
        (pss_cons
          (ps_set (i := 3) scLeast.nd rfl (Or.inr rfl) (pe_lst pa_nil))
        (pss_cons
          (ps_set (i := 4) scLeast.nd rfl (Or.inl rfl) (pe_lst (pa_cons (pe_make c_Trial.m c_Trial.ok (hr.mono (by decide)) rfl T.g_Trial b_Trial_0 v_Trial_0 pass0 (pa_cons (pe_op op_rep (pe_lst (pa_cons pe_int pa_nil)) (pe_callB call_len_seq rfl T.n_len bt_len (pa_cons (pv 2) pa_nil))) (pa_cons (pe_op op_rep (pe_lst (pa_cons pe_int pa_nil)) (pe_callB call_len_seq rfl T.n_len bt_len (pa_cons (pe_ix ix_list (pv 2) pe_int (fun _ _ => rfl)) pa_nil))) (pa_cons pe_int pa_nil)))) pa_nil)))
        (pss_cons
          (ps_for PassesOwn.never rfl (pi_range1 rfl T.n_range (pa_cons (pv 1) pa_nil)) (pg_name (i := 5) scLeast.nd rfl (Or.inl rfl))
            (pss_cons
              (ps_set (i := 6) scLeast.nd rfl (Or.inl rfl) (pe_lst pa_nil))
            (pss_cons
              (ps_for PassesOwn.never rfl (pi_list (pv 4)) (pg_name (i := 7) scLeast.nd rfl (Or.inl rfl))
                (pss_one
                  (ps_expr (pe_bm PySem.F.plainAttrs_list PySem.F.slot_list_extend PySem.F.type_list_extend mt_extend (pv 6) (pa_cons (pe_meth (pv 7) T.c_Trial c_Trial_all_raised.m c_Trial_all_raised.ok (hr.mono (by decide)) c_Trial_all_raised.b .nil pass0 (pa_cons (pv 2) pa_nil)) pa_nil)))))
            (pss_cons
              (ps_setC (i := 8) scLeast.nd rfl (Or.inl rfl) (sc := (defScope sLeast)) (NX := ["columns", "most", "few", "told", "trials", "size", "grown", "trial", "level"]) (N := ["trial"]) (fr := [none]) ⟨by rfl, by rfl, by decide +kernel, by decide +kernel, by decide +kernel, by rfl, by decide +kernel⟩ rfl rfl rfl (pi_list (pv 6)) (fun _ _ _ _ => (pg_name (i := 0) (show (["trial"] : List Str).Nodup by decide +kernel) rfl (Or.inl rfl) (Or.inr rfl))) (fun _ _ _ _ => (pts_one (pt_val (pe_meth0 (pv 0) T.c_Trial c_Trial_is_level.m c_Trial_is_level.ok (hr.mono (by decide)) c_Trial_is_level.b .nil pass0)))) (fun _ _ _ _ => (pe_fldK K rfl (pv 0) rfl)))
            (pss_cons
              (ps_set (i := 3) scLeast.nd rfl (Or.inr rfl) (pe_op op_cat (pv 3) (pe_compC (sc := (defScope sLeast)) (NX := ["columns", "most", "few", "told", "trials", "size", "grown", "trial", "level"]) (N := ["numbers", "told"]) (fr := [none, some 3]) ⟨by rfl, by rfl, by decide +kernel, by decide +kernel, by decide +kernel, by rfl, by decide +kernel⟩ rfl rfl rfl (pi_list (pv 8)) (fun _ _ _ _ => (pg_name (i := 0) (show (["numbers", "told"] : List Str).Nodup by decide +kernel) rfl (Or.inr rfl) (Or.inl rfl))) (fun _ _ _ _ => (pts_one (pt_not (pt_val (pe_callB (call_anyK K rfl rfl) rfl T.n_any bt_any (pa_cons (pe_comp (sc := (relabelS inLeast (defScope sLeast))) (NX := ["numbers", "told"]) (N := ["other", "numbers"]) (fr := [none, some 0]) ⟨by rfl, by rfl, by decide +kernel, by decide +kernel, by decide +kernel, by rfl, by decide +kernel⟩ rfl rfl rfl (pi_listK K rfl (pv 1)) (fun _ _ _ _ => (pg_name (i := 0) (show (["other", "numbers"] : List Str).Nodup by decide +kernel) rfl (Or.inl rfl) (Or.inr rfl))) (fun _ _ _ _ => pts_nil) (fun _ _ _ _ => (pe_call c_fits.ok (hr.mono (by decide)) rfl c_fits.g c_fits.kp c_fits.b .nil pass0 (pa_cons (pv 0) (pa_cons (pv 1) pa_nil))))) pa_nil)))))) (fun _ _ _ _ => (pv 0)))))
            (pss_one
              (ps_setC (i := 4) scLeast.nd rfl (Or.inl rfl) (sc := (defScope sLeast)) (NX := ["columns", "most", "few", "told", "trials", "size", "grown", "trial", "level"]) (N := ["trial"]) (fr := [none]) ⟨by rfl, by rfl, by decide +kernel, by decide +kernel, by decide +kernel, by rfl, by decide +kernel⟩ rfl rfl rfl (pi_list (pv 6)) (fun _ _ _ _ => (pg_name (i := 0) (show (["trial"] : List Str).Nodup by decide +kernel) rfl (Or.inl rfl) (Or.inr rfl))) (fun _ _ _ _ => (pts_one (pt_not (pt_val (pe_meth0 (pv 0) T.c_Trial c_Trial_is_level.m c_Trial_is_level.ok (hr.mono (by decide)) c_Trial_is_level.b .nil pass0))))) (fun _ _ _ _ => (pv 0)))))))))
        (pss_one
          (ps_ret (pe_callB (call_sortedL hu64) rfl T.n_sorted bt_sorted (pa_cons (pv 3) pa_nil)))))))), ?_⟩
    refine ⟨_, rfl, p, as, cs, n, rfl, hp, hco, fit, hn, l1, l60, fun lf fA H1 e1 hlf hfew => ?_⟩
    generalize hlev : levL (fewL cs n) (enoughL cs n).length = lev at *
    generalize hfe : fewL cs n = few at *
    generalize (enoughL cs n).length = wd at *
    generalize hm : cs.length = m at *
    have lfA := hfew.length
    refine ⟨(by show 0 ≤ sizeLine; decide), fun TL hTL => ?_⟩
    have s2 := Same.new (o := .lst []) hTL
    have hTL2 : (upd H1 TL (.lst [])) TL = some (.lst []) := upd_same
    generalize upd H1 TL (.lst []) = H2 at s2 hTL2 ⊢
    have e2 := e1.trans s2
    dsimp only [gName]
    have ga0 : fA[0]? = some (fA.getD 0 0) := by rw [List.getD_eq_getElem?_getD, List.getElem?_eq_getElem (by omega)]; rfl
    obtain ⟨c0, hc0, hca0, _⟩ := (hfew.same s2).get ga0
    have lc0 := hwd c0 (List.mem_of_getElem? hc0)
    refine ⟨(by show 1 ≤ sizeLine; decide), fun z0 hz0 => ⟨_, rfl, lf, _, rfl, .inl (SqL.of (Same.new hz0 _ _ (s2 _ _ hlf))), z0, _, _, rfl, rfl, upd_same, by omega, by rw [List.length_map]; omega, (by show 1 * _ ≤ _; rw [List.length_map]; omega), fun r0 hr0 => ?_⟩⟩
    have s3 := (Same.new (o := .lst [V.int 0]) hz0).trans (Same.new (o := .lst (List.replicate ((((fA.map V.ref).length : Nat) : Int)).toNat [V.int 0]).flatten) hr0)
    have hr3 : (upd (upd H2 z0 (.lst [V.int 0])) r0 (.lst (List.replicate ((((fA.map V.ref).length : Nat) : Int)).toNat [V.int 0]).flatten)) r0 = some (.lst ((List.replicate m (0 : Int)).map V.int)) := by
      rw [upd_same, rep0, show (((fA.map V.ref).length : Nat) : Int).toNat = m by rw [List.length_map]; omega]
    generalize upd (upd H2 z0 (.lst [V.int 0])) r0 (.lst (List.replicate ((((fA.map V.ref).length : Nat) : Int)).toNat [V.int 0]).flatten) = H3 at s3 hr3 ⊢
    refine ⟨(by show 1 ≤ sizeLine; decide), fun z1 hz1 => ⟨_, rfl, lf, _, _, .ref (fA.getD 0 0), rfl, rfl, SqL.of (Same.new hz1 _ _ (s3 _ _ (s2 _ _ hlf))), atI_nat (j := 0) (by rw [List.getElem?_map, ga0]; rfl), fA.getD 0 0, _, rfl, .inl (SqL.of (Same.new hz1 _ _ (s3 _ _ hca0))), z1, _, _, rfl, rfl, upd_same, by omega, by rw [List.length_map]; omega, (by show 1 * _ ≤ _; rw [List.length_map]; omega), fun r1 hr1 => ?_⟩⟩
    have s4 := (Same.new (o := .lst [V.int 0]) hz1).trans (Same.new (o := .lst (List.replicate ((((c0.map V.int).length : Nat) : Int)).toNat [V.int 0]).flatten) hr1)
    have hr4 : (upd (upd H3 z1 (.lst [V.int 0])) r1 (.lst (List.replicate ((((c0.map V.int).length : Nat) : Int)).toNat [V.int 0]).flatten)) r1 = some (.lst ((List.replicate wd (0 : Int)).map V.int)) := by
      rw [upd_same, rep0, show (((c0.map V.int).length : Nat) : Int).toNat = wd by rw [List.length_map]; omega]
    generalize upd (upd H3 z1 (.lst [V.int 0])) r1 (.lst (List.replicate ((((c0.map V.int).length : Nat) : Int)).toNat [V.int 0]).flatten) = H4 at s4 hr4 ⊢
    refine fun q0 dq nq ndq neq => ?_
    have s5 : Same H4 (upd (upd H4 dq (.own q0)) q0 (.ins TC dq [])) := (Same.new ndq).trans (Same.new (by rw [upd_ne (Ne.symm neq)]; exact nq))
    refine ⟨q0, dq, r0, r1, _, _, 0, rfl, upd_same, s5 _ _ (s4 _ _ hr3), s5 _ _ hr4, fun b1 b2 fs H5 nb1 nb2 hq5 tf5 hb1 hb2 kp => ⟨rfl, ?_⟩⟩
    have s24 := s3.trans s4
    have s25 : Same H2 H5 := fun b o z => kp b o (s5 _ _ (s24 _ _ z)) (ne_of_none (s24 _ _ z) nq)
    have hT5 : TriW TC few wd [] noH H5 q0 (List.replicate m 0, 0) := ⟨dq, fs, b1, b2, hq5, tf5, hb1, by rw [gath_zero]; exact hb2, ⟨by simp, by simp, by simp⟩, rfl, rfl, rfl⟩
    refine ⟨(by show 1 ≤ sizeLine; decide), fun TR hTR => ?_⟩
    have s6 := s25.trans (Same.new (o := .lst [V.ref q0]) hTR)
    have hTR6 : (upd H5 TR (.lst [V.ref q0])) TR = some (.lst ([q0].map V.ref)) := upd_same
    have hT6 := hT5.same (Same.new (o := .lst [V.ref q0]) hTR)
    generalize upd H5 TR (.lst [V.ref q0]) = H6 at s6 hTR6 hT6 ⊢
    have e6 := e2.trans s6
    have hlf6 := s6 _ _ (s2 _ _ hlf)
    have hfew6 := (hfew.same s2).same s6
    dsimp only [gName]
    refine ⟨_, rfl, _, rfl, by omega, by omega, for_range (fun k σ H' => ∃ (TL TR : Addr) (ta tA : List Addr) (v5 v6 v7 v8 : Option V), σ = [some (.ref p), some (.int most), some (.ref lf), some (.ref TL), some (.ref TR), v5, v6, v7, v8] ∧ H' TL = some (.lst (ta.map V.ref)) ∧ ColsS [] H' ta (bfsL lev m k).1 ∧ H' TR = some (.lst (tA.map V.ref)) ∧ TrisW TC few wd [] noH H' tA (bfsL lev m k).2 ∧ Same H6 H') ?_ ?_ ?_⟩
    · exact ⟨TL, TR, [], [q0], none, none, none, none, rfl, s6 _ _ hTL2, .nil, hTR6, .cons hT6 .nil, Same.refl _⟩
    · rintro k σ H7 hk ⟨TL, TR, ta, tA, v5, v6, v7, v8, rfl, hTL, hta, hTR, htA, e7⟩
      have hk : k < most := by omega
      have gl := hgr k (by omega)
      have tl64 := hto k (by omega)
      have hbT : ∀ v ∈ (bfsL lev m k).1, v.length = m := fun v hv => ((ntk k v).mp hv).1.1.1
      obtain ⟨tk1, tk2⟩ := nnk k
      have eb1 : (bfsL lev m (k + 1)).1 = toldL lev m (bfsL lev m k).1 (bfsL lev m k).2 := rfl
      have eb2 : (bfsL lev m (k + 1)).2 = remL lev m (bfsL lev m k).2 := rfl
      have gk := grow_ok tk1 tk2
      rw [eb1, eb2]
      generalize (bfsL lev m k).1 = told at *
      generalize (bfsL lev m k).2 = ts at *
      have lta := hta.length
      have ltA := Paired.length htA
      refine ⟨(by show 0 ≤ sizeLine; decide), fun G hG => ?_⟩
      have sG := Same.new (o := .lst []) hG
      dsimp only [gName]
      refine ⟨_, rfl, TR, rfl, ⟨_, SqL.of (sG _ _ hTR)⟩, for_list (K := K) (a := TR) (xs := tA.map V.ref) (fun i σ H' => ∃ (v7 : Option V) (gA : List Addr), σ = [some (.ref p), some (.int most), some (.ref lf), some (.ref TL), some (.ref TR), some (.int (0 + (k : Int))), some (.ref G), v7, v8] ∧ H' G = some (.lst (gA.map V.ref)) ∧ TrisW TC few wd [G] noH H' gA (growL m (ts.take i)) ∧ Same H7 H') ?_ (fun i σ H' _ ⟨_, _, _, _, _, e⟩ => SqL.of (e _ _ hTR)) ?_ ?_⟩
      · exact ⟨v7, [], rfl, upd_same, .nil, sG⟩
      · rintro i y σ H8 hi ⟨v7, gA, rfl, hG8, hgA, e8⟩
        obtain ⟨t, ht, rfl⟩ := ref_at hi
        obtain ⟨x, hx, hT⟩ := pair_get htA ht
        have hT8 := hT.same e8
        obtain ⟨dx, fs, a, b, h1, h2, _⟩ := id hT8
        have lx := (tk1.nn x (List.mem_of_getElem? hx)).1.1
        have lgA := Paired.length hgA
        refine ⟨_, rfl, .inl ⟨rfl, _, SqL.of hG8⟩, _, rfl, t, dx, fs, rfl, h1, h2.no _ (by decide +kernel) (by decide +kernel) (by decide +kernel), _, rfl, t, lf, fA, few, wd, x, rfl, hT8, e8 _ _ (e7 _ _ hlf6), (hfew6.same e7).same e8, hwd, by omega, by rw [lfw]; exact tk2 x (List.mem_of_getElem? hx), by omega, lw, fun Lr ts' H9 nLr hLr hts e9 => ?_⟩
        have lts := Paired.length hts
        have g1 := grow_snoc (m := m) hx
        have g2 := grow_take m (i + 1) ts
        rw [lfw] at hts lts
        rw [g1, List.length_append] at g2
        have hG9 := e9 _ _ hG8
        have kb : ∀ b o, H9 b = some o → b ∉ [G] → (upd H9 G (.lst (gA.map V.ref ++ ts'.map V.ref))) b = some o := fun b o z w => by rw [upd_ne (by simpa using w)]; exact z
        refine ⟨G, Lr, _, _, rfl, rfl, hG9, hLr, by rw [List.length_map, List.length_map]; omega, _, gA ++ ts', rfl, ?_, ?_, fun b o z => ?_⟩
        · rw [upd_same, List.map_append]
        · rw [g1]
          refine pair_app (pair_imp (fun _ _ z => (z.same e9).keep kb) hgA) (pair_imp (fun _ _ z => ?_) hts)
          have z' : TriW TC few wd [G] noH H9 _ _ := z.cast fun b _ zb _ => ⟨by simp only [List.mem_cons, List.not_mem_nil, or_false]; exact Ne.symm (ne_of_none hG8 zb), rfl⟩
          exact z'.keep kb
        · rw [upd_ne (ne_of_none z hG)]
          exact e9 _ _ (e8 _ _ z)
      · rintro σ H8 ⟨v7, gA, rfl, hG8, hgA, e8⟩
        rw [List.length_map, ltA, List.take_length] at hgA
        have hgA : TrisW TC few wd [] noH H8 gA (growL m ts) := pair_imp (fun _ _ z => z.has) hgA
        have lgA := Paired.length hgA
        generalize hgg : growL m ts = gr at *
        have hTL8 := e8 _ _ hTL
        have hta8 := hta.same e8
        refine ⟨_, rfl, G, rfl, ⟨_, SqL.of hG8⟩, fun L hL => comp_lstT (K := K) (a := G) (L := L) (xs := gA.map V.ref) H8 (fun σ => ∃ v : Option V, σ = [v]) (fun i ys => ∃ la : List Addr, ys = la.map V.ref ∧ la.length ≤ i ∧ ColsS [] H8 la (((gr.take i).filter fun t => lev t.1).map (·.1)))
          (SqL.of hG8) hL ⟨none, rfl⟩ (Same.new hL) upd_same ⟨[], rfl, Nat.le_refl _, .nil⟩ (by rw [List.length_map]; omega) ?_ ?_ ?_⟩
        · rintro i ys ⟨la, rfl, h, _⟩
          rw [List.length_map]
          exact h
        · rintro i y σ H9 ys hy ⟨v, rfl⟩ hs hL9 ⟨la, rfl, lla, hla⟩ N M hN hM
          obtain ⟨t, ht, rfl⟩ := ref_at hy
          obtain ⟨x, hx, hT⟩ := pair_get hgA ht
          have hT9 := hT.same hs
          obtain ⟨dx, fs, a, b, h1, h2, h3, _⟩ := id hT9
          obtain ⟨dx', fs', a', b', h1', h2', h3', _⟩ := id hT
          have ea : a = a' := by
            have z := hs _ _ h1'
            rw [h1] at z
            cases z
            have z2 := h2.n
            rw [h2'.n] at z2
            cases z2
            rfl
          subst ea
          refine ⟨_, rfl, t, dx, fs, rfl, h1, h2.no _ (by decide +kernel) (by decide +kernel) (by decide +kernel), t, few, wd, x, rfl, hT9, _, rfl, ite2 (fun c => ?_) fun c => ?_⟩
          · rw [hlev] at c
            refine ⟨_, rfl, t, TC, dx, fs, _, rfl, h1, T.c_Trial, T.na_tn, h2.n, hN _ _ _ ⟨_, rfl⟩ hs hL9 ⟨la ++ [a], by rw [List.map_append]; rfl, by simp; omega, ?_⟩⟩
            rw [snoc_take hx, List.filter_append, List.map_append, show [x].filter (fun t => lev t.1) = [x] by simp [c]]
            exact hla.snoc h3' (by simp)
          · rw [hlev] at c
            refine hM _ _ ⟨_, rfl⟩ hs hL9 ⟨la, rfl, by omega, ?_⟩
            rw [snoc_take hx, List.filter_append, show [x].filter (fun t => lev t.1) = [] by simp [c], List.append_nil]
            exact hla
        rintro H9 ys hs9 hL9 ⟨la, rfl, _, hla⟩
        rw [List.length_map, lgA, List.take_length] at hla
        have hla9 := hla.same hs9
        generalize hlv : (gr.filter fun t => lev t.1).map (·.1) = lvs at *
        have lla := hla.length
        have llv : lvs.length ≤ gr.length := by rw [← hlv, List.length_map]; exact List.length_filter_le _ _
        have lvm : ∀ v ∈ lvs, v.length = m := fun v hv => by
          rw [← hlv] at hv
          obtain ⟨t, ht, rfl⟩ := List.mem_map.mp hv
          exact (gk.nn t (List.mem_filter.mp ht).1).1.1
        dsimp only [gName]
        refine ⟨_, rfl, _, rfl, L, rfl, ⟨_, SqL.of hL9⟩, fun L2 hL2 => comp_lstT (K := K) (a := L) (L := L2) (xs := la.map V.ref) H9 (fun σ => ∃ v : Option V, σ = [v, some (.ref TL)]) (fun i ys => ∃ lb : List Addr, ys = lb.map V.ref ∧ lb.length ≤ i ∧ ColsS [] H9 lb ((lvs.take i).filter fun v => !(told.any fun u => fitL u v)))
          (SqL.of hL9) hL2 ⟨none, rfl⟩ (Same.new hL2) upd_same ⟨[], rfl, Nat.le_refl _, .nil⟩ (by rw [List.length_map]; omega) ?_ ?_ ?_⟩
        · rintro i ys ⟨lb, rfl, h, _⟩
          rw [List.length_map]
          exact h
        · rintro i y σ H10 ys hy ⟨v, rfl⟩ hs hL10 ⟨lb, rfl, llb, hlb⟩ N M hN hM
          obtain ⟨nj, hnj, rfl⟩ := ref_at hy
          obtain ⟨nv, hnv, hna, _⟩ := hla9.get hnj
          have hna10 := hs _ _ hna
          have hTL10 := hs _ _ (hs9 _ _ hTL8)
          have hta10 := (hta8.same hs9).same hs
          dsimp only [gName]
          refine ⟨_, rfl, TL, rfl, ⟨_, SqL.of hTL10⟩, fun L3 hL3 => comp_lst (K := K) (a := TL) (L := L3) (xs := ta.map V.ref) H10 (fun σ => ∃ v : Option V, σ = [v, some (.ref nj)]) (fun j ys => ys = ((told.take j).map fun u => fitL u nv).map V.bl)
            (SqL.of hTL10) hL3 ⟨none, rfl⟩ (Same.new hL3) upd_same rfl (by rw [List.length_map]; omega) ?_ ?_ ?_⟩
          · rintro j ys rfl
            rw [List.length_map, List.length_map, List.length_take]; omega
          · rintro j y σ H11 ys hy ⟨v, rfl⟩ hs11 hL11 rfl N2 M2 hN2
            obtain ⟨uj, huj, rfl⟩ := ref_at hy
            obtain ⟨u, hu, hua, _⟩ := (hta10.same hs11).get huj
            refine ⟨_, rfl, _, rfl, uj, nj, u, nv, rfl, hua, hs11 _ _ hna10, by rw [hbT u (List.mem_of_getElem? hu)]; omega, fun H12 e12 => hN2 _ _ _ ⟨_, rfl⟩ (hs11.trans e12) (e12 _ _ hL11) ?_⟩
            rw [snoc_take hu, List.map_append, List.map_append]
            rfl
          · rintro H11 ys hs11 hL11 rfl
            rw [List.length_map, lta, List.take_length] at hL11
            have ean : (told.map fun u => fitL u nv).any id = told.any fun u => fitL u nv := by rw [List.any_map]; rfl
            refine ⟨L3, _, rfl, SqL.of hL11, _, rfl, ite2 (fun c => ?_) fun c => ?_⟩
            · rw [ean] at c
              refine ⟨_, rfl, hN _ _ _ ⟨_, rfl⟩ (hs.trans hs11) (hs11 _ _ hL10) ⟨lb ++ [nj], by rw [List.map_append]; rfl, by simp; omega, ?_⟩⟩
              rw [snoc_take hnv, List.filter_append, show [nv].filter (fun v => !(told.any fun u => fitL u v)) = [nv] by simp only [List.filter_cons, c, if_true, List.filter_nil]]
              exact hlb.snoc hna (by simp)
            · rw [ean] at c
              refine hM _ _ ⟨_, rfl⟩ (hs.trans hs11) (hs11 _ _ hL10) ⟨lb, rfl, by omega, ?_⟩
              rw [snoc_take hnv, List.filter_append, show [nv].filter (fun v => !(told.any fun u => fitL u v)) = [] by simp only [List.filter_cons, c, List.filter_nil]; rfl, List.append_nil]
              exact hlb
        rintro H10 ys hs10 hL10 ⟨lb, rfl, llb, hlb⟩
        rw [List.length_map, lla, List.take_length] at hlb
        rw [List.length_map] at llb
        have hTL10 := hs10 _ _ (hs9 _ _ hTL8)
        have hta10 := (hta8.same hs9).same hs10
        refine ⟨TL, L2, _, _, rfl, rfl, hTL10, hL10, by rw [List.length_map, List.length_map]; omega, fun TL' hTL' => ?_⟩
        have sT := Same.new (o := .lst (ta.map V.ref ++ lb.map V.ref)) hTL'
        have hTLn : (upd H10 TL' (.lst (ta.map V.ref ++ lb.map V.ref))) TL' = some (.lst ((ta ++ lb).map V.ref)) := by rw [upd_same, List.map_append]
        generalize upd H10 TL' (.lst (ta.map V.ref ++ lb.map V.ref)) = H11 at sT hTLn ⊢
        have s811 := (hs9.trans hs10).trans sT
        have hG11 := s811 _ _ hG8
        dsimp only [gName]
        refine ⟨_, rfl, G, rfl, ⟨_, SqL.of hG11⟩, fun L4 hL4 => comp_lstT (K := K) (a := G) (L := L4) (xs := gA.map V.ref) H11 (fun σ => ∃ v : Option V, σ = [v]) (fun i ys => ∃ la : List Addr, ys = la.map V.ref ∧ la.length ≤ i ∧ TrisW TC few wd [] noH H11 la ((gr.take i).filter fun t => !lev t.1))
          (SqL.of hG11) hL4 ⟨none, rfl⟩ (Same.new hL4) upd_same ⟨[], rfl, Nat.le_refl _, .nil⟩ (by rw [List.length_map]; omega) ?_ ?_ ?_⟩
        · rintro i ys ⟨la, rfl, h, _⟩
          rw [List.length_map]
          exact h
        · rintro i y σ H12 ys hy ⟨v, rfl⟩ hs hL12 ⟨lc, rfl, llc, hlc⟩ N M hN hM
          obtain ⟨t, ht, rfl⟩ := ref_at hy
          obtain ⟨x, hx, hT⟩ := pair_get hgA ht
          have hT11 := hT.same s811
          have hT12 := hT11.same hs
          obtain ⟨dx, fs, a, b, h1, h2, h3, _⟩ := id hT12
          refine ⟨_, rfl, t, dx, fs, rfl, h1, h2.no _ (by decide +kernel) (by decide +kernel) (by decide +kernel), t, few, wd, x, rfl, hT12, _, rfl, ite2 (fun c => ?_) fun c => ?_⟩
          · rw [hlev] at c
            refine ⟨_, rfl, hN _ _ _ ⟨_, rfl⟩ hs hL12 ⟨lc ++ [t], by rw [List.map_append]; rfl, by simp; omega, ?_⟩⟩
            rw [snoc_take hx, List.filter_append, show [x].filter (fun t => !lev t.1) = [x] by simp only [List.filter_cons, c, if_true, List.filter_nil]]
            exact pair_snoc hT11 hlc
          · rw [hlev] at c
            refine hM _ _ ⟨_, rfl⟩ hs hL12 ⟨lc, rfl, by omega, ?_⟩
            rw [snoc_take hx, List.filter_append, show [x].filter (fun t => !lev t.1) = [] by simp only [List.filter_cons, c, List.filter_nil]; rfl, List.append_nil]
            exact hlc
        rintro H12 ys hs12 hL12 ⟨lc, rfl, llc, hlc⟩
        rw [List.length_map, lgA, List.take_length] at hlc
        refine ⟨TL', L4, ta ++ lb, lc, _, _, _, _, rfl, hs12 _ _ hTLn, ?_, hL12, ?_, (e7.trans e8).trans (s811.trans hs12)⟩
        · unfold toldL
          rw [hgg, hlv]
          exact ((colsS_app hta10 (hlb.same hs10)).same sT).same hs12
        · unfold remL
          rw [hgg]
          exact pair_imp (fun _ _ z => z.same hs12) hlc
    · rintro σ H7 ⟨TL, TR, ta, tA, v5, v6, v7, v8, rfl, hTL, hta, hTR, htA, e7⟩
      have t64 := hto most (Nat.le_refl _)
      have hbT : ∀ v ∈ (bfsL lev m most).1, v.length = m := fun v hv => ((ntk most v).mp hv).1.1.1
      have em : ((most : Nat) : Int).toNat = most := by omega
      rw [em] at hta
      generalize (bfsL lev m most).1 = told at *
      have lta := hta.length
      refine ⟨_, rfl, TL, ta, told, m, rfl, SqL.of hTL, hta.at, hbT, by omega, fun l ps hp1 hp2 hl' => ?_⟩
      have pm : ∀ i ∈ ps, i < ta.length := fun i hi => by simpa using hp1.mem_iff.mp hi
      refine q l _ (subL told ps) _ ((e6.trans e7).free hl') ((e6.trans e7).trans (Same.new hl')) ?_ hp2 upd_same ((colsS_pick hta ps pm).same (Same.new hl'))
      have h1 := hp1.map fun i => told.getD i []
      rw [lta, map_range] at h1
      exact h1
/-! ### least and simple ones -/
theorem dot_mixG {α : Type} (x : Int) (f g : α → Int) : ∀ (z : List Int) (l : List α), dot z (l.map fun a => x * f a + g a) = x * dot z (l.map f) + dot z (l.map g)
  | [], l => by
    have e : ∀ y : List Int, dot [] y = 0 := fun y => by cases y <;> rfl
    rw [e, e, e]
    simp
  | a :: z, [] => by
    show (0 : Int) = x * 0 + 0
    simp
  | a :: z, b :: l => by
    have ih := dot_mixG x f g z l
    show a * (x * f b + g b) + dot z (l.map fun a => x * f a + g a) = x * (a * f b + dot z (l.map f)) + (a * g b + dot z (l.map g))
    rw [ih, Int.mul_add, Int.mul_add, Int.mul_left_comm]
    omega
theorem nil_dot (y : List Int) : dot [] y = 0 := by cases y <;> rfl
theorem dot_nought {α : Type} : ∀ (z : List Int) (l : List α), dot z (l.map fun _ => 0) = 0
  | [], _ => nil_dot _
  | _ :: _, [] => rfl
  | a :: z, _ :: l => by
    show a * 0 + dot z (l.map fun _ => 0) = 0
    rw [dot_nought z l]
    simp
/-- sums of products, the other way about -/
theorem dot_turn {n : Nat} {T : List Int} : ∀ (cs : List (List Int)) (v : List Int), (∀ c ∈ cs, c.length = n) → v.length = cs.length → dot v (cs.map fun c => dot T c) = dot T ((List.range n).map fun r => dot v (row cs r))
  | [], v, _, hv => by
    have e : v = [] := List.length_eq_zero_iff.mp hv
    subst e
    have e2 : ((List.range n).map fun r => dot [] (row [] r)) = (List.range n).map fun _ => (0 : Int) := List.map_congr_left fun r _ => nil_dot _
    rw [e2, dot_nought]
    rfl
  | c :: cs, [], _, hv => by simp at hv
  | c :: cs, x :: v, hc, hv => by
    have ih := dot_turn (T := T) cs v (fun d hd => hc d (List.mem_cons_of_mem _ hd)) (by simpa using hv)
    have lc := hc c (List.mem_cons_self ..)
    have e1 : ((List.range n).map fun r => dot (x :: v) (row (c :: cs) r)) = (List.range n).map fun r => x * c.getD r 0 + dot v (row cs r) := rfl
    have e2 : ((List.range n).map fun r => c.getD r 0) = c := by rw [← lc]; exact map_range 0 c
    rw [e1, dot_mixG, e2, ← ih]
    rfl
theorem dot_lone : ∀ (T D : List Int) (f : Nat), T.length = D.length → f < T.length → (∀ r, r ≠ f → T.getD r 0 = 0 ∨ D.getD r 0 = 0) → dot T D = T.getD f 0 * D.getD f 0
  | a :: T, b :: D, 0, hl, _, h => by
    have z : ∀ (T D : List Int), (∀ r, T.getD r 0 = 0 ∨ D.getD r 0 = 0) → dot T D = 0 := by
      intro T
      induction T with
      | nil => intro D _; exact nil_dot D
      | cons a T ih =>
        intro D h
        cases D with
        | nil => rfl
        | cons b D =>
          have h0 : a = 0 ∨ b = 0 := h 0
          show a * b + dot T D = 0
          rw [ih D fun r => h (r + 1)]
          rcases h0 with h0 | h0 <;> rw [h0] <;> simp
    show a * b + dot T D = a * b
    rw [z T D fun r => h (r + 1) (by omega), Int.add_zero]
  | a :: T, b :: D, f + 1, hl, hf, h => by
    have h0 : a = 0 ∨ b = 0 := h 0 (by omega)
    have ih := dot_lone T D f (by simpa using hl) (by simpa using hf) fun r hr => h (r + 1) (by omega)
    show a * b + dot T D = T.getD f 0 * D.getD f 0
    rw [ih]
    rcases h0 with h0 | h0 <;> rw [h0] <;> simp
  | [], _, _, _, hf, _ => by simp at hf
  | _ :: _, [], _, hl, _, _ => by simp at hl
theorem rows_len (cs : List (List Int)) (n : Nat) : (rowsL cs n).length = n := by unfold rowsL; simp
theorem rows_fit {cs : List (List Int)} {n : Nat} (fit : ∀ c ∈ cs, c.length = n ∧ ∀ x ∈ c, Fit 70 x) : ∀ c ∈ rowsL cs n, c.length = cs.length ∧ ∀ x ∈ c, Fit 70 x := by
  intro c hc
  obtain ⟨r, hr, rfl⟩ := List.mem_map.mp hc
  refine ⟨row_len cs r, fun x hx => ?_⟩
  obtain ⟨d, hd, rfl⟩ := List.mem_map.mp hx
  have hr : r < n := by simpa using hr
  exact (fit d hd).2 _ (List.mem_of_getElem? (getD_at (by rw [(fit d hd).1]; exact hr)))
theorem few_row {cs : List (List Int)} {n j r : Nat} (hj : (enoughL cs n)[j]? = some r) : row (fewL cs n) j = row cs r := by
  unfold row fewL
  rw [List.map_map]
  apply List.map_congr_left
  intro c _
  show ((enoughL cs n).map fun r => c.getD r 0).getD j 0 = _
  rw [List.getD_eq_getElem?_getD, List.getElem?_map, hj]
  rfl
theorem lev_iff (few : List (List Int)) (wd : Nat) (v : List Int) : levL few wd v = true ↔ ∀ r, r < wd → dot v (row few r) = 0 := by
  unfold levL gath
  rw [Bool.not_eq_true', List.any_eq_false]
  constructor
  · intro h r hr
    have := h (dot v (row few r)) (List.mem_map.mpr ⟨r, by simpa using hr, rfl⟩)
    simpa using this
  · intro h x hx
    obtain ⟨r, hr, rfl⟩ := List.mem_map.mp hx
    have := h r (by simpa using hr)
    simpa using this
/-- what levels the rows that are enough levels all -/
theorem enough_ok {cs : List (List Int)} {n : Nat} (hn : n ≤ 60) (hl : cs.length ≤ 60) (fit : ∀ c ∈ cs, c.length = n ∧ ∀ x ∈ c, Fit 70 x) {v : List Int} (hv : v.length = cs.length) : levL (fewL cs n) (enoughL cs n).length v = true ↔ ∀ r, r < n → dot v (row cs r) = 0 := by
  have g := good_ok (n := cs.length) (cs := rowsL cs n) (by omega) (by rw [rows_len]; omega) (rows_fit fit)
  have ge : (kerL (rowsL cs n).length (rowsL cs n)).st.places = enoughL cs n := rfl
  rw [lev_iff]
  constructor
  · intro h r hr
    have hp : ∀ q ∈ enoughL cs n, dot v (row cs q) = 0 := fun q hq => by
      obtain ⟨j, hj⟩ := List.getElem?_of_mem hq
      rw [← few_row hj]
      exact h j (List.getElem?_eq_some_iff.mp hj).1
    rcases g.T.all r (by rw [rows_len]; exact hr) with z | z
    · exact hp r z
    · obtain ⟨a, ha⟩ := List.getElem?_of_mem z
      have la : a < (kerL (rowsL cs n).length (rowsL cs n)).numbers.length := by rw [g.T.nn]; exact (List.getElem?_eq_some_iff.mp ha).1
      have hT := List.getElem?_eq_getElem la
      generalize (kerL (rowsL cs n).length (rowsL cs n)).numbers[a] = T at hT
      have LT := g.T.lev a r T ha hT
      have lT : T.length = n := by rw [LT.len, rows_len]
      have h0 : ∀ c ∈ cs, dot T c = 0 := fun c hc => by
        obtain ⟨t, ht⟩ := List.getElem?_of_mem hc
        have htl := (List.getElem?_eq_some_iff.mp ht).1
        have := LT.lev t htl
        have e : row (rowsL cs n) t = c := by
          have lc := (fit c hc).1
          unfold row rowsL
          rw [List.map_map, ← map_range 0 c, lc]
          apply List.map_congr_left
          intro q _
          show (row cs q).getD t 0 = _
          rw [row_getD htl, List.getD_eq_getElem?_getD (l := cs), ht]
          rfl
        rwa [e] at this
      have e1 := dot_turn (n := n) (T := T) cs v (fun c hc => (fit c hc).1) hv
      have e2 : (cs.map fun c => dot T c) = cs.map fun _ => (0 : Int) := List.map_congr_left h0
      rw [e2, dot_nought] at e1
      have dg : ∀ q, q < n → ((List.range n).map fun r => dot v (row cs r)).getD q 0 = dot v (row cs q) := fun q hq => by
        rw [List.getD_eq_getElem?_getD, List.getElem?_map, List.getElem?_range hq]
        rfl
      rw [dot_lone T _ r (by simp [lT]) (by omega) fun q hq => ?_, dg r hr] at e1
      · have := LT.pos
        rcases Int.mul_eq_zero.mp e1.symm with y | y
        · omega
        · exact y
      · by_cases hqp : q ∈ enoughL cs n
        · have := g.T.plt q hqp
          rw [rows_len] at this
          exact .inr (by rw [dg q this]; exact hp q hqp)
        · exact .inl (LT.zero q hq (.inl hqp))
  · intro h j hj
    have hm := List.getElem?_eq_getElem hj
    generalize (enoughL cs n)[j] = r at hm
    rw [few_row hm]
    refine h r ?_
    have := g.T.plt r (List.mem_of_getElem? hm)
    rwa [rows_len] at this
/-! ### how many -/
def allV : Nat → Nat → List (List Int)
  | 0, _ => [[]]
  | k + 1, s => (List.range (s + 1)).flatMap fun a => (allV k (s - a)).map fun w => ((a : Nat) : Int) :: w
theorem allV_in : ∀ (k s : Nat) (w : List Int), w.length = k → (∀ x ∈ w, 0 ≤ x) → w.sum ≤ s → w ∈ allV k s
  | 0, s, w, hl, _, _ => by
    have e : w = [] := List.length_eq_zero_iff.mp hl
    subst e
    exact List.mem_singleton.mpr rfl
  | k + 1, s, [], hl, _, _ => by simp at hl
  | k + 1, s, x :: w, hl, hx, hs => by
    have x0 := hx x (List.mem_cons_self ..)
    have hw : ∀ y ∈ w, 0 ≤ y := fun y hy => hx y (List.mem_cons_of_mem _ hy)
    have s0 := sum_nn hw
    rw [List.sum_cons] at hs
    have ih := allV_in k (s - x.toNat) w (by simpa using hl) hw (by omega)
    refine List.mem_flatMap.mpr ⟨x.toNat, by simp; omega, List.mem_map.mpr ⟨w, ih, ?_⟩⟩
    rw [Int.toNat_of_nonneg x0]
def goodV (k s : Nat) : List (List Int) := (allV k s).filter fun w => !(decide (w.sum = (s : Int)) && w.all fun x => decide (x % 2 = 0))
theorem good_len : ∀ k, k ≤ 4 → ∀ s, s ≤ [8, 8, 6, 5, 4].getD k 0 → (goodV k s).length < 64 := by decide +kernel
theorem nd_len {α : Type} [DecidableEq α] : ∀ {l m : List α}, l.Nodup → (∀ x ∈ l, x ∈ m) → l.length ≤ m.length
  | [], _, _, _ => Nat.zero_le _
  | a :: l, m, hn, hs => by
    rw [List.nodup_cons] at hn
    have ha := hs a (List.mem_cons_self ..)
    have ih := nd_len (l := l) (m := m.erase a) hn.2 fun x hx => by
      have hx' := hs x (List.mem_cons_of_mem _ hx)
      have ne : x ≠ a := fun z => hn.1 (z ▸ hx)
      exact (List.mem_erase_of_ne ne).mpr hx'
    have h1 := List.length_erase_of_mem ha
    have h2 := List.length_pos_of_mem ha
    rw [List.length_cons]
    omega
theorem dot_two : ∀ (u y : List Int), dot (u.map fun x => 2 * x) y = 2 * dot u y
  | [], y => by rw [List.map_nil, nil_dot]; rfl
  | a :: u, [] => rfl
  | a :: u, b :: y => by
    show 2 * a * b + dot (u.map fun x => 2 * x) y = 2 * (a * b + dot u y)
    rw [dot_two u y, Int.mul_add, Int.mul_assoc]
theorem sum_two : ∀ u : List Int, (u.map fun x => 2 * x).sum = 2 * u.sum
  | [] => rfl
  | a :: u => by rw [List.map_cons, List.sum_cons, List.sum_cons, sum_two u]; omega
theorem halve {v : List Int} (h : v.all (fun x => decide (x % 2 = 0)) = true) : v = (v.map fun x => x / 2).map fun x => 2 * x := by
  rw [List.map_map]
  conv => lhs; rw [← List.map_id v]
  apply List.map_congr_left
  intro x hx
  have := List.all_eq_true.mp h x hx
  have : x % 2 = 0 := by simpa using this
  show x = 2 * (x / 2)
  omega
/-- a least one is not twice another -/
theorem least_odd {few : List (List Int)} {wd m : Nat} {v : List Int} (h : Lst (levL few wd) m v) : ¬ v.all (fun x => decide (x % 2 = 0)) = true := by
  intro z
  have e := halve z
  generalize hu : (v.map fun x => x / 2) = u at e
  have lu : u.length = m := by rw [← hu, List.length_map]; exact h.1.1
  have un : Nn m u := ⟨lu, fun x hx => by
    rw [← hu] at hx
    obtain ⟨y, hy, rfl⟩ := List.mem_map.mp hx
    have := h.1.2 y hy
    omega⟩
  have es : v.sum = 2 * u.sum := by rw [e, sum_two]
  have hs := h.2.1
  have ul : levL few wd u = true := by
    rw [lev_iff]
    intro r hr
    have := (lev_iff few wd v).mp h.2.2.1 r hr
    rw [e, dot_two] at this
    omega
  have ule : Le u v := fun t => by
    have hn := nn_at un t
    have ev : v.getD t 0 = 2 * u.getD t 0 := by
      rw [e, List.getD_eq_getElem?_getD, List.getElem?_map, List.getD_eq_getElem?_getD]
      cases u[t]? <;> rfl
    omega
  have := h.2.2.2 u un (by omega) ul ule
  rw [this] at es
  omega
theorem few_told {few : List (List Int)} {wd m s : Nat} (h1 : 1 ≤ m) (h5 : m ≤ 5) (hs : s ≤ [8, 8, 6, 5, 4].getD (m - 1) 0) : (bfsL (levL few wd) m s).1.length < 64 := by
  obtain ⟨hm, nd⟩ := bfs_told (levL few wd) m s
  have key : ((bfsL (levL few wd) m s).1.map List.tail).Nodup := by
    rw [List.nodup_iff_pairwise_ne, List.pairwise_map]
    refine (List.Pairwise.and_mem.mp (List.nodup_iff_pairwise_ne.mp nd)).imp ?_
    rintro a b ⟨ha, hb, hab⟩ z
    have Ha := ((hm a).mp ha).1
    have Hb := ((hm b).mp hb).1
    cases a with
    | nil => have := Ha.1.1; simp at this; omega
    | cons x u =>
      cases b with
      | nil => have := Hb.1.1; simp at this; omega
      | cons y w =>
        have z : u = w := z
        subst z
        rcases Int.le_total x y with l | l
        · refine hab (Hb.2.2.2 _ Ha.1 Ha.2.1 Ha.2.2.1 fun t => ?_)
          cases t with
          | zero => exact l
          | succ t => exact Int.le_refl _
        · refine hab (Ha.2.2.2 _ Hb.1 Hb.2.1 Hb.2.2.1 fun t => ?_).symm
          cases t with
          | zero => exact l
          | succ t => exact Int.le_refl _
  have sub : ∀ w ∈ (bfsL (levL few wd) m s).1.map List.tail, w ∈ goodV (m - 1) s := by
    intro w hw
    obtain ⟨v, hv, rfl⟩ := List.mem_map.mp hw
    obtain ⟨hv, vs⟩ := (hm v).mp hv
    cases v with
    | nil => have := hv.1.1; simp at this; omega
    | cons x u =>
      have x0 := hv.1.2 x (List.mem_cons_self ..)
      have un : ∀ y ∈ u, 0 ≤ y := fun y hy => hv.1.2 y (List.mem_cons_of_mem _ hy)
      have lu := hv.1.1
      rw [List.length_cons] at lu
      rw [List.sum_cons] at vs
      refine List.mem_filter.mpr ⟨allV_in (m - 1) s u (by omega) un (by omega), ?_⟩
      show (!(decide (u.sum = (s : Int)) && u.all fun x => decide (x % 2 = 0))) = true
      rw [Bool.not_eq_true', ← Bool.not_eq_true]
      intro z
      rw [Bool.and_eq_true, decide_eq_true_eq] at z
      have xz : x = 0 := by omega
      subst xz
      exact least_odd hv (by rw [List.all_cons, z.2]; rfl)
  have := nd_len key sub
  rw [List.length_map] at this
  have := good_len (m - 1) (by omega) s hs
  omega
theorem few_grown (lev : List Int → Bool) (m : Nat) : ∀ k, (bfsL lev m k).2.length ≤ m ^ k ∧ (growL m (bfsL lev m k).2).length ≤ m ^ (k + 1) := by
  have gr : ∀ ts : List Tri2, (growL m ts).length ≤ m * ts.length := by
    intro ts
    induction ts with
    | nil => exact Nat.le_refl _
    | cons t r ih =>
      have e : growL m (t :: r) = (List.range' t.2 (m - t.2)).map (fun p => (upL t.1 p, p)) ++ growL m r := by unfold growL; rw [List.flatMap_cons]
      rw [e, List.length_append, List.length_map, List.length_range', List.length_cons, Nat.mul_succ]
      omega
  intro k
  induction k with
  | zero => exact ⟨Nat.le_refl _, by have := gr (bfsL lev m 0).2; simpa [bfsL] using this⟩
  | succ k ih =>
    have h1 : (bfsL lev m (k + 1)).2.length ≤ m ^ (k + 1) := Nat.le_trans (List.length_filter_le _ _) ih.2
    refine ⟨h1, Nat.le_trans (gr _) ?_⟩
    rw [Nat.pow_succ m (k + 1), Nat.mul_comm]
    exact Nat.mul_le_mul_right m h1
theorem iteF2 {b : Bool} {A B : Prop} (hb : b = false) (h : B) : if b = true then A else B := by
  subst hb
  exact iteF h
theorem pow_few : ∀ m, m ≤ 5 → ∀ k, k < ([8, 8, 6, 5, 4] : List Nat).getD (m - 1) 0 → m ^ (k + 1) ≤ 1100 := by decide +kernel
structure TxtG (K : PySem.W.Frag) (mg : Str → Option Value) (C : Addr) : Prop where
  n_sum : mg "sum" = none
  n_range : mg "range" = none
theorem none_back {H H' : Hp} {D : Addr} (e : Same H H') (h : H' D = none) : H D = none := e.free h
/-! ### the law's numbers: a cell, numbers shaken out of one -/
theorem ixN_at {n i : Nat} (h : i < n) : ixN n (i : Int) = some i := by
  unfold ixN
  rw [if_pos (by omega), if_pos (by omega)]
  rfl
def spHere (K : PySem.W.Frag) : Sp := fun vs H Q _ => ∃ (a : Addr) (ns : List Int) (p : Int), vs = [.ref a, .int p] ∧ SqL K H a (ns.map V.int) ∧ ∀ n H', Same H H' → Q (.int n) H'
theorem scHere : FnScope ["_law_script", "_law_place"] ["_law_script", "_law_place"] (defScope sHere) := ⟨rfl, rfl, rfl, by decide +kernel, rfl, by decide +kernel, by decide +kernel⟩
theorem ok_here (D : Def K mg "_law_here" "_law_here" sHere ["_law_script", "_law_place"]) (T : TxtG K mg C) : CalE P w K mg base 1 "_law_here" ["_law_script", "_law_place"] (spHere K) := by
  refine D.cal scHere (fun vs H Q E h => ?_) (fun f cdv A outer s H vs Q E hr h => ?_)
  · obtain ⟨a, ns, p, rfl, _⟩ := h
    rfl
  · obtain ⟨a, ns, p, rfl, hS, q⟩ := h
    obtain ⟨ms, hm, _⟩ := cut_ints ns (some p) (some (p + 1))
    refine ⟨_, (pss_one
          (ps_ret (pe_callB (call_sum rfl) rfl T.n_sum bt_sum (pa_cons (pe_slice sl_list (pv 0) (po_some (pv 1)) (po_some (pe_op op_add (pv 1) pe_int))) pa_nil)))), ?_⟩
    exact ⟨_, rfl, _, rfl, _, rfl, _, rfl, _, _, rfl, rfl, _, rfl, a, _, rfl, hS, fun t ht => ⟨t, ms, rfl, SqL.of (by rw [upd_same, hm]), q _ _ (Same.new ht)⟩⟩
def inM (x : Int) : Prop := 0 ≤ x ∧ x < 1999999973
theorem mod_in (n : Int) : inM (n % 1999999973) := ⟨Int.emod_nonneg _ (by decide), Int.emod_lt_of_pos _ (by decide)⟩
def spShaken : Sp := fun vs H Q _ => ∃ c m : Int, vs = [.int c, .int m] ∧ 0 ≤ m ∧ m ≤ 63 ∧ ∀ (l : Addr) (xs : List Int) H', (xs.length : Int) = m → (∀ x ∈ xs, inM x) → H l = none → H' l = some (.lst (xs.map V.int)) → Same H H' → Q (.ref l) H'
theorem scShaken : FnScope ["_law_cell", "_law_many", "_law_rest", "_law_one", "_law_two", "_law_found", "_law_turn", "_law_more", "_law_k"] ["_law_cell", "_law_many"] (defScope sShaken) := ⟨rfl, rfl, rfl, by decide +kernel, rfl, by decide +kernel, by decide +kernel⟩
theorem ok_shaken (D : Def K mg "_law_shaken" "_law_shaken" sShaken ["_law_cell", "_law_many"]) (T : TxtG K mg C) : CalE P w K mg base 1 "_law_shaken" ["_law_cell", "_law_many"] spShaken := by
  refine D.cal scShaken (fun vs H Q E h => ?_) (fun f cdv A outer s H vs Q E hr h => ?_)
  · obtain ⟨c, m, rfl, _⟩ := h
    rfl
  · obtain ⟨c, m, rfl, m0, m1, q⟩ := h
    have big : (2000 : Nat) < sizeLine := by decide
    refine ⟨_, (pss_cons
          (ps_set (i := 2) scShaken.nd rfl (Or.inl rfl) (pe_op op_fdivB (pv 0) pe_int))
        (pss_cons
          (ps_set (i := 3) scShaken.nd rfl (Or.inl rfl) (pe_op op_mod (pv 2) pe_int))
        (pss_cons
          (ps_set (i := 4) scShaken.nd rfl (Or.inl rfl) (pe_op op_mod (pe_op op_fdivB (pv 2) pe_int) pe_int))
        (pss_cons
          (ps_set (i := 5) scShaken.nd rfl (Or.inl rfl) (pe_lst pa_nil))
        (pss_cons
          (ps_for PassesOwn.never rfl (pi_range1 rfl T.n_range (pa_cons (pe_op op_add (pv 1) pe_int) pa_nil)) (pg_name (i := 6) scShaken.nd rfl (Or.inl rfl))
            (pss_cons
              (ps_set (i := 7) scShaken.nd rfl (Or.inl rfl) (pe_op op_add (pe_op op_add (pe_op op_add (pe_op op_mul (pv 3) pe_int) (pe_op op_mul (pv 4) (pv 4))) (pe_op op_mul pe_int (pv 6))) pe_int))
            (pss_cons
              (ps_set (i := 3) scShaken.nd rfl (Or.inl rfl) (pv 4))
            (pss_cons
              (ps_set (i := 4) scShaken.nd rfl (Or.inl rfl) (pe_op op_mod (pv 7) pe_int))
            (pss_one
              (ps_expr (pe_bm PySem.F.plainAttrs_list PySem.F.slot_list_append PySem.F.type_list_append mt_append (pv 5) (pa_cons (pv 4) pa_nil))))))))
        (pss_cons
          (ps_set (i := 5) scShaken.nd rfl (Or.inl rfl) (pe_slice sl_list (pv 5) (po_some pe_int) po_none))
        (pss_cons
          (ps_if (pt_cmpR op_eq (pe_op op_mod (pv 0) pe_int) pe_int (nomark _))
            (pss_one
              (ps_ret (pv 5)))
            pss_nil)
        (pss_cons
          (ps_for PassesOwn.never rfl (pi_range1 rfl T.n_range (pa_cons (pv 1) pa_nil)) (pg_name (i := 8) scShaken.nd rfl (Or.inl rfl))
            (pss_one
              (ps_if (pt_cmpR op_gt (pv 2) pe_int (nomark _))
                (pss_cons
                  (ps_asg (pe_op op_mod (pv 2) pe_int) (pg_sub (pv 5) (pv 8) set_list))
                (pss_one
                  (ps_set (i := 2) scShaken.nd rfl (Or.inl rfl) (pe_op op_fdivB (pv 2) pe_int))))
                pss_nil)))
        (pss_one
          (ps_ret (pv 5))))))))))), ?_⟩
    have o1 := mod_in (c / 2)
    have t0 : 0 ≤ c / 2 / 1999999973 % 1999999943 := Int.emod_nonneg _ (by decide)
    have t1 : c / 2 / 1999999973 % 1999999943 < 1999999943 := Int.emod_lt_of_pos _ (by decide)
    refine ⟨_, rfl, _, _, rfl, rfl, ⟨by decide, by decide⟩, _, rfl, _, _, rfl, rfl, (by show (0 : Int) < 1999999973; decide), _, rfl, _, _, rfl, rfl, ⟨by decide, by decide⟩, _, _, rfl, rfl, (by show (0 : Int) < 1999999943; decide), (by show 0 ≤ sizeLine; decide), fun D1 hD1 => ?_⟩
    refine ⟨_, rfl, _, _, rfl, rfl, _, rfl, by omega, by omega, for_range (fun i σ H' => ∃ (one two : Int) (xs : List Int) (v6 v7 : Option V), σ = [some (.int c), some (.int m), some (.int (c / 2)), some (.int one), some (.int two), some (.ref D1), v6, v7, none] ∧ inM one ∧ inM two ∧ H' D1 = some (.lst (xs.map V.int)) ∧ xs.length = i ∧ (∀ x ∈ xs, inM x) ∧ Same H H') ?_ ?_ ?_⟩
    · exact ⟨_, _, [], none, none, rfl, o1, ⟨t0, by omega⟩, upd_same, rfl, (fun x hx => by cases hx), Same.new hD1⟩
    · rintro i σ H' hi ⟨one, two, xs, v6, v7, rfl, h1, h2, hD', hl, hx, e⟩
      obtain ⟨a0, a1⟩ := h1
      obtain ⟨b0, b1⟩ := id h2
      refine ⟨_, rfl, _, _, rfl, rfl, .inr ⟨by decide, by decide⟩, _, rfl, _, rfl, _, _, rfl, rfl, .inl ⟨by omega, by omega⟩, _, _, rfl, rfl, _, rfl, _, _, rfl, rfl, .inl ⟨by decide, by decide⟩, _, _, rfl, rfl, _, _, rfl, rfl, ?_⟩
      refine ⟨_, rfl, _, rfl, _, _, rfl, rfl, (by show (0 : Int) < 1999999973; decide), _, rfl, .inl ⟨rfl, _, SqL.of hD'⟩, _, rfl, D1, _, _, rfl, rfl, hD', by rw [List.length_map]; omega, ?_⟩
      have hn := mod_in (one * 1664525 + two * two + 97 * (0 + (i : Int)) + 40503)
      refine ⟨two, _, xs ++ [(one * 1664525 + two * two + 97 * (0 + (i : Int)) + 40503) % 1999999973], _, _, rfl, h2, hn, ?_, ?_, ?_, fun b o z => by rw [upd_ne (ne_of_none z hD1)]; exact e _ _ z⟩
      · rw [upd_same, List.map_append]
        rfl
      · rw [List.length_append, hl]
        rfl
      · intro x hx'
        rcases List.mem_append.mp hx' with z | z
        · exact hx x z
        · have ez : x = (one * 1664525 + two * two + 97 * (0 + (i : Int)) + 40503) % 1999999973 := by simpa using z
          rw [ez]
          exact hn
    · rintro σ H' ⟨one, two, xs, v6, v7, rfl, _, _, hD', hl, hx, e⟩
      refine ⟨_, rfl, _, rfl, D1, _, rfl, SqL.of hD', fun p hp => ?_⟩
      have ec : cutV (xs.map V.int) (some (2 : Int)) none = (xs.drop 2).map V.int := by
        rw [show (2 : Int) = ((2 : Nat) : Int) from rfl, cut_tl, List.map_drop]
      have np : H p = none := none_back e hp
      have sp := e.trans (Same.new (o := .lst (cutV (xs.map V.int) (some (2 : Int)) none)) hp)
      have hpp : (upd H' p (.lst (cutV (xs.map V.int) (some (2 : Int)) none))) p = some (.lst ((xs.drop 2).map V.int)) := by rw [upd_same, ec]
      have lx : ((xs.drop 2).length : Int) = m := by rw [List.length_drop]; omega
      have hx2 : ∀ x ∈ xs.drop 2, inM x := fun x z => hx x (List.mem_of_mem_drop z)
      generalize upd H' p (.lst (cutV (xs.map V.int) (some (2 : Int)) none)) = H2 at sp hpp ⊢
      generalize xs.drop 2 = zs at hpp lx hx2
      dsimp only [gName]
      refine ⟨_, rfl, _, _, rfl, rfl, (by show (0 : Int) < 2; decide), rfl, _, rfl, ite2 (fun _ => ?_) fun _ => ?_⟩
      · exact ⟨_, rfl, q p zs H2 lx hx2 np hpp sp⟩
      · refine ⟨_, rfl, _, rfl, by omega, by omega, for_range (fun i σ H' => ∃ (rest : Int) (ys : List Int) (v8 : Option V), σ = [some (.int c), some (.int m), some (.int rest), some (.int one), some (.int two), some (.ref p), v6, v7, v8] ∧ H' p = some (.lst (ys.map V.int)) ∧ (ys.length : Int) = m ∧ (∀ x ∈ ys, inM x) ∧ Same H H') ?_ ?_ ?_⟩
        · exact ⟨_, zs, none, rfl, hpp, lx, hx2, sp⟩
        · rintro i σ H3 hi ⟨rest, ys, v8, rfl, hp3, ly, hy, e3⟩
          refine ⟨_, rfl, _, _, rfl, rfl, _, rfl, ite2 (fun _ => ?_) fun _ => ?_⟩
          · have hil : i < ys.length := by omega
            have hix : ixN (ys.map V.int).length (0 + (i : Int)) = some i := by rw [List.length_map, Int.zero_add]; exact ixN_at hil
            refine ⟨_, rfl, _, _, rfl, rfl, (by show (0 : Int) < 1999999973; decide), _, rfl, _, rfl, p, _, _, i, rfl, rfl, hp3, hix, ?_⟩
            refine ⟨_, rfl, _, _, rfl, rfl, ⟨by decide, by decide⟩, _, ys.set i (rest % 1999999973), _, rfl, ?_, ?_, ?_, fun b o z => by rw [upd_ne (ne_of_none z np)]; exact e3 _ _ z⟩
            · rw [upd_same, List.map_set]
            · rw [List.length_set]
              exact ly
            · intro x hx'
              rcases List.mem_or_eq_of_mem_set hx' with z | z
              · exact hy x z
              · rw [z]
                exact mod_in rest
          · exact ⟨rest, ys, _, rfl, hp3, ly, hy, e3⟩
        · rintro σ H3 ⟨rest, ys, v8, rfl, hp3, ly, hy, e3⟩
          exact ⟨_, rfl, q p ys H3 ly hy np hp3 e3⟩
def BdC (B R : Nat) (c : List Int) : Prop := c.length = R ∧ ∀ x ∈ c, x.natAbs ≤ B
def spColumns (K : PySem.W.Frag) : Sp := fun vs H Q _ => ∃ (a : Addr) (ns : List Int), vs = [.ref a] ∧ SqL K H a (ns.map V.int) ∧
  ∀ l as cs n H', Same H H' → H' l = some (.lst (as.map V.ref)) → ColsS [] H' as cs → (∀ c ∈ cs, c.length = n ∧ ∀ x ∈ c, Fit 70 x) → n ≤ 3 → 1 ≤ cs.length → cs.length ≤ 4 → Q (.ref l) H'
theorem scColumns : FnScope ["_law_script", "_law_first", "_law_many", "_law_rows", "_law_columns_here", "_law_j", "_law_times", "_law_last", "_law_share", "_law_shares", "_law_factors"] ["_law_script"] (defScope sColumns) := ⟨rfl, rfl, rfl, by decide +kernel, rfl, by decide +kernel, by decide +kernel⟩
def inColumns : Scope := match (defBody sColumns).getD 8 (.Pass ⟨0, 0, 0, 0⟩) with
  | .Return (some (.ListComp _ _ sc _)) _ => sc
  | _ => defScope sColumns
theorem colsS_set {W : List Addr} {H : Hp} {a : Addr} {c : List Int} (h : H a = some (.lst (c.map V.int))) (n : a ∉ W) : ∀ {as : List Addr} {cs : List (List Int)} (j : Nat), ColsS W H as cs → ColsS W H (as.set j a) (cs.set j c)
  | _, _, _, .nil => .nil
  | _, _, 0, .cons _ t => .cons ⟨h, n⟩ t
  | _, _, j + 1, .cons k t => .cons k (colsS_set h n j t)
theorem ixN_last {n : Nat} (h : 0 < n) : ixN n (-1) = some (n - 1) := by
  unfold ixN
  rw [if_neg (by decide), if_pos (by omega)]
  congr 1
  omega
theorem ok_columns (D : Def K mg "_law_columns" "_law_columns" sColumns ["_law_script"]) (T : TxtL K mg KC FC TC) (c1 : CalE P w K mg base 1 "_law_here" ["_law_script", "_law_place"] (spHere K)) (c2 : CalE P w K mg base 1 "_law_shaken" ["_law_cell", "_law_many"] spShaken) : CalE P w K mg base 2 "_law_columns" ["_law_script"] (spColumns K) := by
  obtain ⟨_, _, c_l_here⟩ := c1
  obtain ⟨_, _, c_l_shaken⟩ := c2
  refine D.cal scColumns (fun vs H Q E h => ?_) (fun f cdv A outer s H vs Q E hr h => ?_)
  · obtain ⟨a, ns, rfl, _⟩ := h
    rfl
  · obtain ⟨a, ns, rfl, hS, q⟩ := h
    have big : (5000 : Nat) ≤ sizeLine := by decide
    refine ⟨_, (pss_cons
          (ps_set (i := 1) scColumns.nd rfl (Or.inl rfl) (pe_call c_l_here.ok (hr.mono (by decide)) rfl c_l_here.g c_l_here.kp c_l_here.b .nil pass0 (pa_cons (pv 0) (pa_cons pe_int pa_nil))))
        (pss_cons
          (ps_set (i := 2) scColumns.nd rfl (Or.inl rfl) (pe_op op_add pe_int (pe_op op_mod (pv 1) pe_int)))
        (pss_cons
          (ps_set (i := 3) scColumns.nd rfl (Or.inl rfl) (pe_ix ix_list (pe_lst (pa_csts (.int (.int (.int (.int (.int (.int (.int (.int .nil)))))))))) (pe_op op_mod (pe_op op_fdiv (pv 1) pe_int) pe_int) (fun _ _ => rfl)))
        (pss_cons
          (ps_set (i := 4) scColumns.nd rfl (Or.inl rfl) (pe_lst pa_nil))
        (pss_cons
          (ps_for PassesOwn.never rfl (pi_range1 rfl T.n_range (pa_cons (pv 2) pa_nil)) (pg_name (i := 5) scColumns.nd rfl (Or.inl rfl))
            (pss_one
              (ps_expr (pe_bm PySem.F.plainAttrs_list PySem.F.slot_list_append PySem.F.type_list_append mt_append (pv 4) (pa_cons (pe_comp (sc := (defScope sColumns)) (NX := ["_law_script", "_law_first", "_law_many", "_law_rows", "_law_columns_here", "_law_j", "_law_times", "_law_last", "_law_share", "_law_shares", "_law_factors"]) (N := ["_law_x"]) (fr := [none]) ⟨by rfl, by rfl, by decide +kernel, by decide +kernel, by decide +kernel, by rfl, by decide +kernel⟩ rfl rfl rfl (pi_list (pe_call c_l_shaken.ok (hr.mono (by decide)) rfl c_l_shaken.g c_l_shaken.kp c_l_shaken.b .nil pass0 (pa_cons (pe_call c_l_here.ok (hr.mono (by decide)) rfl c_l_here.g c_l_here.kp c_l_here.b .nil pass0 (pa_cons (pv 0) (pa_cons (pe_op op_add pe_int (pv 5)) pa_nil))) (pa_cons (pv 3) pa_nil)))) (fun _ _ _ _ => (pg_name (i := 0) (show (["_law_x"] : List Str).Nodup by decide +kernel) rfl (Or.inl rfl) (Or.inr rfl))) (fun _ _ _ _ => pts_nil) (fun _ _ _ _ => (pe_op op_sub (pe_op op_mod (pv 0) pe_int) pe_int))) pa_nil)))))
        (pss_cons
          (ps_if (pt_cmpR op_gt (pe_op op_mod (pe_op op_fdiv (pv 1) pe_int) pe_int) pe_int (nomark _))
            (pss_cons
              (ps_set (i := 6) scColumns.nd rfl (Or.inl rfl) (pe_call c_l_shaken.ok (hr.mono (by decide)) rfl c_l_shaken.g c_l_shaken.kp c_l_shaken.b .nil pass0 (pa_cons (pe_call c_l_here.ok (hr.mono (by decide)) rfl c_l_here.g c_l_here.kp c_l_here.b .nil pass0 (pa_cons (pv 0) (pa_cons pe_int pa_nil))) (pa_cons (pv 2) pa_nil))))
            (pss_cons
              (ps_set (i := 7) scColumns.nd rfl (Or.inl rfl) (pe_op op_rep (pe_lst (pa_cons pe_int pa_nil)) (pv 3)))
            (pss_cons
              (ps_for PassesOwn.never rfl (pi_range1 rfl T.n_range (pa_cons (pe_op op_sub (pv 2) pe_int) pa_nil)) (pg_name (i := 5) scColumns.nd rfl (Or.inl rfl))
                (pss_cons
                  (ps_set (i := 8) scColumns.nd rfl (Or.inr rfl) (pe_op op_mod (pe_ix ix_list (pv 6) (pv 5) (fun _ _ => rfl)) pe_int))
                (pss_one
                  (ps_setC (i := 7) scColumns.nd rfl (Or.inl rfl) (sc := (defScope sColumns)) (NX := ["_law_script", "_law_first", "_law_many", "_law_rows", "_law_columns_here", "_law_j", "_law_times", "_law_last", "_law_share", "_law_shares", "_law_factors"]) (N := ["_law_a", "_law_b", "_law_share"]) (fr := [none, none, some 8]) ⟨by rfl, by rfl, by decide +kernel, by decide +kernel, by decide +kernel, by rfl, by decide +kernel⟩ rfl rfl rfl (pi_zip rfl T.n_zip (pa_cons (pv 7) (pa_cons (pe_ix ix_list (pv 4) (pv 5) (fun _ _ => rfl)) pa_nil))) (fun _ _ _ _ => (pg_tupK K 2 rfl rfl (pgs_cons (pg_name (i := 0) (show (["_law_a", "_law_b", "_law_share"] : List Str).Nodup by decide +kernel) rfl (Or.inl rfl) (Or.inr rfl)) (pgs_cons (pg_name (i := 1) (show (["_law_a", "_law_b", "_law_share"] : List Str).Nodup by decide +kernel) rfl (Or.inl rfl) (Or.inr rfl)) pgs_nil)))) (fun _ _ _ _ => pts_nil) (fun _ _ _ _ => (pe_op op_sub (pv 0) (pe_op op_mul (pv 2) (pv 1))))))))
            (pss_one
              (ps_asg (pv 7) (pg_sub (pv 4) (pe_un un_neg pe_int) set_list))))))
            pss_nil)
        (pss_cons
          (ps_set (i := 9) scColumns.nd rfl (Or.inr rfl) (pe_lst (pa_cons pe_int (pa_cons pe_int (pa_cons pe_int (pa_cons (pe_op op_add (pe_op op_pow pe_int pe_int) pe_int) (pa_cons (pe_op op_add (pe_op op_pow pe_int pe_int) pe_int) pa_nil)))))))
        (pss_cons
          (ps_set (i := 10) scColumns.nd rfl (Or.inr rfl) (pe_comp (sc := (defScope sColumns)) (NX := ["_law_script", "_law_first", "_law_many", "_law_rows", "_law_columns_here", "_law_j", "_law_times", "_law_last", "_law_share", "_law_shares", "_law_factors"]) (N := ["_law_x", "_law_shares"]) (fr := [none, some 9]) ⟨by rfl, by rfl, by decide +kernel, by decide +kernel, by decide +kernel, by rfl, by decide +kernel⟩ rfl rfl rfl (pi_list (pe_call c_l_shaken.ok (hr.mono (by decide)) rfl c_l_shaken.g c_l_shaken.kp c_l_shaken.b .nil pass0 (pa_cons (pe_call c_l_here.ok (hr.mono (by decide)) rfl c_l_here.g c_l_here.kp c_l_here.b .nil pass0 (pa_cons (pv 0) (pa_cons pe_int pa_nil))) (pa_cons (pv 3) pa_nil)))) (fun _ _ _ _ => (pg_name (i := 0) (show (["_law_x", "_law_shares"] : List Str).Nodup by decide +kernel) rfl (Or.inl rfl) (Or.inr rfl))) (fun _ _ _ _ => pts_nil) (fun _ _ _ _ => (pe_ix (ix_listK K rfl) (pv 1) (pe_op op_mod (pv 0) pe_int) (fun _ _ => rfl)))))
        (pss_one
          (ps_ret (pe_comp (sc := (defScope sColumns)) (NX := ["_law_script", "_law_first", "_law_many", "_law_rows", "_law_columns_here", "_law_j", "_law_times", "_law_last", "_law_share", "_law_shares", "_law_factors"]) (N := ["_law_column", "_law_factors"]) (fr := [none, some 10]) ⟨by rfl, by rfl, by decide +kernel, by decide +kernel, by decide +kernel, by rfl, by decide +kernel⟩ rfl rfl rfl (pi_list (pv 4)) (fun _ _ _ _ => (pg_name (i := 0) (show (["_law_column", "_law_factors"] : List Str).Nodup by decide +kernel) rfl (Or.inl rfl) (Or.inr rfl))) (fun _ _ _ _ => pts_nil) (fun _ _ _ _ => (pe_comp (sc := (relabelS inColumns (defScope sColumns))) (NX := ["_law_column", "_law_factors"]) (N := ["_law_a", "_law_b"]) (fr := [none, none]) ⟨by rfl, by rfl, by decide +kernel, by decide +kernel, by decide +kernel, by rfl, by decide +kernel⟩ rfl rfl rfl (pi_zipK K rfl rfl T.n_zip (pa_cons (pv 0) (pa_cons (pv 1) pa_nil))) (fun _ _ _ _ => (pg_tupK K 2 rfl rfl (pgs_cons (pg_name (i := 0) (show (["_law_a", "_law_b"] : List Str).Nodup by decide +kernel) rfl (Or.inl rfl) (Or.inr rfl)) (pgs_cons (pg_name (i := 1) (show (["_law_a", "_law_b"] : List Str).Nodup by decide +kernel) rfl (Or.inl rfl) (Or.inr rfl)) pgs_nil)))) (fun _ _ _ _ => pts_nil) (fun _ _ _ _ => (pe_op op_mul (pv 0) (pv 1)))))))))))))))), ?_⟩
    refine ⟨_, rfl, a, ns, 0, rfl, hS, fun n0 H1 e1 => ?_⟩
    have b0 : 0 ≤ n0 % 4 := Int.emod_nonneg _ (by decide)
    have b1 : n0 % 4 < 4 := Int.emod_lt_of_pos _ (by decide)
    have d0 : 0 ≤ n0 / 4 % 8 := Int.emod_nonneg _ (by decide)
    have d1 : n0 / 4 % 8 < 8 := Int.emod_lt_of_pos _ (by decide)
    obtain ⟨v0, hv0, hat⟩ := atI_in (xs := ([1, 2, 3, 2, 1, 2, 3, 0] : List Int).map V.int) d0 d1
    obtain ⟨R0, hR0, rfl⟩ := List.mem_map.mp hv0
    obtain ⟨R, eR, lR⟩ : ∃ R : Nat, R0 = (R : Int) ∧ R ≤ 3 := by
      simp only [List.mem_cons, List.not_mem_nil, or_false] at hR0
      exact ⟨R0.toNat, by omega, by omega⟩
    subst eR
    obtain ⟨M, eM, M1, M5⟩ : ∃ M : Nat, 1 + n0 % 4 = (M : Int) ∧ 1 ≤ M ∧ M ≤ 4 := ⟨(1 + n0 % 4).toNat, by omega, by omega, by omega⟩
    refine ⟨_, rfl, _, _, rfl, rfl, (by show (0 : Int) < 4; decide), _, _, rfl, rfl, ?_⟩
    dsimp only [gName]
    rw [eM]
    refine ⟨(by show 8 ≤ sizeLine; decide), fun z0 hz0 => ⟨_, rfl, _, _, rfl, rfl, ⟨by decide, by decide⟩, _, _, rfl, rfl, (by show (0 : Int) < 8; decide), z0, _, _, V.int R, rfl, rfl, SqL.of upd_same, hat, ?_⟩⟩
    have s2 := e1.trans (Same.new (o := .lst (([1, 2, 3, 2, 1, 2, 3, 0] : List Int).map V.int)) hz0)
    refine ⟨(by show 0 ≤ sizeLine; decide), fun D1 hD1 => ?_⟩
    have s3 := s2.trans (Same.new (o := .lst []) hD1)
    have nD1 := s2.free hD1
    refine ⟨_, rfl, _, rfl, by omega, by omega, for_range (fun i σ H' => ∃ (as : List Addr) (cs : List (List Int)) (v5 : Option V), σ = [some (.ref a), some (.int n0), some (.int M), some (.int R), some (.ref D1), v5, none, none, none, none, none] ∧ H' D1 = some (.lst (as.map V.ref)) ∧ ColsS [D1] H' as cs ∧ (∀ c ∈ cs, BdC 24 R c ∧ ∀ x ∈ c, x.natAbs ≤ 4) ∧ cs.length = i ∧ Same H H') ?_ ?_ ?_⟩
    · exact ⟨[], [], none, rfl, upd_same, .nil, (fun c hc => by cases hc), rfl, s3⟩
    · rintro i σ H' hi ⟨as, cs, v5, rfl, hD', hco, hb, hlc, e⟩
      have las := hco.length
      have hi5 : i < 4 := by omega
      refine ⟨_, rfl, .inl ⟨rfl, _, SqL.of hD'⟩, _, rfl, _, rfl, _, _, rfl, rfl, a, ns, _, rfl, e.seq hS, fun c H4 e4 => ⟨_, rfl, c, _, rfl, by omega, by omega, fun l zs H5 lz hz nl hl e5 => ?_⟩⟩
      have s45 := e4.trans e5
      refine ⟨l, rfl, ⟨_, SqL.of hl⟩, fun L hL => comp_lst (K := K) (a := l) (L := L) (xs := zs.map V.int) H5 (fun σ => ∃ v : Option V, σ = [v]) (fun j ys => ys = ((zs.take j).map fun x => x % 9 - 4).map V.int)
        (SqL.of hl) hL ⟨none, rfl⟩ (Same.new hL) upd_same rfl (by rw [List.length_map]; omega) ?_ ?_ ?_⟩
      · rintro j ys rfl
        rw [List.length_map, List.length_map, List.length_take]; omega
      · rintro j y σ H6 ys hy ⟨v, rfl⟩ hs6 hL6 rfl N M hN
        obtain ⟨y, hy', rfl⟩ := int_at hy
        refine ⟨_, rfl, _, _, rfl, rfl, (by show (0 : Int) < 9; decide), _, _, rfl, rfl, hN _ _ _ ⟨_, rfl⟩ hs6 hL6 ?_⟩
        rw [snoc_take hy', List.map_append, List.map_append]
        rfl
      · rintro H6 ys hs6 hL6 rfl
        rw [List.length_map, List.take_length] at hL6
        have hD6 := hs6 _ _ (s45 _ _ hD')
        have nL : L ≠ D1 := Ne.symm (ne_of_none (s45 _ _ hD') hL)
        have kb : ∀ b o, H6 b = some o → b ∉ [D1] → (upd H6 D1 (.lst (as.map V.ref ++ [V.ref L]))) b = some o := fun b o z w => by rw [upd_ne (by simpa using w)]; exact z
        refine ⟨D1, _, _, rfl, rfl, hD6, by rw [List.length_map]; omega, as ++ [L], cs ++ [zs.map fun x => x % 9 - 4], _, rfl, ?_, ?_, ?_, ?_, fun b o z => ?_⟩
        · rw [upd_same, List.map_append]
          rfl
        · exact (((hco.same (s45.trans hs6)).snoc hL6 (by simpa using nL))).keep kb
        · intro c hc
          rcases List.mem_append.mp hc with hc | hc
          · exact hb c hc
          · have ec : c = zs.map fun x => x % 9 - 4 := by simpa using hc
            subst ec
            have h3 : ∀ x ∈ zs.map fun x => x % 9 - 4, x.natAbs ≤ 4 := fun x hx => by
              obtain ⟨y, _, rfl⟩ := List.mem_map.mp hx
              have := Int.emod_nonneg y (show (9 : Int) ≠ 0 by decide)
              have := Int.emod_lt_of_pos y (show (0 : Int) < 9 by decide)
              omega
            exact ⟨⟨by rw [List.length_map]; omega, fun x hx => by have := h3 x hx; omega⟩, h3⟩
        · rw [List.length_append, hlc]
          rfl
        · rw [upd_ne (ne_of_none z nD1)]
          exact hs6 _ _ (s45 _ _ (e _ _ z))
    · rintro σ H4 ⟨as, cs, v5, rfl, hD4, hco, hb, hlc, e4⟩
      have hlc : cs.length = M := by omega
      have las := hco.length
      dsimp only [gName]
      refine join_if (fun σ' H' => ∃ (as : List Addr) (cs : List (List Int)) (v5 v6 v7 v8 : Option V), σ' = [some (.ref a), some (.int n0), some (.int M), some (.int R), some (.ref D1), v5, v6, v7, v8, none, none] ∧ H' D1 = some (.lst (as.map V.ref)) ∧ ColsS [D1] H' as cs ∧ (∀ c ∈ cs, BdC 24 R c) ∧ cs.length = M ∧ Same H H') (fun N hN => ?_) ?_
      · refine ⟨_, rfl, _, _, rfl, rfl, ⟨by decide, by decide⟩, _, _, rfl, rfl, (by show (0 : Int) < 3; decide), _, _, rfl, rfl, _, rfl, ite2 (fun _ => ?_) fun _ => ?_⟩
        · refine ⟨_, rfl, a, ns, 6, rfl, e4.seq hS, fun c H5 e5 => ⟨_, rfl, c, _, rfl, by omega, by omega, fun tl zs H6 lz hz nl htl e6 => ?_⟩⟩
          have s46 := e5.trans e6
          refine ⟨(by show 1 ≤ sizeLine; decide), fun z1 hz1 => ⟨_, rfl, z1, _, _, rfl, rfl, upd_same, by omega, by omega, (by show 1 * _ ≤ _; omega), fun la hla => ?_⟩⟩
          have s7 := (Same.new (o := .lst [V.int 0]) hz1).trans (Same.new (o := .lst (List.replicate ((R : Nat) : Int).toNat [V.int 0]).flatten) hla)
          have hla7 : (upd (upd H6 z1 (.lst [V.int 0])) la (.lst (List.replicate ((R : Nat) : Int).toNat [V.int 0]).flatten)) la = some (.lst ((List.replicate R (0 : Int)).map V.int)) := by
            rw [upd_same, rep0]
            rfl
          have nla : la ≠ D1 := fun z => by
            rw [z] at hla
            rw [Same.new hz1 _ _ (s46 _ _ hD4)] at hla
            cases hla
          generalize upd (upd H6 z1 (.lst [V.int 0])) la (.lst (List.replicate ((R : Nat) : Int).toNat [V.int 0]).flatten) = H7 at s7 hla7 ⊢
          have s47 := s46.trans s7
          dsimp only [gName]
          refine ⟨_, rfl, _, _, rfl, rfl, _, rfl, by omega, by omega, for_range (fun i σ H' => ∃ (la : Addr) (xs : List Int) (v5 v8 : Option V), σ = [some (.ref a), some (.int n0), some (.int M), some (.int R), some (.ref D1), v5, some (.ref tl), some (.ref la), v8, none, none] ∧ la ≠ D1 ∧ H' la = some (.lst (xs.map V.int)) ∧ xs.length = R ∧ (∀ x ∈ xs, x.natAbs ≤ 8 * i) ∧ Same H7 H') ?_ ?_ ?_⟩
          · exact ⟨la, List.replicate R 0, v5, none, rfl, nla, hla7, List.length_replicate, (fun x hx => by rw [(List.mem_replicate.mp hx).2]; exact Nat.zero_le _), Same.refl _⟩
          · rintro i σ H8 hi ⟨la, xs, v5, v8, rfl, nla, hla8, lx, hx, e8⟩
            have hi4 : i < 3 := by omega
            have s48 := s47.trans e8
            obtain ⟨z, hz1, hatz⟩ : ∃ z ∈ zs, atI (zs.map V.int) (0 + (i : Int)) = some (V.int z) := by
              obtain ⟨v, hv, h⟩ := atI_in (xs := zs.map V.int) (i := 0 + (i : Int)) (by omega) (by rw [List.length_map]; omega)
              obtain ⟨z, hz, rfl⟩ := List.mem_map.mp hv
              exact ⟨z, hz, h⟩
            have g0 : 0 ≤ z % 3 := Int.emod_nonneg _ (by decide)
            have g1 : z % 3 < 3 := Int.emod_lt_of_pos _ (by decide)
            have ga : as[i]? = some (as.getD i 0) := by rw [List.getD_eq_getElem?_getD, List.getElem?_eq_getElem (by omega)]; rfl
            obtain ⟨c, hci, hca, _⟩ := (hco.same s48).get ga
            have hbc := hb c (List.mem_of_getElem? hci)
            refine ⟨_, rfl, _, rfl, tl, _, _, V.int z, rfl, rfl, SqL.of (e8 _ _ (s7 _ _ htl)), hatz, _, _, rfl, rfl, (by show (0 : Int) < 3; decide), ?_⟩
            dsimp only [gName]
            generalize z % 3 = sh at g0 g1 ⊢
            refine ⟨_, rfl, _, rfl, _, rfl, D1, _, _, .ref (as.getD i 0), rfl, rfl, SqL.of (s48 _ _ hD4), (by rw [Int.zero_add]; exact atI_nat (by rw [List.getElem?_map, ga]; rfl)), la, as.getD i 0, rfl, ⟨_, SqL.of hla8⟩, ⟨_, SqL.of hca⟩, fun L hL => comp_zip (K := K) (a := la) (c := as.getD i 0) (L := L) (xs := xs.map V.int) (zs := c.map V.int) H8 (fun σ => ∃ v u : Option V, σ = [v, u, some (.int sh)]) (fun j us => us = (((xs.zip c).take j).map fun ab => ab.1 - sh * ab.2).map V.int ∧ j ≤ (xs.zip c).length)
              (SqL.of hla8) (SqL.of hca) hL ⟨none, none, rfl⟩ (Same.new hL) upd_same ⟨rfl, Nat.zero_le _⟩ (by rw [List.length_map]; omega) ?_ ?_ ?_⟩
            · rintro j us ⟨rfl, _⟩
              rw [List.length_map, List.length_map, List.length_take]
              omega
            · rintro j y z t σ H9 us hy hz ht ⟨v, u, rfl⟩ hs hL9 ⟨rfl, hj⟩ N M hN
              obtain ⟨y, hy', rfl⟩ := int_at hy
              obtain ⟨z, hz', rfl⟩ := int_at hz
              have hzw : (xs.zip c)[j]? = some (y, z) := by rw [List.getElem?_zip_eq_some]; exact ⟨hy', hz'⟩
              have hil : j + 1 ≤ (xs.zip c).length := (List.getElem?_eq_some_iff.mp hzw).1
              have hL3 : (upd H9 t (.tup [V.int y, V.int z])) L = _ := Same.new ht _ _ hL9
              refine ⟨t, _, rfl, SqT.of upd_same, rfl, _, _, rfl, _, _, rfl, rfl, _, rfl, _, rfl, _, rfl, _, _, rfl, rfl, .inl ⟨by omega, by omega⟩, _, _, rfl, rfl, hN _ _ _ ⟨_, _, rfl⟩ (hs.trans (Same.new ht)) hL3 ⟨?_, hil⟩⟩
              rw [snoc_take hzw, List.map_append, List.map_append]
              rfl
            · rintro H9 us hs hL9 ⟨rfl, _⟩
              have e : (xs.zip c).take (min (xs.map V.int).length (c.map V.int).length) = xs.zip c := List.take_of_length_le (by rw [List.length_zip, List.length_map, List.length_map]; exact Nat.le_refl _)
              rw [e] at hL9
              refine ⟨L, (xs.zip c).map fun ab => ab.1 - sh * ab.2, _, _, rfl, Ne.symm (ne_of_none (s48 _ _ hD4) hL), hL9, ?_, ?_, e8.trans hs⟩
              · rw [List.length_map, List.length_zip, lx, hbc.1.1]
                omega
              · intro x hx'
                obtain ⟨ab, hab, rfl⟩ := List.mem_map.mp hx'
                obtain ⟨h1, h2⟩ := List.of_mem_zip (a := ab.1) (b := ab.2) hab
                have hA := hx _ h1
                have hB := hbc.2 _ h2
                have hm : (sh * ab.2).natAbs ≤ 2 * 4 := by
                  rw [Int.natAbs_mul]
                  exact Nat.mul_le_mul (by omega) hB
                omega
          · rintro σ H8 ⟨la, xs, v5, v8, rfl, nla, hla8, lx, hx, e8⟩
            have s48 := s47.trans e8
            have hD8 := s48 _ _ hD4
            have kb : ∀ b o, H8 b = some o → b ∉ [D1] → (upd H8 D1 (.lst ((as.map V.ref).set (M - 1) (V.ref la)))) b = some o := fun b o z w => by rw [upd_ne (by simpa using w)]; exact z
            refine ⟨_, rfl, _, rfl, 1, rfl, D1, _, _, M - 1, rfl, rfl, hD8, (by rw [List.length_map, las, hlc]; exact ixN_last (by omega)), hN _ _ ⟨as.set (M - 1) la, cs.set (M - 1) xs, _, _, _, _, rfl, ?_, ?_, ?_, ?_, fun b o z => ?_⟩⟩
            · rw [upd_same, List.map_set]
            · exact (colsS_set hla8 (by simpa using nla) (M - 1) (hco.same s48)).keep kb
            · intro c hc
              rcases List.mem_or_eq_of_mem_set hc with hc | hc
              · exact (hb c hc).1
              · rw [hc]
                exact ⟨lx, fun x hx' => by have := hx x hx'; omega⟩
            · rw [List.length_set]
              exact hlc
            · rw [upd_ne (ne_of_none z nD1)]
              exact s48 _ _ (e4 _ _ z)
        · exact hN _ _ ⟨as, cs, _, _, _, _, rfl, hD4, hco, fun c hc => (hb c hc).1, hlc, e4⟩
      clear hb hco hD4 las hlc
      rintro σ' H5 ⟨as, cs, v5, v6, v7, v8, rfl, hD5, hco, hb, hlc, e5⟩
      have las := hco.length
      refine ⟨_, _, rfl, rfl, ⟨by decide, by decide, by decide⟩, _, _, rfl, rfl, _, _, rfl, rfl, ⟨by decide, by decide, by decide⟩, _, _, rfl, rfl, (by show 5 ≤ sizeLine; decide), fun S hSh => ?_⟩
      have s6 := Same.new (o := .lst (([1, 1, 7, 10 ^ (9 : Int).toNat + 7, 10 ^ (18 : Int).toNat + 9] : List Int).map V.int)) hSh
      have hS6 : (upd H5 S (.lst (([1, 1, 7, 10 ^ (9 : Int).toNat + 7, 10 ^ (18 : Int).toNat + 9] : List Int).map V.int))) S = some (.lst (([1, 1, 7, 10 ^ (9 : Int).toNat + 7, 10 ^ (18 : Int).toNat + 9] : List Int).map V.int)) := upd_same
      dsimp only [gName]
      refine ⟨_, rfl, a, ns, 7, rfl, (e5.trans s6).seq hS, fun c H7 e7 => ⟨_, rfl, c, _, rfl, by omega, by omega, fun fl zs H8 lz hz nfl hfl e8 => ?_⟩⟩
      have hS8 := e8 _ _ (e7 _ _ hS6)
      have s58 := (s6.trans e7).trans e8
      refine ⟨fl, rfl, ⟨_, SqL.of hfl⟩, fun L hL => comp_lst (K := K) (a := fl) (L := L) (xs := zs.map V.int) H8 (fun σ => ∃ v : Option V, σ = [v, some (.ref S)]) (fun j ys => ∃ us : List Int, ys = us.map V.int ∧ us.length = j ∧ ∀ x ∈ us, x.natAbs ≤ 10 ^ 18 + 9)
        (SqL.of hfl) hL ⟨none, rfl⟩ (Same.new hL) upd_same ⟨[], rfl, rfl, fun x hx => by cases hx⟩ (by rw [List.length_map]; omega) ?_ ?_ ?_⟩
      · rintro j ys ⟨us, rfl, h, _⟩
        rw [List.length_map]
        omega
      · rintro j y σ H9 ys hy ⟨v, rfl⟩ hs9 hL9 ⟨us, rfl, lus, hus⟩ N M hN
        obtain ⟨y, hy', rfl⟩ := int_at hy
        have g0 : 0 ≤ y % 5 := Int.emod_nonneg _ (by decide)
        have g1 : y % 5 < 5 := Int.emod_lt_of_pos _ (by decide)
        obtain ⟨v, hv, haty⟩ := atI_in (xs := ([1, 1, 7, 10 ^ (9 : Int).toNat + 7, 10 ^ (18 : Int).toNat + 9] : List Int).map V.int) g0 g1
        obtain ⟨z, hz', rfl⟩ := List.mem_map.mp hv
        have hzb : z.natAbs ≤ 10 ^ 18 + 9 := by
          simp only [List.mem_cons, List.not_mem_nil, or_false] at hz'
          rcases hz' with rfl | rfl | rfl | rfl | rfl <;> decide
        refine ⟨_, rfl, _, rfl, _, _, rfl, rfl, (by show (0 : Int) < 5; decide), S, _, _, V.int z, rfl, rfl, SqL.of (hs9 _ _ hS8), haty, hN _ _ _ ⟨_, rfl⟩ hs9 hL9 ⟨us ++ [z], by rw [List.map_append]; rfl, by simp [lus], fun x hx => ?_⟩⟩
        rcases List.mem_append.mp hx with hx | hx
        · exact hus x hx
        · have ex : x = z := by simpa using hx
          rw [ex]
          exact hzb
      rintro H9 ys hs9 hL9 ⟨us, rfl, lus, hus⟩
      rw [List.length_map] at lus
      have s59 := s58.trans hs9
      have hD9 := s59 _ _ hD5
      have hco9 := hco.same s59
      dsimp only [gName]
      refine ⟨_, rfl, D1, rfl, ⟨_, SqL.of hD9⟩, fun L2 hL2 => comp_lstH (K := K) (a := D1) (L := L2) (xs := as.map V.ref) H9 (fun σ => ∃ v : Option V, σ = [v, some (.ref L)]) (fun i ys H' => ∃ (ds : List Addr) (es : List (List Int)), ys = ds.map V.ref ∧ ColsN L2 H9 H' ds es ∧ es.length = i ∧ ∀ e ∈ es, e.length = R ∧ ∀ x ∈ e, Fit 70 x)
        (SqL.of hD9) ?_ hL2 ⟨none, rfl⟩ (Same.new hL2) upd_same ⟨[], [], rfl, .nil, rfl, fun e he => by cases he⟩ (by rw [List.length_map]; omega) ?_ ?_ ?_⟩
      · rintro i ys Ha Hb e ⟨ds, es, rfl, hds, h1, h2⟩
        exact ⟨ds, es, rfl, ColsN.but e hds, h1, h2⟩
      · rintro i ys Ha ⟨ds, es, rfl, hds, h1, h2⟩
        have := hds.length
        rw [List.length_map]
        omega
      · rintro i y σ H10 ys hy ⟨v, rfl⟩ hs10 hL10 ⟨ds, es, rfl, hds, les, hes⟩ N M hN
        obtain ⟨aj, haj, rfl⟩ := ref_at hy
        obtain ⟨c, hcj, hca, _⟩ := (hco9.same hs10).get haj
        have hbc := hb c (List.mem_of_getElem? hcj)
        have hL10' := hs10 _ _ hL9
        refine ⟨_, rfl, _, rfl, aj, L, rfl, ⟨_, SqL.of hca⟩, ⟨_, SqL.of hL10'⟩, fun L3 hL3 => comp_zip (K := K) (a := aj) (c := L) (L := L3) (xs := c.map V.int) (zs := us.map V.int) H10 (fun σ => ∃ v u : Option V, σ = [v, u]) (fun j ws => ws = (((c.zip us).take j).map fun ab => ab.1 * ab.2).map V.int ∧ j ≤ (c.zip us).length)
          (SqL.of hca) (SqL.of hL10') hL3 ⟨none, none, rfl⟩ (Same.new hL3) upd_same ⟨rfl, Nat.zero_le _⟩ (by rw [List.length_map, hbc.1]; omega) ?_ ?_ ?_⟩
        · rintro j ws ⟨rfl, _⟩
          rw [List.length_map, List.length_map, List.length_take]
          omega
        · rintro j y z t σ H11 ws hy hz ht ⟨v, u, rfl⟩ hs hL11 ⟨rfl, hj⟩ N2 M2 hN2
          obtain ⟨y, hy', rfl⟩ := int_at hy
          obtain ⟨z, hz', rfl⟩ := int_at hz
          have hzw : (c.zip us)[j]? = some (y, z) := by rw [List.getElem?_zip_eq_some]; exact ⟨hy', hz'⟩
          have hil : j + 1 ≤ (c.zip us).length := (List.getElem?_eq_some_iff.mp hzw).1
          have hL4 : (upd H11 t (.tup [V.int y, V.int z])) L3 = _ := Same.new ht _ _ hL11
          have by_ := hbc.2 y (List.mem_of_getElem? hy')
          refine ⟨t, _, rfl, SqT.of upd_same, rfl, _, _, rfl, _, _, rfl, rfl, _, rfl, _, rfl, _, _, rfl, rfl, .inl ⟨by omega, by omega⟩, hN2 _ _ _ ⟨_, _, rfl⟩ (hs.trans (Same.new ht)) hL4 ⟨?_, hil⟩⟩
          rw [snoc_take hzw, List.map_append, List.map_append]
          rfl
        · rintro H11 ws hs hL11 ⟨rfl, _⟩
          have e : (c.zip us).take (min (c.map V.int).length (us.map V.int).length) = c.zip us := List.take_of_length_le (by rw [List.length_zip, List.length_map, List.length_map]; exact Nat.le_refl _)
          rw [e] at hL11
          refine hN _ _ _ ⟨_, rfl⟩ (hs10.trans hs) (hs _ _ hL10) ⟨ds ++ [L3], es ++ [(c.zip us).map fun ab => ab.1 * ab.2], by rw [List.map_append]; rfl, (hds.but (But.of hs)).snoc hL11 (Ne.symm (ne_of_none hL10 hL3)) (hs10.free hL3), by simp [les], fun e he => ?_⟩
          rcases List.mem_append.mp he with he | he
          · exact hes e he
          · have ee : e = (c.zip us).map fun ab => ab.1 * ab.2 := by simpa using he
            subst ee
            refine ⟨by rw [List.length_map, List.length_zip, hbc.1, lus]; omega, fun x hx => ?_⟩
            obtain ⟨ab, hab, rfl⟩ := List.mem_map.mp hx
            obtain ⟨h1, h2⟩ := List.of_mem_zip (a := ab.1) (b := ab.2) hab
            have hA := hbc.2 _ h1
            have hB := hus _ h2
            have hm : (ab.1 * ab.2).natAbs ≤ 24 * (10 ^ 18 + 9) := by
              rw [Int.natAbs_mul]
              exact Nat.mul_le_mul hA hB
            exact Nat.lt_of_le_of_lt hm (by decide)
      · rintro H10 ys hs10 hL10 ⟨ds, es, rfl, hds, les, hes⟩
        rw [List.length_map] at les
        exact q L2 ds es R H10 (e5.trans (s59.trans hs10)) hL10 (ColsN.toS (by simp) (fun b xs z _ _ => z) hds) hes lR (by omega) (by omega)
theorem scGather : FnScope ["numbers", "columns"] ["numbers", "columns"] (defScope sGather) := ⟨rfl, rfl, rfl, by decide +kernel, rfl, by decide +kernel, by decide +kernel⟩
theorem ok_gather (D : Def K mg "gather" "gather" sGather ["numbers", "columns"]) (T : Txt K mg KC FC) (c1 : CalE P w K mg base 1 "weigh" ["weights", "column"] (spWeigh K)) : CalE P w K mg base 2 "gather" ["numbers", "columns"] (spGather K) := by
  obtain ⟨_, _, c_weigh⟩ := c1
  refine D.cal scGather (fun vs H Q E h => ?_) (fun f cdv A outer s H vs Q E hr h => ?_)
  · obtain ⟨p, r, ns, as, cs, wd, rfl, _⟩ := h
    rfl
  · obtain ⟨p, r, ns, as, cs, wd, rfl, hp, hr', hc, hne, hw, z1, z2, z3, fn, fc, q⟩ := h
    refine ⟨_, (pss_one
          (ps_ret (pe_compC (sc := (defScope sGather)) (NX := ["numbers", "columns"]) (N := ["row", "numbers", "columns"]) (fr := [none, some 0, some 1]) ⟨by rfl, by rfl, by decide +kernel, by decide +kernel, by decide +kernel, by rfl, by decide +kernel⟩ rfl rfl rfl (pi_range1 rfl T.n_range (pa_cons (pe_callB call_len_seq rfl T.n_len bt_len (pa_cons (pe_ix ix_list (pv 1) pe_int (fun _ _ => rfl)) pa_nil)) pa_nil)) (fun _ _ _ _ => (pg_name (i := 0) (show (["row", "numbers", "columns"] : List Str).Nodup by decide +kernel) rfl (Or.inr rfl) (Or.inl rfl))) (fun _ _ _ _ => pts_nil) (fun _ _ _ _ => (pe_call c_weigh.ok (hr.mono (by decide)) rfl c_weigh.g c_weigh.kp c_weigh.b .nil pass0 (pa_cons (pv 1) (pa_cons (pe_comp (sc := (relabelS inGather (defScope sGather))) (NX := ["row", "numbers", "columns"]) (N := ["column", "row"]) (fr := [none, some 0]) ⟨by rfl, by rfl, by decide +kernel, by decide +kernel, by decide +kernel, by rfl, by decide +kernel⟩ rfl rfl rfl (pi_listK K rfl (pv 2)) (fun _ _ _ _ => (pg_name (i := 0) (show (["column", "row"] : List Str).Nodup by decide +kernel) rfl (Or.inl rfl) (Or.inr rfl))) (fun _ _ _ _ => pts_nil) (fun _ _ _ _ => (pe_ix (ix_listK K rfl) (pv 0) (pv 1) (fun _ _ => rfl)))) pa_nil))))))), ?_⟩
    obtain ⟨a0, as', rfl⟩ : ∃ a0 as', as = a0 :: as' := by
      cases as with
      | nil => exact absurd (List.eq_nil_of_length_eq_zero hc.length.symm) hne
      | cons x y => exact ⟨x, y, rfl⟩
    obtain ⟨c0, hc0, hs0⟩ := hc.get (i := 0) rfl
    have w0 : c0.length = wd := hw c0 (List.mem_of_getElem? hc0)
    have getF : ∀ c ∈ cs, ∀ i, i < wd → c[i]? = some (c.getD i 0) ∧ Fit 60000000 (c.getD i 0) := fun c hcm i hi => by
      have hl : i < c.length := by rw [hw c hcm]; exact hi
      have e : c[i]? = some (c.getD i 0) := by rw [List.getD_eq_getElem?_getD, List.getElem?_eq_getElem hl]; rfl
      exact ⟨e, fc c hcm _ (List.mem_of_getElem? e)⟩
    have big : (1001 : Nat) ≤ sizeLine := by decide
    refine ⟨_, rfl, r, _, 0, .ref a0, rfl, rfl, hr', atI_nat (j := 0) rfl, a0, _, rfl, .inl hs0, _, rfl, by omega, by rw [List.length_map]; omega, fun L hL => comp_rng (L := L) H (fun σ => ∃ v : Option V, σ = [v, some (.ref p), some (.ref r)]) (fun i ys => ys = (List.range i).map fun k => V.int (dot ns (row cs k)))
      hL ⟨none, rfl⟩ (Same.new hL) upd_same rfl (by show (List.map V.int c0).length ≤ sizeLine; rw [List.length_map]; omega) ?_ ?_ ?_⟩
    · rintro i ys rfl
      rw [List.length_map, List.length_range]; exact Nat.le_refl _
    · rintro i σ H2 ys hi ⟨v, rfl⟩ hs hL2 rfl N M hN
      have hi : i < wd := by
        have : i < (List.map V.int c0).length := hi
        rw [List.length_map] at this; omega
      dsimp only [gName]
      rw [Int.zero_add]
      refine ⟨_, rfl, _, rfl, r, rfl, ⟨_, hs.seq hr'⟩, fun L2 hL2' => comp_lst (K := K) (a := r) (L := L2) (xs := (a0 :: as').map V.ref) H2 (fun σ => ∃ v : Option V, σ = [v, some (.int i)]) (fun j ys => ys = (cs.take j).map fun c => V.int (c.getD i 0))
        (hs.seq hr') hL2' ⟨none, rfl⟩ (Same.new hL2') upd_same rfl (by rw [List.length_map, hc.length]; exact z2) ?_ ?_ ?_⟩
      · rintro j ys rfl
        rw [List.length_map, List.length_take]; omega
      · rintro j x σ H3 ys hx ⟨v, rfl⟩ hs3 hL3 rfl N2 M2 hN2
        rw [List.getElem?_map] at hx
        cases ej : (a0 :: as')[j]? with
        | none => rw [ej] at hx; cases hx
        | some aj =>
          rw [ej] at hx
          cases hx
          obtain ⟨c, hcj, hsq⟩ := hc.get ej
          have hcm := List.mem_of_getElem? hcj
          refine ⟨_, rfl, _, rfl, aj, _, _, .int (c.getD i 0), rfl, rfl, (hs.trans hs3).seq hsq, atI_nat (by rw [List.getElem?_map, (getF c hcm i hi).1]; rfl), hN2 _ _ _ ⟨_, rfl⟩ hs3 hL3 ?_⟩
          rw [snoc_take hcj, List.map_append]
          rfl
      · rintro H3 ys hs3 hL3 rfl
        have er : (List.take ((a0 :: as').map V.ref).length cs).map (fun c => V.int (c.getD i 0)) = (row cs i).map V.int := by
          rw [List.length_map, hc.length, List.take_length]
          unfold row
          rw [List.map_map]
          rfl
        rw [er] at hL3
        refine ⟨p, L2, ns, row cs i, rfl, (hs.trans hs3).seq hp, SqL.of hL3, z1, fn, fun x hx => ?_, fun H4 e4 => hN _ _ _ ⟨_, rfl⟩ ((hs.trans hs3).trans e4) (e4 _ _ (hs3 _ _ hL2)) ?_⟩
        · obtain ⟨c, hcm, rfl⟩ := List.mem_map.mp hx
          exact (getF c hcm i hi).2
        · rw [List.range_succ, List.map_append]
          rfl
    · rintro H2 ys hs hL2 rfl
      refine q L H2 hL hs ?_
      rw [hL2]
      show some (HO.lst ((List.range (List.map V.int c0).length).map _)) = _
      rw [List.length_map, w0]
      unfold gath
      rw [List.map_map]
      rfl
theorem iteT2 {b : Bool} {A B : Prop} (hb : b = true) (h : A) : if b = true then A else B := by
  subst hb
  exact iteT h
theorem few_nn {v : List Int} (h : ∀ x ∈ v, x.natAbs ≤ 1000) : Few v := fun x hx => by
  have h1 := h x hx
  have h3 : (2 : Nat) ^ 100 ≤ 2 ^ 60000000 := Nat.pow_le_pow_right (by decide) (by decide)
  have h2 : (1000 : Nat) < 2 ^ 100 := by decide
  exact Nat.lt_of_lt_of_le (by omega) h3
theorem few_70 {c : List Int} (h : ∀ x ∈ c, Fit 70 x) : Few c := fun x hx => Nat.lt_of_lt_of_le (h x hx) (Nat.pow_le_pow_right (by decide) (by decide))
def spIsBalance : Sp := fun vs H Q _ => ∃ (p r : Addr) (as : List Addr) (cs : List (List Int)) (n : Nat) (v : List Int), vs = [.ref p, .ref r] ∧ H p = some (.lst (as.map V.ref)) ∧ ColsS [] H as cs ∧ (∀ c ∈ cs, c.length = n ∧ ∀ x ∈ c, Fit 70 x) ∧ n ≤ 60 ∧ 1 ≤ cs.length ∧ cs.length ≤ 60 ∧ H r = some (.lst (v.map V.int)) ∧ v.length = cs.length ∧ (∀ x ∈ v, 0 ≤ x ∧ x ≤ 1000) ∧ (∀ r, r < n → dot v (row cs r) = 0) ∧ ∀ H', Same H H' → Q (.bl true) H'
theorem scIsBalance : FnScope ["columns", "numbers"] ["columns", "numbers"] (defScope sIsBalance) := ⟨rfl, rfl, rfl, by decide +kernel, rfl, by decide +kernel, by decide +kernel⟩
theorem ok_isbalance (D : Def K mg "is_balance" "is_balance" sIsBalance ["columns", "numbers"]) (T : TxtL K mg KC FC TC) (c1 : CalE P w K mg base 2 "gather" ["numbers", "columns"] (spGather K)) : CalE P w K mg base 3 "is_balance" ["columns", "numbers"] spIsBalance := by
  obtain ⟨_, _, c_gather⟩ := c1
  refine D.cal scIsBalance (fun vs H Q E h => ?_) (fun f cdv A outer s H vs Q E hr h => ?_)
  · obtain ⟨p, r, as, cs, n, v, rfl, _⟩ := h
    rfl
  · obtain ⟨p, r, as, cs, n, v, rfl, hp, hco, fit, hn, l1, l60, hr', lv, hv, lev, q⟩ := h
    have big : (5000 : Nat) ≤ sizeLine := by decide
    refine ⟨_, (pss_one
          (ps_ret (pe_and (pe_cmpR op_ge (pe_callB (call_minL rfl) rfl T.n_min bt_min (pa_cons (pv 1) pa_nil)) pe_int (nomark _)) (pe_one (pe_not (pe_callB (call_anyI rfl) rfl T.n_any bt_any (pa_cons (pe_call c_gather.ok (hr.mono (by decide)) rfl c_gather.g c_gather.kp c_gather.b .nil pass0 (pa_cons (pv 1) (pa_cons (pv 0) pa_nil))) pa_nil))))))), ?_⟩
    refine ⟨_, rfl, r, v, rfl, SqL.of hr', by omega, fun M hM _ => ⟨_, _, rfl, rfl, _, rfl, iteT2 (by simpa using (hv M hM).1) ?_⟩⟩
    refine ⟨_, rfl, _, rfl, r, p, v, as, cs, n, rfl, SqL.of hr', SqL.of hp, hco.at, (fun z => by rw [z] at l1; simp at l1), (fun c hc => (fit c hc).1), by omega, by omega, by omega, few_nn (fun x hx => by have := hv x hx; omega), (fun c hc => few_70 (fit c hc).2), fun L H2 nL e2 hL => ?_⟩
    refine ⟨L, gath v cs n, rfl, SqL.of hL, _, rfl, ?_⟩
    have e : ((gath v cs n).any fun n => decide (n ≠ 0)) = false := by
      rw [List.any_eq_false]
      intro x hx
      obtain ⟨r, hr, rfl⟩ := List.mem_map.mp hx
      simpa using lev r (by simpa using hr)
    rw [e]
    exact q H2 e2
def spTimes : Sp := fun vs H Q _ => ∃ (p r : Addr) (u xs : List Int), vs = [.ref p, .ref r] ∧ H p = some (.lst (u.map V.int)) ∧ H r = some (.lst (xs.map V.int)) ∧ u.length = xs.length ∧ u.length ≤ 1000 ∧ (∀ x ∈ u, 0 ≤ x ∧ x ≤ 1000) ∧ (∃ t, 0 < u.getD t 0) ∧ (∀ x ∈ xs, 0 ≤ x) ∧
  ∀ (k : Int) H', Same H H' → 0 ≤ k → (∀ t, k * u.getD t 0 ≤ xs.getD t 0) → (∃ t, 0 < u.getD t 0 ∧ xs.getD t 0 < (k + 1) * u.getD t 0) → Q (.int k) H'
theorem scTimes : FnScope ["small", "great"] ["small", "great"] (defScope sTimes) := ⟨rfl, rfl, rfl, by decide +kernel, rfl, by decide +kernel, by decide +kernel⟩
theorem getD_in {l : List Int} {t : Nat} (h : l.getD t 0 ≠ 0) : l[t]? = some (l.getD t 0) := by
  by_cases ht : t < l.length
  · rw [List.getD_eq_getElem?_getD, List.getElem?_eq_getElem ht]
    rfl
  · rw [List.getD_eq_getElem?_getD, List.getElem?_eq_none (by omega)] at h
    exact absurd rfl h
theorem ok_times (D : Def K mg "times_within" "times_within" sTimes ["small", "great"]) (T : TxtL K mg KC FC TC) : CalE P w K mg base 1 "times_within" ["small", "great"] spTimes := by
  refine D.cal scTimes (fun vs H Q E h => ?_) (fun f cdv A outer s H vs Q E hr h => ?_)
  · obtain ⟨p, r, u, xs, rfl, _⟩ := h
    rfl
  · obtain ⟨p, r, u, xs, rfl, hp, hr', lu, l1000, hu', ⟨t0, ht0⟩, hx, q⟩ := h
    have big : (1001 : Nat) ≤ sizeLine := by decide
    refine ⟨_, (pss_one
          (ps_ret (pe_callB (call_minL rfl) rfl T.n_min bt_min (pa_cons (pe_comp (sc := (defScope sTimes)) (NX := ["small", "great"]) (N := ["one", "other"]) (fr := [none, none]) ⟨by rfl, by rfl, by decide +kernel, by decide +kernel, by decide +kernel, by rfl, by decide +kernel⟩ rfl rfl rfl (pi_zip rfl T.n_zip (pa_cons (pv 0) (pa_cons (pv 1) pa_nil))) (fun _ _ _ _ => (pg_tupK K 2 rfl rfl (pgs_cons (pg_name (i := 0) (show (["one", "other"] : List Str).Nodup by decide +kernel) rfl (Or.inl rfl) (Or.inr rfl)) (pgs_cons (pg_name (i := 1) (show (["one", "other"] : List Str).Nodup by decide +kernel) rfl (Or.inl rfl) (Or.inr rfl)) pgs_nil)))) (fun _ _ _ _ => (pts_one (pt_cmpR op_gt (pv 0) pe_int (nomark _)))) (fun _ _ _ _ => (pe_op op_fdiv (pv 1) (pv 0)))) pa_nil)))), ?_⟩
    refine ⟨_, rfl, _, rfl, p, r, rfl, ⟨_, SqL.of hp⟩, ⟨_, SqL.of hr'⟩, fun L hL => comp_zipT (K := K) (a := p) (c := r) (L := L) (xs := u.map V.int) (zs := xs.map V.int) H (fun σ => ∃ v w : Option V, σ = [v, w]) (fun i us => us = (((((u.zip xs).take i).filter fun ab => decide (0 < ab.1)).map fun ab => ab.2 / ab.1).map V.int) ∧ i ≤ (u.zip xs).length)
      (SqL.of hp) (SqL.of hr') hL ⟨none, none, rfl⟩ (Same.new hL) upd_same ⟨rfl, Nat.zero_le _⟩ (by rw [List.length_map]; omega) ?_ ?_ ?_⟩
    · rintro i us ⟨rfl, _⟩
      rw [List.length_map, List.length_map]
      exact Nat.le_trans (List.length_filter_le ..) (by rw [List.length_take]; omega)
    · rintro i x z t σ H2 us hx1 hz ht ⟨v, w, rfl⟩ hs hL2 ⟨rfl, hi⟩ N M hN hM
      obtain ⟨x, hx', rfl⟩ := int_at hx1
      obtain ⟨z, hz', rfl⟩ := int_at hz
      have hzw : (u.zip xs)[i]? = some (x, z) := by rw [List.getElem?_zip_eq_some]; exact ⟨hx', hz'⟩
      have hil : i + 1 ≤ (u.zip xs).length := (List.getElem?_eq_some_iff.mp hzw).1
      have hL3 : (upd H2 t (.tup [V.int x, V.int z])) L = _ := Same.new ht _ _ hL2
      have hxb := hu' x (List.mem_of_getElem? hx')
      refine ⟨t, _, rfl, SqT.of upd_same, rfl, _, _, rfl, _, _, rfl, rfl, _, rfl, _, _, rfl, rfl, _, rfl, ite2 (fun c => ?_) fun c => ?_⟩
      · have c : 0 < x := by simpa using c
        refine ⟨_, rfl, _, rfl, _, _, rfl, rfl, ⟨c, by omega⟩, hN _ _ _ ⟨_, _, rfl⟩ (hs.trans (Same.new ht)) hL3 ⟨?_, hil⟩⟩
        rw [snoc_take hzw, List.filter_append, List.map_append, List.map_append]
        simp [c]
      · have c : ¬ 0 < x := by simpa using c
        refine hM _ _ ⟨_, _, rfl⟩ (hs.trans (Same.new ht)) hL3 ⟨?_, hil⟩
        rw [snoc_take hzw, List.filter_append]
        simp [c]
    · rintro H2 us hs hL2 ⟨rfl, _⟩
      have e : (u.zip xs).take (min (u.map V.int).length (xs.map V.int).length) = u.zip xs := List.take_of_length_le (by rw [List.length_zip, List.length_map, List.length_map]; exact Nat.le_refl _)
      rw [e] at hL2
      have mem : ∀ t, 0 < u.getD t 0 → xs.getD t 0 / u.getD t 0 ∈ ((u.zip xs).filter fun ab => decide (0 < ab.1)).map fun ab => ab.2 / ab.1 := fun t ht => by
        have h1 := getD_in (l := u) (t := t) (by omega)
        have htl := (List.getElem?_eq_some_iff.mp h1).1
        have h2 : xs[t]? = some (xs.getD t 0) := by rw [List.getD_eq_getElem?_getD, List.getElem?_eq_getElem (by omega)]; rfl
        have hz : (u.zip xs)[t]? = some (u.getD t 0, xs.getD t 0) := by rw [List.getElem?_zip_eq_some]; exact ⟨h1, h2⟩
        exact List.mem_map.mpr ⟨_, List.mem_filter.mpr ⟨List.mem_of_getElem? hz, by simpa using ht⟩, rfl⟩
      refine ⟨L, _, rfl, SqL.of hL2, List.length_pos_of_mem (mem t0 ht0), fun M hM hle => ?_⟩
      obtain ⟨ab, hab, eM⟩ := List.mem_map.mp hM
      obtain ⟨h1, h2⟩ := List.mem_filter.mp hab
      have h2 : 0 < ab.1 := by simpa using h2
      obtain ⟨i, hi⟩ := List.getElem?_of_mem h1
      have hi : (u.zip xs)[i]? = some (ab.1, ab.2) := hi
      rw [List.getElem?_zip_eq_some] at hi
      have gu : u.getD i 0 = ab.1 := by rw [List.getD_eq_getElem?_getD, hi.1]; rfl
      have gx : xs.getD i 0 = ab.2 := by rw [List.getD_eq_getElem?_getD, hi.2]; rfl
      have x0 := hx ab.2 (List.mem_of_getElem? hi.2)
      refine q M H2 hs (by rw [← eM]; exact Int.ediv_nonneg x0 (Int.le_of_lt h2)) (fun t => ?_) ⟨i, by rw [gu]; exact h2, ?_⟩
      · by_cases ht : 0 < u.getD t 0
        · have h3 := hle _ (mem t ht)
          have h4 : M * u.getD t 0 ≤ xs.getD t 0 / u.getD t 0 * u.getD t 0 := Int.mul_le_mul_of_nonneg_right h3 (Int.le_of_lt ht)
          have h5 := Int.ediv_mul_le (xs.getD t 0) (b := u.getD t 0) (by omega)
          omega
        · have h3 : u.getD t 0 = 0 := by
            by_cases z : u.getD t 0 = 0
            · exact z
            · have := hu' _ (List.mem_of_getElem? (getD_in z))
              omega
          rw [h3, Int.mul_zero]
          by_cases z : xs.getD t 0 = 0
          · omega
          · exact hx _ (List.mem_of_getElem? (getD_in z))
      · rw [gu, gx, ← eM]
        exact Int.lt_ediv_add_one_mul_self ab.2 h2
/-! ### what is left -/
def subK (xs u : List Int) (k : Int) : List Int := (xs.zip u).map fun ab => ab.1 - k * ab.2
theorem subK_at : ∀ (xs u : List Int) (k : Int) (t : Nat), xs.length = u.length → (subK xs u k).getD t 0 = xs.getD t 0 - k * u.getD t 0
  | [], [], k, t, _ => by simp [subK]
  | a :: xs, b :: u, k, 0, _ => rfl
  | a :: xs, b :: u, k, t + 1, h => subK_at xs u k t (by simpa using h)
  | [], _ :: _, _, _, h => by simp at h
  | _ :: _, [], _, _, h => by simp at h
theorem subK_dot : ∀ (xs u : List Int) (k : Int) (y : List Int), xs.length = u.length → dot (subK xs u k) y = dot xs y - k * dot u y
  | [], [], k, y, _ => by
    show dot [] y = dot [] y - k * dot [] y
    rw [nil_dot]
    simp
  | a :: xs, b :: u, k, [], _ => by
    show (0 : Int) = 0 - k * 0
    simp
  | a :: xs, b :: u, k, c :: y, h => by
    have ih := subK_dot xs u k y (by simpa using h)
    show (a - k * b) * c + dot (subK xs u k) y = a * c + dot xs y - k * (b * c + dot u y)
    rw [ih, Int.sub_mul, Int.mul_add, Int.mul_assoc]
    omega
  | [], _ :: _, _, _, h => by simp at h
  | _ :: _, [], _, _, h => by simp at h
theorem subK_len (xs u : List Int) (k : Int) (h : xs.length = u.length) : (subK xs u k).length = xs.length := by
  unfold subK
  rw [List.length_map, List.length_zip]
  omega
theorem mem_le_sum : ∀ {v : List Int}, (∀ x ∈ v, 0 ≤ x) → ∀ x ∈ v, x ≤ v.sum
  | [], _, x, hx => by cases hx
  | a :: v, h, x, hx => by
    have h0 := h a (List.mem_cons_self ..)
    have hv : ∀ y ∈ v, 0 ≤ y := fun y hy => h y (List.mem_cons_of_mem _ hy)
    have hs := sum_nn hv
    rw [List.sum_cons]
    rcases List.mem_cons.mp hx with rfl | hx
    · omega
    · have := mem_le_sum hv x hx
      omega
/-- how far the splitting is -/
structure SplAt (lev : List Int → Bool) (m s : Nat) (bs : List (List Int)) (v : List Int) (i : Nat) (ts xs : List Int) : Prop where
  nn : Nn m xs
  sm : xs.sum ≤ s
  lv : lev xs = true
  no : ∀ u ∈ bs.take i, ¬ Le u xs
  len : ts.length = i
  bd : ∀ t ∈ ts, 0 ≤ t ∧ t ≤ s
  eq : ∀ j, j < m → dot ts (row (bs.take i) j) + xs.getD j 0 = v.getD j 0
theorem spl_step {few : List (List Int)} {wd m s : Nat} {bs : List (List Int)} {v ts xs u : List Int} {i : Nat} (S : SplAt (levL few wd) m s bs v i ts xs) (hu : bs[i]? = some u) (hL : Lst (levL few wd) m u) {k : Int} (k0 : 0 ≤ k) (kl : ∀ t, k * u.getD t 0 ≤ xs.getD t 0) (kx : ∃ t, 0 < u.getD t 0 ∧ xs.getD t 0 < (k + 1) * u.getD t 0) :
    SplAt (levL few wd) m s bs v (i + 1) (ts ++ [k]) (subK xs u k) := by
  have hlen : xs.length = u.length := by rw [S.nn.1, hL.1.1]
  have at_ := fun t => subK_at xs u k t hlen
  have un := fun t => nn_at hL.1 t
  have sn : Nn m (subK xs u k) := ⟨by rw [subK_len _ _ _ hlen]; exact S.nn.1, fun x hx => by
    obtain ⟨t, ht⟩ := List.getElem?_of_mem hx
    have e : (subK xs u k).getD t 0 = x := by rw [List.getD_eq_getElem?_getD, ht]; rfl
    rw [← e, at_]
    have := kl t
    omega⟩
  have le : Le (subK xs u k) xs := fun t => by
    rw [at_]
    have := Int.mul_nonneg k0 (un t)
    omega
  have ss := (le_sum (by rw [sn.1, S.nn.1]) le).1
  obtain ⟨t, t1, t2⟩ := kx
  have kb : k ≤ s := by
    have h1 := kl t
    have h2 : k * 1 ≤ k * u.getD t 0 := Int.mul_le_mul_of_nonneg_left (by omega) k0
    have h3 : xs.getD t 0 ≤ s := by
      by_cases z : xs.getD t 0 = 0
      · omega
      · have hm : xs.getD t 0 ∈ xs := by
          by_cases ht : t < xs.length
          · rw [List.getD_eq_getElem?_getD, List.getElem?_eq_getElem ht]
            exact List.getElem_mem ht
          · rw [List.getD_eq_getElem?_getD, List.getElem?_eq_none (by omega)] at z
            exact absurd rfl z
        have := mem_le_sum S.nn.2 _ hm
        have := S.sm
        omega
    omega
  refine ⟨sn, by have := S.sm; omega, ?_, fun y hy => ?_, by rw [List.length_append, S.len]; rfl, fun y hy => ?_, fun j hj => ?_⟩
  · rw [lev_iff]
    intro r hr
    rw [subK_dot _ _ _ _ hlen, (lev_iff few wd xs).mp S.lv r hr, (lev_iff few wd u).mp hL.2.2.1 r hr]
    simp
  · rw [snoc_take hu] at hy
    intro z
    rcases List.mem_append.mp hy with hy | hy
    · exact S.no y hy fun t => Int.le_trans (z t) (le t)
    · have ey : y = u := by simpa using hy
      subst ey
      have := z t
      rw [at_, Int.add_mul, Int.one_mul] at *
      omega
  · rcases List.mem_append.mp hy with hy | hy
    · exact S.bd y hy
    · have ey : y = k := by simpa using hy
      rw [ey]
      exact ⟨k0, kb⟩
  · have e : row (bs.take (i + 1)) j = row (bs.take i) j ++ [u.getD j 0] := by
      unfold row
      rw [snoc_take hu, List.map_append]
      rfl
    have il : i < bs.length := (List.getElem?_eq_some_iff.mp hu).1
    rw [e, dot_snoc _ _ _ _ (by rw [S.len, row_len, List.length_take]; omega), at_]
    have := S.eq j hj
    omega
theorem spl_end {few : List (List Int)} {wd m s : Nat} {bs : List (List Int)} {v ts xs : List Int} (S : SplAt (levL few wd) m s bs v bs.length ts xs) (hb : ∀ u, Lst (levL few wd) m u → u.sum ≤ s → u ∈ bs) : ∀ j, j < m → dot ts (row bs j) = v.getD j 0 := by
  have x0 : xs.sum = 0 := by
    rcases Int.lt_or_eq_of_le (sum_nn S.nn.2) with z | z
    · exfalso
      obtain ⟨u, hu, hle⟩ := least_beneath (lev := levL few wd) (m := m) s xs S.nn z S.sm S.lv
      have h1 := (le_sum (by rw [hu.1.1, S.nn.1]) hle).1
      have := S.sm
      have hm := hb u hu (by omega)
      exact S.no u (by rw [List.take_length]; exact hm) hle
    · exact z.symm
  have e := zero_of S.nn.2 x0
  intro j hj
  have h1 := S.eq j hj
  rw [List.take_length] at h1
  have h2 : xs.getD j 0 = 0 := by
    rw [e, List.getD_eq_getElem?_getD, List.getElem?_replicate]
    split <;> rfl
  omega
def spSplit : Sp := fun vs H Q _ => ∃ (p r : Addr) (as : List Addr) (cs : List (List Int)) (n s : Nat) (v : List Int), vs = [.ref p, .ref r] ∧ H p = some (.lst (as.map V.ref)) ∧ ColsS [] H as cs ∧ (∀ c ∈ cs, c.length = n ∧ ∀ x ∈ c, Fit 70 x) ∧ n ≤ 60 ∧ 1 ≤ cs.length ∧ cs.length ≤ 5 ∧ H r = some (.lst (v.map V.int)) ∧ Nn cs.length v ∧ v.sum = s ∧ s ≤ ([8, 8, 6, 5, 4] : List Nat).getD (cs.length - 1) 0 ∧ s ≤ 8 ∧ (∀ r, r < n → dot v (row cs r) = 0) ∧
  ∀ (l : Addr) (ts : List Int) (bs : List (List Int)) H', Same H H' → H' l = some (.lst (ts.map V.int)) → bs.Perm (bfsL (levL (fewL cs n) (enoughL cs n).length) cs.length s).1 → bs.Pairwise (fun a b => ¬ b < a) → ts.length = bs.length → (∀ t ∈ ts, 0 ≤ t ∧ t ≤ s) → (∀ j, j < cs.length → dot ts (row bs j) = v.getD j 0) → Q (.ref l) H'
theorem scSplit : FnScope ["columns", "balance", "rest", "told", "one", "times"] ["columns", "balance"] (defScope sSplit) := ⟨rfl, rfl, rfl, by decide +kernel, rfl, by decide +kernel, by decide +kernel⟩
theorem ok_split (D : Def K mg "split" "split" sSplit ["columns", "balance"]) (T : TxtL K mg KC FC TC) (c1 : CalE P w K mg base 3 "is_balance" ["columns", "numbers"] spIsBalance) (c2 : CalE P w K mg base 6 "least" ["columns", "most"] spLeast) (c3 : CalE P w K mg base 1 "times_within" ["small", "great"] spTimes) : CalE P w K mg base 7 "split" ["columns", "balance"] spSplit := by
  obtain ⟨_, _, c_is_balance⟩ := c1
  obtain ⟨_, _, c_least⟩ := c2
  obtain ⟨_, _, c_times_within⟩ := c3
  refine D.cal scSplit (fun vs H Q E h => ?_) (fun f cdv A outer s H vs Q E hr h => ?_)
  · obtain ⟨p, r, as, cs, n, s, v, rfl, _⟩ := h
    rfl
  · obtain ⟨p, r, as, cs, n, s, v, rfl, hp, hco, fit, hn, m1, m5, hr', vn, vs, ls, ls8, lev, q⟩ := h
    have big : (5000 : Nat) ≤ sizeLine := by decide
    have vb : ∀ x ∈ v, 0 ≤ x ∧ x ≤ 1000 := fun x hx => ⟨vn.2 x hx, by have := mem_le_sum vn.2 x hx; omega⟩
    refine ⟨_, (pss_cons
          (ps_if (pt_not (pt_val (pe_call c_is_balance.ok (hr.mono (by decide)) rfl c_is_balance.g c_is_balance.kp c_is_balance.b .nil pass0 (pa_cons (pv 0) (pa_cons (pv 1) pa_nil)))))
            (pss_one
              ps_never)
            pss_nil)
        (pss_cons
          (ps_set (i := 2) scSplit.nd rfl (Or.inl rfl) (pv 1))
        (pss_cons
          (ps_set (i := 3) scSplit.nd rfl (Or.inl rfl) (pe_lst pa_nil))
        (pss_cons
          (ps_for PassesOwn.never rfl (pi_list (pe_call c_least.ok (hr.mono (by decide)) rfl c_least.g c_least.kp c_least.b .nil pass0 (pa_cons (pv 0) (pa_cons (pe_callB (call_sum rfl) rfl T.n_sum bt_sum (pa_cons (pv 1) pa_nil)) pa_nil)))) (pg_name (i := 4) scSplit.nd rfl (Or.inl rfl))
            (pss_cons
              (ps_set (i := 5) scSplit.nd rfl (Or.inr rfl) (pe_call c_times_within.ok (hr.mono (by decide)) rfl c_times_within.g c_times_within.kp c_times_within.b .nil pass0 (pa_cons (pv 4) (pa_cons (pv 2) pa_nil))))
            (pss_cons
              (ps_setC (i := 2) scSplit.nd rfl (Or.inl rfl) (sc := (defScope sSplit)) (NX := ["columns", "balance", "rest", "told", "one", "times"]) (N := ["number", "taken", "times"]) (fr := [none, none, some 5]) ⟨by rfl, by rfl, by decide +kernel, by decide +kernel, by decide +kernel, by rfl, by decide +kernel⟩ rfl rfl rfl (pi_zip rfl T.n_zip (pa_cons (pv 2) (pa_cons (pv 4) pa_nil))) (fun _ _ _ _ => (pg_tupK K 2 rfl rfl (pgs_cons (pg_name (i := 0) (show (["number", "taken", "times"] : List Str).Nodup by decide +kernel) rfl (Or.inl rfl) (Or.inr rfl)) (pgs_cons (pg_name (i := 1) (show (["number", "taken", "times"] : List Str).Nodup by decide +kernel) rfl (Or.inl rfl) (Or.inr rfl)) pgs_nil)))) (fun _ _ _ _ => pts_nil) (fun _ _ _ _ => (pe_op op_sub (pv 0) (pe_op op_mul (pv 2) (pv 1)))))
            (pss_one
              (ps_expr (pe_bm PySem.F.plainAttrs_list PySem.F.slot_list_append PySem.F.type_list_append mt_append (pv 3) (pa_cons (pv 5) pa_nil)))))))
        (pss_one
          (ps_ret (pv 3))))))), ?_⟩
    refine ⟨_, rfl, _, rfl, p, r, as, cs, n, v, rfl, hp, hco, fit, hn, m1, by omega, hr', vn.1, vb, lev, fun H1 e1 => ⟨_, rfl, iteF ?_⟩⟩
    refine ⟨_, rfl, (by show 0 ≤ sizeLine; decide), fun D1 hD1 => ?_⟩
    have s2 := Same.new (o := .lst []) hD1
    have hD2 : (upd H1 D1 (.lst [])) D1 = some (.lst ([].map V.int)) := upd_same
    generalize upd H1 D1 (.lst []) = H2 at s2 hD2 ⊢
    have e2 := e1.trans s2
    have nD1 := e1.free hD1
    dsimp only [gName]
    refine ⟨_, rfl, _, rfl, r, v, rfl, SqL.of (e2 _ _ hr'), p, as, cs, n, s, by rw [vs]; rfl, e2 _ _ hp, hco.same e2, fit, hn, m1, by omega, by omega, fun k hk => Nat.le_trans (few_grown _ _ k).2 (pow_few _ m5 k (by omega)), fun k hk => few_told m1 m5 (by omega), fun fl fs bs H3 nfl e3 p2 o2 hfl hfs => ?_⟩
    have lfs := hfs.length
    have mem : ∀ u, u ∈ bs ↔ Lst (levL (fewL cs n) (enoughL cs n).length) cs.length u ∧ u.sum ≤ s := fun u => by rw [p2.mem_iff]; exact (bfs_told _ _ s).1 u
    have b64 : bs.length < 64 := by rw [p2.length_eq]; exact few_told m1 m5 ls
    have e03 := e2.trans e3
    have nfD : fl ≠ D1 := fun z => by rw [z, hD2] at nfl; cases nfl
    refine ⟨fl, rfl, ⟨_, SqL.of hfl⟩, for_list (K := K) (a := fl) (xs := fs.map V.ref) (fun i σ H' => ∃ (ra : Addr) (ts xs : List Int) (v4 v5 : Option V), σ = [some (.ref p), some (.ref r), some (.ref ra), some (.ref D1), v4, v5] ∧ ra ≠ D1 ∧ H' ra = some (.lst (xs.map V.int)) ∧ H' D1 = some (.lst (ts.map V.int)) ∧ SplAt (levL (fewL cs n) (enoughL cs n).length) cs.length s bs v i ts xs ∧ (∀ b o, H3 b = some o → b ≠ D1 → H' b = some o)) ?_ ?_ ?_ ?_⟩
    · refine ⟨r, [], v, none, none, rfl, ne_of_none hr' nD1, e03 _ _ hr', e3 _ _ hD2, ⟨vn, by omega, (enough_ok hn (by omega) fit vn.1).mpr lev, (fun u hu => by cases hu), rfl, (fun t ht => by cases ht), fun j _ => by rw [nil_dot, Int.zero_add]⟩, fun b o z _ => z⟩
    · rintro i σ H' _ ⟨ra, ts, xs, v4, v5, rfl, _, _, _, _, kp⟩
      exact SqL.of (kp _ _ hfl nfD)
    · rintro i y σ H4 hi ⟨ra, ts, xs, v4, v5, rfl, nra, hra, hD4, S, kp⟩
      obtain ⟨uj, huj, rfl⟩ := ref_at hi
      obtain ⟨u, hu, hua, _⟩ := hfs.get huj
      have hum := (mem u).mp (List.mem_of_getElem? hu)
      have nuj : uj ≠ D1 := fun z => by
        rw [z, e3 _ _ hD2] at hua
        have e : ([] : List V) = u.map V.int := by injection hua with w; injection w
        have e2 := congrArg List.length e
        have := hum.1.1.1
        rw [List.length_map] at e2
        simp at e2
        omega
      have hua4 := kp _ _ hua nuj
      have lux : u.length = xs.length := by rw [hum.1.1.1, S.nn.1]
      obtain ⟨t0, _, ht0, _⟩ := last_at u hum.1.1.2 hum.1.2.1
      have ub : ∀ x ∈ u, 0 ≤ x ∧ x ≤ 1000 := fun x hx => ⟨hum.1.1.2 x hx, by have := mem_le_sum hum.1.1.2 x hx; have := hum.2; omega⟩
      refine ⟨_, rfl, _, rfl, uj, ra, u, xs, rfl, hua4, hra, lux, by rw [hum.1.1.1]; omega, ub, ⟨t0, ht0⟩, S.nn.2, fun k H5 e5 k0 kl kx => ?_⟩
      have S' := spl_step S hu hum.1 k0 kl kx
      have kb := (S'.bd k (by simp)).2
      have hra5 := e5 _ _ hra
      have hua5 := e5 _ _ hua4
      dsimp only [gName]
      refine ⟨_, rfl, _, rfl, ra, uj, rfl, ⟨_, SqL.of hra5⟩, ⟨_, SqL.of hua5⟩, fun L hL => comp_zip (K := K) (a := ra) (c := uj) (L := L) (xs := xs.map V.int) (zs := u.map V.int) H5 (fun σ => ∃ v w : Option V, σ = [v, w, some (.int k)]) (fun j us => us = (((xs.zip u).take j).map fun ab => ab.1 - k * ab.2).map V.int ∧ j ≤ (xs.zip u).length)
        (SqL.of hra5) (SqL.of hua5) hL ⟨none, none, rfl⟩ (Same.new hL) upd_same ⟨rfl, Nat.zero_le _⟩ (by rw [List.length_map]; have := S.nn.1; omega) ?_ ?_ ?_⟩
      · rintro j us ⟨rfl, _⟩
        rw [List.length_map, List.length_map, List.length_take]
        omega
      · rintro j y z t σ H6 us hy hz ht ⟨w1, w2, rfl⟩ hs hL6 ⟨rfl, hj⟩ N M hN
        obtain ⟨y, hy', rfl⟩ := int_at hy
        obtain ⟨z, hz', rfl⟩ := int_at hz
        have hzw : (xs.zip u)[j]? = some (y, z) := by rw [List.getElem?_zip_eq_some]; exact ⟨hy', hz'⟩
        have hil : j + 1 ≤ (xs.zip u).length := (List.getElem?_eq_some_iff.mp hzw).1
        have hL7 : (upd H6 t (.tup [V.int y, V.int z])) L = _ := Same.new ht _ _ hL6
        refine ⟨t, _, rfl, SqT.of upd_same, rfl, _, _, rfl, _, _, rfl, rfl, _, rfl, _, rfl, _, rfl, _, _, rfl, rfl, .inl ⟨by omega, by omega⟩, _, _, rfl, rfl, hN _ _ _ ⟨_, _, rfl⟩ (hs.trans (Same.new ht)) hL7 ⟨?_, hil⟩⟩
        rw [snoc_take hzw, List.map_append, List.map_append]
        rfl
      · rintro H6 us hs hL6 ⟨rfl, _⟩
        have e : (xs.zip u).take (min (xs.map V.int).length (u.map V.int).length) = xs.zip u := List.take_of_length_le (by rw [List.length_zip, List.length_map, List.length_map]; exact Nat.le_refl _)
        rw [e] at hL6
        have hL6 : H6 L = some (.lst ((subK xs u k).map V.int)) := hL6
        have hD6 := hs _ _ (e5 _ _ hD4)
        have nLD : L ≠ D1 := Ne.symm (ne_of_none (e5 _ _ hD4) hL)
        have lts := S.len
        have il : i < bs.length := (List.getElem?_eq_some_iff.mp hu).1
        dsimp only [gName]
        refine ⟨_, rfl, .inl ⟨rfl, _, SqL.of hD6⟩, _, rfl, D1, _, _, rfl, rfl, hD6, by rw [List.length_map]; omega, L, ts ++ [k], subK xs u k, _, _, rfl, nLD, ?_, ?_, S', fun b o z w => ?_⟩
        · rw [upd_ne nLD]
          exact hL6
        · rw [upd_same, List.map_append]
          rfl
        · rw [upd_ne w]
          exact hs _ _ (e5 _ _ (kp _ _ z w))
    · rintro σ H4 ⟨ra, ts, xs, v4, v5, rfl, nra, hra, hD4, S, kp⟩
      rw [List.length_map, lfs] at S
      refine ⟨_, rfl, q D1 ts bs H4 (fun b o z => kp _ _ (e03 _ _ z) (ne_of_none z nD1)) hD4 p2 o2 S.len S.bd (spl_end S fun u hu hs => (mem u).mpr ⟨hu, hs⟩)⟩
/-! ### the law's lists -/
def TupW (W : List Addr) (H : Hp) (t : Addr) (x : List Int × Int) : Prop := ∃ la, H t = some (.tup [.ref la, .int x.2]) ∧ H la = some (.lst (x.1.map V.int)) ∧ t ∉ W ∧ la ∉ W
theorem TupW.keep {W : List Addr} {H H' : Hp} {t : Addr} {x : List Int × Int} (h : TupW W H t x) (e : ∀ b o, H b = some o → b ∉ W → H' b = some o) : TupW W H' t x := let ⟨la, h1, h2, w1, w2⟩ := h; ⟨la, e _ _ h1 w1, e _ _ h2 w2, w1, w2⟩
theorem TupW.same {W : List Addr} {H H' : Hp} {t : Addr} {x : List Int × Int} (h : TupW W H t x) (e : Same H H') : TupW W H' t x := h.keep fun b o z _ => e b o z
theorem TupW.has {W : List Addr} {H : Hp} {t : Addr} {x : List Int × Int} (h : TupW W H t x) : TupW [] H t x := let ⟨la, h1, h2, _, _⟩ := h; ⟨la, h1, h2, by simp, by simp⟩
structure OkL (i mo : Nat) (x : List Int × Int) : Prop where
  len : x.1.length = i
  nn : ∀ y ∈ x.1, 0 ≤ y
  sm : x.1.sum + x.2 = mo
  lf : 0 ≤ x.2
def spLists : Sp := fun vs H Q _ => ∃ m mo : Nat, vs = [.int m, .int mo] ∧ m ≤ 8 ∧ mo ≤ 8 ∧ (mo + 1) ^ m ≤ 1000 ∧ ∀ (l : Addr) (as : List Addr) (vs : List (List Int)) H', Same H H' → H' l = some (.lst (as.map V.ref)) → ColsS [] H' as vs → vs.length ≤ 1000 → (∀ v ∈ vs, Nn m v ∧ v.sum ≤ mo) → Q (.ref l) H'
theorem scLists : FnScope ["_law_size", "_law_most", "_law_found", "_law_place", "_law_longer", "_law_some", "_law_left"] ["_law_size", "_law_most"] (defScope sLists) := ⟨rfl, rfl, rfl, by decide +kernel, rfl, by decide +kernel, by decide +kernel⟩
theorem ok_lists (D : Def K mg "_law_lists" "_law_lists" sLists ["_law_size", "_law_most"]) (T : TxtL K mg KC FC TC) : CalE P w K mg base 1 "_law_lists" ["_law_size", "_law_most"] spLists := by
  refine D.cal scLists (fun vs H Q E h => ?_) (fun f cdv A outer s H vs Q E hr h => ?_)
  · obtain ⟨m, mo, rfl, _⟩ := h
    rfl
  · obtain ⟨m, mo, rfl, m8, mo8, pw, q⟩ := h
    have big : (20000 : Nat) ≤ sizeLine := by decide
    have pwi : ∀ i, i ≤ m → (mo + 1) ^ i ≤ 1000 := fun i hi => Nat.le_trans (Nat.pow_le_pow_right (by omega) hi) pw
    refine ⟨_, (pss_cons
          (ps_set (i := 2) scLists.nd rfl (Or.inl rfl) (pe_lst (pa_cons (pe_tup (pa_cons (pe_lst pa_nil) (pa_cons (pv 1) pa_nil))) pa_nil)))
        (pss_cons
          (ps_for PassesOwn.never rfl (pi_range1 rfl T.n_range (pa_cons (pv 0) pa_nil)) (pg_name (i := 3) scLists.nd rfl (Or.inl rfl))
            (pss_cons
              (ps_set (i := 4) scLists.nd rfl (Or.inl rfl) (pe_lst pa_nil))
            (pss_cons
              (ps_for PassesOwn.never rfl (pi_list (pv 2)) (pg_tup rfl (pgs_cons (pg_name (i := 5) scLists.nd rfl (Or.inr rfl)) (pgs_cons (pg_name (i := 6) scLists.nd rfl (Or.inr rfl)) pgs_nil)))
                (pss_one
                  (ps_set (i := 4) scLists.nd rfl (Or.inl rfl) (pe_op op_cat (pv 4) (pe_comp (sc := (defScope sLists)) (NX := ["_law_size", "_law_most", "_law_found", "_law_place", "_law_longer", "_law_some", "_law_left"]) (N := ["_law_k", "_law_some", "_law_left"]) (fr := [none, some 5, some 6]) ⟨by rfl, by rfl, by decide +kernel, by decide +kernel, by decide +kernel, by rfl, by decide +kernel⟩ rfl rfl rfl (pi_range1 rfl T.n_range (pa_cons (pe_op op_add (pv 6) pe_int) pa_nil)) (fun _ _ _ _ => (pg_name (i := 0) (show (["_law_k", "_law_some", "_law_left"] : List Str).Nodup by decide +kernel) rfl (Or.inl rfl) (Or.inr rfl))) (fun _ _ _ _ => pts_nil) (fun _ _ _ _ => (pe_tup (pa_cons (pe_op op_cat (pv 1) (pe_lst (pa_cons (pv 0) pa_nil))) (pa_cons (pe_op op_sub (pv 2) (pv 0)) pa_nil)))))))))
            (pss_one
              (ps_set (i := 2) scLists.nd rfl (Or.inl rfl) (pv 4))))))
        (pss_one
          (ps_ret (pe_comp (sc := (defScope sLists)) (NX := ["_law_size", "_law_most", "_law_found", "_law_place", "_law_longer", "_law_some", "_law_left"]) (N := ["_law_some", "_law_left"]) (fr := [none, none]) ⟨by rfl, by rfl, by decide +kernel, by decide +kernel, by decide +kernel, by rfl, by decide +kernel⟩ rfl rfl rfl (pi_list (pv 2)) (fun _ _ _ _ => (pg_tupK K 2 rfl rfl (pgs_cons (pg_name (i := 0) (show (["_law_some", "_law_left"] : List Str).Nodup by decide +kernel) rfl (Or.inl rfl) (Or.inr rfl)) (pgs_cons (pg_name (i := 1) (show (["_law_some", "_law_left"] : List Str).Nodup by decide +kernel) rfl (Or.inl rfl) (Or.inr rfl)) pgs_nil)))) (fun _ _ _ _ => pts_nil) (fun _ _ _ _ => (pv 0))))))), ?_⟩
    refine ⟨(by show 0 ≤ sizeLine; decide), fun l0 hl0 => ⟨_, rfl, (by show 2 ≤ sizeLine; decide), fun t0 ht0 => ⟨(by show 1 ≤ sizeLine; decide), fun F0 hF0 => ?_⟩⟩⟩
    have s1 := Same.new (o := .lst []) hl0
    have s2 := Same.new (o := .tup [V.ref l0, V.int mo]) ht0
    have s3 := Same.new (o := .lst [V.ref t0]) hF0
    have e3 := (s1.trans s2).trans s3
    have hT3 : TupW [] (upd (upd (upd H l0 (.lst [])) t0 (.tup [V.ref l0, V.int mo])) F0 (.lst [V.ref t0])) t0 ([], (mo : Int)) := ⟨l0, s3 _ _ upd_same, s3 _ _ (s2 _ _ upd_same), by simp, by simp⟩
    have hF3 : (upd (upd (upd H l0 (.lst [])) t0 (.tup [V.ref l0, V.int mo])) F0 (.lst [V.ref t0])) F0 = some (.lst ([t0].map V.ref)) := upd_same
    generalize upd (upd (upd H l0 (.lst [])) t0 (.tup [V.ref l0, V.int mo])) F0 (.lst [V.ref t0]) = H3 at e3 hT3 hF3 ⊢
    dsimp only [gName]
    refine ⟨_, rfl, _, rfl, by omega, by omega, for_range (fun i σ H' => ∃ (F : Addr) (fa : List Addr) (xs : List (List Int × Int)) (v3 v4 v5 v6 : Option V), σ = [some (.int m), some (.int mo), some (.ref F), v3, v4, v5, v6] ∧ H' F = some (.lst (fa.map V.ref)) ∧ Paired (TupW [] H') fa xs ∧ (∀ x ∈ xs, OkL i mo x) ∧ xs.length ≤ (mo + 1) ^ i ∧ Same H H') ?_ ?_ ?_⟩
    · exact ⟨F0, [t0], [([], (mo : Int))], none, none, none, none, rfl, hF3, .cons hT3 .nil, (fun x hx => by
        have e : x = ([], (mo : Int)) := by simpa using hx
        subst e
        exact ⟨rfl, (fun y hy => by cases hy), (by show (0 : Int) + mo = mo; omega), (by show (0 : Int) ≤ mo; omega)⟩), (by show 1 ≤ _; simp), e3⟩
    · rintro i σ H4 hi ⟨F, fa, xs, v3, v4, v5, v6, rfl, hF4, hP, hok, lx, e4⟩
      have him : i < m := by omega
      have lfa := Paired.length hP
      have p1 := pwi (i + 1) (by omega)
      have p0 := pwi i (by omega)
      rw [Nat.pow_succ] at p1
      have lx2 : xs.length * (mo + 1) ≤ (mo + 1) ^ i * (mo + 1) := Nat.mul_le_mul_right _ lx
      refine ⟨(by show 0 ≤ sizeLine; decide), fun G0 hG0 => ?_⟩
      have sG := Same.new (o := .lst []) hG0
      dsimp only [gName]
      refine ⟨_, rfl, F, rfl, ⟨_, SqL.of (sG _ _ hF4)⟩, for_list (K := K) (a := F) (xs := fa.map V.ref) (fun j σ H' => ∃ (G : Addr) (ga : List Addr) (ys : List (List Int × Int)) (v5 v6 : Option V), σ = [some (.int m), some (.int mo), some (.ref F), some (.int (0 + (i : Int))), some (.ref G), v5, v6] ∧ H' G = some (.lst (ga.map V.ref)) ∧ Paired (TupW [] H') ga ys ∧ (∀ y ∈ ys, OkL (i + 1) mo y) ∧ ys.length ≤ j * (mo + 1) ∧ j ≤ xs.length ∧ Same H4 H') ?_ (fun j σ H' _ ⟨_, _, _, _, _, _, _, _, _, _, _, e⟩ => SqL.of (e _ _ hF4)) ?_ ?_⟩
      · exact ⟨G0, [], [], v5, v6, rfl, upd_same, .nil, (fun y hy => by cases hy), Nat.zero_le _, Nat.zero_le _, sG⟩
      · rintro j y σ H5 hj ⟨G, ga, ys, v5, v6, rfl, hG5, hQ, hoky, ly, jl, e5⟩
        obtain ⟨t, ht, rfl⟩ := ref_at hj
        obtain ⟨x, hx, la, h1, h2, _, _⟩ := pair_get hP ht
        have okx := hok x (List.mem_of_getElem? hx)
        have jx : j < xs.length := (List.getElem?_eq_some_iff.mp hx).1
        have h15 := e5 _ _ h1
        have h25 := e5 _ _ h2
        have s0 := sum_nn okx.nn
        have sx := okx.sm
        have xl : x.2 ≤ mo := by omega
        have x0 := okx.lf
        have lga := Paired.length hQ
        have lj : j * (mo + 1) + (mo + 1) ≤ xs.length * (mo + 1) := by
          have := Nat.mul_le_mul_right (mo + 1) (show j + 1 ≤ xs.length from jx)
          rw [Nat.add_mul, Nat.one_mul] at this
          exact this
        have okl := okx.len
        refine ⟨t, _, rfl, SqT.of h15, rfl, _, _, rfl, _, _, rfl, rfl, ?_⟩
        dsimp only [gName]
        refine ⟨_, rfl, _, rfl, _, _, rfl, rfl, _, rfl, by omega, by omega, fun L hL => comp_rngH (L := L) H5 (fun σ => ∃ v : Option V, σ = [v, some (.ref la), some (.int x.2)]) (fun k zs H' => ∃ (ds : List Addr) (es : List (List Int × Int)), zs = ds.map V.ref ∧ Paired (TupW [L] H') ds es ∧ es.length = k ∧ ∀ e ∈ es, OkL (i + 1) mo e)
          ?_ hL ⟨none, rfl⟩ (Same.new hL) upd_same ⟨[], [], rfl, .nil, rfl, fun e he => by cases he⟩ (by omega) ?_ ?_ ?_⟩
        · rintro k zs Ha Hb e ⟨ds, es, rfl, hds, h3, h4⟩
          exact ⟨ds, es, rfl, pair_imp (fun _ _ z => z.keep fun b o z1 z2 => e _ _ z1 (by simpa using z2)) hds, h3, h4⟩
        · rintro k zs Ha ⟨ds, es, rfl, hds, h3, h4⟩
          have := Paired.length hds
          rw [List.length_map]
          omega
        · rintro k σ H6 zs hk ⟨v, rfl⟩ hs6 hL6 ⟨ds, es, rfl, hds, les, hes⟩ N M hN
          have hk : (k : Int) ≤ x.2 := by omega
          have h26 := hs6 _ _ h25
          dsimp only [gName]
          refine ⟨_, rfl, _, rfl, (by show 1 ≤ sizeLine; decide), fun k0 hk0 => ⟨la, k0, _, _, rfl, rfl, Same.new hk0 _ _ h26, upd_same, (by rw [List.length_map]; show _ + 1 ≤ sizeLine; omega), fun c hc => ⟨_, rfl, _, rfl, _, _, rfl, rfl, (by show 2 ≤ sizeLine; decide), fun t' ht' => ?_⟩⟩⟩
          have u1 := Same.new (o := .lst [V.int (0 + (k : Int))]) hk0
          have u2 := Same.new (o := .lst (x.1.map V.int ++ [V.int (0 + (k : Int))])) hc
          have u3 := Same.new (o := .tup [V.ref c, V.int (x.2 - (0 + (k : Int)))]) ht'
          have u := (u1.trans u2).trans u3
          have nLc : c ≠ L := Ne.symm (ne_of_none (u1 _ _ hL6) hc)
          have nLt : t' ≠ L := Ne.symm (ne_of_none (u2 _ _ (u1 _ _ hL6)) ht')
          have hT' : TupW [L] (upd (upd (upd H6 k0 (.lst [V.int (0 + (k : Int))])) c (.lst (x.1.map V.int ++ [V.int (0 + (k : Int))]))) t' (.tup [V.ref c, V.int (x.2 - (0 + (k : Int)))])) t' (x.1 ++ [0 + (k : Int)], x.2 - (0 + (k : Int))) := ⟨c, upd_same, by rw [List.map_append]; exact u3 _ _ upd_same, by simpa using nLt, by simpa using nLc⟩
          refine hN _ _ _ ⟨_, rfl⟩ (hs6.trans u) (u _ _ hL6) ⟨ds ++ [t'], es ++ [(x.1 ++ [0 + (k : Int)], x.2 - (0 + (k : Int)))], by rw [List.map_append]; rfl, pair_snoc hT' (pair_imp (fun _ _ z => z.same u) hds), by simp [les], fun e he => ?_⟩
          rcases List.mem_append.mp he with he | he
          · exact hes e he
          · have ee : e = (x.1 ++ [0 + (k : Int)], x.2 - (0 + (k : Int))) := by simpa using he
            subst ee
            refine ⟨by rw [List.length_append, okl]; rfl, fun y hy => ?_, ?_, ?_⟩
            · rcases List.mem_append.mp hy with hy | hy
              · exact okx.nn y hy
              · have ey : y = 0 + (k : Int) := by simpa using hy
                omega
            · show (x.1 ++ [0 + (k : Int)]).sum + (x.2 - (0 + (k : Int))) = mo
              rw [List.sum_append, List.sum_cons, List.sum_nil]
              omega
            · show 0 ≤ x.2 - (0 + (k : Int))
              omega
        · rintro H6 zs hs6 hL6 ⟨ds, es, rfl, hds, les, hes⟩
          have lds := Paired.length hds
          have en : (x.2 + 1).toNat ≤ mo + 1 := by omega
          refine ⟨G, L, _, _, rfl, rfl, hs6 _ _ hG5, hL6, by rw [List.length_map, List.length_map]; omega, fun G' hG' => ?_⟩
          have sG' := Same.new (o := .lst (ga.map V.ref ++ ds.map V.ref)) hG'
          refine ⟨G', ga ++ ds, ys ++ es, _, _, rfl, by rw [upd_same, List.map_append], pair_app (pair_imp (fun _ _ z => (z.same hs6).same sG') hQ) (pair_imp (fun _ _ z => z.has.same sG') hds), fun y hy => ?_, ?_, by omega, (e5.trans hs6).trans sG'⟩
          · rcases List.mem_append.mp hy with hy | hy
            · exact hoky y hy
            · exact hes y hy
          · rw [List.length_append, Nat.add_mul, Nat.one_mul]
            omega
      · rintro σ H5 ⟨G, ga, ys, v5, v6, rfl, hG5, hQ, hoky, ly, _, e5⟩
        rw [List.length_map, lfa] at ly
        refine ⟨_, rfl, G, ga, ys, _, _, _, _, rfl, hG5, hQ, hoky, ?_, e4.trans e5⟩
        rw [Nat.pow_succ]
        omega
    · rintro σ H4 ⟨F, fa, xs, v3, v4, v5, v6, rfl, hF4, hP, hok, lx, e4⟩
      have em : ((m : Nat) : Int).toNat = m := by omega
      rw [em] at hok lx
      have lfa := Paired.length hP
      refine ⟨_, rfl, F, rfl, ⟨_, SqL.of hF4⟩, fun L hL => comp_lst (K := K) (a := F) (L := L) (xs := fa.map V.ref) H4 (fun σ => ∃ v u : Option V, σ = [v, u]) (fun j ys => ∃ la : List Addr, ys = la.map V.ref ∧ la.length = j ∧ ColsS [] H4 la ((xs.take j).map (·.1)))
        (SqL.of hF4) hL ⟨none, none, rfl⟩ (Same.new hL) upd_same ⟨[], rfl, rfl, .nil⟩ (by rw [List.length_map]; omega) ?_ ?_ ?_⟩
      · rintro j ys ⟨la, rfl, h, _⟩
        rw [List.length_map]
        omega
      · rintro j y σ H5 ys hy ⟨v, u, rfl⟩ hs5 hL5 ⟨lb, rfl, llb, hlb⟩ N M hN
        obtain ⟨t, ht, rfl⟩ := ref_at hy
        obtain ⟨x, hx, la, h1, h2, _, _⟩ := pair_get hP ht
        refine ⟨t, _, rfl, SqT.of (hs5 _ _ h1), rfl, _, _, rfl, _, _, rfl, rfl, _, rfl, hN _ _ _ ⟨_, _, rfl⟩ hs5 hL5 ⟨lb ++ [la], by rw [List.map_append]; rfl, by simp [llb], ?_⟩⟩
        rw [snoc_take hx, List.map_append]
        exact hlb.snoc h2 (by simp)
      · rintro H5 ys hs5 hL5 ⟨lb, rfl, llb, hlb⟩
        rw [List.length_map, lfa, List.take_length] at hlb
        refine q L lb (xs.map (·.1)) H5 (e4.trans hs5) hL5 (hlb.same hs5) (by rw [List.length_map]; omega) fun v hv => ?_
        obtain ⟨x, hx, rfl⟩ := List.mem_map.mp hv
        have o := hok x hx
        exact ⟨⟨o.len, o.nn⟩, by have := o.sm; have := o.lf; omega⟩
def levB (cs : List (List Int)) (n : Nat) (v : List Int) : Bool := (List.range n).all fun r => decide (dot v (row cs r) = 0)
theorem levB_iff (cs : List (List Int)) (n : Nat) (v : List Int) : levB cs n v = true ↔ ∀ r, r < n → dot v (row cs r) = 0 := by
  unfold levB
  rw [List.all_eq_true]
  exact ⟨fun h r hr => by simpa using h r (by simpa using hr), fun h r hr => by simpa using h r (by simpa using hr)⟩
def spLevels : Sp := fun vs H Q _ => ∃ (r p : Addr) (v : List Int) (as : List Addr) (cs : List (List Int)) (n : Nat), vs = [.ref r, .ref p] ∧ H r = some (.lst (v.map V.int)) ∧ H p = some (.lst (as.map V.ref)) ∧ ColsS [] H as cs ∧ (∀ c ∈ cs, c.length = n) ∧ n ≤ 1000 ∧ 1 ≤ cs.length ∧ cs.length ≤ 1000 ∧ v.length = cs.length ∧ (∀ x ∈ v, 0 ≤ x ∧ x ≤ 1000) ∧ ∀ H', Same H H' → Q (.bl (levB cs n v)) H'
theorem scLevels : FnScope ["_law_some", "_law_columns_here", "_law_i"] ["_law_some", "_law_columns_here"] (defScope sLevels) := ⟨rfl, rfl, rfl, by decide +kernel, rfl, by decide +kernel, by decide +kernel⟩
theorem ok_levels (D : Def K mg "_law_levels" "_law_levels" sLevels ["_law_some", "_law_columns_here"]) (T : TxtL K mg KC FC TC) : CalE P w K mg base 1 "_law_levels" ["_law_some", "_law_columns_here"] spLevels := by
  refine D.cal scLevels (fun vs H Q E h => ?_) (fun f cdv A outer s H vs Q E hr h => ?_)
  · obtain ⟨r, p, v, as, cs, n, rfl, _⟩ := h
    rfl
  · obtain ⟨r, p, v, as, cs, n, rfl, hr', hp, hco, hw, hn, l1, l1000, lv, hv, q⟩ := h
    have big : (5000 : Nat) ≤ sizeLine := by decide
    have las := hco.length
    have ga0 : as[0]? = some (as.getD 0 0) := by rw [List.getD_eq_getElem?_getD, List.getElem?_eq_getElem (by omega)]; rfl
    obtain ⟨c0, hc0, hca0, _⟩ := hco.get ga0
    have lc0 := hw c0 (List.mem_of_getElem? hc0)
    refine ⟨_, (pss_cons
          (ps_for PassesOwn.never rfl (pi_range1 rfl T.n_range (pa_cons (pe_callB call_len_seq rfl T.n_len bt_len (pa_cons (pe_ix ix_list (pv 1) pe_int (fun _ _ => rfl)) pa_nil)) pa_nil)) (pg_name (i := 2) scLevels.nd rfl (Or.inr rfl))
            (pss_one
              (ps_if (pt_cmpR op_ne (pe_callB (call_sum rfl) rfl T.n_sum bt_sum (pa_cons (pe_comp (sc := (defScope sLevels)) (NX := ["_law_some", "_law_columns_here", "_law_i"]) (N := ["_law_j", "_law_some", "_law_i", "_law_columns_here"]) (fr := [none, some 0, some 2, some 1]) ⟨by rfl, by rfl, by decide +kernel, by decide +kernel, by decide +kernel, by rfl, by decide +kernel⟩ rfl rfl rfl (pi_range1 rfl T.n_range (pa_cons (pe_callB call_len_seq rfl T.n_len bt_len (pa_cons (pv 0) pa_nil)) pa_nil)) (fun _ _ _ _ => (pg_name (i := 0) (show (["_law_j", "_law_some", "_law_i", "_law_columns_here"] : List Str).Nodup by decide +kernel) rfl (Or.inl rfl) (Or.inr rfl))) (fun _ _ _ _ => pts_nil) (fun _ _ _ _ => (pe_op op_mul (pe_ix (ix_listK K rfl) (pv 1) (pv 0) (fun _ _ => rfl)) (pe_ix (ix_listK K rfl) (pe_ix (ix_listK K rfl) (pv 3) (pv 0) (fun _ _ => rfl)) (pv 2) (fun _ _ => rfl))))) pa_nil)) pe_int (nomark _))
                (pss_one
                  (ps_ret pe_bl))
                pss_nil)))
        (pss_one
          (ps_ret pe_bl))), ?_⟩
    refine ⟨_, rfl, p, _, _, .ref (as.getD 0 0), rfl, rfl, SqL.of hp, atI_nat (j := 0) (by rw [List.getElem?_map, ga0]; rfl), as.getD 0 0, _, rfl, .inl (SqL.of hca0), _, rfl, by omega, by rw [List.length_map]; omega, for_range (fun i σ H' => ∃ v2 : Option V, σ = [some (.ref r), some (.ref p), v2] ∧ (∀ q, q < i → dot v (row cs q) = 0) ∧ Same H H') ?_ ?_ ?_⟩
    · exact ⟨none, rfl, (fun q hq => by omega), Same.refl _⟩
    · rintro i σ H2 hi ⟨v2, rfl, hd, e2⟩
      have hi : i < n := by
        rw [List.length_map] at hi
        omega
      have hr2 := e2 _ _ hr'
      have hp2 := e2 _ _ hp
      have hco2 := hco.same e2
      dsimp only [gName]
      rw [Int.zero_add]
      refine ⟨_, rfl, r, _, rfl, .inl (SqL.of hr2), _, rfl, by omega, by rw [List.length_map]; omega, fun L hL => comp_rng (L := L) H2 (fun σ => ∃ w : Option V, σ = [w, some (.ref r), some (.int (i : Int)), some (.ref p)]) (fun j ys => ys = ((List.range j).map fun k => v.getD k 0 * (row cs i).getD k 0).map V.int)
        hL ⟨none, rfl⟩ (Same.new hL) upd_same rfl (by show (v.map V.int).length ≤ sizeLine; rw [List.length_map]; omega) ?_ ?_ ?_⟩
      · rintro j ys rfl
        rw [List.length_map, List.length_map, List.length_range]; exact Nat.le_refl _
      · rintro j σ H3 ys hj ⟨w, rfl⟩ hs3 hL3 rfl N M hN
        have hj : j < cs.length := by
          have : j < (v.map V.int).length := hj
          rw [List.length_map] at this
          omega
        have gv := getD_at (l := v) (i := j) (by omega)
        have ga : as[j]? = some (as.getD j 0) := by rw [List.getD_eq_getElem?_getD, List.getElem?_eq_getElem (by omega)]; rfl
        obtain ⟨c, hcj, hca, _⟩ := (hco2.same hs3).get ga
        have gc := getD_at (l := c) (i := i) (by rw [hw c (List.mem_of_getElem? hcj)]; exact hi)
        have ec : cs.getD j [] = c := by rw [List.getD_eq_getElem?_getD, hcj]; rfl
        have vb := hv _ (List.mem_of_getElem? gv)
        dsimp only [gName]
        rw [Int.zero_add]
        refine ⟨_, rfl, _, rfl, r, _, _, .int (v.getD j 0), rfl, rfl, SqL.of (hs3 _ _ hr2), atI_nat (by rw [List.getElem?_map, gv]; rfl), _, rfl, _, rfl, p, _, _, .ref (as.getD j 0), rfl, rfl, SqL.of (hs3 _ _ hp2), atI_nat (by rw [List.getElem?_map, ga]; rfl), _, rfl, as.getD j 0, _, _, .int (c.getD i 0), rfl, rfl, SqL.of hca, atI_nat (by rw [List.getElem?_map, gc]; rfl), _, _, rfl, rfl, .inl ⟨by omega, by omega⟩, hN _ _ _ ⟨_, rfl⟩ hs3 hL3 ?_⟩
        rw [List.range_succ, List.map_append, List.map_append, List.map_cons, List.map_nil, row_getD hj, ec]
        rfl
      · rintro H3 ys hs3 hL3 rfl
        have er : ((List.range (v.map V.int).length).map fun k => v.getD k 0 * (row cs i).getD k 0).sum = dot v (row cs i) := range_dot _ v (row cs i) (by rw [List.length_map]) (by rw [row_len, List.length_map, lv])
        refine ⟨L, _, rfl, SqL.of hL3, rfl, _, rfl, ite2 (fun c => ?_) fun c => ?_⟩
        · have c : ¬ dot v (row cs i) = 0 := by
            intro z
            have c' : ¬ ((List.range (v.map V.int).length).map fun k => v.getD k 0 * (row cs i).getD k 0).sum = 0 := by simpa using c
            rw [er] at c'
            exact c' z
          have e : levB cs n v = false := by
            rw [← Bool.not_eq_true, levB_iff]
            exact fun z => c (z i hi)
          have := q H3 (e2.trans hs3)
          rw [e] at this
          exact this
        · have c : dot v (row cs i) = 0 := by
            have c' : ((List.range (v.map V.int).length).map fun k => v.getD k 0 * (row cs i).getD k 0).sum = 0 := by simpa using c
            rw [er] at c'
            exact c'
          refine ⟨_, rfl, fun q hq => ?_, e2.trans hs3⟩
          by_cases z : q = i
          · rw [z]
            exact c
          · exact hd q (by omega)
    · rintro σ H2 ⟨v2, rfl, hd, e2⟩
      have e : levB cs n v = true := by
        rw [levB_iff]
        intro r hr
        refine hd r ?_
        rw [List.length_map]
        omega
      have := q H2 e2
      rw [e] at this
      exact this
theorem scBeneath : FnScope ["_law_one", "_law_other"] ["_law_one", "_law_other"] (defScope sBeneath) := ⟨rfl, rfl, rfl, by decide +kernel, rfl, by decide +kernel, by decide +kernel⟩
theorem ok_beneath (D : Def K mg "_law_beneath" "_law_beneath" sBeneath ["_law_one", "_law_other"]) (T : TxtL K mg KC FC TC) : CalE P w K mg base 1 "_law_beneath" ["_law_one", "_law_other"] spFits := by
  refine D.cal scBeneath (fun vs H Q E h => ?_) (fun f cdv A outer s H vs Q E hr h => ?_)
  · obtain ⟨p, r, xs, ys, rfl, _⟩ := h
    rfl
  · obtain ⟨p, r, xs, ys, rfl, hp, hr', lx, q⟩ := h
    have big : (1001 : Nat) ≤ sizeLine := by decide
    refine ⟨_, (pss_one
          (ps_ret (pe_callB (call_all rfl) rfl T.n_all bt_all (pa_cons (pe_comp (sc := (defScope sBeneath)) (NX := ["_law_one", "_law_other"]) (N := ["_law_a", "_law_b"]) (fr := [none, none]) ⟨by rfl, by rfl, by decide +kernel, by decide +kernel, by decide +kernel, by rfl, by decide +kernel⟩ rfl rfl rfl (pi_zip rfl T.n_zip (pa_cons (pv 0) (pa_cons (pv 1) pa_nil))) (fun _ _ _ _ => (pg_tupK K 2 rfl rfl (pgs_cons (pg_name (i := 0) (show (["_law_a", "_law_b"] : List Str).Nodup by decide +kernel) rfl (Or.inl rfl) (Or.inr rfl)) (pgs_cons (pg_name (i := 1) (show (["_law_a", "_law_b"] : List Str).Nodup by decide +kernel) rfl (Or.inl rfl) (Or.inr rfl)) pgs_nil)))) (fun _ _ _ _ => pts_nil) (fun _ _ _ _ => (pe_cmpR op_le (pv 0) (pv 1) (nomark _)))) pa_nil)))), ?_⟩
    refine ⟨_, rfl, _, rfl, p, r, rfl, ⟨_, SqL.of hp⟩, ⟨_, SqL.of hr'⟩, fun L hL => comp_zip (K := K) (a := p) (c := r) (L := L) (xs := xs.map V.int) (zs := ys.map V.int) H (fun σ => ∃ v u : Option V, σ = [v, u]) (fun i us => us = (((xs.zip ys).take i).map fun ab => decide (ab.1 ≤ ab.2)).map V.bl ∧ i ≤ (xs.zip ys).length)
      (SqL.of hp) (SqL.of hr') hL ⟨none, none, rfl⟩ (Same.new hL) upd_same ⟨rfl, Nat.zero_le _⟩ (by rw [List.length_map]; omega) ?_ ?_ ?_⟩
    · rintro i us ⟨rfl, _⟩
      rw [List.length_map, List.length_map, List.length_take]
      omega
    · rintro i x z t σ H2 us hx hz ht ⟨v, u, rfl⟩ hs hL2 ⟨rfl, hi⟩ N M hN
      obtain ⟨x, hx', rfl⟩ := int_at hx
      obtain ⟨z, hz', rfl⟩ := int_at hz
      have hzw : (xs.zip ys)[i]? = some (x, z) := by rw [List.getElem?_zip_eq_some]; exact ⟨hx', hz'⟩
      have hil : i + 1 ≤ (xs.zip ys).length := (List.getElem?_eq_some_iff.mp hzw).1
      have hL3 : (upd H2 t (.tup [V.int x, V.int z])) L = _ := Same.new ht _ _ hL2
      refine ⟨t, _, rfl, SqT.of upd_same, rfl, _, _, rfl, _, _, rfl, rfl, _, rfl, _, rfl, _, _, rfl, rfl, hN _ _ _ ⟨_, _, rfl⟩ (hs.trans (Same.new ht)) hL3 ⟨?_, hil⟩⟩
      rw [snoc_take hzw, List.map_append, List.map_append]
      rfl
    · rintro H2 us hs hL2 ⟨rfl, _⟩
      have e : (xs.zip ys).take (min (xs.map V.int).length (ys.map V.int).length) = xs.zip ys := List.take_of_length_le (by rw [List.length_zip, List.length_map, List.length_map]; exact Nat.le_refl _)
      rw [e] at hL2
      refine ⟨L, _, rfl, SqL.of hL2, ?_⟩
      have := q _ hs
      rw [List.all_map]
      exact this
def spWholeL : Sp := fun vs H Q _ => ∃ (r : Addr) (ts : List Int), vs = [.ref r, .int (ts.length : Nat)] ∧ H r = some (.lst (ts.map V.int)) ∧ (∀ t ∈ ts, 0 ≤ t) ∧ Q (.bl true) H
theorem scWholeL : FnScope ["_law_found", "_law_size", "_law_number"] ["_law_found", "_law_size"] (defScope sWholeL) := ⟨rfl, rfl, rfl, by decide +kernel, rfl, by decide +kernel, by decide +kernel⟩
theorem ok_wholeL (D : Def K mg "_law_whole_list" "_law_whole_list" sWholeL ["_law_found", "_law_size"]) (T : TxtL K mg KC FC TC) : CalE P w K mg base 1 "_law_whole_list" ["_law_found", "_law_size"] spWholeL := by
  refine D.cal scWholeL (fun vs H Q E h => ?_) (fun f cdv A outer s H vs Q E hr h => ?_)
  · obtain ⟨p, ns, rfl, _⟩ := h
    rfl
  · obtain ⟨p, ns, rfl, hp, h0, q⟩ := h
    refine ⟨_, (pss_cons
          (ps_if (PW.pt (pw_or (pt_not (pt_val (pe_callB call_isinst rfl T.n_isinstance bt_isinstance (pa_cons (pv 0) (pa_cons (pe_bltn (v := .ty "list") rfl T.n_list bt_list rfl) pa_nil))))) (pw_or1 (pt_cmpR op_ne (pe_callB call_len_seq rfl T.n_len bt_len (pa_cons (pv 0) pa_nil)) (pv 1) (nomark _)))))
            (pss_one
              (ps_ret pe_bl))
            pss_nil)
        (pss_cons
          (ps_for PassesOwn.never rfl (pi_list (pv 0)) (pg_name (i := 2) scWholeL.nd rfl (Or.inl rfl))
            (pss_one
              (ps_if (PW.pt (pw_or (pt_not (pt_val (pe_callB call_isinst rfl T.n_isinstance bt_isinstance (pa_cons (pv 2) (pa_cons (pe_bltn (v := .ty "int") rfl T.n_int bt_int rfl) pa_nil))))) (pw_or (pt_val (pe_callB call_isinst rfl T.n_isinstance bt_isinstance (pa_cons (pv 2) (pa_cons (pe_bltn (v := .ty "bool") rfl T.n_bool bt_bool rfl) pa_nil)))) (pw_or1 (pt_cmpR op_lt (pv 2) pe_int (nomark _))))))
                (pss_one
                  (ps_ret pe_bl))
                pss_nil)))
        (pss_one
          (ps_ret pe_bl)))), ?_⟩
    refine ⟨_, rfl, _, _, _, _, _, rfl, rfl, .lst hp, T.k3, _, rfl, iteF ⟨_, rfl, p, _, rfl, .inl (SqL.of hp), _, rfl, rfl, _, rfl, iteNS (by rw [List.length_map]) ?_⟩⟩
    refine ⟨_, rfl, p, rfl, ⟨_, SqL.of hp⟩, for_list (xs := ns.map V.int) (fun i σ H' => ∃ v : Option V, σ = [some (.ref p), some (.int (ns.length : Nat)), v] ∧ H' = H) ⟨none, rfl, rfl⟩ ?_ ?_ ?_⟩
    · rintro i σ H' _ ⟨v, rfl, rfl⟩
      exact SqL.of hp
    · rintro i x σ H' hx ⟨v, rfl, rfl⟩
      obtain ⟨z, hz', rfl⟩ := int_at hx
      have z0 := h0 z (List.mem_of_getElem? hz')
      exact ⟨_, rfl, _, _, _, _, _, rfl, rfl, .int z, T.k1, _, rfl, iteF ⟨_, rfl, _, _, _, _, _, rfl, rfl, .int z, T.k2, _, rfl, iteF ⟨_, rfl, _, _, rfl, rfl, _, rfl, iteF2 (by simpa using z0) ⟨_, rfl, rfl⟩⟩⟩⟩
    · rintro σ H' ⟨v, rfl, rfl⟩
      exact q
def spLeastOnes : Sp := fun vs H Q _ => ∃ (l p : Addr) (mo : Nat) (fs as : List Addr) (bs cs : List (List Int)) (n : Nat), vs = [.ref l, .ref p, .int mo] ∧ H l = some (.lst (fs.map V.ref)) ∧ ColsS [] H fs bs ∧ H p = some (.lst (as.map V.ref)) ∧ ColsS [] H as cs ∧ (∀ c ∈ cs, c.length = n) ∧ n ≤ 1000 ∧ 1 ≤ cs.length ∧ cs.length ≤ 1000 ∧ bs.length ≤ 1000 ∧ (∀ b ∈ bs, Nn cs.length b ∧ 0 < b.sum ∧ b.sum ≤ mo ∧ mo ≤ 1000 ∧ levB cs n b = true) ∧ (∀ (j k : Nat) (a b : List Int), bs[j]? = some a → bs[k]? = some b → j ≠ k → fitL a b = false) ∧ ∀ H', Same H H' → Q (.bl true) H'
theorem scLeastOnes : FnScope ["_law_some", "_law_columns_here", "_law_most", "_law_one", "_law_k", "_law_j"] ["_law_some", "_law_columns_here", "_law_most"] (defScope sLeastOnes) := ⟨rfl, rfl, rfl, by decide +kernel, rfl, by decide +kernel, by decide +kernel⟩
theorem ok_leastones (D : Def K mg "_law_least_ones" "_law_least_ones" sLeastOnes ["_law_some", "_law_columns_here", "_law_most"]) (T : TxtL K mg KC FC TC) (c1 : CalE P w K mg base 1 "_law_whole_list" ["_law_found", "_law_size"] spWholeL) (c2 : CalE P w K mg base 1 "_law_levels" ["_law_some", "_law_columns_here"] spLevels) (c3 : CalE P w K mg base 1 "_law_beneath" ["_law_one", "_law_other"] spFits) : CalE P w K mg base 2 "_law_least_ones" ["_law_some", "_law_columns_here", "_law_most"] spLeastOnes := by
  obtain ⟨_, _, c_l_whole_list⟩ := c1
  obtain ⟨_, _, c_l_levels⟩ := c2
  obtain ⟨_, _, c_l_beneath⟩ := c3
  refine D.cal scLeastOnes (fun vs H Q E h => ?_) (fun f cdv A outer s H vs Q E hr h => ?_)
  · obtain ⟨l, p, mo, fs, as, bs, cs, n, rfl, _⟩ := h
    rfl
  · obtain ⟨l, p, mo, fs, as, bs, cs, n, rfl, hl, hbs, hp, hco, hw, hn, l1, l1000, lb, hb, hab, q⟩ := h
    have big : (5000 : Nat) ≤ sizeLine := by decide
    have lfs := hbs.length
    have las := hco.length
    refine ⟨_, (pss_cons
          (ps_if (pt_not (pt_val (pe_callB call_isinst rfl T.n_isinstance bt_isinstance (pa_cons (pv 0) (pa_cons (pe_bltn (v := .ty "list") rfl T.n_list bt_list rfl) pa_nil)))))
            (pss_one
              (ps_ret pe_bl))
            pss_nil)
        (pss_cons
          (ps_for PassesOwn.never rfl (pi_list (pv 0)) (pg_name (i := 3) scLeastOnes.nd rfl (Or.inl rfl))
            (pss_one
              (ps_if (PW.pt (pw_or (pt_not (pt_val (pe_call c_l_whole_list.ok (hr.mono (by decide)) rfl c_l_whole_list.g c_l_whole_list.kp c_l_whole_list.b .nil pass0 (pa_cons (pv 3) (pa_cons (pe_callB call_len_seq rfl T.n_len bt_len (pa_cons (pv 1) pa_nil)) pa_nil))))) (pw_or (pt_not (pt_chain op_lt op_le pe_int (pe_callB (call_sum rfl) rfl T.n_sum bt_sum (pa_cons (pv 3) pa_nil)) (pv 2))) (pw_or1 (pt_not (pt_val (pe_call c_l_levels.ok (hr.mono (by decide)) rfl c_l_levels.g c_l_levels.kp c_l_levels.b .nil pass0 (pa_cons (pv 3) (pa_cons (pv 1) pa_nil)))))))))
                (pss_one
                  (ps_ret pe_bl))
                pss_nil)))
        (pss_cons
          (ps_for PassesOwn.never rfl (pi_range1 rfl T.n_range (pa_cons (pe_callB call_len_seq rfl T.n_len bt_len (pa_cons (pv 0) pa_nil)) pa_nil)) (pg_name (i := 4) scLeastOnes.nd rfl (Or.inl rfl))
            (pss_one
              (ps_for PassesOwn.never rfl (pi_range1 rfl T.n_range (pa_cons (pe_callB call_len_seq rfl T.n_len bt_len (pa_cons (pv 0) pa_nil)) pa_nil)) (pg_name (i := 5) scLeastOnes.nd rfl (Or.inl rfl))
                (pss_one
                  (ps_if (PW.pt (pw_and (pt_cmpR op_ne (pv 5) (pv 4) (nomark _)) (pw_and1 (pt_val (pe_call c_l_beneath.ok (hr.mono (by decide)) rfl c_l_beneath.g c_l_beneath.kp c_l_beneath.b .nil pass0 (pa_cons (pe_ix ix_list (pv 0) (pv 5) (fun _ _ => rfl)) (pa_cons (pe_ix ix_list (pv 0) (pv 4) (fun _ _ => rfl)) pa_nil)))))))
                    (pss_one
                      (ps_ret pe_bl))
                    pss_nil)))))
        (pss_one
          (ps_ret pe_bl))))), ?_⟩
    refine ⟨_, rfl, _, _, _, _, _, rfl, rfl, .lst hl, T.k3, _, rfl, iteF ?_⟩
    refine ⟨_, rfl, l, rfl, ⟨_, SqL.of hl⟩, for_list (K := K) (a := l) (xs := fs.map V.ref) (fun i σ H' => ∃ v3 : Option V, σ = [some (.ref l), some (.ref p), some (.int mo), v3, none, none] ∧ Same H H') ⟨none, rfl, Same.refl _⟩ (fun i σ H' _ ⟨_, _, e⟩ => SqL.of (e _ _ hl)) ?_ ?_⟩
    · rintro i y σ H2 hi ⟨v3, rfl, e2⟩
      obtain ⟨bj, hbj, rfl⟩ := ref_at hi
      obtain ⟨b, hbi, hba, _⟩ := (hbs.same e2).get hbj
      obtain ⟨bn, b0, b1, bm, bl⟩ := hb b (List.mem_of_getElem? hbi)
      have bb : ∀ x ∈ b, 0 ≤ x ∧ x ≤ 1000 := fun x hx => ⟨bn.2 x hx, by have := mem_le_sum bn.2 x hx; omega⟩
      refine ⟨_, rfl, _, rfl, p, _, rfl, .inl (SqL.of (e2 _ _ hp)), bj, b, (by rw [List.length_map, las, bn.1]; rfl), hba, bn.2, _, rfl, iteF ?_⟩
      refine ⟨_, rfl, bj, b, rfl, SqL.of hba, _, _, rfl, rfl, _, rfl, iteT2 (by simpa using b0) ⟨_, rfl, _, _, rfl, rfl, _, rfl, iteF2 (by simpa using b1) ?_⟩⟩
      refine ⟨_, rfl, _, rfl, bj, p, b, as, cs, n, rfl, hba, e2 _ _ hp, hco.same e2, hw, hn, l1, l1000, bn.1, bb, fun H3 e3 => ⟨_, rfl, iteF2 (by rw [bl]; rfl) ⟨_, rfl, e2.trans e3⟩⟩⟩
    · rintro σ H2 ⟨v3, rfl, e2⟩
      refine ⟨_, rfl, l, _, rfl, .inl (SqL.of (e2 _ _ hl)), _, rfl, by omega, by rw [List.length_map]; omega, for_range (fun i σ H' => ∃ v4 v5 : Option V, σ = [some (.ref l), some (.ref p), some (.int mo), v3, v4, v5] ∧ Same H H') ⟨none, none, rfl, e2⟩ ?_ ?_⟩
      · rintro k σ H3 hk ⟨v4, v5, rfl, e3⟩
        rw [List.length_map] at hk
        dsimp only [gName]
        rw [Int.zero_add]
        refine ⟨_, rfl, l, _, rfl, .inl (SqL.of (e3 _ _ hl)), _, rfl, by omega, by rw [List.length_map]; omega, for_range (fun i σ H' => ∃ v5 : Option V, σ = [some (.ref l), some (.ref p), some (.int mo), v3, some (.int (k : Int)), v5] ∧ Same H H') ⟨v5, rfl, e3⟩ ?_ ?_⟩
        · rintro j σ H4 hj ⟨v5, rfl, e4⟩
          rw [List.length_map] at hj
          have gj : fs[j]? = some (fs.getD j 0) := by rw [List.getD_eq_getElem?_getD, List.getElem?_eq_getElem (by omega)]; rfl
          have gk : fs[k]? = some (fs.getD k 0) := by rw [List.getD_eq_getElem?_getD, List.getElem?_eq_getElem (by omega)]; rfl
          obtain ⟨bj, hbj, hja, _⟩ := (hbs.same e4).get gj
          obtain ⟨bk, hbk, hka, _⟩ := (hbs.same e4).get gk
          dsimp only [gName]
          rw [Int.zero_add]
          refine ⟨_, rfl, _, rfl, rfl, _, rfl, ite2 (fun c => ?_) fun c => ?_⟩
          · have c : j ≠ k := fun z => by rw [z] at c; simp at c
            refine ⟨_, rfl, _, rfl, l, _, _, .ref (fs.getD j 0), rfl, rfl, SqL.of (e4 _ _ hl), atI_nat (by rw [List.getElem?_map, gj]; rfl), _, rfl, _, rfl, l, _, _, .ref (fs.getD k 0), rfl, rfl, SqL.of (e4 _ _ hl), atI_nat (by rw [List.getElem?_map, gk]; rfl), fs.getD j 0, fs.getD k 0, bj, bk, rfl, hja, hka, by have := (hb bj (List.mem_of_getElem? hbj)).1.1; omega, fun H5 e5 => ⟨_, rfl, iteF2 (hab j k bj bk hbj hbk c) ⟨_, rfl, e4.trans e5⟩⟩⟩
          · exact ⟨_, rfl, e4⟩
        · rintro σ H4 ⟨v5, rfl, e4⟩
          exact ⟨_, _, rfl, e4⟩
      · rintro σ H3 ⟨v4, v5, rfl, e3⟩
        exact q H3 e3
def spComesTo : Sp := fun vs H Q _ => ∃ (t l r : Addr) (ts v : List Int) (fs : List Addr) (bs : List (List Int)) (m : Nat), vs = [.ref t, .ref l, .ref r] ∧ H t = some (.lst (ts.map V.int)) ∧ H l = some (.lst (fs.map V.ref)) ∧ ColsS [] H fs bs ∧ H r = some (.lst (v.map V.int)) ∧ ts.length = bs.length ∧ (∀ x ∈ ts, 0 ≤ x ∧ x ≤ 1000) ∧ v.length = m ∧ m ≤ 1000 ∧ bs.length ≤ 1000 ∧ (∀ b ∈ bs, b.length = m) ∧ (∀ j, j < m → dot ts (row bs j) = v.getD j 0) ∧ ∀ H', Same H H' → Q (.bl true) H'
theorem scComesTo : FnScope ["_law_found", "_law_some", "_law_balance", "_law_j"] ["_law_found", "_law_some", "_law_balance"] (defScope sComesTo) := ⟨rfl, rfl, rfl, by decide +kernel, rfl, by decide +kernel, by decide +kernel⟩
theorem ok_comesto (D : Def K mg "_law_comes_to" "_law_comes_to" sComesTo ["_law_found", "_law_some", "_law_balance"]) (T : TxtL K mg KC FC TC) (c1 : CalE P w K mg base 1 "_law_whole_list" ["_law_found", "_law_size"] spWholeL) : CalE P w K mg base 2 "_law_comes_to" ["_law_found", "_law_some", "_law_balance"] spComesTo := by
  obtain ⟨_, _, c_l_whole_list⟩ := c1
  refine D.cal scComesTo (fun vs H Q E h => ?_) (fun f cdv A outer s H vs Q E hr h => ?_)
  · obtain ⟨t, l, r, ts, v, fs, bs, m, rfl, _⟩ := h
    rfl
  · obtain ⟨t, l, r, ts, v, fs, bs, m, rfl, ht, hl, hbs, hr', lt, hts, lv, hm, lb, hb, hd, q⟩ := h
    have big : (5000 : Nat) ≤ sizeLine := by decide
    have lfs := hbs.length
    refine ⟨_, (pss_cons
          (ps_if (pt_not (pt_val (pe_call c_l_whole_list.ok (hr.mono (by decide)) rfl c_l_whole_list.g c_l_whole_list.kp c_l_whole_list.b .nil pass0 (pa_cons (pv 0) (pa_cons (pe_callB call_len_seq rfl T.n_len bt_len (pa_cons (pv 1) pa_nil)) pa_nil)))))
            (pss_one
              (ps_ret pe_bl))
            pss_nil)
        (pss_cons
          (ps_for PassesOwn.never rfl (pi_range1 rfl T.n_range (pa_cons (pe_callB call_len_seq rfl T.n_len bt_len (pa_cons (pv 2) pa_nil)) pa_nil)) (pg_name (i := 3) scComesTo.nd rfl (Or.inr rfl))
            (pss_one
              (ps_if (pt_cmpR op_ne (pe_callB (call_sum rfl) rfl T.n_sum bt_sum (pa_cons (pe_comp (sc := (defScope sComesTo)) (NX := ["_law_found", "_law_some", "_law_balance", "_law_j"]) (N := ["_law_k", "_law_found", "_law_j", "_law_some"]) (fr := [none, some 0, some 3, some 1]) ⟨by rfl, by rfl, by decide +kernel, by decide +kernel, by decide +kernel, by rfl, by decide +kernel⟩ rfl rfl rfl (pi_range1 rfl T.n_range (pa_cons (pe_callB call_len_seq rfl T.n_len bt_len (pa_cons (pv 1) pa_nil)) pa_nil)) (fun _ _ _ _ => (pg_name (i := 0) (show (["_law_k", "_law_found", "_law_j", "_law_some"] : List Str).Nodup by decide +kernel) rfl (Or.inl rfl) (Or.inr rfl))) (fun _ _ _ _ => pts_nil) (fun _ _ _ _ => (pe_op op_mul (pe_ix (ix_listK K rfl) (pv 1) (pv 0) (fun _ _ => rfl)) (pe_ix (ix_listK K rfl) (pe_ix (ix_listK K rfl) (pv 3) (pv 0) (fun _ _ => rfl)) (pv 2) (fun _ _ => rfl))))) pa_nil)) (pe_ix ix_list (pv 2) (pv 3) (fun _ _ => rfl)) (nomark _))
                (pss_one
                  (ps_ret pe_bl))
                pss_nil)))
        (pss_one
          (ps_ret pe_bl)))), ?_⟩
    refine ⟨_, rfl, _, rfl, l, _, rfl, .inl (SqL.of hl), t, ts, (by rw [List.length_map, lfs, lt]; rfl), ht, (fun x hx => (hts x hx).1), _, rfl, iteF ?_⟩
    refine ⟨_, rfl, r, _, rfl, .inl (SqL.of hr'), _, rfl, by omega, by rw [List.length_map]; omega, for_range (fun i σ H' => ∃ v3 : Option V, σ = [some (.ref t), some (.ref l), some (.ref r), v3] ∧ Same H H') ⟨none, rfl, Same.refl _⟩ ?_ ?_⟩
    · rintro i σ H2 hi ⟨v3, rfl, e2⟩
      have hi : i < m := by
        rw [List.length_map] at hi
        omega
      have ht2 := e2 _ _ ht
      have hl2 := e2 _ _ hl
      have hbs2 := hbs.same e2
      have gvi := getD_at (l := v) (i := i) (by omega)
      dsimp only [gName]
      rw [Int.zero_add]
      refine ⟨_, rfl, l, _, rfl, .inl (SqL.of hl2), _, rfl, by omega, by rw [List.length_map]; omega, fun L hL => comp_rng (L := L) H2 (fun σ => ∃ w : Option V, σ = [w, some (.ref t), some (.int (i : Int)), some (.ref l)]) (fun j ys => ys = ((List.range j).map fun k => ts.getD k 0 * (row bs i).getD k 0).map V.int)
        hL ⟨none, rfl⟩ (Same.new hL) upd_same rfl (by show (fs.map V.ref).length ≤ sizeLine; rw [List.length_map]; omega) ?_ ?_ ?_⟩
      · rintro j ys rfl
        rw [List.length_map, List.length_map, List.length_range]; exact Nat.le_refl _
      · rintro j σ H3 ys hj ⟨w, rfl⟩ hs3 hL3 rfl N M hN
        have hj : j < bs.length := by
          have : j < (fs.map V.ref).length := hj
          rw [List.length_map] at this
          omega
        have gv := getD_at (l := ts) (i := j) (by omega)
        have ga : fs[j]? = some (fs.getD j 0) := by rw [List.getD_eq_getElem?_getD, List.getElem?_eq_getElem (by omega)]; rfl
        obtain ⟨c, hcj, hca, _⟩ := (hbs2.same hs3).get ga
        have gc := getD_at (l := c) (i := i) (by rw [hb c (List.mem_of_getElem? hcj)]; exact hi)
        have ec : bs.getD j [] = c := by rw [List.getD_eq_getElem?_getD, hcj]; rfl
        have vb := hts _ (List.mem_of_getElem? gv)
        dsimp only [gName]
        rw [Int.zero_add]
        refine ⟨_, rfl, _, rfl, t, _, _, .int (ts.getD j 0), rfl, rfl, SqL.of (hs3 _ _ ht2), atI_nat (by rw [List.getElem?_map, gv]; rfl), _, rfl, _, rfl, l, _, _, .ref (fs.getD j 0), rfl, rfl, SqL.of (hs3 _ _ hl2), atI_nat (by rw [List.getElem?_map, ga]; rfl), _, rfl, fs.getD j 0, _, _, .int (c.getD i 0), rfl, rfl, SqL.of hca, atI_nat (by rw [List.getElem?_map, gc]; rfl), _, _, rfl, rfl, .inl ⟨by omega, by omega⟩, hN _ _ _ ⟨_, rfl⟩ hs3 hL3 ?_⟩
        rw [List.range_succ, List.map_append, List.map_append, List.map_cons, List.map_nil, row_getD hj, ec]
        rfl
      · rintro H3 ys hs3 hL3 rfl
        have er : ((List.range (fs.map V.ref).length).map fun k => ts.getD k 0 * (row bs i).getD k 0).sum = dot ts (row bs i) := range_dot _ ts (row bs i) (by rw [List.length_map]; omega) (by rw [row_len, List.length_map, lfs])
        refine ⟨L, _, rfl, SqL.of hL3, _, rfl, _, rfl, r, _, _, .int (v.getD i 0), rfl, rfl, SqL.of (hs3 _ _ (e2 _ _ hr')), atI_nat (by rw [List.getElem?_map, gvi]; rfl), rfl, _, rfl, iteNS (congrArg V.int (er.trans (hd i hi))) ⟨_, rfl, e2.trans hs3⟩⟩
    · rintro σ H2 ⟨v3, rfl, e2⟩
      exact q H2 e2
theorem most_at : ∀ m : Nat, 1 ≤ m → m ≤ 4 → atI [V.int 6, V.int 5, V.int 4, V.int 3] ((m : Int) - 1) = some (V.int (([6, 5, 4, 3] : List Nat).getD (m - 1) 0 : Nat))
  | 1, _, _ => rfl
  | 2, _, _ => rfl
  | 3, _, _ => rfl
  | 4, _, _ => rfl
  | 0, h, _ => absurd h (by decide)
  | _ + 5, _, h => absurd h (by omega)
theorem most_le : ∀ m, m ≤ 4 → ([6, 5, 4, 3] : List Nat).getD (m - 1) 0 ≤ ([8, 8, 6, 5, 4] : List Nat).getD (m - 1) 0 ∧ ([6, 5, 4, 3] : List Nat).getD (m - 1) 0 ≤ 6 ∧ (([6, 5, 4, 3] : List Nat).getD (m - 1) 0 + 1) ^ m ≤ 1000 := by decide +kernel
theorem sorted_one {a b : List (List Int)} (h : a.Perm b) (oa : a.Pairwise (fun a b => ¬ b < a)) (ob : b.Pairwise (fun a b => ¬ b < a)) : a = b := List.Perm.eq_of_pairwise (fun a b _ _ h h' => List.le_antisymm (List.not_lt.mp h) (List.not_lt.mp h')) oa ob h
def spLaw (K : PySem.W.Frag) : Sp := fun vs H Q _ => ∃ (a : Addr) (ns : List Int), vs = [.ref a] ∧ SqL K H a (ns.map V.int) ∧ ns.length ≤ 63 ∧ ∀ H', Q (.bl true) H'
theorem scLaw : FnScope ["_law_script", "_law_columns_here", "_law_size", "_law_most", "_law_told", "_law_balance", "_law_some"] ["_law_script"] (defScope sLaw) := ⟨rfl, rfl, rfl, by decide +kernel, rfl, by decide +kernel, by decide +kernel⟩
theorem ok_law {f : Addr} {fd : FuncData} (F : Fun K "law" "law" sLaw f fd) (T : TxtL K mg KC FC TC) (c1 : CalE P w K mg base 1 "_law_here" ["_law_script", "_law_place"] (spHere K)) (c2 : CalE P w K mg base 2 "_law_columns" ["_law_script"] (spColumns K)) (c3 : CalE P w K mg base 6 "least" ["columns", "most"] spLeast) (c4 : CalE P w K mg base 2 "_law_least_ones" ["_law_some", "_law_columns_here", "_law_most"] spLeastOnes) (c5 : CalE P w K mg base 1 "_law_lists" ["_law_size", "_law_most"] spLists) (c6 : CalE P w K mg base 1 "_law_levels" ["_law_some", "_law_columns_here"] spLevels) (c7 : CalE P w K mg base 7 "split" ["columns", "balance"] spSplit) (c8 : CalE P w K mg base 2 "_law_comes_to" ["_law_found", "_law_some", "_law_balance"] spComesTo) : FnOk P w K mg base CX0 8 f fd ["_law_script"] (spLaw K) := by
  obtain ⟨_, _, c_l_here⟩ := c1
  obtain ⟨_, _, c_l_columns⟩ := c2
  obtain ⟨_, _, c_least⟩ := c3
  obtain ⟨_, _, c_l_least_ones⟩ := c4
  obtain ⟨_, _, c_l_lists⟩ := c5
  obtain ⟨_, _, c_l_levels⟩ := c6
  obtain ⟨_, _, c_split⟩ := c7
  obtain ⟨_, _, c_l_comes_to⟩ := c8
  refine F.ok scLaw (fun vs H Q E h => ?_) (fun cdv A outer s H vs Q E hr h => ?_)
  · obtain ⟨a, ns, rfl, _⟩ := h
    rfl
  · obtain ⟨a, ns, rfl, hS, hlen, q⟩ := h
    have hu64 := hr.units
    have big : (5000 : Nat) ≤ sizeLine := by decide
    refine ⟨_, (pss_cons
          (ps_set (i := 1) scLaw.nd rfl (Or.inl rfl) (pe_call c_l_columns.ok (hr.mono (by decide)) rfl c_l_columns.g c_l_columns.kp c_l_columns.b .nil pass0 (pa_cons (pv 0) pa_nil)))
        (pss_cons
          (ps_set (i := 2) scLaw.nd rfl (Or.inl rfl) (pe_callB call_len_seq rfl T.n_len bt_len (pa_cons (pv 1) pa_nil)))
        (pss_cons
          (ps_set (i := 3) scLaw.nd rfl (Or.inl rfl) (pe_op op_mod (pe_call c_l_here.ok (hr.mono (by decide)) rfl c_l_here.g c_l_here.kp c_l_here.b .nil pass0 (pa_cons (pv 0) (pa_cons pe_int pa_nil))) (pe_op op_add (pe_ix ix_list (pe_lst (pa_csts (.int (.int (.int (.int .nil)))))) (pe_op op_sub (pv 2) pe_int) (fun _ _ => rfl)) pe_int)))
        (pss_cons
          (ps_set (i := 4) scLaw.nd rfl (Or.inl rfl) (pe_call c_least.ok (hr.mono (by decide)) rfl c_least.g c_least.kp c_least.b .nil pass0 (pa_cons (pv 1) (pa_cons (pv 3) pa_nil))))
        (pss_cons
          (ps_if (pt_not (pt_val (pe_call c_l_least_ones.ok (hr.mono (by decide)) rfl c_l_least_ones.g c_l_least_ones.kp c_l_least_ones.b .nil pass0 (pa_cons (pv 4) (pa_cons (pv 1) (pa_cons (pv 3) pa_nil))))))
            (pss_one
              (ps_ret pe_bl))
            pss_nil)
        (pss_cons
          (ps_for PassesOwn.never rfl (pi_list (pe_call c_l_lists.ok (hr.mono (by decide)) rfl c_l_lists.g c_l_lists.kp c_l_lists.b .nil pass0 (pa_cons (pv 2) (pa_cons (pv 3) pa_nil)))) (pg_name (i := 5) scLaw.nd rfl (Or.inr rfl))
            (pss_one
              (ps_if (PW.pt (pw_and (pt_cmpR op_gt (pe_callB (call_sum rfl) rfl T.n_sum bt_sum (pa_cons (pv 5) pa_nil)) pe_int (nomark _)) (pw_and1 (pt_val (pe_call c_l_levels.ok (hr.mono (by decide)) rfl c_l_levels.g c_l_levels.kp c_l_levels.b .nil pass0 (pa_cons (pv 5) (pa_cons (pv 1) pa_nil)))))))
                (pss_cons
                  (ps_set (i := 6) scLaw.nd rfl (Or.inl rfl) (pe_call c_least.ok (hr.mono (by decide)) rfl c_least.g c_least.kp c_least.b .nil pass0 (pa_cons (pv 1) (pa_cons (pe_callB (call_sum rfl) rfl T.n_sum bt_sum (pa_cons (pv 5) pa_nil)) pa_nil))))
                (pss_cons
                  (ps_if (pt_cmpR (op_neR hu64) (pv 6) (pe_comp (sc := (defScope sLaw)) (NX := ["_law_script", "_law_columns_here", "_law_size", "_law_most", "_law_told", "_law_balance", "_law_some"]) (N := ["_law_one", "_law_balance"]) (fr := [none, some 5]) ⟨by rfl, by rfl, by decide +kernel, by decide +kernel, by decide +kernel, by rfl, by decide +kernel⟩ rfl rfl rfl (pi_list (pv 4)) (fun _ _ _ _ => (pg_name (i := 0) (show (["_law_one", "_law_balance"] : List Str).Nodup by decide +kernel) rfl (Or.inl rfl) (Or.inr rfl))) (fun _ _ _ _ => (pts_one (pt_cmpR op_le (pe_callB (call_sumK K rfl rfl) rfl T.n_sum bt_sum (pa_cons (pv 0) pa_nil)) (pe_callB (call_sumK K rfl rfl) rfl T.n_sum bt_sum (pa_cons (pv 1) pa_nil)) (nomark _)))) (fun _ _ _ _ => (pv 0))) (nomark _))
                    (pss_one
                      (ps_ret pe_bl))
                    pss_nil)
                (pss_one
                  (ps_if (pt_not (pt_val (pe_call c_l_comes_to.ok (hr.mono (by decide)) rfl c_l_comes_to.g c_l_comes_to.kp c_l_comes_to.b .nil pass0 (pa_cons (pe_call c_split.ok (hr.mono (by decide)) rfl c_split.g c_split.kp c_split.b .nil pass0 (pa_cons (pv 1) (pa_cons (pv 5) pa_nil))) (pa_cons (pv 6) (pa_cons (pv 5) pa_nil))))))
                    (pss_one
                      (ps_ret pe_bl))
                    pss_nil))))
                pss_nil)))
        (pss_one
          (ps_ret pe_bl)))))))), ?_⟩
    refine ⟨_, rfl, a, ns, rfl, hS, fun l as cs n H1 e1 hl hco fit n3 m1 m4 => ?_⟩
    have las := hco.length
    have ml : (((as.map V.ref).length : Nat) : Int) = ((cs.length : Nat) : Int) := by rw [List.length_map, las]
    obtain ⟨ml8, ml6, mlp⟩ := most_le cs.length m4
    refine ⟨_, rfl, l, _, rfl, .inl (SqL.of hl), ?_⟩
    dsimp only [gName]
    rw [ml]
    refine ⟨_, rfl, a, ns, 1, rfl, e1.seq hS, fun h H2 e2 => ⟨(by show 4 ≤ sizeLine; decide), fun z hz => ⟨_, rfl, _, _, rfl, rfl, z, _, _, V.int (([6, 5, 4, 3] : List Nat).getD (cs.length - 1) 0 : Nat), rfl, rfl, SqL.of upd_same, most_at cs.length m1 m4, _, _, rfl, rfl, _, _, rfl, rfl, ?_, ?_⟩⟩⟩
    · show (0 : Int) < _
      omega
    have s12 := e2.trans (Same.new (o := .lst [V.int 6, V.int 5, V.int 4, V.int 3]) hz)
    obtain ⟨mo, emo, lmo⟩ : ∃ mo : Nat, h % (((([6, 5, 4, 3] : List Nat).getD (cs.length - 1) 0 : Nat) : Int) + 1) = (mo : Int) ∧ mo ≤ ([6, 5, 4, 3] : List Nat).getD (cs.length - 1) 0 := by
      have g0 := Int.emod_nonneg h (b := ((([6, 5, 4, 3] : List Nat).getD (cs.length - 1) 0 : Nat) : Int) + 1) (by omega)
      have g1 := Int.emod_lt_of_pos h (b := ((([6, 5, 4, 3] : List Nat).getD (cs.length - 1) 0 : Nat) : Int) + 1) (by omega)
      exact ⟨(h % (((([6, 5, 4, 3] : List Nat).getD (cs.length - 1) 0 : Nat) : Int) + 1)).toNat, by omega, by omega⟩
    dsimp only [gName]
    rw [emo]
    have hl2 := s12 _ _ hl
    have hco2 := hco.same s12
    generalize upd H2 z (.lst [V.int 6, V.int 5, V.int 4, V.int 3]) = H3 at s12 hl2 hco2 ⊢
    have grw : ∀ s, s ≤ mo → ∀ k, k < s → (growL cs.length (bfsL (levL (fewL cs n) (enoughL cs n).length) cs.length k).2).length ≤ 1100 := fun s hs k hk => Nat.le_trans (few_grown _ _ k).2 (pow_few _ (by omega) k (by omega))
    have tld : ∀ s, s ≤ mo → ∀ k, k ≤ s → (bfsL (levL (fewL cs n) (enoughL cs n).length) cs.length k).1.length < 64 := fun s hs k hk => few_told m1 (by omega) (by omega)
    refine ⟨_, rfl, _, rfl, l, as, cs, n, mo, rfl, hl2, hco2, fit, by omega, m1, by omega, by omega, grw mo (Nat.le_refl _), tld mo (Nat.le_refl _), fun fl fs bs H4 _ e4 p2 o2 hfl hfs => ?_⟩
    have mem : ∀ u, u ∈ bs ↔ Lst (levL (fewL cs n) (enoughL cs n).length) cs.length u ∧ u.sum ≤ mo := fun u => by rw [p2.mem_iff]; exact (bfs_told _ _ mo).1 u
    have ndb : bs.Nodup := p2.symm.nodup (bfs_told _ _ mo).2
    have lbs : bs.length < 64 := by rw [p2.length_eq]; exact tld mo (Nat.le_refl _) mo (Nat.le_refl _)
    have lfs := hfs.length
    have wid : ∀ c ∈ cs, c.length = n := fun c hc => (fit c hc).1
    have levs : ∀ u : List Int, u.length = cs.length → (levL (fewL cs n) (enoughL cs n).length u = true ↔ levB cs n u = true) := fun u hu => by rw [enough_ok (by omega) (by omega) fit hu, levB_iff]
    have hl4 := e4 _ _ hl2
    have hco4 := hco2.same e4
    dsimp only [gName]
    refine ⟨_, rfl, _, rfl, _, rfl, fl, l, mo, fs, as, bs, cs, n, rfl, hfl, hfs, hl4, hco4, wid, by omega, m1, by omega, by omega, (fun b hb => ?_), (fun j k a b ha hb hjk => ?_), fun H5 e5 => ⟨_, rfl, iteF ?_⟩⟩
    · obtain ⟨hL, hs⟩ := (mem b).mp hb
      exact ⟨hL.1, hL.2.1, hs, by omega, (levs b hL.1.1).mp hL.2.2.1⟩
    · rw [← Bool.not_eq_true]
      intro c
      have hA := ((mem a).mp (List.mem_of_getElem? ha)).1
      have hB := ((mem b).mp (List.mem_of_getElem? hb)).1
      have eab := hB.2.2.2 a hA.1 hA.2.1 hA.2.2.1 ((le_fit (by rw [hA.1.1, hB.1.1])).mp c)
      have hj := (List.getElem?_eq_some_iff.mp ha)
      have hk := (List.getElem?_eq_some_iff.mp hb)
      exact hjk ((List.getElem?_inj hj.1 ndb).mp (by rw [ha, hb, eab]))
    refine ⟨_, rfl, _, rfl, cs.length, mo, rfl, by omega, by omega, Nat.le_trans (Nat.pow_le_pow_left (by omega) _) mlp, fun ll la vs H6 e6 hll hvs lvs hvv => ?_⟩
    have lla := hvs.length
    have s46 := e5.trans e6
    have hfl6 := s46 _ _ hfl
    have hfs6 := hfs.same s46
    have hl6 := s46 _ _ hl4
    have hco6 := hco4.same s46
    refine ⟨ll, rfl, ⟨_, SqL.of hll⟩, for_list (K := K) (a := ll) (xs := la.map V.ref) (fun i σ H' => ∃ v5 v6 : Option V, σ = [some (.ref a), some (.ref l), some (.int (cs.length : Nat)), some (.int mo), some (.ref fl), v5, v6] ∧ Same H6 H') ?_ (fun i σ H' _ ⟨_, _, _, e⟩ => SqL.of (e _ _ hll)) ?_ ?_⟩
    · exact ⟨none, none, rfl, Same.refl _⟩
    · rintro i y σ H7 hi ⟨v5, v6, rfl, e7⟩
      obtain ⟨bj, hbj, rfl⟩ := ref_at hi
      obtain ⟨v, hv, hva, _⟩ := (hvs.same e7).get hbj
      obtain ⟨vn, vs'⟩ := hvv v (List.mem_of_getElem? hv)
      have vb : ∀ x ∈ v, 0 ≤ x ∧ x ≤ 1000 := fun x hx => ⟨vn.2 x hx, by have := mem_le_sum vn.2 x hx; omega⟩
      have v0 := sum_nn vn.2
      dsimp only [gName]
      refine ⟨_, rfl, bj, v, rfl, SqL.of hva, _, _, rfl, rfl, _, rfl, ite2 (fun c => ?_) fun c => ?_⟩
      · refine ⟨_, rfl, _, rfl, bj, l, v, as, cs, n, rfl, hva, e7 _ _ hl6, hco6.same e7, wid, by omega, m1, by omega, vn.1, vb, fun H8 e8 => ⟨_, rfl, ite2 (fun c2 => ?_) fun c2 => ?_⟩⟩
        · have s68 := e7.trans e8
          have hva8 := e8 _ _ hva
          obtain ⟨t, et⟩ : ∃ t : Nat, v.sum = (t : Int) := ⟨v.sum.toNat, by omega⟩
          have tm : t ≤ mo := by omega
          refine ⟨_, rfl, _, rfl, bj, v, rfl, SqL.of hva8, l, as, cs, n, t, by rw [et]; rfl, s68 _ _ hl6, hco6.same s68, fit, by omega, m1, by omega, by omega, grw t tm, tld t tm, fun sl sa ss H9 _ e9 p3 o3 hsl hss => ?_⟩
          have lss := hss.length
          have mem3 : ∀ u, u ∈ ss ↔ Lst (levL (fewL cs n) (enoughL cs n).length) cs.length u ∧ u.sum ≤ t := fun u => by rw [p3.mem_iff]; exact (bfs_told _ _ t).1 u
          have nds : ss.Nodup := p3.symm.nodup (bfs_told _ _ t).2
          have lss2 : ss.length < 64 := by rw [p3.length_eq]; exact tld t tm t (Nat.le_refl _)
          have heq : ss = bs.filter fun b => decide (b.sum ≤ v.sum) := by
            refine sorted_one ((List.perm_ext_iff_of_nodup nds (ndb.filter _)).mpr fun u => ?_) o3 (o2.filter _)
            rw [mem3, List.mem_filter, mem, decide_eq_true_eq, et]
            constructor
            · rintro ⟨h1, h2⟩
              exact ⟨⟨h1, by omega⟩, h2⟩
            · rintro ⟨⟨h1, _⟩, h2⟩
              exact ⟨h1, h2⟩
          have s69 := s68.trans e9
          have hfl9 := s69 _ _ hfl6
          have hfs9 := hfs6.same s69
          have hva9 := e9 _ _ hva8
          dsimp only [gName]
          refine ⟨_, rfl, _, rfl, fl, rfl, ⟨_, SqL.of hfl9⟩, fun L hL => comp_lstT (K := K) (a := fl) (L := L) (xs := fs.map V.ref) H9 (fun σ => ∃ w : Option V, σ = [w, some (.ref bj)]) (fun i ys => ∃ lc : List Addr, ys = lc.map V.ref ∧ lc.length ≤ i ∧ ColsS [] H9 lc ((bs.take i).filter fun b => decide (b.sum ≤ v.sum)))
            (SqL.of hfl9) hL ⟨none, rfl⟩ (Same.new hL) upd_same ⟨[], rfl, Nat.le_refl _, .nil⟩ (by rw [List.length_map]; omega) ?_ ?_ ?_⟩
          · rintro j ys ⟨lc, rfl, h, _⟩
            rw [List.length_map]
            exact h
          · rintro j y σ H10 ys hy ⟨w, rfl⟩ hs10 hL10 ⟨lc, rfl, llc, hlc⟩ N M hN hM
            obtain ⟨oj, hoj, rfl⟩ := ref_at hy
            obtain ⟨b, hb, hba, _⟩ := hfs9.get hoj
            refine ⟨_, rfl, oj, b, rfl, SqL.of (hs10 _ _ hba), _, rfl, bj, v, rfl, SqL.of (hs10 _ _ hva9), _, _, rfl, rfl, _, rfl, ite2 (fun c => ?_) fun c => ?_⟩
            · have c : b.sum ≤ v.sum := by simpa using c
              refine ⟨_, rfl, hN _ _ _ ⟨_, rfl⟩ hs10 hL10 ⟨lc ++ [oj], by rw [List.map_append]; rfl, by simp; omega, ?_⟩⟩
              rw [snoc_take hb, List.filter_append, show [b].filter (fun b => decide (b.sum ≤ v.sum)) = [b] by simp [c]]
              exact hlc.snoc hba (by simp)
            · have c : ¬ b.sum ≤ v.sum := by simpa using c
              refine hM _ _ ⟨_, rfl⟩ hs10 hL10 ⟨lc, rfl, by omega, ?_⟩
              rw [snoc_take hb, List.filter_append, show [b].filter (fun b => decide (b.sum ≤ v.sum)) = [] by simp [c], List.append_nil]
              exact hlc
          rintro H10 ys hs10 hL10 ⟨lc, rfl, llc, hlc⟩
          rw [List.length_map, lfs, List.take_length, ← heq] at hlc
          refine ⟨dCols ss, dCols ss, RdD.cols (SqL.of (hs10 _ _ hsl)) (hss.same hs10).at, RdD.cols (SqL.of hL10) (hlc.same hs10).at, dCols_shaped ss, dCols_shaped ss, _, rfl, iteF2 (by rw [eqv_self _ (dCols_can ss)]; rfl) ?_⟩
          have s610 := s69.trans hs10
          have hva10 := hs10 _ _ hva9
          refine ⟨_, rfl, _, rfl, l, bj, as, cs, n, t, v, rfl, s610 _ _ hl6, hco6.same s610, fit, by omega, m1, by omega, hva10, vn, et, by omega, by omega, (levB_iff cs n v).mp c2, fun tl ts bs2 H11 e11 htl p4 o4 lts hts hd => ?_⟩
          have e24 : bs2 = ss := sorted_one (p4.trans p3.symm) o4 o3
          subst e24
          refine ⟨_, rfl, _, rfl, tl, sl, bj, ts, v, sa, bs2, cs.length, rfl, htl, e11 _ _ (hs10 _ _ hsl), (hss.same hs10).same e11, e11 _ _ hva10, lts, (fun x hx => by have := hts x hx; omega), vn.1, by omega, by omega, (fun b hb => ((mem3 b).mp hb).1.1.1), hd, fun H12 e12 => ⟨_, rfl, iteF ⟨_, _, rfl, (s610.trans e11).trans e12⟩⟩⟩
        · exact ⟨_, _, rfl, e7.trans e8⟩
      · exact ⟨_, _, rfl, e7⟩
    · rintro σ H7 ⟨v5, v6, rfl, e7⟩
      exact q H7
end
theorem all_mk {l : PySem.W.OpenLaw} {w : World} {K : PySem.W.Frag} {h : Heap} {mg : Str → Option Value} {fa KC FC TC fxdi fxlo fxwe fxki fxfi fxsh fxre fxro fxle fxfr fxbi fxfd fxke fxga fxib fxtw fxsp fxti fxtr fxta fxtl fxrw fxft fxlt fxlh fxlk fxco fxll fxlv fxlb fxlw fxln fxlc flaw : Addr} (X : K.In h) (G : h.Ns mainGlobals mg) (hfa : mg "law" = some (.ref fa))
    {odxdi anxdi odxlo anxlo odxwe anxwe odxki anxki odxfi anxfi odxsh anxsh odxre anxre odxro anxro odxle anxle odxfr anxfr odxbi anxbi odxfd anxfd odxke anxke odxga anxga odxib anxib odxtw anxtw odxsp anxsp odxti anxti odxtr anxtr odxta anxta odxtl anxtl odxrw anxrw odxft anxft odxlt anxlt odxlh anxlh odxlk anxlk odxco anxco odxll anxll odxlv anxlv odxlb anxlb odxlw anxlw odxln anxln odxlc anxlc odlaw anlaw : Option Addr} {slxdi slxlo slxwe slxki slxfi slxsh slxre slxro slxle slxfr slxbi slxfd slxke slxga slxib slxtw slxsp slxti slxtr slxta slxtl slxrw slxft slxlt slxlh slxlk slxco slxll slxlv slxlb slxlw slxln slxlc sllaw : Array (Option Value)} {ocxdi kVxdi dcxdi pmxdi cdxdi ctxdi ocxlo kVxlo dcxlo pmxlo cdxlo ctxlo ocxwe kVxwe dcxwe pmxwe cdxwe ctxwe ocxki kVxki dcxki pmxki cdxki ctxki ocxfi kVxfi dcxfi pmxfi cdxfi ctxfi ocxsh kVxsh dcxsh pmxsh cdxsh ctxsh ocxre kVxre dcxre pmxre cdxre ctxre ocxro kVxro dcxro pmxro cdxro ctxro ocxle kVxle dcxle pmxle cdxle ctxle ocxfr kVxfr dcxfr pmxfr cdxfr ctxfr ocxbi kVxbi dcxbi pmxbi cdxbi ctxbi ocxfd kVxfd dcxfd pmxfd cdxfd ctxfd ocxke kVxke dcxke pmxke cdxke ctxke ocxga kVxga dcxga pmxga cdxga ctxga ocxib kVxib dcxib pmxib cdxib ctxib ocxtw kVxtw dcxtw pmxtw cdxtw ctxtw ocxsp kVxsp dcxsp pmxsp cdxsp ctxsp ocxti kVxti dcxti pmxti cdxti ctxti ocxtr kVxtr dcxtr pmxtr cdxtr ctxtr ocxta kVxta dcxta pmxta cdxta ctxta ocxtl kVxtl dcxtl pmxtl cdxtl ctxtl ocxrw kVxrw dcxrw pmxrw cdxrw ctxrw ocxft kVxft dcxft pmxft cdxft ctxft ocxlt kVxlt dcxlt pmxlt cdxlt ctxlt ocxlh kVxlh dcxlh pmxlh cdxlh ctxlh ocxlk kVxlk dcxlk pmxlk cdxlk ctxlk ocxco kVxco dcxco pmxco cdxco ctxco ocxll kVxll dcxll pmxll cdxll ctxll ocxlv kVxlv dcxlv pmxlv cdxlv ctxlv ocxlb kVxlb dcxlb pmxlb cdxlb ctxlb ocxlw kVxlw dcxlw pmxlw cdxlw ctxlw ocxln kVxln dcxln pmxln cdxln ctxln ocxlc kVxlc dcxlc pmxlc cdxlc ctxlc oclaw kVlaw dclaw pmlaw cdlaw ctlaw : Value}
    (aKC : PySem.W.nsIn K mainGlobals "Kernel" = some (some (.ref KC)))
    (aFC : PySem.W.nsIn K mainGlobals "Frame" = some (some (.ref FC)))
    (aTC : PySem.W.nsIn K mainGlobals "Trial" = some (some (.ref TC)))
    (axdi : PySem.W.nsIn K mainGlobals "divisor" = some (some (.ref fxdi)))
    (lxdi : K.lookup fxdi = some ⟨ocxdi, odxdi, .func (PySem.W.fnOf "divisor" "divisor" (defArgs sDivisor) (defBody sDivisor) (defScope sDivisor) .none kVxdi dcxdi pmxdi anxdi cdxdi ctxdi), slxdi⟩)
    (cxdi : PySem.W.codeIn K cdxdi "divisor" = true)
    (kxdi : PySem.W.keepIn K (.ref fxdi) = true)
    (axlo : PySem.W.nsIn K mainGlobals "lowest" = some (some (.ref fxlo)))
    (lxlo : K.lookup fxlo = some ⟨ocxlo, odxlo, .func (PySem.W.fnOf "lowest" "lowest" (defArgs sLowest) (defBody sLowest) (defScope sLowest) .none kVxlo dcxlo pmxlo anxlo cdxlo ctxlo), slxlo⟩)
    (cxlo : PySem.W.codeIn K cdxlo "lowest" = true)
    (kxlo : PySem.W.keepIn K (.ref fxlo) = true)
    (axwe : PySem.W.nsIn K mainGlobals "weigh" = some (some (.ref fxwe)))
    (lxwe : K.lookup fxwe = some ⟨ocxwe, odxwe, .func (PySem.W.fnOf "weigh" "weigh" (defArgs sWeigh) (defBody sWeigh) (defScope sWeigh) .none kVxwe dcxwe pmxwe anxwe cdxwe ctxwe), slxwe⟩)
    (cxwe : PySem.W.codeIn K cdxwe "weigh" = true)
    (kxwe : PySem.W.keepIn K (.ref fxwe) = true)
    (axki : PySem.W.findIn K (.ref KC) "__init__" = some (some (.ref fxki)))
    (ixki : PySem.W.isFn K (.ref fxki) = true)
    (lxki : K.lookup fxki = some ⟨ocxki, odxki, .func (PySem.W.fnOf "__init__" "Kernel.__init__" (defArgs sKInit) (defBody sKInit) (defScope sKInit) .none kVxki dcxki pmxki anxki cdxki ctxki), slxki⟩)
    (cxki : PySem.W.codeIn K cdxki "Kernel.__init__" = true)
    (kxki : PySem.W.keepIn K (.ref fxki) = true)
    (axfi : PySem.W.findIn K (.ref FC) "__init__" = some (some (.ref fxfi)))
    (ixfi : PySem.W.isFn K (.ref fxfi) = true)
    (lxfi : K.lookup fxfi = some ⟨ocxfi, odxfi, .func (PySem.W.fnOf "__init__" "Frame.__init__" (defArgs sFInit) (defBody sFInit) (defScope sFInit) .none kVxfi dcxfi pmxfi anxfi cdxfi ctxfi), slxfi⟩)
    (cxfi : PySem.W.codeIn K cdxfi "Frame.__init__" = true)
    (kxfi : PySem.W.keepIn K (.ref fxfi) = true)
    (axsh : PySem.W.findIn K (.ref FC) "shares" = some (some (.ref fxsh)))
    (ixsh : PySem.W.isFn K (.ref fxsh) = true)
    (lxsh : K.lookup fxsh = some ⟨ocxsh, odxsh, .func (PySem.W.fnOf "shares" "Frame.shares" (defArgs sShares) (defBody sShares) (defScope sShares) .none kVxsh dcxsh pmxsh anxsh cdxsh ctxsh), slxsh⟩)
    (cxsh : PySem.W.codeIn K cdxsh "Frame.shares" = true)
    (kxsh : PySem.W.keepIn K (.ref fxsh) = true)
    (axre : PySem.W.findIn K (.ref FC) "rest" = some (some (.ref fxre)))
    (ixre : PySem.W.isFn K (.ref fxre) = true)
    (lxre : K.lookup fxre = some ⟨ocxre, odxre, .func (PySem.W.fnOf "rest" "Frame.rest" (defArgs sRest) (defBody sRest) (defScope sRest) .none kVxre dcxre pmxre anxre cdxre ctxre), slxre⟩)
    (cxre : PySem.W.codeIn K cdxre "Frame.rest" = true)
    (kxre : PySem.W.keepIn K (.ref fxre) = true)
    (axro : PySem.W.findIn K (.ref FC) "row_with_rest" = some (some (.ref fxro)))
    (ixro : PySem.W.isFn K (.ref fxro) = true)
    (lxro : K.lookup fxro = some ⟨ocxro, odxro, .func (PySem.W.fnOf "row_with_rest" "Frame.row_with_rest" (defArgs sRow) (defBody sRow) (defScope sRow) .none kVxro dcxro pmxro anxro cdxro ctxro), slxro⟩)
    (cxro : PySem.W.codeIn K cdxro "Frame.row_with_rest" = true)
    (kxro : PySem.W.keepIn K (.ref fxro) = true)
    (axle : PySem.W.findIn K (.ref FC) "levelling" = some (some (.ref fxle)))
    (ixle : PySem.W.isFn K (.ref fxle) = true)
    (lxle : K.lookup fxle = some ⟨ocxle, odxle, .func (PySem.W.fnOf "levelling" "Frame.levelling" (defArgs sLev) (defBody sLev) (defScope sLev) .none kVxle dcxle pmxle anxle cdxle ctxle), slxle⟩)
    (cxle : PySem.W.codeIn K cdxle "Frame.levelling" = true)
    (kxle : PySem.W.keepIn K (.ref fxle) = true)
    (axfr : PySem.W.findIn K (.ref FC) "weights_of_rest" = some (some (.ref fxfr)))
    (ixfr : PySem.W.isFn K (.ref fxfr) = true)
    (lxfr : K.lookup fxfr = some ⟨ocxfr, odxfr, .func (PySem.W.fnOf "weights_of_rest" "Frame.weights_of_rest" (defArgs sFresh) (defBody sFresh) (defScope sFresh) .none kVxfr dcxfr pmxfr anxfr cdxfr ctxfr), slxfr⟩)
    (cxfr : PySem.W.codeIn K cdxfr "Frame.weights_of_rest" = true)
    (kxfr : PySem.W.keepIn K (.ref fxfr) = true)
    (axbi : PySem.W.findIn K (.ref FC) "bind" = some (some (.ref fxbi)))
    (ixbi : PySem.W.isFn K (.ref fxbi) = true)
    (lxbi : K.lookup fxbi = some ⟨ocxbi, odxbi, .func (PySem.W.fnOf "bind" "Frame.bind" (defArgs sBind) (defBody sBind) (defScope sBind) .none kVxbi dcxbi pmxbi anxbi cdxbi ctxbi), slxbi⟩)
    (cxbi : PySem.W.codeIn K cdxbi "Frame.bind" = true)
    (kxbi : PySem.W.keepIn K (.ref fxbi) = true)
    (axfd : PySem.W.findIn K (.ref FC) "freed" = some (some (.ref fxfd)))
    (ixfd : PySem.W.isFn K (.ref fxfd) = true)
    (lxfd : K.lookup fxfd = some ⟨ocxfd, odxfd, .func (PySem.W.fnOf "freed" "Frame.freed" (defArgs sFreed) (defBody sFreed) (defScope sFreed) .none kVxfd dcxfd pmxfd anxfd cdxfd ctxfd), slxfd⟩)
    (cxfd : PySem.W.codeIn K cdxfd "Frame.freed" = true)
    (kxfd : PySem.W.keepIn K (.ref fxfd) = true)
    (axke : PySem.W.nsIn K mainGlobals "kernel" = some (some (.ref fxke)))
    (lxke : K.lookup fxke = some ⟨ocxke, odxke, .func (PySem.W.fnOf "kernel" "kernel" (defArgs sKernel) (defBody sKernel) (defScope sKernel) .none kVxke dcxke pmxke anxke cdxke ctxke), slxke⟩)
    (cxke : PySem.W.codeIn K cdxke "kernel" = true)
    (kxke : PySem.W.keepIn K (.ref fxke) = true)
    (axga : PySem.W.nsIn K mainGlobals "gather" = some (some (.ref fxga)))
    (lxga : K.lookup fxga = some ⟨ocxga, odxga, .func (PySem.W.fnOf "gather" "gather" (defArgs sGather) (defBody sGather) (defScope sGather) .none kVxga dcxga pmxga anxga cdxga ctxga), slxga⟩)
    (cxga : PySem.W.codeIn K cdxga "gather" = true)
    (kxga : PySem.W.keepIn K (.ref fxga) = true)
    (axib : PySem.W.nsIn K mainGlobals "is_balance" = some (some (.ref fxib)))
    (lxib : K.lookup fxib = some ⟨ocxib, odxib, .func (PySem.W.fnOf "is_balance" "is_balance" (defArgs sIsBalance) (defBody sIsBalance) (defScope sIsBalance) .none kVxib dcxib pmxib anxib cdxib ctxib), slxib⟩)
    (cxib : PySem.W.codeIn K cdxib "is_balance" = true)
    (kxib : PySem.W.keepIn K (.ref fxib) = true)
    (axtw : PySem.W.nsIn K mainGlobals "times_within" = some (some (.ref fxtw)))
    (lxtw : K.lookup fxtw = some ⟨ocxtw, odxtw, .func (PySem.W.fnOf "times_within" "times_within" (defArgs sTimes) (defBody sTimes) (defScope sTimes) .none kVxtw dcxtw pmxtw anxtw cdxtw ctxtw), slxtw⟩)
    (cxtw : PySem.W.codeIn K cdxtw "times_within" = true)
    (kxtw : PySem.W.keepIn K (.ref fxtw) = true)
    (axsp : PySem.W.nsIn K mainGlobals "split" = some (some (.ref fxsp)))
    (lxsp : K.lookup fxsp = some ⟨ocxsp, odxsp, .func (PySem.W.fnOf "split" "split" (defArgs sSplit) (defBody sSplit) (defScope sSplit) .none kVxsp dcxsp pmxsp anxsp cdxsp ctxsp), slxsp⟩)
    (cxsp : PySem.W.codeIn K cdxsp "split" = true)
    (kxsp : PySem.W.keepIn K (.ref fxsp) = true)
    (axti : PySem.W.findIn K (.ref TC) "__init__" = some (some (.ref fxti)))
    (ixti : PySem.W.isFn K (.ref fxti) = true)
    (lxti : K.lookup fxti = some ⟨ocxti, odxti, .func (PySem.W.fnOf "__init__" "Trial.__init__" (defArgs sTInit) (defBody sTInit) (defScope sTInit) .none kVxti dcxti pmxti anxti cdxti ctxti), slxti⟩)
    (cxti : PySem.W.codeIn K cdxti "Trial.__init__" = true)
    (kxti : PySem.W.keepIn K (.ref fxti) = true)
    (axtr : PySem.W.findIn K (.ref TC) "raised" = some (some (.ref fxtr)))
    (ixtr : PySem.W.isFn K (.ref fxtr) = true)
    (lxtr : K.lookup fxtr = some ⟨ocxtr, odxtr, .func (PySem.W.fnOf "raised" "Trial.raised" (defArgs sRaised) (defBody sRaised) (defScope sRaised) .none kVxtr dcxtr pmxtr anxtr cdxtr ctxtr), slxtr⟩)
    (cxtr : PySem.W.codeIn K cdxtr "Trial.raised" = true)
    (kxtr : PySem.W.keepIn K (.ref fxtr) = true)
    (axta : PySem.W.findIn K (.ref TC) "all_raised" = some (some (.ref fxta)))
    (ixta : PySem.W.isFn K (.ref fxta) = true)
    (lxta : K.lookup fxta = some ⟨ocxta, odxta, .func (PySem.W.fnOf "all_raised" "Trial.all_raised" (defArgs sAllRaised) (defBody sAllRaised) (defScope sAllRaised) .none kVxta dcxta pmxta anxta cdxta ctxta), slxta⟩)
    (cxta : PySem.W.codeIn K cdxta "Trial.all_raised" = true)
    (kxta : PySem.W.keepIn K (.ref fxta) = true)
    (axtl : PySem.W.findIn K (.ref TC) "is_level" = some (some (.ref fxtl)))
    (ixtl : PySem.W.isFn K (.ref fxtl) = true)
    (lxtl : K.lookup fxtl = some ⟨ocxtl, odxtl, .func (PySem.W.fnOf "is_level" "Trial.is_level" (defArgs sIsLevel) (defBody sIsLevel) (defScope sIsLevel) .none kVxtl dcxtl pmxtl anxtl cdxtl ctxtl), slxtl⟩)
    (cxtl : PySem.W.codeIn K cdxtl "Trial.is_level" = true)
    (kxtl : PySem.W.keepIn K (.ref fxtl) = true)
    (axrw : PySem.W.nsIn K mainGlobals "rows_enough" = some (some (.ref fxrw)))
    (lxrw : K.lookup fxrw = some ⟨ocxrw, odxrw, .func (PySem.W.fnOf "rows_enough" "rows_enough" (defArgs sRowsEnough) (defBody sRowsEnough) (defScope sRowsEnough) .none kVxrw dcxrw pmxrw anxrw cdxrw ctxrw), slxrw⟩)
    (cxrw : PySem.W.codeIn K cdxrw "rows_enough" = true)
    (kxrw : PySem.W.keepIn K (.ref fxrw) = true)
    (axft : PySem.W.nsIn K mainGlobals "fits" = some (some (.ref fxft)))
    (lxft : K.lookup fxft = some ⟨ocxft, odxft, .func (PySem.W.fnOf "fits" "fits" (defArgs sFits) (defBody sFits) (defScope sFits) .none kVxft dcxft pmxft anxft cdxft ctxft), slxft⟩)
    (cxft : PySem.W.codeIn K cdxft "fits" = true)
    (kxft : PySem.W.keepIn K (.ref fxft) = true)
    (axlt : PySem.W.nsIn K mainGlobals "least" = some (some (.ref fxlt)))
    (lxlt : K.lookup fxlt = some ⟨ocxlt, odxlt, .func (PySem.W.fnOf "least" "least" (defArgs sLeast) (defBody sLeast) (defScope sLeast) .none kVxlt dcxlt pmxlt anxlt cdxlt ctxlt), slxlt⟩)
    (cxlt : PySem.W.codeIn K cdxlt "least" = true)
    (kxlt : PySem.W.keepIn K (.ref fxlt) = true)
    (axlh : PySem.W.nsIn K mainGlobals "_law_here" = some (some (.ref fxlh)))
    (lxlh : K.lookup fxlh = some ⟨ocxlh, odxlh, .func (PySem.W.fnOf "_law_here" "_law_here" (defArgs sHere) (defBody sHere) (defScope sHere) .none kVxlh dcxlh pmxlh anxlh cdxlh ctxlh), slxlh⟩)
    (cxlh : PySem.W.codeIn K cdxlh "_law_here" = true)
    (kxlh : PySem.W.keepIn K (.ref fxlh) = true)
    (axlk : PySem.W.nsIn K mainGlobals "_law_shaken" = some (some (.ref fxlk)))
    (lxlk : K.lookup fxlk = some ⟨ocxlk, odxlk, .func (PySem.W.fnOf "_law_shaken" "_law_shaken" (defArgs sShaken) (defBody sShaken) (defScope sShaken) .none kVxlk dcxlk pmxlk anxlk cdxlk ctxlk), slxlk⟩)
    (cxlk : PySem.W.codeIn K cdxlk "_law_shaken" = true)
    (kxlk : PySem.W.keepIn K (.ref fxlk) = true)
    (axco : PySem.W.nsIn K mainGlobals "_law_columns" = some (some (.ref fxco)))
    (lxco : K.lookup fxco = some ⟨ocxco, odxco, .func (PySem.W.fnOf "_law_columns" "_law_columns" (defArgs sColumns) (defBody sColumns) (defScope sColumns) .none kVxco dcxco pmxco anxco cdxco ctxco), slxco⟩)
    (cxco : PySem.W.codeIn K cdxco "_law_columns" = true)
    (kxco : PySem.W.keepIn K (.ref fxco) = true)
    (axll : PySem.W.nsIn K mainGlobals "_law_lists" = some (some (.ref fxll)))
    (lxll : K.lookup fxll = some ⟨ocxll, odxll, .func (PySem.W.fnOf "_law_lists" "_law_lists" (defArgs sLists) (defBody sLists) (defScope sLists) .none kVxll dcxll pmxll anxll cdxll ctxll), slxll⟩)
    (cxll : PySem.W.codeIn K cdxll "_law_lists" = true)
    (kxll : PySem.W.keepIn K (.ref fxll) = true)
    (axlv : PySem.W.nsIn K mainGlobals "_law_levels" = some (some (.ref fxlv)))
    (lxlv : K.lookup fxlv = some ⟨ocxlv, odxlv, .func (PySem.W.fnOf "_law_levels" "_law_levels" (defArgs sLevels) (defBody sLevels) (defScope sLevels) .none kVxlv dcxlv pmxlv anxlv cdxlv ctxlv), slxlv⟩)
    (cxlv : PySem.W.codeIn K cdxlv "_law_levels" = true)
    (kxlv : PySem.W.keepIn K (.ref fxlv) = true)
    (axlb : PySem.W.nsIn K mainGlobals "_law_beneath" = some (some (.ref fxlb)))
    (lxlb : K.lookup fxlb = some ⟨ocxlb, odxlb, .func (PySem.W.fnOf "_law_beneath" "_law_beneath" (defArgs sBeneath) (defBody sBeneath) (defScope sBeneath) .none kVxlb dcxlb pmxlb anxlb cdxlb ctxlb), slxlb⟩)
    (cxlb : PySem.W.codeIn K cdxlb "_law_beneath" = true)
    (kxlb : PySem.W.keepIn K (.ref fxlb) = true)
    (axlw : PySem.W.nsIn K mainGlobals "_law_whole_list" = some (some (.ref fxlw)))
    (lxlw : K.lookup fxlw = some ⟨ocxlw, odxlw, .func (PySem.W.fnOf "_law_whole_list" "_law_whole_list" (defArgs sWholeL) (defBody sWholeL) (defScope sWholeL) .none kVxlw dcxlw pmxlw anxlw cdxlw ctxlw), slxlw⟩)
    (cxlw : PySem.W.codeIn K cdxlw "_law_whole_list" = true)
    (kxlw : PySem.W.keepIn K (.ref fxlw) = true)
    (axln : PySem.W.nsIn K mainGlobals "_law_least_ones" = some (some (.ref fxln)))
    (lxln : K.lookup fxln = some ⟨ocxln, odxln, .func (PySem.W.fnOf "_law_least_ones" "_law_least_ones" (defArgs sLeastOnes) (defBody sLeastOnes) (defScope sLeastOnes) .none kVxln dcxln pmxln anxln cdxln ctxln), slxln⟩)
    (cxln : PySem.W.codeIn K cdxln "_law_least_ones" = true)
    (kxln : PySem.W.keepIn K (.ref fxln) = true)
    (axlc : PySem.W.nsIn K mainGlobals "_law_comes_to" = some (some (.ref fxlc)))
    (lxlc : K.lookup fxlc = some ⟨ocxlc, odxlc, .func (PySem.W.fnOf "_law_comes_to" "_law_comes_to" (defArgs sComesTo) (defBody sComesTo) (defScope sComesTo) .none kVxlc dcxlc pmxlc anxlc cdxlc ctxlc), slxlc⟩)
    (cxlc : PySem.W.codeIn K cdxlc "_law_comes_to" = true)
    (kxlc : PySem.W.keepIn K (.ref fxlc) = true)
    (alaw : PySem.W.nsIn K mainGlobals "law" = some (some (.ref flaw)))
    (llaw : K.lookup flaw = some ⟨oclaw, odlaw, .func (PySem.W.fnOf "law" "law" (defArgs sLaw) (defBody sLaw) (defScope sLaw) .none kVlaw dclaw pmlaw anlaw cdlaw ctlaw), sllaw⟩)
    (claw : PySem.W.codeIn K cdlaw "law" = true)
    (klaw : PySem.W.keepIn K (.ref flaw) = true)
    (pgKC : PySem.W.plainGet K KC Str.empty = true)
    (hdKC : PySem.W.hasDictIn K KC = true)
    (poKC : PySem.W.plainOver K KC = true)
    (saKC : PySem.W.findIn K (.ref KC) "__setattr__" = some (some (.builtin "object.__setattr__")))
    (mkKC : PySem.W.makesIn K KC = true)
    (kcKC : PySem.W.keepIn K (.ref KC) = true)
    (pgFC : PySem.W.plainGet K FC Str.empty = true)
    (hdFC : PySem.W.hasDictIn K FC = true)
    (poFC : PySem.W.plainOver K FC = true)
    (saFC : PySem.W.findIn K (.ref FC) "__setattr__" = some (some (.builtin "object.__setattr__")))
    (mkFC : PySem.W.makesIn K FC = true)
    (kcFC : PySem.W.keepIn K (.ref FC) = true)
    (pgTC : PySem.W.plainGet K TC Str.empty = true)
    (hdTC : PySem.W.hasDictIn K TC = true)
    (poTC : PySem.W.plainOver K TC = true)
    (saTC : PySem.W.findIn K (.ref TC) "__setattr__" = some (some (.builtin "object.__setattr__")))
    (mkTC : PySem.W.makesIn K TC = true)
    (kcTC : PySem.W.keepIn K (.ref TC) = true)
    (na1 : PySem.W.findIn K (.ref KC) "free" = some none)
    (na2 : PySem.W.findIn K (.ref KC) "bound" = some none)
    (na3 : PySem.W.findIn K (.ref KC) "numbers" = some none)
    (na4 : PySem.W.findIn K (.ref KC) "weights" = some none)
    (na5 : PySem.W.findIn K (.ref FC) "scale" = some none)
    (na6 : PySem.W.findIn K (.ref FC) "places" = some none)
    (na7 : PySem.W.findIn K (.ref FC) "bases" = some none)
    (na8 : PySem.W.findIn K (.ref FC) "weights" = some none)
    (nb1 : PySem.W.findIn K (.ref TC) "numbers" = some none)
    (nb2 : PySem.W.findIn K (.ref TC) "gathered" = some none)
    (nb3 : PySem.W.findIn K (.ref TC) "first" = some none)
    (z_abs : PySem.W.nsIn K mainGlobals "abs" = some none)
    (z_list : PySem.W.nsIn K mainGlobals "list" = some none)
    (z_len : PySem.W.nsIn K mainGlobals "len" = some none)
    (z_range : PySem.W.nsIn K mainGlobals "range" = some none)
    (z_sum : PySem.W.nsIn K mainGlobals "sum" = some none)
    (z_zip : PySem.W.nsIn K mainGlobals "zip" = some none)
    (z_enumerate : PySem.W.nsIn K mainGlobals "enumerate" = some none)
    (z_min : PySem.W.nsIn K mainGlobals "min" = some none)
    (z_sorted : PySem.W.nsIn K mainGlobals "sorted" = some none)
    (z_int : PySem.W.nsIn K mainGlobals "int" = some none)
    (z_bool : PySem.W.nsIn K mainGlobals "bool" = some none)
    (z_isinstance : PySem.W.nsIn K mainGlobals "isinstance" = some none)
    (z_all : PySem.W.nsIn K mainGlobals "all" = some none)
    (z_any : PySem.W.nsIn K mainGlobals "any" = some none)
    : ∃ fd : FuncData, (∀ (s : Shared) (v : Value), BindsTo s fd ⟨[v], []⟩ [("_law_script", v)]) ∧ ∀ base : Heap, K.In base → base.Ns mainGlobals mg → FnOk l.prog w K mg base CX0 8 fa fd ["_law_script"] (spLaw K) := by
  have e := hfa.symm.trans (PySem.W.mg_of X G alaw)
  cases e
  have T : TxtL K mg KC FC TC := ⟨⟨⟨pgKC, hdKC, poKC, saKC⟩, ⟨pgFC, hdFC, poFC, saFC⟩, na1, na2, na3, na4, na5, na6, na7, na8, PySem.W.mg_of X G aKC, PySem.W.mg_of X G aFC, PySem.W.mg_none_of X G z_abs, PySem.W.mg_none_of X G z_list, PySem.W.mg_none_of X G z_len, PySem.W.mg_none_of X G z_range, PySem.W.mg_none_of X G z_sum, PySem.W.mg_none_of X G z_zip, PySem.W.mg_none_of X G z_enumerate, PySem.W.mg_none_of X G z_min, PySem.W.mg_none_of X G z_sorted, PySem.W.mg_none_of X G z_int, PySem.W.mg_none_of X G z_bool, PySem.W.mg_none_of X G z_isinstance, PySem.W.mg_none_of X G z_all, kit_same, kit_int_bool, kit_same⟩, ⟨pgTC, hdTC, poTC, saTC⟩, nb1, nb2, nb3, PySem.W.mg_of X G aTC, PySem.W.mg_none_of X G z_any⟩
  have d_xdi : Def K mg "divisor" "divisor" sDivisor ["one", "other"] := ⟨_, _, fun_mk (st := sDivisor) lxdi cxdi kxdi, (fun_mk (st := sDivisor) lxdi cxdi kxdi).binds (ps := ["one", "other"]) fun _ _ _ _ _ _ us hl => match us, hl with | [_, _], _ => rfl, PySem.W.mg_of X G axdi⟩
  have d_xlo : Def K mg "lowest" "lowest" sLowest ["numbers"] := ⟨_, _, fun_mk (st := sLowest) lxlo cxlo kxlo, (fun_mk (st := sLowest) lxlo cxlo kxlo).binds (ps := ["numbers"]) fun _ _ _ _ _ _ us hl => match us, hl with | [_], _ => rfl, PySem.W.mg_of X G axlo⟩
  have d_xwe : Def K mg "weigh" "weigh" sWeigh ["weights", "column"] := ⟨_, _, fun_mk (st := sWeigh) lxwe cxwe kxwe, (fun_mk (st := sWeigh) lxwe cxwe kxwe).binds (ps := ["weights", "column"]) fun _ _ _ _ _ _ us hl => match us, hl with | [_, _], _ => rfl, PySem.W.mg_of X G axwe⟩
  have d_xki : DefI K KC "Kernel.__init__" sKInit ["self", "free", "bound", "numbers", "weights"] [] := ⟨_, _, _, funD_mk (st := sKInit) lxki cxki kxki, ⟨mkKC, axki, ixki, kcKC⟩, fun j hj => match j, hj with | 0, _ => ⟨[], .nil, .all fun us hl => match us, hl with | [_, _, _, _, _], _ => rfl⟩⟩
  have d_xfi : DefI K FC "Frame.__init__" sFInit ["self"] [] := ⟨_, _, _, funD_mk (st := sFInit) lxfi cxfi kxfi, ⟨mkFC, axfi, ixfi, kcFC⟩, fun j hj => match j, hj with | 0, _ => ⟨[], .nil, .all fun us hl => match us, hl with | [_], _ => rfl⟩⟩
  have d_xsh : DefM K FC "shares" "Frame.shares" sShares ["self", "column"] := ⟨_, _, fun_mk (st := sShares) lxsh cxsh kxsh, (fun_mk (st := sShares) lxsh cxsh kxsh).binds (ps := ["self", "column"]) fun _ _ _ _ _ _ us hl => match us, hl with | [_, _], _ => rfl, ⟨axsh, ixsh, kxsh⟩⟩
  have d_xre : DefM K FC "rest" "Frame.rest" sRest ["self", "column", "shares", "row"] := ⟨_, _, fun_mk (st := sRest) lxre cxre kxre, (fun_mk (st := sRest) lxre cxre kxre).binds (ps := ["self", "column", "shares", "row"]) fun _ _ _ _ _ _ us hl => match us, hl with | [_, _, _, _], _ => rfl, ⟨axre, ixre, kxre⟩⟩
  have d_xro : DefM K FC "row_with_rest" "Frame.row_with_rest" sRow ["self", "column", "shares"] := ⟨_, _, fun_mk (st := sRow) lxro cxro kxro, (fun_mk (st := sRow) lxro cxro kxro).binds (ps := ["self", "column", "shares"]) fun _ _ _ _ _ _ us hl => match us, hl with | [_, _, _], _ => rfl, ⟨axro, ixro, kxro⟩⟩
  have d_xle : DefM K FC "levelling" "Frame.levelling" sLev ["self", "place", "shares", "many"] := ⟨_, _, fun_mk (st := sLev) lxle cxle kxle, (fun_mk (st := sLev) lxle cxle kxle).binds (ps := ["self", "place", "shares", "many"]) fun _ _ _ _ _ _ us hl => match us, hl with | [_, _, _, _], _ => rfl, ⟨axle, ixle, kxle⟩⟩
  have d_xfr : DefM K FC "weights_of_rest" "Frame.weights_of_rest" sFresh ["self", "row", "many"] := ⟨_, _, fun_mk (st := sFresh) lxfr cxfr kxfr, (fun_mk (st := sFresh) lxfr cxfr kxfr).binds (ps := ["self", "row", "many"]) fun _ _ _ _ _ _ us hl => match us, hl with | [_, _, _], _ => rfl, ⟨axfr, ixfr, kxfr⟩⟩
  have d_xbi : DefM K FC "bind" "Frame.bind" sBind ["self", "place", "column", "shares", "row"] := ⟨_, _, fun_mk (st := sBind) lxbi cxbi kxbi, (fun_mk (st := sBind) lxbi cxbi kxbi).binds (ps := ["self", "place", "column", "shares", "row"]) fun _ _ _ _ _ _ us hl => match us, hl with | [_, _, _, _, _], _ => rfl, ⟨axbi, ixbi, kxbi⟩⟩
  have d_xfd : DefM K FC "freed" "Frame.freed" sFreed ["self", "weights", "share", "fresh", "scale"] := ⟨_, _, fun_mk (st := sFreed) lxfd cxfd kxfd, (fun_mk (st := sFreed) lxfd cxfd kxfd).binds (ps := ["self", "weights", "share", "fresh", "scale"]) fun _ _ _ _ _ _ us hl => match us, hl with | [_, _, _, _, _], _ => rfl, ⟨axfd, ixfd, kxfd⟩⟩
  have d_xke : Def K mg "kernel" "kernel" sKernel ["columns"] := ⟨_, _, fun_mk (st := sKernel) lxke cxke kxke, (fun_mk (st := sKernel) lxke cxke kxke).binds (ps := ["columns"]) fun _ _ _ _ _ _ us hl => match us, hl with | [_], _ => rfl, PySem.W.mg_of X G axke⟩
  have d_xga : Def K mg "gather" "gather" sGather ["numbers", "columns"] := ⟨_, _, fun_mk (st := sGather) lxga cxga kxga, (fun_mk (st := sGather) lxga cxga kxga).binds (ps := ["numbers", "columns"]) fun _ _ _ _ _ _ us hl => match us, hl with | [_, _], _ => rfl, PySem.W.mg_of X G axga⟩
  have d_xib : Def K mg "is_balance" "is_balance" sIsBalance ["columns", "numbers"] := ⟨_, _, fun_mk (st := sIsBalance) lxib cxib kxib, (fun_mk (st := sIsBalance) lxib cxib kxib).binds (ps := ["columns", "numbers"]) fun _ _ _ _ _ _ us hl => match us, hl with | [_, _], _ => rfl, PySem.W.mg_of X G axib⟩
  have d_xtw : Def K mg "times_within" "times_within" sTimes ["small", "great"] := ⟨_, _, fun_mk (st := sTimes) lxtw cxtw kxtw, (fun_mk (st := sTimes) lxtw cxtw kxtw).binds (ps := ["small", "great"]) fun _ _ _ _ _ _ us hl => match us, hl with | [_, _], _ => rfl, PySem.W.mg_of X G axtw⟩
  have d_xsp : Def K mg "split" "split" sSplit ["columns", "balance"] := ⟨_, _, fun_mk (st := sSplit) lxsp cxsp kxsp, (fun_mk (st := sSplit) lxsp cxsp kxsp).binds (ps := ["columns", "balance"]) fun _ _ _ _ _ _ us hl => match us, hl with | [_, _], _ => rfl, PySem.W.mg_of X G axsp⟩
  have d_xti : DefI K TC "Trial.__init__" sTInit ["self", "numbers", "gathered", "first"] [] := ⟨_, _, _, funD_mk (st := sTInit) lxti cxti kxti, ⟨mkTC, axti, ixti, kcTC⟩, fun j hj => match j, hj with | 0, _ => ⟨[], .nil, .all fun us hl => match us, hl with | [_, _, _, _], _ => rfl⟩⟩
  have d_xtr : DefM K TC "raised" "Trial.raised" sRaised ["self", "place", "column"] := ⟨_, _, fun_mk (st := sRaised) lxtr cxtr kxtr, (fun_mk (st := sRaised) lxtr cxtr kxtr).binds (ps := ["self", "place", "column"]) fun _ _ _ _ _ _ us hl => match us, hl with | [_, _, _], _ => rfl, ⟨axtr, ixtr, kxtr⟩⟩
  have d_xta : DefM K TC "all_raised" "Trial.all_raised" sAllRaised ["self", "columns"] := ⟨_, _, fun_mk (st := sAllRaised) lxta cxta kxta, (fun_mk (st := sAllRaised) lxta cxta kxta).binds (ps := ["self", "columns"]) fun _ _ _ _ _ _ us hl => match us, hl with | [_, _], _ => rfl, ⟨axta, ixta, kxta⟩⟩
  have d_xtl : DefM K TC "is_level" "Trial.is_level" sIsLevel ["self"] := ⟨_, _, fun_mk (st := sIsLevel) lxtl cxtl kxtl, (fun_mk (st := sIsLevel) lxtl cxtl kxtl).binds (ps := ["self"]) fun _ _ _ _ _ _ us hl => match us, hl with | [_], _ => rfl, ⟨axtl, ixtl, kxtl⟩⟩
  have d_xrw : Def K mg "rows_enough" "rows_enough" sRowsEnough ["columns"] := ⟨_, _, fun_mk (st := sRowsEnough) lxrw cxrw kxrw, (fun_mk (st := sRowsEnough) lxrw cxrw kxrw).binds (ps := ["columns"]) fun _ _ _ _ _ _ us hl => match us, hl with | [_], _ => rfl, PySem.W.mg_of X G axrw⟩
  have d_xft : Def K mg "fits" "fits" sFits ["small", "great"] := ⟨_, _, fun_mk (st := sFits) lxft cxft kxft, (fun_mk (st := sFits) lxft cxft kxft).binds (ps := ["small", "great"]) fun _ _ _ _ _ _ us hl => match us, hl with | [_, _], _ => rfl, PySem.W.mg_of X G axft⟩
  have d_xlt : Def K mg "least" "least" sLeast ["columns", "most"] := ⟨_, _, fun_mk (st := sLeast) lxlt cxlt kxlt, (fun_mk (st := sLeast) lxlt cxlt kxlt).binds (ps := ["columns", "most"]) fun _ _ _ _ _ _ us hl => match us, hl with | [_, _], _ => rfl, PySem.W.mg_of X G axlt⟩
  have d_xlh : Def K mg "_law_here" "_law_here" sHere ["_law_script", "_law_place"] := ⟨_, _, fun_mk (st := sHere) lxlh cxlh kxlh, (fun_mk (st := sHere) lxlh cxlh kxlh).binds (ps := ["_law_script", "_law_place"]) fun _ _ _ _ _ _ us hl => match us, hl with | [_, _], _ => rfl, PySem.W.mg_of X G axlh⟩
  have d_xlk : Def K mg "_law_shaken" "_law_shaken" sShaken ["_law_cell", "_law_many"] := ⟨_, _, fun_mk (st := sShaken) lxlk cxlk kxlk, (fun_mk (st := sShaken) lxlk cxlk kxlk).binds (ps := ["_law_cell", "_law_many"]) fun _ _ _ _ _ _ us hl => match us, hl with | [_, _], _ => rfl, PySem.W.mg_of X G axlk⟩
  have d_xco : Def K mg "_law_columns" "_law_columns" sColumns ["_law_script"] := ⟨_, _, fun_mk (st := sColumns) lxco cxco kxco, (fun_mk (st := sColumns) lxco cxco kxco).binds (ps := ["_law_script"]) fun _ _ _ _ _ _ us hl => match us, hl with | [_], _ => rfl, PySem.W.mg_of X G axco⟩
  have d_xll : Def K mg "_law_lists" "_law_lists" sLists ["_law_size", "_law_most"] := ⟨_, _, fun_mk (st := sLists) lxll cxll kxll, (fun_mk (st := sLists) lxll cxll kxll).binds (ps := ["_law_size", "_law_most"]) fun _ _ _ _ _ _ us hl => match us, hl with | [_, _], _ => rfl, PySem.W.mg_of X G axll⟩
  have d_xlv : Def K mg "_law_levels" "_law_levels" sLevels ["_law_some", "_law_columns_here"] := ⟨_, _, fun_mk (st := sLevels) lxlv cxlv kxlv, (fun_mk (st := sLevels) lxlv cxlv kxlv).binds (ps := ["_law_some", "_law_columns_here"]) fun _ _ _ _ _ _ us hl => match us, hl with | [_, _], _ => rfl, PySem.W.mg_of X G axlv⟩
  have d_xlb : Def K mg "_law_beneath" "_law_beneath" sBeneath ["_law_one", "_law_other"] := ⟨_, _, fun_mk (st := sBeneath) lxlb cxlb kxlb, (fun_mk (st := sBeneath) lxlb cxlb kxlb).binds (ps := ["_law_one", "_law_other"]) fun _ _ _ _ _ _ us hl => match us, hl with | [_, _], _ => rfl, PySem.W.mg_of X G axlb⟩
  have d_xlw : Def K mg "_law_whole_list" "_law_whole_list" sWholeL ["_law_found", "_law_size"] := ⟨_, _, fun_mk (st := sWholeL) lxlw cxlw kxlw, (fun_mk (st := sWholeL) lxlw cxlw kxlw).binds (ps := ["_law_found", "_law_size"]) fun _ _ _ _ _ _ us hl => match us, hl with | [_, _], _ => rfl, PySem.W.mg_of X G axlw⟩
  have d_xln : Def K mg "_law_least_ones" "_law_least_ones" sLeastOnes ["_law_some", "_law_columns_here", "_law_most"] := ⟨_, _, fun_mk (st := sLeastOnes) lxln cxln kxln, (fun_mk (st := sLeastOnes) lxln cxln kxln).binds (ps := ["_law_some", "_law_columns_here", "_law_most"]) fun _ _ _ _ _ _ us hl => match us, hl with | [_, _, _], _ => rfl, PySem.W.mg_of X G axln⟩
  have d_xlc : Def K mg "_law_comes_to" "_law_comes_to" sComesTo ["_law_found", "_law_some", "_law_balance"] := ⟨_, _, fun_mk (st := sComesTo) lxlc cxlc kxlc, (fun_mk (st := sComesTo) lxlc cxlc kxlc).binds (ps := ["_law_found", "_law_some", "_law_balance"]) fun _ _ _ _ _ _ us hl => match us, hl with | [_, _, _], _ => rfl, PySem.W.mg_of X G axlc⟩
  have Flaw := fun_mk (st := sLaw) llaw claw klaw
  refine ⟨PySem.W.fnOf "law" "law" (defArgs sLaw) (defBody sLaw) (defScope sLaw) .none kVlaw dclaw pmlaw anlaw cdlaw ctlaw, fun s v => .of_eq rfl, fun base _ _ => ?_⟩
  have q_di := ok_divisor (P := l.prog) (w := w) (base := base) d_xdi T.toTxt
  have q_lo := ok_lowest d_xlo T.toTxt q_di
  have q_we := ok_weigh (P := l.prog) (w := w) (base := base) d_xwe T.toTxt
  have q_ki := ok_kinit (P := l.prog) (w := w) (base := base) d_xki T.toTxt
  have q_fi := ok_finit (P := l.prog) (w := w) (base := base) d_xfi T.toTxt
  have q_sh := ok_shares d_xsh T.toTxt q_we
  have q_re := ok_rest (P := l.prog) (w := w) (base := base) d_xre T.toTxt
  have q_ro := ok_row d_xro T.toTxt q_re
  have q_le := ok_lev d_xle T.toTxt q_lo
  have q_fr := ok_fresh (P := l.prog) (w := w) (base := base) d_xfr T.toTxt
  have q_fd := ok_freed (P := l.prog) (w := w) (base := base) d_xfd T.toTxt
  have q_bi := ok_bind d_xbi T.toTxt q_we q_fr q_fd
  have q_ke := ok_kernel d_xke T.toTxt q_fi q_ki q_sh q_ro q_le q_bi
  have q_ga := ok_gather d_xga T.toTxt q_we
  have TG : TxtG K mg KC := ⟨T.n_sum, T.n_range⟩
  have q_ti := ok_tinit (P := l.prog) (w := w) (base := base) d_xti T
  have q_tr := ok_raised d_xtr T q_ti
  have q_ta := ok_allraised d_xta T q_tr
  have q_tl := ok_islevel (P := l.prog) (w := w) (base := base) d_xtl T
  have q_rw := ok_rows d_xrw T q_ke
  have q_ft := ok_fits (P := l.prog) (w := w) (base := base) d_xft T
  have q_lt := ok_least d_xlt T q_rw q_ti q_ta q_tl q_ft
  have q_lh := ok_here (P := l.prog) (w := w) (base := base) d_xlh TG
  have q_lk := ok_shaken (P := l.prog) (w := w) (base := base) d_xlk TG
  have q_co := ok_columns d_xco T q_lh q_lk
  have q_ib := ok_isbalance d_xib T q_ga
  have q_tw := ok_times (P := l.prog) (w := w) (base := base) d_xtw T
  have q_sp := ok_split d_xsp T q_ib q_lt q_tw
  have q_ll := ok_lists (P := l.prog) (w := w) (base := base) d_xll T
  have q_lv := ok_levels (P := l.prog) (w := w) (base := base) d_xlv T
  have q_lb := ok_beneath (P := l.prog) (w := w) (base := base) d_xlb T
  have q_lw := ok_wholeL (P := l.prog) (w := w) (base := base) d_xlw T
  have q_ln := ok_leastones d_xln T q_lw q_lv q_lb
  have q_lc := ok_comesto d_xlc T q_lw
  exact ok_law Flaw T q_lh q_co q_lt q_ln q_ll q_lv q_sp q_lc
theorem walk {l : PySem.W.OpenLaw} {q : Program} {loose : List Str} {XP : (Str → Option Value) → Heap → Prop} {YP : World → Heap → Prop} {d : DefRec} {K : Params → PySem.W.Frag} (hn : l.most = some 63) (hdf : d.params.defaults = [])
    (hY : ∀ (w : World) (h : Heap), YP w h → (K w.params).In h)
    (F : ∀ (w : World) (mg : Str → Option Value) (fa : Addr) (h : Heap), (K w.params).In h → h.Ns mainGlobals mg → mg d.name = some (.ref fa) →
      ∃ fd : FuncData, (∀ (s : Shared) (u : Value), BindsTo s fd ⟨[u], []⟩ [("_law_script", u)]) ∧ ∀ base : Heap, (K w.params).In base → base.Ns mainGlobals mg → FnOk l.prog w (K w.params) mg base CX0 8 fa fd ["_law_script"] (spLaw (K w.params))) :
    PySem.W.WalkO q loose XP YP l.row.toRowW d [] (fun f vs => PySem.call f vs) :=
  L2.walk_of (n := 63) (k := 8) (x := "_law_script") (CX := fun _ => CX0) (sp := fun w => spLaw (K w.params)) hn (by decide) hdf ⟨rfl, by decide, by decide⟩ hY F (fun _ _ a ns hl _ hS => ⟨a, ns, rfl, hS, hl, fun _ => rfl⟩) fun _ _ _ _ _ z => z
end K32
open PySem PySem.W PyProof.Rows
def PySem.W.Fast.tw155482601465702268 : Nat := 0
def PySem.W.Fast.tw11533708049376497195 : Nat := 0
def PySem.W.Fast.tw907563263871421083 : Nat := 0
def PySem.W.Fast.tw14290742820239531209 : Nat := 0
def PySem.W.Fast.tw14013926212165954784 : Nat := 0
def PySem.W.Fast.tw11252424158036053194 : Nat := 0
set_option maxRecDepth 100000 in
set_option maxHeartbeats 0 in
theorem PySem.Challenge.cw_balancehall_k32_whole_every_balance_is_a_holds : PySem.Challenge.rw_balancehall_k32_whole_every_balance_is_a.Holds := by
  w_on; o_law; k_head; (case hw => w_witness2)
  k_fill
  refine K32.walk (l := PySem.Challenge.rw_balancehall_k32_whole_every_balance_is_a) rfl rfl (fun w h Y => PySem.W.kIn_of Y) ?F
  case F =>
    intro w mg fa h KX G hmg
    refine' K32.all_mk KX G hmg ?aKC ?aFC ?aTC ?axdi ?lxdi ?cxdi ?kxdi ?axlo ?lxlo ?cxlo ?kxlo ?axwe ?lxwe ?cxwe ?kxwe ?axki ?ixki ?lxki ?cxki ?kxki ?axfi ?ixfi ?lxfi ?cxfi ?kxfi ?axsh ?ixsh ?lxsh ?cxsh ?kxsh ?axre ?ixre ?lxre ?cxre ?kxre ?axro ?ixro ?lxro ?cxro ?kxro ?axle ?ixle ?lxle ?cxle ?kxle ?axfr ?ixfr ?lxfr ?cxfr ?kxfr ?axbi ?ixbi ?lxbi ?cxbi ?kxbi ?axfd ?ixfd ?lxfd ?cxfd ?kxfd ?axke ?lxke ?cxke ?kxke ?axga ?lxga ?cxga ?kxga ?axib ?lxib ?cxib ?kxib ?axtw ?lxtw ?cxtw ?kxtw ?axsp ?lxsp ?cxsp ?kxsp ?axti ?ixti ?lxti ?cxti ?kxti ?axtr ?ixtr ?lxtr ?cxtr ?kxtr ?axta ?ixta ?lxta ?cxta ?kxta ?axtl ?ixtl ?lxtl ?cxtl ?kxtl ?axrw ?lxrw ?cxrw ?kxrw ?axft ?lxft ?cxft ?kxft ?axlt ?lxlt ?cxlt ?kxlt ?axlh ?lxlh ?cxlh ?kxlh ?axlk ?lxlk ?cxlk ?kxlk ?axco ?lxco ?cxco ?kxco ?axll ?lxll ?cxll ?kxll ?axlv ?lxlv ?cxlv ?kxlv ?axlb ?lxlb ?cxlb ?kxlb ?axlw ?lxlw ?cxlw ?kxlw ?axln ?lxln ?cxln ?kxln ?axlc ?lxlc ?cxlc ?kxlc ?alaw ?llaw ?claw ?klaw ?pgKC ?hdKC ?poKC ?saKC ?mkKC ?kcKC ?pgFC ?hdFC ?poFC ?saFC ?mkFC ?kcFC ?pgTC ?hdTC ?poTC ?saTC ?mkTC ?kcTC ?na1 ?na2 ?na3 ?na4 ?na5 ?na6 ?na7 ?na8 ?nb1 ?nb2 ?nb3 ?z_abs ?z_list ?z_len ?z_range ?z_sum ?z_zip ?z_enumerate ?z_min ?z_sorted ?z_int ?z_bool ?z_isinstance ?z_all ?z_any
    (case aKC => k_is)
    (case aFC => k_is)
    (case aTC => k_is)
    (case axdi => k_is)
    (case lxdi => k_is)
    (case cxdi => k_is)
    (case kxdi => k_is)
    (case axlo => k_is)
    (case lxlo => k_is)
    (case cxlo => k_is)
    (case kxlo => k_is)
    (case axwe => k_is)
    (case lxwe => k_is)
    (case cxwe => k_is)
    (case kxwe => k_is)
    (case axki => k_is)
    (case ixki => k_is)
    (case lxki => k_is)
    (case cxki => k_is)
    (case kxki => k_is)
    (case axfi => k_is)
    (case ixfi => k_is)
    (case lxfi => k_is)
    (case cxfi => k_is)
    (case kxfi => k_is)
    (case axsh => k_is)
    (case ixsh => k_is)
    (case lxsh => k_is)
    (case cxsh => k_is)
    (case kxsh => k_is)
    (case axre => k_is)
    (case ixre => k_is)
    (case lxre => k_is)
    (case cxre => k_is)
    (case kxre => k_is)
    (case axro => k_is)
    (case ixro => k_is)
    (case lxro => k_is)
    (case cxro => k_is)
    (case kxro => k_is)
    (case axle => k_is)
    (case ixle => k_is)
    (case lxle => k_is)
    (case cxle => k_is)
    (case kxle => k_is)
    (case axfr => k_is)
    (case ixfr => k_is)
    (case lxfr => k_is)
    (case cxfr => k_is)
    (case kxfr => k_is)
    (case axbi => k_is)
    (case ixbi => k_is)
    (case lxbi => k_is)
    (case cxbi => k_is)
    (case kxbi => k_is)
    (case axfd => k_is)
    (case ixfd => k_is)
    (case lxfd => k_is)
    (case cxfd => k_is)
    (case kxfd => k_is)
    (case axke => k_is)
    (case lxke => k_is)
    (case cxke => k_is)
    (case kxke => k_is)
    (case axga => k_is)
    (case lxga => k_is)
    (case cxga => k_is)
    (case kxga => k_is)
    (case axib => k_is)
    (case lxib => k_is)
    (case cxib => k_is)
    (case kxib => k_is)
    (case axtw => k_is)
    (case lxtw => k_is)
    (case cxtw => k_is)
    (case kxtw => k_is)
    (case axsp => k_is)
    (case lxsp => k_is)
    (case cxsp => k_is)
    (case kxsp => k_is)
    (case axti => k_is)
    (case ixti => k_is)
    (case lxti => k_is)
    (case cxti => k_is)
    (case kxti => k_is)
    (case axtr => k_is)
    (case ixtr => k_is)
    (case lxtr => k_is)
    (case cxtr => k_is)
    (case kxtr => k_is)
    (case axta => k_is)
    (case ixta => k_is)
    (case lxta => k_is)
    (case cxta => k_is)
    (case kxta => k_is)
    (case axtl => k_is)
    (case ixtl => k_is)
    (case lxtl => k_is)
    (case cxtl => k_is)
    (case kxtl => k_is)
    (case axrw => k_is)
    (case lxrw => k_is)
    (case cxrw => k_is)
    (case kxrw => k_is)
    (case axft => k_is)
    (case lxft => k_is)
    (case cxft => k_is)
    (case kxft => k_is)
    (case axlt => k_is)
    (case lxlt => k_is)
    (case cxlt => k_is)
    (case kxlt => k_is)
    (case axlh => k_is)
    (case lxlh => k_is)
    (case cxlh => k_is)
    (case kxlh => k_is)
    (case axlk => k_is)
    (case lxlk => k_is)
    (case cxlk => k_is)
    (case kxlk => k_is)
    (case axco => k_is)
    (case lxco => k_is)
    (case cxco => k_is)
    (case kxco => k_is)
    (case axll => k_is)
    (case lxll => k_is)
    (case cxll => k_is)
    (case kxll => k_is)
    (case axlv => k_is)
    (case lxlv => k_is)
    (case cxlv => k_is)
    (case kxlv => k_is)
    (case axlb => k_is)
    (case lxlb => k_is)
    (case cxlb => k_is)
    (case kxlb => k_is)
    (case axlw => k_is)
    (case lxlw => k_is)
    (case cxlw => k_is)
    (case kxlw => k_is)
    (case axln => k_is)
    (case lxln => k_is)
    (case cxln => k_is)
    (case kxln => k_is)
    (case axlc => k_is)
    (case lxlc => k_is)
    (case cxlc => k_is)
    (case kxlc => k_is)
    (case alaw => k_is)
    (case llaw => k_is)
    (case claw => k_is)
    (case klaw => k_is)
    (case pgKC => k_is)
    (case hdKC => k_is)
    (case poKC => k_is)
    (case saKC => k_is)
    (case mkKC => k_is)
    (case kcKC => k_is)
    (case pgFC => k_is)
    (case hdFC => k_is)
    (case poFC => k_is)
    (case saFC => k_is)
    (case mkFC => k_is)
    (case kcFC => k_is)
    (case pgTC => k_is)
    (case hdTC => k_is)
    (case poTC => k_is)
    (case saTC => k_is)
    (case mkTC => k_is)
    (case kcTC => k_is)
    (case na1 => k_is)
    (case na2 => k_is)
    (case na3 => k_is)
    (case na4 => k_is)
    (case na5 => k_is)
    (case na6 => k_is)
    (case na7 => k_is)
    (case na8 => k_is)
    (case nb1 => k_is)
    (case nb2 => k_is)
    (case nb3 => k_is)
    (case z_abs => k_is)
    (case z_list => k_is)
    (case z_len => k_is)
    (case z_range => k_is)
    (case z_sum => k_is)
    (case z_zip => k_is)
    (case z_enumerate => k_is)
    (case z_min => k_is)
    (case z_sorted => k_is)
    (case z_int => k_is)
    (case z_bool => k_is)
    (case z_isinstance => k_is)
    (case z_all => k_is)
    (case z_any => k_is)
