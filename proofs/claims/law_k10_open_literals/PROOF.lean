import PyProof.Rows.All
import Wide.All
import OpenK.AllK
import Wide.FinOn
import Lean
import PyProof.EqAt
import PyProof.EqKinds
import PyProof.TupleCall
import KE.KDictList
import KE.KEqDict
import PyProof.NeKinds
import PyProof.Rows.SetFrom
import PyProof.WalksMore
import PySem.Challenge.RW_clausekeep_k10_open_literals
set_option Elab.async false
set_option linter.all false
set_option maxRecDepth 100000
/-! THE HAND LAYER, for ints, bools, texts, own classes, LISTS and tuples (index, slices, in, append, pop ..), calls, loops. Paste it whole ahead of your own text; what your proof does not reach may be deleted. -/
namespace L2
open PySem PySem.Spec PyProof.Rows

/-- a key: an int or a str -/
abbrev Key := Sum Int Str
def keyIs : Key → Value → Bool
  | .inl k, v => Value.isInt k v
  | .inr x, v => Value.isStrOf x v
def keyH (w : World) : Key → Int
  | .inl k => hashInt k
  | .inr x => hashStr w x
theorem keyIs_shape : ∀ {k : Key} {v : Value}, keyIs k v = true → (∃ i t, k = Sum.inl i ∧ v = Value.int i t) ∨ (∃ x t, k = Sum.inr x ∧ v = Value.str x t)
  | .inl i, v, h => by
    obtain ⟨t, e⟩ := Value.isInt_shape (k := i) (v := v) h
    exact .inl ⟨i, t, rfl, e⟩
  | .inr x, v, h => by
    obtain ⟨t, e⟩ := Value.isStrOf_shape (x := x) (v := v) h
    exact .inr ⟨x, t, rfl, e⟩
theorem keyIs_int (i : Int) (t : Tok) : keyIs (.inl i) (.int i t) = true := by simp [keyIs, Value.isInt]
theorem keyIs_str (x : Str) (t : Tok) : keyIs (.inr x) (.str x t) = true := by simp [keyIs, Value.isStrOf]
theorem key_ll (a b : Int) : decide ((Sum.inl a : Key) = Sum.inl b) = (a == b) := by
  by_cases e : a = b
  · subst e; simp
  · have h : ¬ (Sum.inl a : Key) = Sum.inl b := fun q => e (Sum.inl.inj q)
    rw [decide_eq_false h]
    exact (beq_eq_false_iff_ne.mpr e).symm
theorem key_rr (a b : Str) : decide ((Sum.inr a : Key) = Sum.inr b) = decide (a = b) := by
  by_cases e : a = b
  · subst e; simp
  · have h : ¬ (Sum.inr a : Key) = Sum.inr b := fun q => e (Sum.inr.inj q)
    rw [decide_eq_false h, decide_eq_false e]
theorem key_lr (a : Int) (b : Str) : decide ((Sum.inl a : Key) = Sum.inr b) = false := decide_eq_false (fun q => nomatch q)
theorem key_rl (a : Str) (b : Int) : decide ((Sum.inr a : Key) = Sum.inl b) = false := decide_eq_false (fun q => nomatch q)

def mixKind (prog : Program) (w : World) : PySem.KeyKind prog w Key where
  is := keyIs
  hash := keyH w
  inj := fun v a b ha hb => by
    rcases keyIs_shape ha with ⟨i, t, rfl, rfl⟩ | ⟨x, t, rfl, rfl⟩
    · rcases keyIs_shape hb with ⟨j, u, rfl, e⟩ | ⟨y, u, rfl, e⟩
      · injection e with e1 _; rw [e1]
      · exact nomatch e
    · rcases keyIs_shape hb with ⟨j, u, rfl, e⟩ | ⟨y, u, rfl, e⟩
      · exact nomatch e
      · injection e with e1 _; rw [e1]
  byValue := fun k v h => by
    rcases keyIs_shape h with ⟨i, t, rfl, rfl⟩ | ⟨x, t, rfl, rfl⟩ <;> rfl
  pyHash := fun hv h => by
    rcases keyIs_shape hv with ⟨i, t, rfl, rfl⟩ | ⟨x, t, rfl, rfl⟩
    · exact wpAny_pyHash_int h
    · exact wpAny_pyHash_str h
  eqBool := fun hu hv h => by
    rcases keyIs_shape hu with ⟨i, t, rfl, rfl⟩ | ⟨x, t, rfl, rfl⟩
    · rcases keyIs_shape hv with ⟨j, u, rfl, rfl⟩ | ⟨y, u, rfl, rfl⟩
      · rw [key_ll] at h; exact wpAny_eqBool_int h
      · rw [key_lr] at h; exact SeqAt.EqAt.int_str i t y u _ _ _ _ h
    · rcases keyIs_shape hv with ⟨j, u, rfl, rfl⟩ | ⟨y, u, rfl, rfl⟩
      · rw [key_rl] at h; exact SeqAt.EqAt.str_int x t j u _ _ _ _ h
      · rw [key_rr] at h; exact wpAny_eqBool_str h
  «strs» := fun k x t v h => by
    rcases keyIs_shape h with ⟨i, u, rfl, e⟩ | ⟨y, u, rfl, e⟩
    · exact nomatch e
    · injection e with e1 _
      subst e1
      cases v <;> rfl

theorem mixKind_is (prog : Program) (w : World) (k : Key) (v : Value) : (mixKind prog w).is k v = keyIs k v := rfl
theorem mixKind_int (prog : Program) (w : World) (i : Int) (t : Tok) : (mixKind prog w).is (.inl i) (.int i t) = true := keyIs_int i t
theorem mixKind_str (prog : Program) (w : World) (x : Str) (t : Tok) : (mixKind prog w).is (.inr x) (.str x t) = true := keyIs_str x t
end L2

namespace L2
open PySem PySem.Spec PyProof.Rows

/-- a value, without the heap -/
inductive V where
  | non | bl (b : Bool) | int (i : Int) | str (x : Str) | byt (b : Array UInt8) | flt (b : UInt64) | ref (a : Addr) | ty (n : String)
  deriving DecidableEq

def RelV : V → Value → Prop
  | .non, u => u = Value.none
  | .bl b, u => u = Value.bool b
  | .int i, u => ∃ t, u = Value.int i t
  | .str x, u => ∃ t, u = Value.str x t
  | .byt b, u => ∃ t, u = Value.bytes b t
  | .flt b, u => ∃ t, u = Value.float b t
  | .ref a, u => u = Value.ref a
  | .ty n, u => u = Value.type n

abbrev Vals : List V → List Value → Prop := Paired RelV
theorem Vals.length {xs : List V} {us : List Value} (r : Vals xs us) : xs.length = us.length := Paired.length r
theorem Vals.get : ∀ {xs : List V} {us : List Value} {i : Nat} {x : V}, Vals xs us → xs[i]? = some x → ∃ u, us[i]? = some u ∧ RelV x u
  | _, _, _, _, .nil, e => by simp at e
  | _, _, 0, _, .cons r _, e => by simp at e; subst e; exact ⟨_, rfl, r⟩
  | _, _, i + 1, x, .cons _ t, e => by
    obtain ⟨u, h1, h2⟩ := Vals.get (i := i) (x := x) t (by simpa using e)
    exact ⟨u, by simpa using h1, h2⟩
theorem Vals.set {x : V} {u : Value} (r : RelV x u) : ∀ {xs : List V} {us : List Value} (i : Nat), Vals xs us → Vals (xs.set i x) (us.set i u)
  | _, _, _, .nil => .nil
  | _, _, 0, .cons _ t => .cons r t
  | _, _, i + 1, .cons q t => .cons q (Vals.set r i t)
theorem Vals.append : ∀ {xs ys : List V} {us ws : List Value}, Vals xs us → Vals ys ws → Vals (xs ++ ys) (us ++ ws)
  | _, _, _, _, .nil, s => s
  | _, _, _, _, .cons r t, s => .cons r (Vals.append t s)
theorem Vals.take : ∀ {xs : List V} {us : List Value} (n : Nat), Vals xs us → Vals (xs.take n) (us.take n)
  | _, _, 0, _ => .nil
  | _, _, _ + 1, .nil => .nil
  | _, _, n + 1, .cons r t => .cons r (Vals.take n t)
theorem Vals.drop : ∀ {xs : List V} {us : List Value} (n : Nat), Vals xs us → Vals (xs.drop n) (us.drop n)
  | _, _, 0, r => r
  | _, _, _ + 1, .nil => .nil
  | _, _, n + 1, .cons _ t => Vals.drop n t
theorem Vals.none_of : ∀ {xs : List V} {us : List Value} {i : Nat}, Vals xs us → xs[i]? = none → us[i]? = none := fun {xs us i} r e => by
  have h1 := r.length
  have h2 : xs.length ≤ i := List.getElem?_eq_none_iff.mp e
  exact List.getElem?_eq_none_iff.mpr (by omega)

def RelO : Option V → Option Value → Prop
  | some v, some u => RelV v u
  | none, none => True
  | _, _ => False
def KV {κ : Type} : List (κ × V) → List (κ × Value) → Prop := Paired fun (p : κ × V) (q : κ × Value) => p.1 = q.1 ∧ RelV p.2 q.2

/-- a key of a dict (00_mix): an int or a text -/
def kV : Key → V
  | .inl i => .int i
  | .inr x => .str x

/-- what stands at a tracked address -/
inductive HO where
  /-- a list -/
  | lst (xs : List V)
  /-- a tuple (never changes) -/
  | tup (xs : List V)
  /-- a dict whose keys are ints and texts; one whose keys are tuples of ints and texts (the empty one is both) -/
  | dK (kvs : List (Key × V)) | dT (kvs : List (List Key × V))
  /-- a set of ints: its members, its size -/
  | set (S : Int → Bool) (n : Nat)
  /-- an instance of the class at C, its dict at dx, its attributes -/
  | ins (C dx : Addr) (fs : List (Str × V))
  /-- the dict of the instance at x -/
  | own (x : Addr)
  /-- the dict of an exception -/
  | xd (fs : List (Str × V))
  /-- a bound method, f of x -/
  | met (f x : Addr)
  /-- a range object lo, lo + 1, .. below hi -/
  | rng (lo hi : Int)
  /-- a thing that is known to the object (the script; a dict while a loop walks it): read, never written while it is so -/
  | frz (o : Obj) (u : HO)
  /-- a code object's table -/
  | tbl (ps : Array Value)
  /-- any other thing, by what is true of its one object (a def of one's own: SetO a S n := HO.ext fun h => ..) -/
  | ext (φ : Heap → Prop)

abbrev Hp := Addr → Option HO
def upd (H : Hp) (a : Addr) (o : HO) : Hp := fun b => if b = a then some o else H b
theorem upd_same {H : Hp} {a : Addr} {o : HO} : upd H a o a = some o := by unfold upd; rw [if_pos rfl]
theorem upd_ne {H : Hp} {a b : Addr} {o : HO} (h : b ≠ a) : upd H a o b = H b := by unfold upd; rw [if_neg h]
theorem upd_upd {H : Hp} {a : Addr} {o u : HO} : upd (upd H a o) a u = upd H a u := by
  funext b; unfold upd; split <;> rfl
/-- two objects of different content stand apart -/
theorem ne_of {H : Hp} {a b : Addr} {o u : HO} (h : H a = some o) (h' : H b = some u) (d : o ≠ u) : a ≠ b := by
  intro e; subst e; rw [h] at h'; exact d (Option.some.inj h')
theorem ne_of_none {H : Hp} {a b : Addr} {o : HO} (h : H a = some o) (h' : H b = none) : a ≠ b := by
  intro e; subst e; rw [h] at h'; cases h'

section
variable (P : Program) (w : World)
def ObjOk (H : Hp) (h : Heap) (a : Addr) : HO → Prop
  | .lst xs => xs.length ≤ sizeLine ∧ ∃ (its : List Value) (n : Nat), Vals xs its ∧ h.get? a = some { cls := .type "list", data := .seq its.toArray n }
  | .tup xs => xs.length ≤ sizeLine ∧ ∃ its : List Value, Vals xs its ∧ IsTup h a its.toArray
  | .dK kvs => kvs.length ≤ sizeLine ∧ (a == sysModules) = false ∧ ∃ vs, KV kvs vs ∧ h.DictOf (mixKind P w) a vs
  | .dT kvs => kvs.length ≤ sizeLine ∧ (a == sysModules) = false ∧ ∃ xs : List (List Key × Addr × Value),
      Paired (fun (p : List Key × V) (q : List Key × Addr × Value) => p.1 = q.1 ∧ H q.2.1 = some (.tup (p.1.map kV)) ∧ RelV p.2 q.2.2) kvs xs ∧
      ∃ o es ep, h.get? a = some o ∧ o.ExactDict ∧ o.data = .dict es ep ∧ es.toList = xs.map (entryOfKey (tupleKind (mixKind P w))) ∧ (xs.map (·.1)).Nodup
  | .set S n => h.SetOf (intKind P w) a S n
  | .ins C dx fs => H dx = some (.own a) ∧ fs.length ≤ 1000 ∧ dx ≠ a ∧ h.get? a = some (PySem.W.instObj C dx) ∧
      ∃ mA, h.Ns1 dx mA ∧ (∀ f, RelO (fs.lookup f) (mA f)) ∧ PySem.Within mA (fs.map (·.1))
  | .own _ => ∃ o, h.get? a = some o
  | .xd fs => ∃ mA, h.Ns1 a mA ∧ ∀ f, RelO (fs.lookup f) (mA f)
  | .rng lo hi => ∃ t u v, h.get? a = some { cls := .type "range", data := .fields #[.int lo t, .int hi u, .int 1 v] }
  | .frz o u => h.get? a = some o ∧ ObjOk H h a u
  | .tbl ps => h.get? a = some { cls := .none, data := .fields ps }
  | .met f x => h.get? a = some (PySem.W.methodObj (.ref f) (.ref x))
  | .ext φ => φ h ∧ (∃ o, h.get? a = some o) ∧ ∀ h1 h2 : Heap, φ h1 → (∀ o, h1.get? a = some o → h2.get? a = some o) → φ h2
/-- the abstract heap is held -/
def HOk (H : Hp) (h : Heap) : Prop := ∀ a o, H a = some o → ObjOk P w H h a o
end

section
variable {P : Program} {w : World} {H H' : Hp} {h h' : Heap} {a : Addr} {o : HO}
theorem ObjOk.lt (x : ObjOk P w H h a o) : a < h.objs.size := by
  cases o with
  | lst xs => obtain ⟨_, _, _, _, e⟩ := x; exact Heap.lt_size e
  | tup xs => obtain ⟨_, _, _, p⟩ := x; exact p.lt
  | dK kvs => obtain ⟨_, _, _, _, o, _, _, e, _⟩ := x; exact Heap.lt_size e
  | dT kvs => obtain ⟨_, _, _, _, o, _, _, e, _⟩ := x; exact Heap.lt_size e
  | set S n => obtain ⟨o, _, _, _, e, _⟩ := x; exact Heap.lt_size e
  | ins C dx fs => obtain ⟨_, _, _, e, _⟩ := x; exact Heap.lt_size e
  | own y => obtain ⟨_, e⟩ := x; exact Heap.lt_size e
  | xd fs => obtain ⟨_, ⟨_, _, _, e, _⟩, _⟩ := x; exact Heap.lt_size e
  | rng lo hi => obtain ⟨_, _, _, e⟩ := x; exact Heap.lt_size e
  | frz ob u => obtain ⟨e, _⟩ := x; exact Heap.lt_size e
  | tbl ps => exact Heap.lt_size (show h.get? a = some _ from x)
  | met f y => exact Heap.lt_size (show h.get? a = some _ from x)
  | ext φ => obtain ⟨_, ⟨_, e⟩, _⟩ := x; exact Heap.lt_size e
theorem Paired.mapP {α β : Type} {F G : α → β → Prop} : ∀ {l₁ : List α} {l₂ : List β}, Paired F l₁ l₂ → (∀ a b, F a b → G a b) → Paired G l₁ l₂
  | _, _, .nil, _ => .nil
  | _, _, .cons r t, f => .cons (f _ _ r) (Paired.mapP t f)
theorem Paired.imp' {α β : Type} {F G : α → β → Prop} (f : ∀ a b, F a b → G a b) {l₁ : List α} {l₂ : List β} (r : Paired F l₁ l₂) : Paired G l₁ l₂ := Paired.mapP r f
/-- what an object's description leans on: its own object, its own dict, the tuples -/
theorem ObjOk.stay (x : ObjOk P w H h a o) (k : ∀ b u, (b = a ∨ H b = some (.own a)) → h.get? b = some u → h'.get? b = some u)
    (ho : ∀ b, H b = some (.own a) → H' b = some (.own a)) (ht : ∀ b xs, H b = some (.tup xs) → H' b = some (.tup xs)) : ObjOk P w H' h' a o := by
  induction o with
  | lst xs => obtain ⟨z, its, n, r, e⟩ := x; exact ⟨z, its, n, r, k _ _ (.inl rfl) e⟩
  | tup xs => obtain ⟨z, its, r, ob, e, c⟩ := x; exact ⟨z, its, r, ob, k _ _ (.inl rfl) e, c⟩
  | dK kvs => obtain ⟨z, y, vs, r, ob, es, ep, e, c⟩ := x; exact ⟨z, y, vs, r, ob, es, ep, k _ _ (.inl rfl) e, c⟩
  | dT kvs =>
    obtain ⟨z, y, xs, r, ob, es, ep, e, c⟩ := x
    exact ⟨z, y, xs, Paired.mapP r fun p q z => ⟨z.1, ht _ _ z.2.1, z.2.2⟩, ob, es, ep, k _ _ (.inl rfl) e, c⟩
  | set S n => obtain ⟨ob, es, ep, t, e, c⟩ := x; exact ⟨ob, es, ep, t, k _ _ (.inl rfl) e, c⟩
  | ins C dx fs =>
    obtain ⟨d, z, ne, e, mA, ⟨od, es, ep, e2, c⟩, r⟩ := x
    exact ⟨ho _ d, z, ne, k _ _ (.inl rfl) e, mA, ⟨od, es, ep, k _ _ (.inr d) e2, c⟩, r⟩
  | own y => obtain ⟨ob, e⟩ := x; exact ⟨ob, k _ _ (.inl rfl) e⟩
  | xd fs => obtain ⟨mA, ⟨od, es, ep, e, c⟩, r⟩ := x; exact ⟨mA, ⟨od, es, ep, k _ _ (.inl rfl) e, c⟩, r⟩
  | rng lo hi => obtain ⟨t, u, v, e⟩ := x; exact ⟨t, u, v, k _ _ (.inl rfl) e⟩
  | frz ob u ih => obtain ⟨e, q⟩ := x; exact ⟨k _ _ (.inl rfl) e, ih q⟩
  | tbl ps =>
    have e : h.get? a = some { cls := .none, data := .fields ps } := x
    show h'.get? a = some { cls := .none, data := .fields ps }
    exact k a _ (.inl rfl) e
  | met f y =>
    have e : h.get? a = some (PySem.W.methodObj (.ref f) (.ref y)) := x
    show h'.get? a = some (PySem.W.methodObj (.ref f) (.ref y))
    exact k a _ (.inl rfl) e
  | ext φ => obtain ⟨p, ⟨o, e⟩, st⟩ := x; exact ⟨st _ _ p fun o q => k _ _ (.inl rfl) q, ⟨o, k _ _ (.inl rfl) e⟩, st⟩
theorem HOk.lt (x : HOk P w H h) (e : H a = some o) : a < h.objs.size := (x a o e).lt
theorem HOk.fresh (x : HOk P w H h) (e : h.objs.size ≤ a) : H a = none := by
  cases q : H a with
  | none => rfl
  | some u => exact absurd (Nat.lt_of_lt_of_le (x.lt q) e) (Nat.lt_irrefl _)
/-- every object of the heap is kept -/
theorem HOk.kept (x : HOk P w H h) (k : ∀ b u, h.get? b = some u → h'.get? b = some u) : HOk P w H h' := fun a o e =>
  (x a o e).stay (fun b u _ q => k b u q) (fun _ q => q) fun _ _ q => q
/-- a new object is laid and tracked -/
theorem HOk.laid (x : HOk P w H h) (k : ∀ b u, h.get? b = some u → h'.get? b = some u) (hp : h.objs.size ≤ a) (new : ObjOk P w (upd H a o) h' a o) : HOk P w (upd H a o) h' := fun b u e => by
  have hn := x.fresh hp
  by_cases hb : b = a
  · subst hb; rw [upd_same] at e; cases e; exact new
  · rw [upd_ne hb] at e
    exact (x b u e).stay (fun c v _ q => k c v q) (fun c q => by rw [upd_ne (ne_of_none q hn)]; exact q) fun c xs q => by rw [upd_ne (ne_of_none q hn)]; exact q
end

/-- what may be read as u: it is u, or a known u -/
def Rd (H : Hp) (a : Addr) (u : HO) : Prop := H a = some u ∨ ∃ o, H a = some (.frz o u)
theorem Rd.of {H : Hp} {a : Addr} {u : HO} (h : H a = some u) : Rd H a u := .inl h
theorem Rd.ok {P : Program} {w : World} {H : Hp} {h : Heap} {a : Addr} {u : HO} (r : Rd H a u) (x : HOk P w H h) : ObjOk P w H h a u := by
  rcases r with r | ⟨o, r⟩
  · exact x a u r
  · obtain ⟨_, q⟩ := x a _ r
    exact q
/-- what may be written -/
def Mut : Option HO → Prop
  | some (.lst _) => True
  | some (.dK _) => True
  | some (.dT _) => True
  | some (.set _ _) => True
  | some (.ins _ _ _) => True
  | some (.ext _) => True
  | _ => False
section
variable {P : Program} {w : World} {H : Hp} {h h' : Heap} {x e : Addr} {o' : HO}
/-- the object at e is changed: x itself, or the dict of the instance x -/
theorem HOk.write (ok : HOk P w H h) (mu : Mut (H x)) (he : e = x ∨ H e = some (.own x)) (k : ∀ b u, b ≠ e → h.get? b = some u → h'.get? b = some u) (heo : ∃ u, h'.get? e = some u)
    (new : ObjOk P w (upd H x o') h' x o') : HOk P w (upd H x o') h' := fun b u q => by
  have nown : ∀ c y, H c = some (.own y) → c ≠ x := fun c y r z => by subst z; rw [r] at mu; exact mu
  have ntup : ∀ c xs, H c = some (.tup xs) → c ≠ x := fun c xs r z => by subst z; rw [r] at mu; exact mu
  by_cases hb : b = x
  · subst hb; rw [upd_same] at q; cases q; exact new
  · rw [upd_ne hb] at q
    by_cases hbe : b = e
    · have q' : H b = some (.own x) := by
        rcases he with z | z
        · exact absurd (hbe.trans z) hb
        · rw [hbe]; exact z
      rw [q] at q'; cases q'
      obtain ⟨v, hv⟩ := heo
      exact ⟨v, by rw [hbe]; exact hv⟩
    · refine (ok b u q).stay (fun c v hc r => k c v ?_ r) (fun c r => by rw [upd_ne (nown c b r)]; exact r) fun c xs r => by rw [upd_ne (ntup c xs r)]; exact r
      rcases hc with rfl | hc
      · exact hbe
      · rintro rfl
        rcases he with z | z
        · exact nown c b hc z
        · rw [hc] at z; cases z; exact hb rfl
end

/-! ### kept unless tracked; of the frames at fs (the callers') the slots may change (an exception that passes writes there); of the records at ex (iterators) nothing is said -/
structure Un (fs ex : List Addr) (H H' : Hp) (h h' : Heap) : Prop where
  keep : ∀ b o, h.get? b = some o → H b = none → b ∉ fs → b ∉ ex → h'.get? b = some o
  slot : ∀ b o, h.get? b = some o → H b = none → b ∈ fs → b ∉ ex → ∃ sl, h'.get? b = some { o with slots := sl }
  free : ∀ b o, h.get? b = some o → H b = none → b ∉ ex → H' b = none
  there : ∀ b o, h.get? b = some o → b ∉ ex → ∃ o', h'.get? b = some o'
  tups : ∀ b xs, H b = some (.tup xs) → H' b = some (.tup xs)
  frzs : ∀ b o u, H b = some (.frz o u) → H' b = some (.frz o u)
  tbls : ∀ b ps, H b = some (.tbl ps) → ∃ more, H' b = some (.tbl (ps ++ more))
section
variable {fs fs' ex ex' : List Addr} {H H1 H2 : Hp} {h h1 h2 h' : Heap} {a x e : Addr} {o : HO}
theorem Un.any (u : Un fs ex H H1 h h1) {b : Addr} {ob : Obj} (q : h.get? b = some ob) (n : H b = none) (hx : b ∉ ex) : ∃ sl, h1.get? b = some { ob with slots := sl } := by
  by_cases hb : b ∈ fs
  · exact u.slot b ob q n hb hx
  · exact ⟨ob.slots, u.keep b ob q n hb hx⟩
theorem Un.trans (a : Un fs ex H H1 h h1) (b : Un fs ex H1 H2 h1 h2) : Un fs ex H H2 h h2 where
  keep := fun c ob q n hc hx => b.keep c ob (a.keep c ob q n hc hx) (a.free c ob q n hx) hc hx
  slot := fun c ob q n hc hx => by
    obtain ⟨sl, e1⟩ := a.slot c ob q n hc hx
    obtain ⟨sl', e2⟩ := b.slot c _ e1 (a.free c ob q n hx) hc hx
    exact ⟨sl', e2⟩
  free := fun c ob q n hx => by
    obtain ⟨o', e1⟩ := a.there c ob q hx
    exact b.free c o' e1 (a.free c ob q n hx) hx
  there := fun c ob q hx => by
    obtain ⟨o', e1⟩ := a.there c ob q hx
    exact b.there c o' e1 hx
  tups := fun c xs q => b.tups c xs (a.tups c xs q)
  frzs := fun c ob xs q => b.frzs c ob xs (a.frzs c ob xs q)
  tbls := fun c ps q => by
    obtain ⟨m1, e1⟩ := a.tbls c ps q
    obtain ⟨m2, e2⟩ := b.tbls c _ e1
    exact ⟨m1 ++ m2, by rw [e2, Array.append_assoc]⟩
theorem Un.kept (k : ∀ b u, h.get? b = some u → h'.get? b = some u) : Un fs ex H H h h' :=
  ⟨fun b ob q _ _ _ => k b ob q, fun b ob q _ _ _ => ⟨ob.slots, k b ob q⟩, fun _ _ _ n _ => n, fun b ob q _ => ⟨ob, k b ob q⟩, fun _ _ q => q, fun _ _ _ q => q, fun _ ps q => ⟨#[], by rw [q]; simp⟩⟩
theorem Un.refl : Un fs ex H H h h := Un.kept fun _ _ q => q
theorem Un.laid (k : ∀ b u, h.get? b = some u → h'.get? b = some u) (hp : h.objs.size ≤ a) (hn : H a = none) : Un fs ex H (upd H a o) h h' where
  keep := fun b u q _ _ _ => k b u q
  slot := fun b u q _ _ _ => ⟨u.slots, k b u q⟩
  free := fun b u q n _ => by rw [upd_ne (Nat.ne_of_lt (Nat.lt_of_lt_of_le (Heap.lt_size q) hp))]; exact n
  there := fun b u q _ => ⟨u, k b u q⟩
  tups := fun b xs q => by rw [upd_ne (ne_of_none q hn)]; exact q
  frzs := fun b u xs q => by rw [upd_ne (ne_of_none q hn)]; exact q
  tbls := fun b ps q => ⟨#[], by rw [upd_ne (ne_of_none q hn), q]; simp⟩
theorem Un.write (mu : Mut (H x)) (he : e = x ∨ H e = some (.own x)) (k : ∀ b u, b ≠ e → h.get? b = some u → h'.get? b = some u) (heo : ∃ u, h'.get? e = some u) : Un fs ex H (upd H x o) h h' := by
  have hx : ∀ b, H b = none → b ≠ x := fun b n z => by subst z; rw [n] at mu; exact mu
  have hb : ∀ b, H b = none → b ≠ e := fun b n z => by
    subst z
    rcases he with r | r
    · exact hx b n r
    · rw [n] at r; cases r
  have hm : ∀ b u, H b = some u → ¬ Mut (some u) → b ≠ x := fun b u q nm z => by subst z; rw [q] at mu; exact nm mu
  refine ⟨fun b u q n _ _ => k b u (hb b n) q, fun b u q n _ _ => ⟨u.slots, k b u (hb b n) q⟩, fun b u q n _ => by rw [upd_ne (hx b n)]; exact n, fun b u q _ => ?_,
    fun b xs q => by rw [upd_ne (hm b _ q fun z => z)]; exact q, fun b u xs q => by rw [upd_ne (hm b _ q fun z => z)]; exact q, fun b ps q => ⟨#[], by rw [upd_ne (hm b _ q fun z => z), q]; simp⟩⟩
  by_cases hbe : b = e
  · subst hbe; exact heo
  · exact ⟨u, k b u hbe q⟩
theorem Un.mono (u : Un fs ex H H1 h h1) (hs : ∀ b ∈ fs, b ∈ fs') (hx : ∀ b ∈ ex, b ∈ ex') : Un fs' ex' H H1 h h1 :=
  ⟨fun b ob q n hb he => u.keep b ob q n (fun z => hb (hs b z)) fun z => he (hx b z), fun _ _ q n _ he => u.any q n fun z => he (hx _ z), fun b ob q n he => u.free b ob q n fun z => he (hx b z), fun b ob q he => u.there b ob q fun z => he (hx b z), u.tups, u.frzs, u.tbls⟩
end

/-! ### the heap without what is tracked -/
def trk (h : Heap) (H : Hp) : List Addr := (List.range h.objs.size).filter fun a => (H a).isSome
def hidT (h : Heap) (H : Hp) : Heap := PySem.W.hideAll h (trk h H)
theorem hidT_size (h : Heap) (H : Hp) : (hidT h H).objs.size = h.objs.size := PySem.W.hideAll_size _ _
theorem hidT_get {h : Heap} {H : Hp} {b : Addr} {o : Obj} (e : h.get? b = some o) (n : H b = none) : (hidT h H).get? b = some o :=
  PySem.W.hideAll_get _ e fun hm => by
    have q : (H b).isSome = true := (List.mem_filter.mp hm).2
    rw [n] at q; simp at q
theorem of_hidT {h : Heap} {H : Hp} {b : Addr} {o : Obj} (e : (hidT h H).get? b = some o) : h.get? b = some o ∧ H b = none := by
  have e' : h.get? b = some o := PySem.W.of_hideAll (trk h H) e
  refine ⟨e', ?_⟩
  cases q : H b with
  | none => rfl
  | some x =>
    have hm : b ∈ trk h H := List.mem_filter.mpr ⟨List.mem_range.mpr (Heap.lt_size e'), by simp [q]⟩
    have z : (hidT h H).get? b = none := PySem.W.hideAll_none (trk h H) hm
    rw [z] at e; cases e

/-! ### OpenK's ledger, filled with every new object but one -/
def allNews (g h : Heap) (L : Addr) : List (Addr × Obj) := (List.range h.objs.size).filterMap fun a => if a = L ∨ (g.get? a).isSome = true then none else (h.get? a).map fun o => (a, o)
theorem mem_allNews {g h : Heap} {L a : Addr} {o : Obj} (h1 : a ≠ L) (h2 : g.get? a = none) (h3 : h.get? a = some o) : (a, o) ∈ allNews g h L :=
  List.mem_filterMap.mpr ⟨a, List.mem_range.mpr (Heap.lt_size h3), by simp [h1, h2, h3]⟩
theorem of_mem_allNews {g h : Heap} {L : Addr} {p : Addr × Obj} (hp : p ∈ allNews g h L) : p.1 ≠ L ∧ g.get? p.1 = none ∧ h.get? p.1 = some p.2 := by
  obtain ⟨b, _, e⟩ := List.mem_filterMap.mp hp
  split at e
  · cases e
  · rename_i hn
    cases q : h.get? b with
    | none => rw [q] at e; simp at e
    | some u =>
      rw [q] at e
      simp only [Option.map_some, Option.some.injEq] at e
      subst e
      refine ⟨fun z => hn (.inl z), ?_, q⟩
      show g.get? b = none
      cases r : g.get? b with
      | none => rfl
      | some v => exact (hn (.inr (by simp [r]))).elim
def rest (g h : Heap) (L d : Addr) : List (Addr × Obj) := (allNews g h L).filter fun p => decide (p.1 ≠ d)
theorem rest_ne {g h : Heap} {L d : Addr} : ∀ p ∈ rest g h L d, p.1 ≠ d := fun p hp => of_decide_eq_true (List.mem_filter.mp hp).2
theorem mem_rest {g h : Heap} {L d a : Addr} {o : Obj} (h1 : a ≠ L) (h2 : g.get? a = none) (h3 : h.get? a = some o) (h4 : a ≠ d) : (a, o) ∈ rest g h L d :=
  List.mem_filter.mpr ⟨mem_allNews h1 h2 h3, decide_eq_true h4⟩
theorem news_all {g h : Heap} {L : Addr} : News g L h (allNews g h L) := fun p hp => let ⟨a, b, c⟩ := of_mem_allNews hp; ⟨c, a, b⟩
theorem news_at {g h : Heap} {L d : Addr} {o : Obj} (h1 : d ≠ L) (h2 : g.get? d = none) (h3 : h.get? d = some o) : News g L h ((d, o) :: rest g h L d) := fun p hp => by
  rcases List.mem_cons.mp hp with rfl | hp
  · exact ⟨h3, h1, h2⟩
  · exact news_all p (List.mem_filter.mp hp).1
/-- behind a rule that changed d alone: all else but the frame is kept -/
theorem kept_of_news {g h h' : Heap} {L d : Addr} {m : Str → Option Value} (k : ∀ b o, g.get? b = some o → h.get? b = some o) (F : Fr g L h' m) (N : News g L h' (rest g h L d)) :
    ∀ b o, b ≠ L → b ≠ d → h.get? b = some o → h'.get? b = some o := fun b o h1 h2 e => by
  cases q : g.get? b with
  | some u =>
    have := k b u q
    rw [e] at this; cases this
    exact F.keep b _ q
  | none => exact (N (b, o) (mem_rest h1 q e h2)).1
end L2

namespace L2
open PySem PySem.Spec PyProof.Rows

/-- the module's facts, over the base: the heap at the law's entry without what is tracked there -/
structure Mod (K : PySem.W.Frag) (mg : Str → Option Value) (base : Heap) : Prop where
  kin : K.In base
  glob : base.Ns mainGlobals mg
  blt : ∃ mb, base.Ns builtinsNs mb ∧ ∀ x : Str, x ≠ "__name__" → mb x = bootBuiltins x
  nolimit : base.NoLimit

/-- the context: a def's body (or a comprehension's block) running. base: fixed through the whole law; s₀, H₀: the entry; outer: the frames whose slots others may change (a def's callers); stack: all frames that run;
   ex: iterators that were made ahead of the entry and are walked here (a comprehension's); fn: the names whose cells were made at the entry (a def: all; a comprehension's block: its own); calm: not within an except suite; pn: pins that every state bears; xe: what is wanted of an exception that leaves the code -/
structure Cx where
  prog : Program
  w : World
  K : PySem.W.Frag
  mg : Str → Option Value
  base : Heap
  A : Around
  N : List Str
  s₀ : Shared
  H₀ : Hp
  env : Env
  outer : List Env
  stack : List Env
  ex : List Addr
  fn : Str → Bool
  calm : Bool
  pn : List (Addr × Obj)
  xe : Value → Shared → Prop
/-- the callers' frames -/
def frs (l : List Env) : List Addr := l.filterMap (·.frame)
abbrev Cx.fs (X : Cx) : List Addr := frs X.outer

def Vis (sc : Scope) (x : Str) : Prop := sc.names.lookup x = some .local ∨ sc.names.lookup x = some .cell ∨ sc.names.lookup x = some .free
def Loc (sc : Scope) (x : Str) : Prop := sc.names.lookup x = some .local ∨ sc.names.lookup x = some .cell
def Look (env : Env) (h : Heap) (m : Str → Option Value) (x : Str) (u : Value) : Prop :=
  (env.kindOf x = some .local ∧ m x = some u) ∨ ((env.kindOf x = some .cell ∨ env.kindOf x = some .free) ∧ ∃ c, env.cells.lookup x = some c ∧ h.IsCell c (some u))

structure Cx.Ok (X : Cx) : Prop where
  mod : Mod X.K X.mg X.base
  kind : X.env.scope.kind = .function
  glob : X.env.globals = mainGlobals
  blt : X.env.builtins = builtinsNs
  above : X.s₀.heap.objs.size ≤ X.env.locals
  inj : ∀ x y c, X.env.cells.lookup x = some c → X.env.cells.lookup y = some c → x = y
  has : ∀ x, (X.env.kindOf x = some .cell ∨ X.env.kindOf x = some .free) → ∃ c, X.env.cells.lookup x = some c
  cab : ∀ x c, X.fn x = true → X.env.cells.lookup x = some c → X.s₀.heap.objs.size ≤ c
  hd : X.calm = true → X.A.handled = none
  frames : X.A.frames = some X.stack
  stk : X.stack = X.outer ∨ (X.stack = X.env :: X.outer ∧ X.env.frame = some X.env.locals)
  exf : ∀ b ∈ X.ex, b ≠ X.env.locals ∧ ∀ x c, X.env.cells.lookup x = some c → c ≠ b
  bs : ∀ b o, X.base.get? b = some o → X.s₀.heap.get? b = some o ∧ X.H₀ b = none
  bsz : X.base.objs.size ≤ X.s₀.heap.objs.size
  noex : ∀ b o, X.base.get? b = some o → b ∉ X.ex
  exfs : ∀ b ∈ X.ex, b ∉ X.fs
  funs : X.s₀.heap.FunFrames X.base X.outer
  frf : ∀ b ∈ X.fs, X.H₀ b = none

structure Inv (X : Cx) (pins : List (Addr × Obj)) (σ : List (Option V)) (H : Hp) (s : Shared) : Prop where
  ok : X.Ok
  os : s.os = X.s₀.os
  bare : AllBare s.gens
  base : Un X.fs X.ex X.H₀ H X.s₀.heap s.heap
  loc : ∃ m, s.heap.Ns X.env.locals m ∧ ∀ (i : Nat) (x : Str) (v : V), X.N[i]? = some x → σ[i]? = some (some v) → Vis X.env.scope x → ∃ u, RelV v u ∧ Look X.env s.heap m x u
  cell : ∀ x c, X.env.cells.lookup x = some c → ∃ v, s.heap.IsCell c v
  free : H X.env.locals = none
  freeC : ∀ x c, X.env.cells.lookup x = some c → H c = none
  pin : ∀ p ∈ X.pn ++ pins, s.heap.get? p.1 = some p.2 ∧ H p.1 = none ∧ p.1 ≠ X.env.locals ∧ p.1 ∉ X.fs ∧ ∀ v, p.2.data ≠ .cell v
  hok : HOk X.prog X.w H s.heap
  len : σ.length = X.N.length

section
variable {X : Cx} {pins : List (Addr × Obj)} {σ : List (Option V)} {H H' : Hp} {s : Shared} {h' : Heap}

theorem Cx.Ok.nofr (ok : X.Ok) {b : Addr} {o : Obj} (e : X.base.get? b = some o) : b ∉ X.fs := fun hb => by
  have := (ok.funs.mem hb).1
  rw [e] at this; cases this
theorem Inv.bs (I : Inv X pins σ H s) : ∀ b o, X.base.get? b = some o → s.heap.get? b = some o ∧ H b = none := fun b o e =>
  ⟨I.base.keep b o (I.ok.bs b o e).1 (I.ok.bs b o e).2 (I.ok.nofr e) (I.ok.noex b o e), I.base.free b o (I.ok.bs b o e).1 (I.ok.bs b o e).2 (I.ok.noex b o e)⟩
theorem Inv.bk (I : Inv X pins σ H s) : ∀ b o, X.base.get? b = some o → s.heap.get? b = some o := fun b o e => (I.bs b o e).1
theorem Inv.mod (I : Inv X pins σ H s) : Mod X.K X.mg X.base := I.ok.mod
theorem Inv.kIn (I : Inv X pins σ H s) : X.K.In s.heap := I.ok.mod.kin.keeps I.bk
theorem Inv.nolimit (I : Inv X pins σ H s) : s.heap.NoLimit := I.ok.mod.nolimit.keeps I.bk
/-- the frame over the base: for OpenK's rules (K.In X.base is I.mod.kin) -/
theorem Inv.fr (I : Inv X pins σ H s) : ∃ m, Fr X.base X.env.locals s.heap m :=
  let ⟨m, hn, _⟩ := I.loc
  ⟨m, hn, I.bk, Nat.le_trans I.ok.bsz I.ok.above⟩
theorem Inv.lt (I : Inv X pins σ H s) : X.env.locals < s.heap.objs.size := let ⟨_, hn, _⟩ := I.loc; hn.lt
theorem Inv.sz (I : Inv X pins σ H s) : X.s₀.heap.objs.size ≤ s.heap.objs.size := Nat.le_trans I.ok.above (Nat.le_of_lt I.lt)
theorem Inv.nofs (I : Inv X pins σ H s) {a : Addr} (h : s.heap.objs.size ≤ a) : a ∉ X.fs := fun hb => by
  obtain ⟨_, o, ho, _⟩ := I.ok.funs.mem hb
  exact absurd (Nat.lt_of_lt_of_le (Heap.lt_size ho) (Nat.le_trans I.sz h)) (Nat.lt_irrefl _)
theorem Inv.cne (I : Inv X pins σ H s) : ∀ x c, X.env.cells.lookup x = some c → c ≠ X.env.locals := fun x c e z => by
  obtain ⟨v, o, ho, hd⟩ := I.cell x c e
  obtain ⟨m, ⟨o', es, ep, ho', hd', _⟩, _⟩ := I.loc
  rw [z, ho'] at ho; cases ho; rw [hd'] at hd; cases hd
theorem Inv.funs (I : Inv X pins σ H s) : s.heap.FunFrames X.base X.outer := by
  have all : ∀ (l : List Env), (∀ b ∈ frs l, b ∈ X.fs) → X.s₀.heap.FunFrames X.base l → s.heap.FunFrames X.base l := by
    intro l
    induction l with
    | nil => intro _ _; trivial
    | cons env r ih =>
      intro hs hl
      obtain ⟨hk, ⟨L, o, hf, hn, ho, hd⟩, hr⟩ := hl
      have hL : L ∈ X.fs := hs L (by unfold frs; rw [List.filterMap_cons, hf]; exact List.mem_cons_self)
      obtain ⟨sl, e⟩ := I.base.slot L o ho (I.ok.frf L hL) hL fun z => I.ok.exfs L z hL
      exact ⟨hk, ⟨L, _, hf, hn, e, hd⟩, ih (fun b hb => hs b (by unfold frs; rw [List.filterMap_cons, hf]; exact List.mem_cons_of_mem _ hb)) hr⟩
  exact all X.outer (fun _ hb => hb) I.ok.funs

/-- the frames that run, for a call -/
theorem Inv.stack (I : Inv X pins σ H s) : s.heap.FunFrames X.base X.stack := by
  rcases I.ok.stk with e | ⟨e, hf⟩
  · rw [e]; exact I.funs
  · rw [e]
    obtain ⟨m, hn, _⟩ := I.loc
    refine .cons (by rw [I.ok.kind]; decide) hf hn ?_ I.funs
    exact Heap.get?_none_of_le (Nat.le_trans I.ok.bsz I.ok.above)
theorem Inv.stkSub (I : Inv X pins σ H s) : ∀ b ∈ frs X.stack, b ∈ X.env.locals :: X.fs := fun b hb => by
  rcases I.ok.stk with e | ⟨e, hf⟩
  · rw [e] at hb; exact List.mem_cons_of_mem _ hb
  · rw [e] at hb
    unfold frs at hb
    rw [List.filterMap_cons, hf] at hb
    exact hb
theorem Inv.stkFree (I : Inv X pins σ H s) : ∀ b ∈ frs X.stack, H b = none := fun b hb => by
  rcases List.mem_cons.mp (I.stkSub b hb) with e | hb
  · rw [e]; exact I.free
  · obtain ⟨_, o, ho, _⟩ := I.ok.funs.mem hb
    exact I.base.free b o ho (I.ok.frf b hb) fun z => I.ok.exfs b z hb

/-- THE STEP: the untracked objects but the frame and the records at ch are kept (the callers' frames up to slots), the frame's map is kept, the new abstract heap is held -/
theorem Inv.step {g' : Array GenState} {t' : Nat} {d' : Drawn} {ch : List Addr} (I : Inv X pins σ H s)
    (hch : ∀ b ∈ ch, (b ∈ X.ex ∨ X.s₀.heap.objs.size ≤ b) ∧ b ≠ X.env.locals ∧ (∀ x c, X.env.cells.lookup x = some c → c ≠ b) ∧ ∀ p ∈ X.pn ++ pins, p.1 ≠ b)
    (keep : ∀ b o, b ≠ X.env.locals → b ∉ X.fs → b ∉ ch → s.heap.get? b = some o → H b = none → h'.get? b = some o)
    (slot : ∀ b o, b ≠ X.env.locals → b ∈ X.fs → b ∉ ch → s.heap.get? b = some o → H b = none → ∃ sl, h'.get? b = some { o with slots := sl }) (free : ∀ b o, b ∉ ch → s.heap.get? b = some o → H b = none → H' b = none)
    (there : ∀ b o, b ∉ ch → s.heap.get? b = some o → ∃ o', h'.get? b = some o')
    (tups : ∀ b xs, H b = some (.tup xs) → H' b = some (.tup xs)) (frzs : ∀ b o u, H b = some (.frz o u) → H' b = some (.frz o u)) (tbls : ∀ b ps, H b = some (.tbl ps) → ∃ more, H' b = some (.tbl (ps ++ more)))
    (ns : ∀ m, s.heap.Ns X.env.locals m → h'.Ns X.env.locals m) (hok : HOk X.prog X.w H' h') (hg : AllBare g') :
    Inv X pins σ H' { s with heap := h', gens := g', drawn := d', toks := t' } := by
  have neL : ∀ b o, X.s₀.heap.get? b = some o → b ≠ X.env.locals := fun b o e => Nat.ne_of_lt (Nat.lt_of_lt_of_le (Heap.lt_size e) I.ok.above)
  have neC : ∀ b o, X.s₀.heap.get? b = some o → b ∉ X.ex → b ∉ ch := fun b o e hx hb => by
    rcases (hch b hb).1 with z | z
    · exact hx z
    · exact absurd (Nat.lt_of_lt_of_le (Heap.lt_size e) z) (Nat.lt_irrefl _)
  have cellK : ∀ x c, X.env.cells.lookup x = some c → ∀ v, s.heap.IsCell c v → h'.IsCell c v := fun x c e v ⟨o, ho, hd⟩ => by
    have nch : c ∉ ch := fun z => (hch c z).2.2.1 x c e rfl
    by_cases hc : c ∈ X.fs
    · obtain ⟨sl, q⟩ := slot c o (I.cne x c e) hc nch ho (I.freeC x c e)
      exact ⟨_, q, hd⟩
    · exact ⟨o, keep c o (I.cne x c e) hc nch ho (I.freeC x c e), hd⟩
  refine ⟨I.ok, I.os, hg, ⟨fun b o e n hb hx => ?_, fun b o e n hb hx => ?_, fun b o e n hx => ?_, fun b o e hx => ?_, fun b xs e => tups b xs (I.base.tups b xs e), fun b o xs e => frzs b o xs (I.base.frzs b o xs e), fun b ps e => ?_⟩, ?_, fun x c e => ?_, ?_, fun x c e => ?_, fun p hp => ?_, hok, I.len⟩
  · exact keep b o (neL b o e) hb (neC b o e hx) (I.base.keep b o e n hb hx) (I.base.free b o e n hx)
  · obtain ⟨sl, e1⟩ := I.base.slot b o e n hb hx
    obtain ⟨sl', e2⟩ := slot b _ (neL b o e) hb (neC b o e hx) e1 (I.base.free b o e n hx)
    exact ⟨sl', e2⟩
  · obtain ⟨o', e1⟩ := I.base.there b o e hx
    exact free b o' (neC b o e hx) e1 (I.base.free b o e n hx)
  · obtain ⟨o', e1⟩ := I.base.there b o e hx
    exact there b o' (neC b o e hx) e1
  · obtain ⟨m1, e1⟩ := I.base.tbls b ps e
    obtain ⟨m2, e2⟩ := tbls b _ e1
    exact ⟨m1 ++ m2, by rw [e2, Array.append_assoc]⟩
  · obtain ⟨m, hn, hl⟩ := I.loc
    refine ⟨m, ns m hn, fun i x v e1 e2 e3 => ?_⟩
    obtain ⟨u, r, l⟩ := hl i x v e1 e2 e3
    refine ⟨u, r, ?_⟩
    rcases l with l | ⟨k, c, e, z⟩
    · exact .inl l
    · exact .inr ⟨k, c, e, cellK x c e _ z⟩
  · obtain ⟨v, z⟩ := I.cell x c e
    exact ⟨v, cellK x c e v z⟩
  · obtain ⟨m, ⟨o, _, _, ho, _⟩, _⟩ := I.loc
    exact free _ o (fun z => (hch _ z).2.1 rfl) ho I.free
  · obtain ⟨v, o, ho, hd⟩ := I.cell x c e
    exact free c o (fun z => (hch c z).2.2.1 x c e rfl) ho (I.freeC x c e)
  · obtain ⟨e, n, ne, nf, d⟩ := I.pin p hp
    have nch : p.1 ∉ ch := fun z => (hch p.1 z).2.2.2 p hp rfl
    exact ⟨keep p.1 p.2 ne nf nch e n, free p.1 p.2 nch e n, ne, nf, d⟩
/-- .. where the frame's own object is kept too -/
theorem Inv.un {t' : Nat} (I : Inv X pins σ H s) (u : Un X.fs [] H H' s.heap h') (hok : HOk X.prog X.w H' h') : Inv X pins σ H' { s with heap := h', toks := t' } := by
  obtain ⟨m, ⟨o, es, ep, ho, r⟩, _⟩ := id I.loc
  obtain ⟨sl, hL⟩ := u.any ho I.free (by simp)
  exact I.step (g' := s.gens) (d' := s.drawn) (ch := []) (fun _ z => nomatch z) (fun b o _ hb _ e n => u.keep b o e n hb (by simp)) (fun b o _ hb _ e n => u.slot b o e n hb (by simp)) (fun b o _ e n => u.free b o e n (by simp)) (fun b o _ e => u.there b o e (by simp)) u.tups u.frzs u.tbls (fun m' hm => by
    obtain ⟨o', es', ep', ho', r'⟩ := hm
    rw [ho] at ho'; cases ho'
    exact ⟨_, es', ep', hL, r'⟩) hok I.bare
/-- behind a call (or a comprehension's block): the slots of this frame may have changed too, the records at ch may have turned -/
theorem Inv.call {g' : Array GenState} {t' : Nat} {d' : Drawn} {ch : List Addr} (I : Inv X pins σ H s) (u : Un (frs X.stack) ch H H' s.heap h') (hok : HOk X.prog X.w H' h') (hg : AllBare g')
    (hch : ∀ b ∈ ch, (b ∈ X.ex ∨ X.s₀.heap.objs.size ≤ b) ∧ b ≠ X.env.locals ∧ (∀ x c, X.env.cells.lookup x = some c → c ≠ b) ∧ ∀ p ∈ X.pn ++ pins, p.1 ≠ b) :
    Inv X pins σ H' { s with heap := h', gens := g', drawn := d', toks := t' } := by
  obtain ⟨m, ⟨o, es, ep, ho, r⟩, _⟩ := id I.loc
  obtain ⟨sl, hL⟩ := u.any ho I.free fun z => (hch _ z).2.1 rfl
  exact I.step (ch := ch) hch (fun b o hL hb hc e n => u.keep b o e n (fun z => (List.mem_cons.mp (I.stkSub b z)).elim hL hb) hc) (fun b o _ _ hc e n => u.any e n hc) (fun b o hc e n => u.free b o e n hc) (fun b o hc e => u.there b o e hc) u.tups u.frzs u.tbls (fun m' hm => by
    obtain ⟨o', es', ep', ho', r'⟩ := hm
    rw [ho] at ho'; cases ho'
    exact ⟨_, es', ep', hL, r'⟩) hok hg
/-- an untracked record of ours (an iterator) has turned -/
theorem Inv.turned {t' : Nat} {it : Addr} (I : Inv X pins σ H s) (k : ∀ b o, b ≠ it → s.heap.get? b = some o → h'.get? b = some o) (hn : H it = none) (hL : it ≠ X.env.locals)
    (h1 : it ∈ X.ex ∨ X.s₀.heap.objs.size ≤ it) (h2 : ∀ x c, X.env.cells.lookup x = some c → c ≠ it) (h3 : ∀ p ∈ X.pn ++ pins, p.1 ≠ it) : Inv X pins σ H { s with heap := h', toks := t' } := by
  have nit : ∀ b u, H b = some u → b ≠ it := fun b u e z => by rw [z, hn] at e; cases e
  refine I.step (g' := s.gens) (d' := s.drawn) (ch := [it]) (fun b hb => ?_) (fun b o _ _ hc e _ => k b o (fun z => hc (by simp [z])) e) (fun b o _ _ hc e _ => ⟨o.slots, k b o (fun z => hc (by simp [z])) e⟩) (fun _ _ _ _ n => n)
    (fun b o hc e => ⟨o, k b o (fun z => hc (by simp [z])) e⟩) (fun _ _ e => e) (fun _ _ _ e => e) (fun b ps e => ⟨#[], by rw [e]; simp⟩) (fun m hm => ?_) (fun b u e => ?_) I.bare
  · have e : b = it := by simpa using hb
    subst e
    exact ⟨h1, hL, h2, h3⟩
  · obtain ⟨o, es, ep, ho, r⟩ := hm
    exact ⟨o, es, ep, k _ o (Ne.symm hL) ho, r⟩
  · refine (I.hok b u e).stay (fun c v hc q => k c v ?_ q) (fun _ q => q) fun _ _ q => q
    rcases hc with z | z
    · rw [z]; exact nit b u e
    · exact nit c _ z
theorem Inv.tok (I : Inv X pins σ H s) (t : Nat) : Inv X pins σ H { s with toks := t } := I.un (h' := s.heap) (t' := t) Un.refl I.hok
/-- all objects kept -/
theorem Inv.kept {t' : Nat} (I : Inv X pins σ H s) (k : ∀ b u, s.heap.get? b = some u → h'.get? b = some u) : Inv X pins σ H { s with heap := h', toks := t' } := I.un (Un.kept k) (I.hok.kept k)
/-- a new object laid and tracked -/
theorem Inv.laid {a : Addr} {o : HO} {t' : Nat} (I : Inv X pins σ H s) (k : ∀ b u, s.heap.get? b = some u → h'.get? b = some u) (hp : s.heap.objs.size ≤ a) (new : ObjOk X.prog X.w (upd H a o) h' a o) :
    Inv X pins σ (upd H a o) { s with heap := h', toks := t' } := I.un (Un.laid k hp (I.hok.fresh hp)) (I.hok.laid k hp new)
/-- an object written -/
theorem Inv.write {x e : Addr} {o : HO} {t' : Nat} (I : Inv X pins σ H s) (mu : Mut (H x)) (he : e = x ∨ H e = some (.own x)) (k : ∀ b u, b ≠ e → s.heap.get? b = some u → h'.get? b = some u) (heo : ∃ u, h'.get? e = some u)
    (new : ObjOk X.prog X.w (upd H x o) h' x o) : Inv X pins σ (upd H x o) { s with heap := h', toks := t' } := I.un (Un.write mu he k heo) (I.hok.write mu he k heo new)
/-- forgetting slots, pins -/
theorem Inv.weak {σ' : List (Option V)} (I : Inv X pins σ H s) (hl : σ'.length = σ.length) (w : ∀ (i : Nat) v, σ'[i]? = some (some v) → σ[i]? = some (some v)) : Inv X pins σ' H s :=
  ⟨I.ok, I.os, I.bare, I.base, let ⟨m, hn, hl'⟩ := I.loc; ⟨m, hn, fun i x v e1 e2 e3 => hl' i x v e1 (w i v e2) e3⟩, I.cell, I.free, I.freeC, I.pin, I.hok, hl.trans I.len⟩
theorem Inv.pins_of {pins' : List (Addr × Obj)} (I : Inv X pins σ H s) (h : ∀ p ∈ pins', s.heap.get? p.1 = some p.2 ∧ H p.1 = none ∧ p.1 ≠ X.env.locals ∧ p.1 ∉ X.fs ∧ ∀ v, p.2.data ≠ .cell v) : Inv X pins' σ H s :=
  ⟨I.ok, I.os, I.bare, I.base, I.loc, I.cell, I.free, I.freeC, fun p hp => (List.mem_append.mp hp).elim (fun z => I.pin p (List.mem_append_left _ z)) (h p), I.hok, I.len⟩

theorem nodup_ix {N : List Str} (hN : N.Nodup) {i j : Nat} {x : Str} (a : N[i]? = some x) (b : N[j]? = some x) : i = j := by
  obtain ⟨h1, e1⟩ := List.getElem?_eq_some_iff.mp a
  obtain ⟨h2, e2⟩ := List.getElem?_eq_some_iff.mp b
  exact (List.getElem_inj hN).mp (e1.trans e2.symm)

/-- a name is stored; what changed -/
theorem store_ok2 {M : Model} {A : Around} {E : Value → Shared → Prop} {i : Nat} {x : Str} {v : V} {u : Value} {Q : Unit → Shared → Prop} (I : Inv X pins σ H s) (hN : X.N.Nodup) (hi : X.N[i]? = some x) (hx : Loc X.env.scope x) (r : RelV v u)
    (h : ∀ s', Inv X pins (σ.set i (some v)) H s' → (∃ a, Heap.SameBut a s.heap s'.heap ∧ (a = X.env.locals ∨ X.env.cells.lookup x = some a)) → Q () s') (hf : X.fn x = true ∨ X.env.scope.names.lookup x = some .local := by first | exact .inl rfl | exact .inr rfl | assumption) : wpAny M A (storeName X.env x u) Q E s := by
  obtain ⟨m, hn, hl⟩ := id I.loc
  have hcls : (X.env.scope.kind == .class || (X.env.scope.kind == .module && X.env.locals != X.env.globals)) = false := by rw [I.ok.kind]; rfl
  have hiσ : i < σ.length := by rw [I.len]; exact (List.getElem?_eq_some_iff.mp hi).1
  have cne := I.cne
  have tracked : ∀ {a : Addr} {h' : Heap}, (∃ o, s.heap.get? a = some o ∧ H a = none) → Heap.SameBut a s.heap h' → HOk X.prog X.w H h' := fun {a h'} ha hs b ob e => by
    obtain ⟨_, _, hfree⟩ := ha
    refine (I.hok b ob e).stay (fun c w' hc q => (hs.2 c ?_).trans q) (fun _ q => q) fun _ _ q => q
    rintro rfl
    rcases hc with rfl | hc
    · rw [hfree] at e; cases e
    · rw [hfree] at hc; cases hc
  rcases hx with hk | hk
  · refine wpAny_storeName_local hk hn (fun h' hn' hs => ?_) hcls
    obtain ⟨oL, _, _, hoL, _⟩ := id hn
    refine h _ ⟨I.ok, I.os, I.bare, ⟨fun b o e n hb hx => ?_, fun b o e n hb hx => ?_, I.base.free, fun b o e hx => ?_, I.base.tups, I.base.frzs, I.base.tbls⟩, ⟨_, hn', fun j y v' e1 e2 e3 => ?_⟩, fun y c e => ?_, I.free, I.freeC, fun p hp => ?_, tracked ⟨oL, hoL, I.free⟩ hs, by simpa using I.len⟩ ⟨_, hs, .inl rfl⟩
    · exact (hs.2 b (Nat.ne_of_lt (Nat.lt_of_lt_of_le (Heap.lt_size e) I.ok.above))).trans (I.base.keep b o e n hb hx)
    · obtain ⟨sl, e1⟩ := I.base.slot b o e n hb hx
      exact ⟨sl, (hs.2 b (Nat.ne_of_lt (Nat.lt_of_lt_of_le (Heap.lt_size e) I.ok.above))).trans e1⟩
    · obtain ⟨o', e1⟩ := I.base.there b o e hx
      exact ⟨o', (hs.2 b (Nat.ne_of_lt (Nat.lt_of_lt_of_le (Heap.lt_size e) I.ok.above))).trans e1⟩
    · by_cases hj : j = i
      · subst hj
        rw [hi] at e1; cases e1
        rw [List.getElem?_set_self hiσ] at e2
        cases e2
        exact ⟨u, r, .inl ⟨hk, by simp⟩⟩
      · rw [List.getElem?_set_ne (Ne.symm hj)] at e2
        obtain ⟨u', r', q⟩ := hl j y v' e1 e2 e3
        refine ⟨u', r', ?_⟩
        rcases q with ⟨k, e⟩ | ⟨k, c, e, z⟩
        · refine .inl ⟨k, ?_⟩
          have : y ≠ x := fun e => hj (nodup_ix hN e1 (e ▸ hi))
          simp [this, e]
        · exact .inr ⟨k, c, e, z.sameBut hs (cne y c e)⟩
    · obtain ⟨w', z⟩ := I.cell y c e
      exact ⟨w', z.sameBut hs (cne y c e)⟩
    · obtain ⟨e, n, ne, nf, d⟩ := I.pin p hp
      exact ⟨(hs.2 p.1 ne).trans e, n, ne, nf, d⟩
  · have hfn : X.fn x = true := by
      rcases hf with z | z
      · exact z
      · rw [z] at hk; cases hk
    obtain ⟨c, hc⟩ := I.ok.has x (.inl hk)
    obtain ⟨w', z⟩ := I.cell x c hc
    refine wpAny_storeName_cell I.ok.kind hk hc z (fun h' hc' hs => ?_)
    obtain ⟨oc, hoc, hocd⟩ := id z
    refine h { s with heap := h' } ⟨I.ok, I.os, I.bare, ⟨fun b o e n hb hx => ?_, fun b o e n hb hx => ?_, I.base.free, fun b o e hx => ?_, I.base.tups, I.base.frzs, I.base.tbls⟩, ⟨m, hn.sameBut hs (Ne.symm (cne x c hc)), fun j y v' e1 e2 e3 => ?_⟩, fun y c' e => ?_, I.free, I.freeC, fun p hp => ?_, tracked ⟨oc, hoc, I.freeC x c hc⟩ hs, by simpa using I.len⟩ ⟨c, hs, .inr hc⟩
    · exact (hs.2 b (Nat.ne_of_lt (Nat.lt_of_lt_of_le (Heap.lt_size e) (I.ok.cab x c hfn hc)))).trans (I.base.keep b o e n hb hx)
    · obtain ⟨sl, e1⟩ := I.base.slot b o e n hb hx
      exact ⟨sl, (hs.2 b (Nat.ne_of_lt (Nat.lt_of_lt_of_le (Heap.lt_size e) (I.ok.cab x c hfn hc)))).trans e1⟩
    · obtain ⟨o', e1⟩ := I.base.there b o e hx
      exact ⟨o', (hs.2 b (Nat.ne_of_lt (Nat.lt_of_lt_of_le (Heap.lt_size e) (I.ok.cab x c hfn hc)))).trans e1⟩
    · by_cases hj : j = i
      · subst hj
        rw [hi] at e1; cases e1
        rw [List.getElem?_set_self hiσ] at e2
        cases e2
        exact ⟨u, r, .inr ⟨.inl hk, c, hc, hc'⟩⟩
      · rw [List.getElem?_set_ne (Ne.symm hj)] at e2
        obtain ⟨u', r', q⟩ := hl j y v' e1 e2 e3
        refine ⟨u', r', ?_⟩
        rcases q with q | ⟨k, c', e, z'⟩
        · exact .inl q
        · refine .inr ⟨k, c', e, z'.sameBut hs ?_⟩
          rintro rfl
          exact hj (nodup_ix hN e1 (I.ok.inj _ _ _ e hc ▸ hi))
    · by_cases hcc : c' = c
      · subst hcc; exact ⟨_, hc'⟩
      · obtain ⟨w2, z2⟩ := I.cell y c' e
        exact ⟨w2, z2.sameBut hs hcc⟩
    · obtain ⟨e, n, ne, nf, d⟩ := I.pin p hp
      refine ⟨(hs.2 p.1 ?_).trans e, n, ne, nf, d⟩
      intro q
      rw [q, hoc] at e
      have q' : oc = p.2 := Option.some.inj e
      exact d w' (by rw [← q']; exact hocd)
theorem store_ok {M : Model} {A : Around} {E : Value → Shared → Prop} {i : Nat} {x : Str} {v : V} {u : Value} {Q : Unit → Shared → Prop} (I : Inv X pins σ H s) (hN : X.N.Nodup) (hi : X.N[i]? = some x) (hx : Loc X.env.scope x) (r : RelV v u)
    (h : ∀ s', Inv X pins (σ.set i (some v)) H s' → Q () s') (hf : X.fn x = true ∨ X.env.scope.names.lookup x = some .local := by first | exact .inl rfl | exact .inr rfl | assumption) : wpAny M A (storeName X.env x u) Q E s :=
  store_ok2 I hN hi hx r (fun s' I' _ => h s' I') hf
/-- behind a call or a block, the state as it is -/
theorem Inv.call' {s' : Shared} {ch : List Addr} (I : Inv X pins σ H s) (ho : s'.os = s.os) (u : Un (frs X.stack) ch H H' s.heap s'.heap) (hok : HOk X.prog X.w H' s'.heap) (hg : AllBare s'.gens)
    (hch : ∀ b ∈ ch, (b ∈ X.ex ∨ X.s₀.heap.objs.size ≤ b) ∧ b ≠ X.env.locals ∧ (∀ x c, X.env.cells.lookup x = some c → c ≠ b) ∧ ∀ p ∈ X.pn ++ pins, p.1 ≠ b) : Inv X pins σ H' s' := by
  obtain ⟨h', g', d', t', o'⟩ := s'
  have e : o' = s.os := ho
  subst e
  exact I.call (g' := g') (t' := t') (d' := d') u hok hg hch
end

/-! ### the judgements -/
/-- an exception: its class, its own dict's address (where it has one), the abstract heap behind it -/
abbrev XK := Value → Option Addr → Hp → Prop
abbrev St := List (Option V)
abbrev VK := V → Hp → Prop
/-- an expression's reading; a test's; an argument list's -/
abbrev TE := St → Hp → VK → Prop
abbrev TT := St → Hp → (Bool → Hp → Prop) → Prop
abbrev TA := St → Hp → (List V → Hp → Prop) → Prop
/-- what is wanted behind a statement -/
structure Ends where
  nx : St → Hp → Prop
  rt : VK
  bk : St → Hp → Prop := fun _ _ => False
  ct : St → Hp → Prop := fun _ _ => False
abbrev TS := Ends → St → Hp → Prop

def EP (X : Cx) (pins : List (Addr × Obj)) (σ : St) (Q : VK) (u : Value) (s' : Shared) : Prop := ∃ v H', Inv X pins σ H' s' ∧ RelV v u ∧ Q v H'
def TP (X : Cx) (pins : List (Addr × Obj)) (σ : St) (Q : Bool → Hp → Prop) (b : Bool) (s' : Shared) : Prop := ∃ H', Inv X pins σ H' s' ∧ Q b H'
def AP (X : Cx) (pins : List (Addr × Obj)) (σ : St) (Q : List V → Hp → Prop) (us : List Value) (s' : Shared) : Prop := ∃ vs H', Inv X pins σ H' s' ∧ Vals vs us ∧ Q vs H'
def SP (X : Cx) (pins : List (Addr × Obj)) (D : Ends) (f : Flow) (s' : Shared) : Prop :=
  match f with
  | .next => ∃ σ' H', Inv X pins σ' H' s' ∧ D.nx σ' H'
  | .brk => ∃ σ' H', Inv X pins σ' H' s' ∧ D.bk σ' H'
  | .cont => ∃ σ' H', Inv X pins σ' H' s' ∧ D.ct σ' H'
  | .ret u => ∃ v σ' H', Inv X pins σ' H' s' ∧ RelV v u ∧ D.rt v H'

def PE (X : Cx) (e : Expr) (t : TE) : Prop :=
  ∀ (pins : List (Addr × Obj)) (s : Shared) (σ : St) (H : Hp) (Q : VK), Inv X pins σ H s → t σ H Q → wpAny (model X.prog X.w) X.A (eval e X.env) (EP X pins σ Q) X.xe s
def PT (X : Cx) (e : Expr) (t : TT) : Prop :=
  ∀ (pins : List (Addr × Obj)) (s : Shared) (σ : St) (H : Hp) (Q : Bool → Hp → Prop), Inv X pins σ H s → t σ H Q → wpAny (model X.prog X.w) X.A (isTrue e X.env (eval e X.env)) (TP X pins σ Q) X.xe s
/-- a test whatever its 'whole' is (and, or) -/
def PW (X : Cx) (e : Expr) (t : TT) : Prop :=
  ∀ (whole : Sem Value) (pins : List (Addr × Obj)) (s : Shared) (σ : St) (H : Hp) (Q : Bool → Hp → Prop), Inv X pins σ H s → t σ H Q → wpAny (model X.prog X.w) X.A (isTrue e X.env whole) (TP X pins σ Q) X.xe s
theorem PW.pt {X : Cx} {e : Expr} {t : TT} (h : PW X e t) : PT X e t := h _
/-- an argument list (no star), from the left -/
def PA (X : Cx) (es : List Expr) (t : TA) : Prop :=
  ∀ (pos : Pos) (pins : List (Addr × Obj)) (s : Shared) (σ : St) (H : Hp) (Q : List V → Hp → Prop), Inv X pins σ H s → t σ H Q → wpAny (model X.prog X.w) X.A (spliced (backTo pos (starEach es X.env))) (AP X pins σ Q) X.xe s
def PS (X : Cx) (st : Stmt) (t : TS) : Prop :=
  ∀ (pins : List (Addr × Obj)) (s : Shared) (σ : St) (H : Hp) (D : Ends), Inv X pins σ H s → t D σ H → wpAny (model X.prog X.w) X.A (exec st X.env) (SP X pins D) X.xe s
def PSs (X : Cx) (st : List Stmt) (t : TS) : Prop :=
  ∀ (pins : List (Addr × Obj)) (s : Shared) (σ : St) (H : Hp) (D : Ends), Inv X pins σ H s → t D σ H → wpAny (model X.prog X.w) X.A (execs st X.env) (SP X pins D) X.xe s
/-- weaken the end -/
theorem thn {α : Type} {t : Sem α} {Q Q' : α → Shared → Prop} {M : Model} {A : Around} {E : Value → Shared → Prop} {s : Shared} (h : wpAny M A t Q E s) (hQ : ∀ a s, Q a s → Q' a s) : wpAny M A t Q' E s := wpAny_mono h hQ fun _ _ x => x
end L2

namespace L2
open PySem PySem.Spec PyProof.Rows
section
variable {X : Cx}

/-- two expressions in a row -/
theorem bin {a b : Expr} {ta tb : TE} (ha : PE X a ta) (hb : PE X b tb) {pins : List (Addr × Obj)} {s : Shared} {σ : St} {H : Hp} {R : V → V → Hp → Prop} (I : Inv X pins σ H s) (h : ta σ H fun x H1 => tb σ H1 fun y H2 => R x y H2)
    {α : Type} {Q : α → Shared → Prop} {f : Value → Value → Sem α}
    (hf : ∀ v u s2 x y H2, Inv X pins σ H2 s2 → RelV x v → RelV y u → R x y H2 → wpAny (model X.prog X.w) X.A (f v u) Q X.xe s2) :
    wpAny (model X.prog X.w) X.A (eval a X.env) (fun v s₁ => wpAny (model X.prog X.w) X.A (eval b X.env) (fun u s₂ => wpAny (model X.prog X.w) X.A (f v u) Q X.xe s₂) X.xe s₁) X.xe s := by
  refine thn (ha pins s σ H _ I h) fun v s1 ⟨x, H1, I1, r1, q1⟩ => ?_
  refine thn (hb pins s1 σ H1 _ I1 q1) fun u s2 ⟨y, H2, I2, r2, q2⟩ => ?_
  exact hf v u s2 x y H2 I2 r1 r2 q2

/-! ### names and constants -/
def tVar (i : Nat) : TE := fun σ H Q => ∃ v, σ[i]? = some (some v) ∧ Q v H
def tC (v : V) : TE := fun _ H Q => Q v H
theorem pe_var {i : Nat} {x : Str} {pos : Pos} (hN : X.N[i]? = some x) (hv : Vis X.env.scope x) (hd : (x == ("__debug__" : Str)) = false := by decide) (hcd : (x == ("__classdict__" : Str)) = false := by decide) : PE X (.Name x pos) (tVar i) := by
  intro pins s σ H Q I h
  obtain ⟨v, e, h⟩ := h
  obtain ⟨m, hn, hl⟩ := I.loc
  obtain ⟨u, r, l⟩ := hl i x v hN e hv
  have fin : EP X pins σ Q u s := ⟨v, H, I, r, h⟩
  rcases l with ⟨hk, hm⟩ | ⟨hk, c, hc, hcell⟩
  · exact wpAny_Name (wpAny_loadName_local I.ok.kind hk hn hm fin) hd
  · rcases hk with hk | hk
    · exact wpAny_Name (wpAny_loadName_cell I.ok.kind hk hc hcell fin) hd
    · exact wpAny_Name (wpAny_loadName_free I.ok.kind hk hc hcell fin hcd) hd
theorem pe_int {i j pos} : PE X (.Constant (.int i) j pos) (tC (.int i)) := fun _ _ _ H _ I h => wpAny_Constant_int ⟨.int i, H, I.tok _, ⟨_, rfl⟩, h⟩
theorem pe_bl {b j pos} : PE X (.Constant (.bool b) j pos) (tC (.bl b)) := fun _ _ _ H _ I h => Constant_bool ⟨.bl b, H, I, rfl, h⟩
theorem pe_non {j pos} : PE X (.Constant .none j pos) (tC .non) := fun _ _ _ H _ I h => Constant_none ⟨.non, H, I, rfl, h⟩
theorem pe_str {x j pos} : PE X (.Constant (.str x) j pos) (tC (.str x)) := fun _ _ _ H _ I h => Calls.Constant_str ⟨.str x, H, I.tok _, ⟨_, rfl⟩, h⟩

/-- a global name of the def -/
def Gl (X : Cx) (x : Str) : Prop := X.env.kindOf x = some .globalImplicit
theorem ld_glob {E : Value → Shared → Prop} {pins : List (Addr × Obj)} {s : Shared} {σ : St} {H : Hp} {x : Str} {u : Value} {pos : Pos} {Q : Value → Shared → Prop} (I : Inv X pins σ H s) (hg : Gl X x) (hm : X.mg x = some u) (h : Q u s)
    (hd : (x == ("__debug__" : Str)) = false := by decide) : wpAny (model X.prog X.w) X.A (eval (.Name x pos) X.env) Q E s :=
  Calls.Name_function_global I.ok.kind hg (Calls.loadGlobal_global (by rw [I.ok.glob]; exact I.mod.glob.keeps I.bk) hm h) hd
theorem ld_blt {E : Value → Shared → Prop} {pins : List (Addr × Obj)} {s : Shared} {σ : St} {H : Hp} {x : Str} {u : Value} {pos : Pos} {Q : Value → Shared → Prop} (I : Inv X pins σ H s) (hg : Gl X x) (hm : X.mg x = none) (hv : bootBuiltins x = some u) (h : Q u s)
    (hn : x ≠ "__name__" := by decide) (hd : (x == ("__debug__" : Str)) = false := by decide) : wpAny (model X.prog X.w) X.A (eval (.Name x pos) X.env) Q E s := by
  obtain ⟨mb, h1, h2⟩ := I.mod.blt
  exact Calls.Name_function_global I.ok.kind hg (Calls.loadGlobal_builtin (by rw [I.ok.glob]; exact I.mod.glob.keeps I.bk) hm (by rw [I.ok.blt]; exact h1.keeps I.bk) ((h2 x hn).trans hv) h) hd
/-- a module's constant, a class, a function, as a value -/
theorem pe_glob {x : Str} {v : V} {u : Value} {pos : Pos} (hg : Gl X x) (hm : X.mg x = some u) (r : RelV v u) (hd : (x == ("__debug__" : Str)) = false := by decide) : PE X (.Name x pos) (tC v) :=
  fun _ _ _ H _ I h => ld_glob I hg hm ⟨v, H, I, r, h⟩ hd
theorem pe_bltn {x : Str} {v : V} {u : Value} {pos : Pos} (hg : Gl X x) (hm : X.mg x = none) (hv : bootBuiltins x = some u) (r : RelV v u) (hn : x ≠ "__name__" := by decide) (hd : (x == ("__debug__" : Str)) = false := by decide) : PE X (.Name x pos) (tC v) :=
  fun _ _ _ H _ I h => ld_blt I hg hm hv ⟨v, H, I, r, h⟩ hn hd

/-! ### arithmetic -/
/-- two ints -/
def t2I (ta tb : TE) (k : Int → Int → Hp → Prop) : St → Hp → Prop := fun σ H => ta σ H fun x H1 => tb σ H1 fun y H2 => ∃ i j, x = .int i ∧ y = .int j ∧ k i j H2
def tAdd (ta tb : TE) : TE := fun σ H Q => t2I ta tb (fun i j H2 => Q (.int (i + j)) H2) σ H
def tSub (ta tb : TE) : TE := fun σ H Q => t2I ta tb (fun i j H2 => Q (.int (i - j)) H2) σ H
/-- the left factor below 2^64 -/
def tMul (ta tb : TE) : TE := fun σ H Q => t2I ta tb (fun i j H2 => (-(2 ^ 64) < i ∧ i < 2 ^ 64) ∧ Q (.int (i * j)) H2) σ H
variable {a b : Expr} {ta tb : TE} {pos : Pos}
theorem pe_add (ha : PE X a ta) (hb : PE X b tb) : PE X (.BinOp a .Add b pos) (tAdd ta tb) := by
  intro pins s σ H Q I h
  refine wpAny_BinOp (bin ha hb I h fun v u s2 x y H2 I2 rx ry q => ?_)
  obtain ⟨i, j, rfl, rfl, q⟩ := q
  obtain ⟨t, rfl⟩ := rx
  obtain ⟨t', rfl⟩ := ry
  exact add_int ⟨.int _, H2, I2.tok _, ⟨_, rfl⟩, q⟩
theorem pe_sub (ha : PE X a ta) (hb : PE X b tb) : PE X (.BinOp a .Sub b pos) (tSub ta tb) := by
  intro pins s σ H Q I h
  refine wpAny_BinOp (bin ha hb I h fun v u s2 x y H2 I2 rx ry q => ?_)
  obtain ⟨i, j, rfl, rfl, q⟩ := q
  obtain ⟨t, rfl⟩ := rx
  obtain ⟨t', rfl⟩ := ry
  exact sub_int ⟨.int _, H2, I2.tok _, ⟨_, rfl⟩, q⟩
theorem pe_mul (ha : PE X a ta) (hb : PE X b tb) : PE X (.BinOp a .Mult b pos) (tMul ta tb) := by
  intro pins s σ H Q I h
  refine wpAny_BinOp (bin ha hb I h fun v u s2 x y H2 I2 rx ry q => ?_)
  obtain ⟨i, j, rfl, rfl, ⟨q1, q2⟩, q⟩ := q
  obtain ⟨t, rfl⟩ := rx
  obtain ⟨t', rfl⟩ := ry
  exact mul_int ⟨.int _, H2, I2.tok _, ⟨_, rfl⟩, q⟩ (.of_left (intBits_le_64 q1 q2))

/-! ### comparisons -/
def PC (X : Cx) (op : CmpOp) (a b : Expr) (t : TE) : Prop :=
  ∀ (pins : List (Addr × Obj)) (s : Shared) (σ : St) (H : Hp) (Q : VK), Inv X pins σ H s → t σ H Q →
    wpAny (model X.prog X.w) X.A (eval a X.env) (fun v s₁ => wpAny (model X.prog X.w) X.A (eval b X.env) (fun u s₂ => wpAny (model X.prog X.w) X.A (compareOp op v u) (EP X pins σ Q) X.xe s₂) X.xe s₁) X.xe s
theorem nobehind (b : Expr) {op : CmpOp} (h : op ≠ .In) (h2 : op ≠ .NotIn) : behindInMarks op b = false := by
  have e1 : (op == CmpOp.In) = false := by cases op <;> first | rfl | exact absurd rfl h
  have e2 : (op == CmpOp.NotIn) = false := by cases op <;> first | rfl | exact absurd rfl h2
  cases b <;> simp [behindInMarks, e1, e2]
def tCmp (p : Int → Int → Bool) (ta tb : TE) : TE := fun σ H Q => t2I ta tb (fun i j H2 => Q (.bl (p i j)) H2) σ H
abbrev tLt : TE → TE → TE := tCmp fun i j => decide (i < j)
abbrev tLe : TE → TE → TE := tCmp fun i j => decide (i ≤ j)
abbrev tGt : TE → TE → TE := tCmp fun i j => decide (j < i)
abbrev tGe : TE → TE → TE := tCmp fun i j => decide (j ≤ i)
abbrev tEqI : TE → TE → TE := tCmp fun i j => decide (i = j)
abbrev tNeI : TE → TE → TE := tCmp fun i j => !decide (i = j)
/-- a comparison of two ints, by its rule -/
theorem pc_int {op : CmpOp} {p : Int → Int → Bool} (ha : PE X a ta) (hb : PE X b tb)
    (rule : ∀ (i j : Int) (t u : Tok) (Q : Value → Shared → Prop) (s : Shared), Q (.bool (p i j)) s → wpAny (model X.prog X.w) X.A (compareOp op (.int i t) (.int j u)) Q X.xe s) : PC X op a b (tCmp p ta tb) := by
  intro pins s σ H Q I h
  refine bin ha hb I h fun v u s2 x y H2 I2 rx ry q => ?_
  obtain ⟨i, j, rfl, rfl, q⟩ := q
  obtain ⟨t, rfl⟩ := rx
  obtain ⟨t', rfl⟩ := ry
  exact rule i j t t' _ s2 ⟨.bl _, H2, I2, rfl, q⟩
theorem pc_lt (ha : PE X a ta) (hb : PE X b tb) : PC X .Lt a b (tLt ta tb) := pc_int ha hb fun _ _ _ _ _ _ h => lt_int h
theorem pc_le (ha : PE X a ta) (hb : PE X b tb) : PC X .LtE a b (tLe ta tb) := pc_int ha hb fun _ _ _ _ _ _ h => le_int h
theorem pc_gt (ha : PE X a ta) (hb : PE X b tb) : PC X .Gt a b (tGt ta tb) := pc_int ha hb fun _ _ _ _ _ _ h => gt_int h
theorem pc_ge (ha : PE X a ta) (hb : PE X b tb) : PC X .GtE a b (tGe ta tb) := pc_int ha hb fun _ _ _ _ _ _ h => ge_int h
theorem pc_eqI (ha : PE X a ta) (hb : PE X b tb) : PC X .Eq a b (tEqI ta tb) := pc_int ha hb fun _ _ _ _ _ _ h => eq_int (by rw [Bool.beq_eq_decide_eq]; exact h)
theorem pc_neI (ha : PE X a ta) (hb : PE X b tb) : PC X .NotEq a b (tNeI ta tb) := pc_int ha hb fun _ _ _ _ _ _ h => ne_int (by rw [bne, Bool.beq_eq_decide_eq]; exact h)
/-- is None -/
def tIsN (ta : TE) : TE := fun σ H Q => ta σ H fun x H1 => Q (.bl (decide (x = .non))) H1
def tNotN (ta : TE) : TE := fun σ H Q => ta σ H fun x H1 => Q (.bl (!decide (x = .non))) H1
theorem RelV.none_iff {x : V} {v : Value} (r : RelV x v) : (v == Value.none) = decide (x = .non) := by
  cases x with
  | non => cases r; rfl
  | bl _ => cases r; rfl
  | int _ => obtain ⟨t, rfl⟩ := r; rfl
  | str _ => obtain ⟨t, rfl⟩ := r; rfl
  | byt _ => obtain ⟨t, rfl⟩ := r; rfl
  | flt _ => obtain ⟨t, rfl⟩ := r; rfl
  | ref _ => cases r; rfl
  | ty _ => cases r; rfl
theorem pc_isN {j pos'} (ha : PE X a ta) : PC X .Is a (.Constant .none j pos') (tIsN ta) := by
  intro pins s σ H Q I h
  refine thn (ha pins s σ H _ I h) fun v s1 ⟨x, H1, I1, r1, q1⟩ => ?_
  exact Constant_none (is_none_gen ⟨.bl _, H1, I1, by rw [r1.none_iff]; rfl, q1⟩)
theorem pc_notN {j pos'} (ha : PE X a ta) : PC X .IsNot a (.Constant .none j pos') (tNotN ta) := by
  intro pins s σ H Q I h
  refine thn (ha pins s σ H _ I h) fun v s1 ⟨x, H1, I1, r1, q1⟩ => ?_
  exact Constant_none (isnot_none_gen ⟨.bl _, H1, I1, by rw [r1.none_iff]; rfl, q1⟩)
/-- a comparison as a value, as a test -/
def tB (t : TE) : TT := fun σ H Q => t σ H fun x H1 => ∃ c, x = .bl c ∧ Q c H1
theorem pe_cmp {op : CmpOp} {t : TE} (h : PC X op a b t) (h1 : behindInMarks op b = false := by first | exact nobehind _ (by decide) (by decide) | rfl) : PE X (.Compare a [op] [b] pos) t := fun pins s σ H Q I hw => wpAny_Compare1 (h pins s σ H Q I hw) h1
theorem pt_cmp {op : CmpOp} {t : TE} (h : PC X op a b t) (h1 : behindInMarks op b = false := by first | exact nobehind _ (by decide) (by decide) | rfl) : PT X (.Compare a [op] [b] pos) (tB t) := by
  intro pins s σ H Q I hw
  refine wpAny_isTrue_Compare1 (thn (h pins s σ H _ I hw) fun v s1 h1 => thn h1 fun u s2 h2 => thn h2 fun c s3 ⟨x, H1, I1, r1, q1⟩ => ?_) h1
  obtain ⟨d, rfl, q⟩ := q1
  cases r1
  exact wpAny_truthy_bool ⟨H1, I1, q⟩
/-- an expression whose value is a bool, as a test -/
theorem pt_val {e : Expr} {t : TE} (h : PE X e t) (he : ∀ whole, isTrue e X.env whole = (do let v ← whole; standAt e.pos; holding [v] (truthy v)) := by intro _; rfl) : PT X e (tB t) := by
  intro pins s σ H Q I hw
  refine isTrue_plain (thn (h pins s σ H _ I hw) fun v s1 ⟨x, H1, I1, r1, q1⟩ => ?_) (he _)
  obtain ⟨d, rfl, q⟩ := q1
  cases r1
  exact wpAny_truthy_bool ⟨H1, I1, q⟩

/-! ### and, or, not -/
variable {tA tB' : TT} {rest : List Expr}
def tAnd (t u : TT) : TT := fun σ H Q => t σ H fun c H1 => if c = true then u σ H1 Q else Q false H1
def tOr (t u : TT) : TT := fun σ H Q => t σ H fun c H1 => if c = true then Q true H1 else u σ H1 Q
def tNot (t : TT) : TT := fun σ H Q => t σ H fun c H1 => Q (!c) H1
theorem pw_and1 (ha : PT X a tA) : PW X (.BoolOp .And [a] pos) tA := by
  intro wh pins s σ H Q I h
  refine isTrue_and (thn (ha pins s σ H Q I h) fun c s1 e => ?_)
  cases c with
  | true => exact isTrue_and_nil e
  | false => exact e
theorem pw_or1 (ha : PT X a tA) : PW X (.BoolOp .Or [a] pos) tA := by
  intro wh pins s σ H Q I h
  refine isTrue_or (thn (ha pins s σ H Q I h) fun c s1 e => ?_)
  cases c with
  | false => exact isTrue_or_nil e
  | true => exact e
theorem pw_and (ha : PT X a tA) (hb : PW X (.BoolOp .And (b :: rest) pos) tB') : PW X (.BoolOp .And (a :: b :: rest) pos) (tAnd tA tB') := by
  intro wh pins s σ H Q I h
  refine isTrue_and (thn (ha pins s σ H _ I h) fun c s1 ⟨H1, I1, q1⟩ => ?_)
  cases c with
  | true => exact hb wh pins s1 σ H1 Q I1 q1
  | false => exact ⟨H1, I1, q1⟩
theorem pw_or (ha : PT X a tA) (hb : PW X (.BoolOp .Or (b :: rest) pos) tB') : PW X (.BoolOp .Or (a :: b :: rest) pos) (tOr tA tB') := by
  intro wh pins s σ H Q I h
  refine isTrue_or (thn (ha pins s σ H _ I h) fun c s1 ⟨H1, I1, q1⟩ => ?_)
  cases c with
  | true => exact ⟨H1, I1, q1⟩
  | false => exact hb wh pins s1 σ H1 Q I1 q1
theorem pt_not (ha : PT X a tA) : PT X (.UnaryOp .Not a pos) (tNot tA) := by
  intro pins s σ H Q I h
  exact isTrue_not (ha pins s σ H (fun c H1 => Q (!c) H1) I h)
/-- .. as values (bools) -/
def tAndV (ta tb : TE) : TE := fun σ H Q => ta σ H fun x H1 => ∃ c, x = .bl c ∧ if c = true then tb σ H1 Q else Q (.bl false) H1
def tOrV (ta tb : TE) : TE := fun σ H Q => ta σ H fun x H1 => ∃ c, x = .bl c ∧ if c = true then Q (.bl true) H1 else tb σ H1 Q
def tNotV (ta : TE) : TE := fun σ H Q => ta σ H fun x H1 => ∃ c, x = .bl c ∧ Q (.bl (!c)) H1
theorem pe_one {op} {t : TE} (h : PE X a t) : PE X (.BoolOp op [a] pos) t := fun pins s σ H Q I hw => BoolOp_one (h pins s σ H Q I hw)
theorem pe_and (ha : PE X a ta) (hb : PE X (.BoolOp .And (b :: rest) pos) tb) : PE X (.BoolOp .And (a :: b :: rest) pos) (tAndV ta tb) := by
  intro pins s σ H Q I h
  refine BoolOp_and (thn (ha pins s σ H _ I h) fun v s1 ⟨x, H1, I1, r1, q1⟩ => ?_)
  obtain ⟨c, rfl, q1⟩ := q1
  cases r1
  refine wpAny_truthy_bool ?_
  cases c with
  | true => exact hb pins s1 σ H1 Q I1 q1
  | false => exact ⟨.bl false, H1, I1, rfl, q1⟩
theorem pe_or (ha : PE X a ta) (hb : PE X (.BoolOp .Or (b :: rest) pos) tb) : PE X (.BoolOp .Or (a :: b :: rest) pos) (tOrV ta tb) := by
  intro pins s σ H Q I h
  refine BoolOp_or (thn (ha pins s σ H _ I h) fun v s1 ⟨x, H1, I1, r1, q1⟩ => ?_)
  obtain ⟨c, rfl, q1⟩ := q1
  cases r1
  refine wpAny_truthy_bool ?_
  cases c with
  | false => exact hb pins s1 σ H1 Q I1 q1
  | true => exact ⟨.bl true, H1, I1, rfl, q1⟩
theorem pe_not (ha : PE X a ta) : PE X (.UnaryOp .Not a pos) (tNotV ta) := by
  intro pins s σ H Q I h
  refine UnaryOp_ (thn (ha pins s σ H _ I h) fun v s1 ⟨x, H1, I1, r1, q1⟩ => ?_)
  obtain ⟨c, rfl, q1⟩ := q1
  cases r1
  exact not_of (wpAny_truthy_bool ⟨.bl (!c), H1, I1, rfl, q1⟩)
/-- a if t else b -/
def tIf (t : TT) (ta tb : TE) : TE := fun σ H Q => t σ H fun c H1 => if c = true then ta σ H1 Q else tb σ H1 Q
theorem pe_ifExp {c : Expr} (hc : PT X c tA) (ha : PE X a ta) (hb : PE X b tb) : PE X (.IfExp c a b pos) (tIf tA ta tb) := by
  intro pins s σ H Q I h
  refine wpAny_IfExp (thn (hc pins s σ H _ I h) fun d s1 ⟨H1, I1, q1⟩ => ?_)
  cases d with
  | true => exact ha pins s1 σ H1 Q I1 q1
  | false => exact hb pins s1 σ H1 Q I1 q1
end
end L2

namespace L2
open PySem PySem.Spec PyProof.Rows

/-! ### a list, a tuple that is read: tracked, frozen, or an object of the module -/
def SqL (K : PySem.W.Frag) (H : Hp) (a : Addr) (xs : List V) : Prop :=
  Rd H a (.lst xs) ∨
    ∃ (o : Obj) (its : Array Value) (n : Nat), K.lookup a = some o ∧ o.cls = .type "list" ∧ o.dict = none ∧ o.data = .seq its n ∧ its.size ≤ sizeLine ∧ Vals xs its.toList
def SqT (K : PySem.W.Frag) (H : Hp) (a : Addr) (xs : List V) : Prop :=
  Rd H a (.tup xs) ∨
    ∃ (o : Obj) (its : Array Value) (n : Nat), K.lookup a = some o ∧ o.cls = .type "tuple" ∧ o.data = .seq its n ∧ its.size ≤ sizeLine ∧ Vals xs its.toList
def absV : Value → Option V
  | .none => some .non
  | .bool b => some (.bl b)
  | .int i _ => some (.int i)
  | .str x _ => some (.str x)
  | .bytes b _ => some (.byt b)
  | .float b _ => some (.flt b)
  | .ref a => some (.ref a)
  | .type n => some (.ty n)
  | _ => none
theorem RelV.abs {x : V} {u : Value} (r : RelV x u) : absV u = some x := by
  cases x with
  | non => cases r; rfl
  | bl _ => cases r; rfl
  | int _ => obtain ⟨t, rfl⟩ := r; rfl
  | str _ => obtain ⟨t, rfl⟩ := r; rfl
  | byt _ => obtain ⟨t, rfl⟩ := r; rfl
  | flt _ => obtain ⟨t, rfl⟩ := r; rfl
  | ref _ => cases r; rfl
  | ty _ => cases r; rfl
theorem RelV.inj {x y : V} {u : Value} (r : RelV x u) (q : RelV y u) : x = y := Option.some.inj (r.abs.symm.trans q.abs)
theorem Vals.inj : ∀ {xs ys : List V} {us : List Value}, Vals xs us → Vals ys us → xs = ys
  | _, _, _, .nil, .nil => rfl
  | _, _, _, .cons r t, .cons r' t' => by rw [r.inj r', Vals.inj t t']
section
variable {X : Cx} {pins : List (Addr × Obj)} {σ : St} {H : Hp} {s : Shared} {a : Addr} {xs ys : List V}
theorem SqL.of {K : PySem.W.Frag} (h : H a = some (.lst xs)) : SqL K H a xs := .inl (.inl h)
theorem SqT.of {K : PySem.W.Frag} (h : H a = some (.tup xs)) : SqT K H a xs := .inl (.inl h)
theorem Inv.list (I : Inv X pins σ H s) (h : SqL X.K H a xs) : ∃ its : List Value, Vals xs its ∧ PlainL s.heap a its.toArray ∧ xs.length ≤ sizeLine := by
  rcases h with h | ⟨o, its, n, hk, hc, hd, hs, hz, r⟩
  · obtain ⟨z, its, n, r, e⟩ := h.ok I.hok
    exact ⟨its, r, ⟨_, n, e, rfl, rfl, rfl⟩, z⟩
  · refine ⟨its.toList, r, ⟨o, n, I.kIn a o hk, hc, hd, by simpa using hs⟩, ?_⟩
    have e := r.length
    simp only [Array.length_toList] at e
    omega
theorem Inv.tuple (I : Inv X pins σ H s) (h : SqT X.K H a xs) : ∃ its : List Value, Vals xs its ∧ IsTup s.heap a its.toArray ∧ xs.length ≤ sizeLine := by
  rcases h with h | ⟨o, its, n, hk, hc, hs, hz, r⟩
  · obtain ⟨z, its, r, p⟩ := h.ok I.hok
    exact ⟨its, r, p, z⟩
  · refine ⟨its.toList, r, ⟨o, I.kIn a o hk, hc, n, by simpa using hs⟩, ?_⟩
    have e := r.length
    simp only [Array.length_toList] at e
    omega
theorem Inv.list_inj (I : Inv X pins σ H s) (h : SqL X.K H a xs) (h' : SqL X.K H a ys) : xs = ys := by
  obtain ⟨its, r, ⟨o, n, e, _, _, d⟩, _⟩ := I.list h
  obtain ⟨its', r', ⟨o', n', e', _, _, d'⟩, _⟩ := I.list h'
  rw [e] at e'; cases e'
  rw [d] at d'
  injection d' with d1 _
  have : its = its' := by simpa using congrArg Array.toList d1
  subst this
  exact r.inj r'
theorem Inv.tuple_inj (I : Inv X pins σ H s) (h : SqT X.K H a xs) (h' : SqT X.K H a ys) : xs = ys := by
  obtain ⟨its, r, ⟨o, e, _, n, d⟩, _⟩ := I.tuple h
  obtain ⟨its', r', ⟨o', e', _, n', d'⟩, _⟩ := I.tuple h'
  rw [e] at e'; cases e'
  rw [d] at d'
  injection d' with d1 _
  have : its = its' := by simpa using congrArg Array.toList d1
  subst this
  exact r.inj r'
end

/-! ### another wish about exceptions -/
abbrev Cx.wish (X : Cx) (E : Value → Shared → Prop) : Cx := { X with xe := E }
/-- no exception leaves -/
abbrev Cx.nox (X : Cx) : Cx := X.wish fun _ _ => False
theorem Cx.Ok.wish {X : Cx} (ok : X.Ok) (E : Value → Shared → Prop) : (X.wish E).Ok :=
  ⟨ok.mod, ok.kind, ok.glob, ok.blt, ok.above, ok.inj, ok.has, ok.cab, ok.hd, ok.frames, ok.stk, ok.exf, ok.bs, ok.bsz, ok.noex, ok.exfs, ok.funs, ok.frf⟩
theorem Cx.Ok.unwish {X : Cx} {E : Value → Shared → Prop} (ok : (X.wish E).Ok) : X.Ok :=
  ⟨ok.mod, ok.kind, ok.glob, ok.blt, ok.above, ok.inj, ok.has, ok.cab, ok.hd, ok.frames, ok.stk, ok.exf, ok.bs, ok.bsz, ok.noex, ok.exfs, ok.funs, ok.frf⟩
section
variable {X : Cx} {pins : List (Addr × Obj)} {σ : St} {H : Hp} {s : Shared} {E : Value → Shared → Prop}
theorem Inv.wish (I : Inv X pins σ H s) (E : Value → Shared → Prop) : Inv (X.wish E) pins σ H s := ⟨I.ok.wish E, I.os, I.bare, I.base, I.loc, I.cell, I.free, I.freeC, I.pin, I.hok, I.len⟩
theorem Inv.unwish (I : Inv (X.wish E) pins σ H s) : Inv X pins σ H s := ⟨I.ok.unwish, I.os, I.bare, I.base, I.loc, I.cell, I.free, I.freeC, I.pin, I.hok, I.len⟩
theorem SP.unwish {D : Ends} {f : Flow} {s' : Shared} (h : SP (X.wish E) pins D f s') : SP X pins D f s' := by
  cases f with
  | next => obtain ⟨σ', H', I, q⟩ := h; exact ⟨σ', H', I.unwish, q⟩
  | brk => obtain ⟨σ', H', I, q⟩ := h; exact ⟨σ', H', I.unwish, q⟩
  | cont => obtain ⟨σ', H', I, q⟩ := h; exact ⟨σ', H', I.unwish, q⟩
  | ret u => obtain ⟨v, σ', H', I, r, q⟩ := h; exact ⟨v, σ', H', I.unwish, r, q⟩
theorem PE.nox {e : Expr} {t : TE} (h : PE X.nox e t) : PE X e t := fun pins s σ H Q I hw =>
  wpAny_mono (h pins s σ H Q (I.wish _) hw) (fun _ _ ⟨v, H', I', r, q⟩ => ⟨v, H', I'.unwish, r, q⟩) fun _ _ z => False.elim z
theorem PT.nox {e : Expr} {t : TT} (h : PT X.nox e t) : PT X e t := fun pins s σ H Q I hw =>
  wpAny_mono (h pins s σ H Q (I.wish _) hw) (fun _ _ ⟨H', I', q⟩ => ⟨H', I'.unwish, q⟩) fun _ _ z => False.elim z
theorem PSs.nox {st : List Stmt} {t : TS} (h : PSs X.nox st t) : PSs X st t := fun pins s σ H D I hw =>
  wpAny_mono (h pins s σ H D (I.wish _) hw) (fun _ _ q => q.unwish) fun _ _ z => False.elim z
end

/-! ### blocks and small statements -/
section
variable {X : Cx} {st : Stmt} {rest : List Stmt} {t u : TS} {e : Expr} {te : TE} {pos : Pos}
def tNext : TS := fun D σ H => D.nx σ H
def tSeq (t u : TS) : TS := fun D σ H => t { D with nx := u D } σ H
theorem pss_nil : PSs X [] tNext := fun _ _ σ H _ I h => wpAny_execs_nil ⟨σ, H, I, h⟩
theorem pss_cons (h1 : PS X st t) (h2 : PSs X rest u) : PSs X (st :: rest) (tSeq t u) := by
  intro pins s σ H D I h
  refine wpAny_execs_cons (thn (h1 pins s σ H { D with nx := u D } I h) fun f s1 q => ?_)
  cases f with
  | next =>
    obtain ⟨σ', H', I', q⟩ := q
    exact h2 pins s1 σ' H' D I' q
  | ret v => exact q
  | brk => exact q
  | cont => exact q
theorem pss_one (h1 : PS X st t) : PSs X [st] t := by
  intro pins s σ H D I h
  refine wpAny_execs_cons (thn (h1 pins s σ H D I h) fun f s1 q => ?_)
  cases f with
  | next => exact wpAny_execs_nil q
  | ret v => exact q
  | brk => exact q
  | cont => exact q
def tBreak : TS := fun D σ H => D.bk σ H
def tCont : TS := fun D σ H => D.ct σ H
theorem ps_pass : PS X (.Pass pos) tNext := fun _ _ σ H _ I h => wpAny_Pass ⟨σ, H, I, h⟩
theorem ps_break : PS X (.Break pos) tBreak := fun _ _ σ H _ I h => wpAny_Break ⟨σ, H, I, h⟩
theorem ps_continue : PS X (.Continue pos) tCont := fun _ _ σ H _ I h => wpAny_Continue ⟨σ, H, I, h⟩
/-- in a def's body nothing is shown -/
theorem Inv.quiet {pins : List (Addr × Obj)} {σ : St} {H : Hp} {s : Shared} (I : Inv X pins σ H s) : interactive X.env = false := by simp [interactive, I.ok.kind]
/-- a docstring -/
theorem ps_doc {x j pos pos'} : PS X (.Expr (.Constant (.str x) j pos) pos') tNext := fun _ s σ H _ I h => wpAny_Expr (Calls.Constant_str (show SP X _ _ .next { s with toks := s.toks + 1 } from ⟨σ, H, I.tok _, h⟩)) I.quiet
/-- an expression whose value is dropped -/
def tDrop (te : TE) : TS := fun D σ H => te σ H fun _ H1 => D.nx σ H1
theorem ps_expr (he : PE X e te) (hs : swapsWith e none pos.line X.env = pure false := by rfl) : PS X (.Expr e pos) (tDrop te) := by
  intro pins s σ H D I h
  exact wpAny_Expr_any (thn (he pins s σ H _ I h) fun v s1 ⟨x, H1, I1, r1, q1⟩ => ⟨σ, H1, I1, q1⟩) I.quiet hs
def tRet (te : TE) : TS := fun D σ H => te σ H D.rt
theorem ps_ret (he : PE X e te) : PS X (.Return (some e) pos) (tRet te) := by
  intro pins s σ H D I h
  exact wpAny_Return_some (thn (he pins s σ H _ I h) fun v s1 ⟨x, H1, I1, r1, q1⟩ => ⟨x, σ, H1, I1, r1, q1⟩)
def tRetN : TS := fun D _ H => D.rt .non H
theorem ps_retN : PS X (.Return none pos) tRetN := fun _ _ σ H _ I h => wpAny_Return_none ⟨.non, σ, H, I, rfl, h⟩
def tIfS (c : TT) (t u : TS) : TS := fun D σ H => c σ H fun b H1 => if b = true then t D σ H1 else u D σ H1
theorem ps_if {c : Expr} {a b : List Stmt} {tc : TT} (hc : PT X c tc) (ha : PSs X a t) (hb : PSs X b u) : PS X (.If c a b pos) (tIfS tc t u) := by
  intro pins s σ H D I h
  refine wpAny_If (thn (hc pins s σ H _ I h) fun d s1 ⟨H1, I1, q1⟩ => ?_)
  cases d with
  | true => exact ha pins s1 σ H1 D I1 q1
  | false => exact hb pins s1 σ H1 D I1 q1
/-- code that the proof never comes to -/
def tNever : TS := fun _ _ _ => False
theorem ps_never : PS X st tNever := fun _ _ _ _ _ _ h => h.elim
theorem pss_never {sts : List Stmt} : PSs X sts tNever := fun _ _ _ _ _ _ h => h.elim
end

/-! ### targets -/
abbrev TG := V → St → Hp → (St → Hp → Prop) → Prop
abbrev TGs := List V → St → Hp → (St → Hp → Prop) → Prop
def PG (X : Cx) (target : Expr) (t : TG) : Prop :=
  ∀ (pins : List (Addr × Obj)) (s : Shared) (σ : St) (H : Hp) (v : V) (u : Value) (Q : St → Hp → Prop), Inv X pins σ H s → RelV v u → t v σ H Q →
    wpAny (model X.prog X.w) X.A (assign target X.env u) (fun _ s' => ∃ σ' H', Inv X pins σ' H' s' ∧ Q σ' H') X.xe s
/-- several targets, one after another -/
def PGs (X : Cx) (ts : List Expr) (t : TGs) : Prop :=
  ∀ (pins : List (Addr × Obj)) (s : Shared) (σ : St) (H : Hp) (vs : List V) (us : List Value) (Q : St → Hp → Prop), Inv X pins σ H s → Vals vs us → t vs σ H Q →
    wpAny (model X.prog X.w) X.A (assignInOrder ((assignEach ts X.env).map (·.2)) us) (fun _ s' => ∃ σ' H', Inv X pins σ' H' s' ∧ Q σ' H') X.xe s
/-- o[i] = v, by values -/
abbrev TSet := V → V → V → Hp → (Hp → Prop) → Prop
def PSet (X : Cx) (t : TSet) : Prop :=
  ∀ (pins : List (Addr × Obj)) (s : Shared) (σ : St) (H : Hp) (o i v : V) (ov iv u : Value) (Q : Hp → Prop), Inv X pins σ H s → RelV o ov → RelV i iv → RelV v u → t o i v H Q →
    wpAny (model X.prog X.w) X.A (setItem ov iv u) (fun _ s' => ∃ H', Inv X pins σ H' s' ∧ Q H') X.xe s
/-- a op= b, by values -/
abbrev TIp := V → V → Hp → VK → Prop
def PIp (X : Cx) (op : Operator) (t : TIp) : Prop :=
  ∀ (pins : List (Addr × Obj)) (s : Shared) (σ : St) (H : Hp) (x y : V) (v u : Value) (Q : VK), Inv X pins σ H s → RelV x v → RelV y u → t x y H Q →
    wpAny (model X.prog X.w) X.A (inplaceOp op v u) (EP X pins σ Q) X.xe s
section
variable {X : Cx} {pos : Pos}
def gName (i : Nat) : TG := fun v σ H Q => Q (σ.set i (some v)) H
theorem pg_name {i : Nat} {x : Str} (hN : X.N.Nodup) (hi : X.N[i]? = some x) (hx : Loc X.env.scope x) (hf : X.fn x = true ∨ X.env.scope.names.lookup x = some .local := by first | exact .inl rfl | exact .inr rfl | assumption) : PG X (.Name x pos) (gName i) := by
  intro pins s σ H v u Q I r h
  exact wpAny_assign_Name (store_ok I hN hi hx r (fun s' I' => ⟨_, H, I', h⟩) hf)
def gNil : TGs := fun vs σ H Q => vs = [] ∧ Q σ H
def gCons (t : TG) (u : TGs) : TGs := fun vs σ H Q => ∃ v r, vs = v :: r ∧ t v σ H fun σ' H' => u r σ' H' Q
theorem pgs_nil : PGs X [] gNil := by
  intro pins s σ H vs us Q I r h
  obtain ⟨e, h⟩ := h
  subst e
  cases r
  exact assignInOrder_nil ⟨σ, H, I, h⟩
theorem pgs_cons {e : Expr} {es : List Expr} {t : TG} {u : TGs} (h1 : PG X e t) (h2 : PGs X es u)
    (hs : (assignEach (e :: es) X.env).map (·.2) = assign e X.env :: (assignEach es X.env).map (·.2) := by rfl) : PGs X (e :: es) (gCons t u) := by
  intro pins s σ H vs us Q I r h
  obtain ⟨v, vr, e1, h⟩ := h
  subst e1
  cases r with
  | cons r rr =>
    rw [hs]
    refine assignInOrder_cons (thn (h1 pins s σ H _ _ _ I r h) fun _ s1 ⟨σ1, H1, I1, q1⟩ => ?_)
    exact h2 pins s1 σ1 H1 _ _ Q I1 rr q1
/-- (a, b, ..) = a tuple of that length -/
def gTup (K : PySem.W.Frag) (n : Nat) (t : TGs) : TG := fun v σ H Q => ∃ a xs, v = .ref a ∧ SqT K H a xs ∧ xs.length = n ∧ t xs σ H Q
theorem pg_tup {es : List Expr} {k : Nat} {t : TGs} {n : Nat} (hc : X.calm = true) (h : PGs X es t)
    (hn : (assignEach es X.env).length = n := by rfl) (hst : (assignEach es X.env).findIdx? (·.1) = none := by rfl) : PG X (.Tuple es k pos) (gTup X.K n t) := by
  intro pins s σ H v u Q I r hw
  obtain ⟨a, xs, e1, hq, hl, hw⟩ := hw
  subst e1
  cases r
  obtain ⟨its, rv, ht, hz⟩ := I.tuple hq
  refine assign_Tuple_tuple (I.ok.hd hc) ht (by simp [hn, ← hl, rv.length]) hst fun h' hx => ?_
  have I1 : Inv X pins σ H { s with heap := h' } := I.kept (t' := s.toks) fun b o e => hx b o (Nat.ne_of_lt (Heap.lt_size e)) e
  exact h pins _ σ H xs _ Q I1 (by simpa using rv) hw
/-- o[i] = .. -/
def gSub (to ti : TE) (t : TSet) : TG := fun v σ H Q => to σ H fun o H1 => ti σ H1 fun i H2 => t o i v H2 fun H3 => Q σ H3
theorem pg_sub {o i : Expr} {to ti : TE} {t : TSet} (ho : PE X o to) (hi : PE X i ti) (hs : PSet X t)
    (ha : ∀ v, assign (.Subscript o i pos) X.env v = (do
      let ov ← holding [v] (eval o X.env)
      let iv ← holding [v, ov] (eval i X.env)
      standAt pos
      holding [v, ov, iv] (setItem ov iv v)
      release [v, ov, iv] []) := by intro _; rfl) : PG X (.Subscript o i pos) (gSub to ti t) := by
  intro pins s σ H v u Q I r h
  rw [ha]
  refine wpAny_bind (wpAny_holding (thn (ho pins s σ H _ I h) fun ov s1 ⟨x, H1, I1, r1, q1⟩ => ?_))
  refine wpAny_bind (wpAny_holding (thn (hi pins s1 σ H1 _ I1 q1) fun iv s2 ⟨y, H2, I2, r2, q2⟩ => ?_))
  refine wpAny_bind (wpAny_standAt (wpAny_bind (wpAny_holding (thn (hs pins s2 σ H2 x y v ov iv u _ I2 r1 r2 r q2) fun _ s3 ⟨H3, I3, q3⟩ => ?_))))
  exact wpAny_release ⟨σ, H3, I3, q3⟩
/-- target = value -/
def tAsg (te : TE) (g : TG) : TS := fun D σ H => te σ H fun x H1 => g x σ H1 D.nx
theorem ps_asg {tg e : Expr} {te : TE} {g : TG} (he : PE X e te) (hg : PG X tg g) (hs : swapsWithSole [tg] e pos.line X.env = pure false := by rfl) (hw : swappedStores [tg] e X.env = pure none := by rfl)
    (h1 : (assignEach [tg] X.env).map (·.2) = [assign tg X.env] := by rfl) : PS X (.Assign [tg] e pos) (tAsg te g) := by
  intro pins s σ H D I h
  refine wpAny_Assign_stores (thn (he pins s σ H _ I h) fun v s1 ⟨x, H1, I1, r1, q1⟩ => ?_) hs hw
  rw [h1]
  exact thn (hg pins s1 σ H1 x v _ I1 r1 q1) fun _ s2 q => q
/-- name = value -/
theorem ps_set {i : Nat} {x : Str} {e : Expr} {te : TE} {pos' : Pos} (hN : X.N.Nodup) (hi : X.N[i]? = some x) (hx : Loc X.env.scope x) (he : PE X e te) (hs : swapsWith e (some (.Name x pos')) pos.line X.env = pure false := by rfl) (hf : X.fn x = true ∨ X.env.scope.names.lookup x = some .local := by first | exact .inl rfl | exact .inr rfl | assumption) :
    PS X (.Assign [.Name x pos'] e pos) (tAsg te (gName i)) := by
  intro pins s σ H D I h
  refine wpAny_Assign_Name (thn (he pins s σ H _ I h) fun v s1 ⟨y, H1, I1, r1, q1⟩ => ?_) hs
  exact store_ok I1 hN hi hx r1 (fun s2 I2 => ⟨_, H1, I2, q1⟩) hf
/-- a, b = x, y with plain local names: stored from the right; the pair itself is not tracked (the opening rows as in PyProof/Rows/TupAssign.lean:23) -/
def tPar (i j : Nat) (ta : TA) : TS := fun D σ H => ta σ H fun vs H1 => ∃ v w, vs = [v, w] ∧ D.nx ((σ.set i (some v)).set j (some w)) H1
theorem ps_par {i j : Nat} {x y : Str} {a b : Expr} {ta : TA} {px py pt : Pos} {kt k2 pt2} (hc : X.calm = true) (hN : X.N.Nodup) (hi : X.N[i]? = some x) (hj : X.N[j]? = some y) (hij : i ≠ j)
    (hx : X.env.scope.names.lookup x = some .local) (hy : X.env.scope.names.lookup y = some .local) (ha : PA X [a, b] ta)
    (hw : swappedStores [.Tuple [.Name x px, .Name y py] kt pt] (.Tuple [a, b] k2 pt2) X.env = pure (some [x, y]))
    (hs : swapsWithSole [.Tuple [.Name x px, .Name y py] kt pt] (.Tuple [a, b] k2 pt2) pos.line X.env = pure false := by rfl) :
    PS X (.Assign [.Tuple [.Name x px, .Name y py] kt pt] (.Tuple [a, b] k2 pt2) pos) (tPar i j ta) := by
  intro pins s σ H D I h
  rw [exec_Assign_arm]
  refine wpAny_bind (wpAny_standAt ?_)
  rw [hs]
  refine wpAny_bind (wpAny_pure ?_)
  rw [if_neg (by decide)]
  refine wpAny_bind (Tuple_ (thn (ha _ pins s σ H _ I h) fun us s1 ⟨vs, H1, I1, r1, q1⟩ => ?_))
  obtain ⟨v, w, e1, q1⟩ := q1
  subst e1
  obtain ⟨u1, u2, rfl, rv, rw'⟩ : ∃ u1 u2, us = [u1, u2] ∧ RelV v u1 ∧ RelV w u2 := by
    cases r1 with
    | cons p q =>
      cases q with
      | cons p' q' =>
        cases q'
        exact ⟨_, _, rfl, p, p'⟩
  refine wpAny_newObj_type ?_ (by show 2 ≤ sizeLine; decide)
  have I2 : Inv X pins σ H1 { s1 with heap := s1.heap.push { cls := .type "tuple", data := .seq [u1, u2].toArray } } := I1.kept (t' := s1.toks) fun b o e => Heap.get?_push_of_some _ e
  rw [hw]
  refine wpAny_bind (wpAny_pure ?_)
  show wpAny (model X.prog X.w) X.A (do rule "assign.swapped-stores"; let items ← unpackItems (.ref s1.heap.objs.size) 2 none; assignInOrder [fun v => bindName X.env y v, fun v => bindName X.env x v] items.reverse; pure Flow.next) _ _ _
  refine wpAny_bind (wpAny_rule (wpAny_bind (unpackItems_tuple (items := #[u1, u2]) (I.ok.hd hc) (IsTup.new s1.heap _) fun h' hx' => ?_)))
  have I3 := I2.kept (h' := h') (t' := s1.toks) fun b o e => hx' b o (Nat.ne_of_lt (Heap.lt_size e)) e
  show wpAny _ _ (assignInOrder [fun v => bindName X.env y v, fun v => bindName X.env x v] [u2, u1] >>= fun _ => pure Flow.next) _ _ _
  refine wpAny_bind (assignInOrder_cons (wpAny_bindName (store_ok I3 hN hj (.inl hy) rw' (fun s2 I4 => ?_) (.inr hy))))
  refine assignInOrder_cons (wpAny_bindName (store_ok I4 hN hi (.inl hx) rv (fun s3 I5 => assignInOrder_nil (wpAny_pure ?_)) (.inr hx)))
  rw [List.set_comm _ _ (Ne.symm hij)] at I5
  exact ⟨_, H1, I5, q1⟩
/-- name op= e -/
def tAug (i : Nat) (te : TE) (ti : TIp) : TS := fun D σ H => ∃ x, σ[i]? = some (some x) ∧ te σ H fun y H1 => ti x y H1 fun z H2 => D.nx (σ.set i (some z)) H2
theorem ps_aug {i : Nat} {x : Str} {e : Expr} {te : TE} {op : Operator} {ti : TIp} {pos' : Pos} (hN : X.N.Nodup) (hi : X.N[i]? = some x) (hx : Loc X.env.scope x) (he : PE X e te) (ho : PIp X op ti) (hf : X.fn x = true ∨ X.env.scope.names.lookup x = some .local := by first | exact .inl rfl | exact .inr rfl | assumption) :
    PS X (.AugAssign (.Name x pos') op e pos) (tAug i te ti) := by
  intro pins s σ H D I h
  obtain ⟨v, e1, h⟩ := h
  obtain ⟨m, hn, hl⟩ := I.loc
  have vis : Vis X.env.scope x := by rcases hx with k | k; exact .inl k; exact .inr (.inl k)
  obtain ⟨u, r, l⟩ := hl i x v hi e1 vis
  refine wpAny_AugAssign_Name ?_
  have go : wpAny (model X.prog X.w) X.A (eval e X.env) (fun w s₂ => wpAny (model X.prog X.w) X.A (inplaceOp op u w) (fun r s₃ => wpAny (model X.prog X.w) X.A (storeName X.env x r) (fun _ => SP X pins D .next) X.xe s₃) X.xe s₂) X.xe s := by
    refine thn (he pins s σ H _ I h) fun w s1 ⟨y, H1, I1, r1, q1⟩ => ?_
    refine thn (ho pins s1 σ H1 v y u w _ I1 r r1 q1) fun z s2 ⟨zv, H2, I2, r2, q2⟩ => ?_
    exact store_ok I2 hN hi hx r2 (fun s3 I3 => ⟨_, H2, I3, q2⟩) hf
  rcases l with ⟨hk, hm⟩ | ⟨hk, c, hc, hcell⟩
  · exact wpAny_loadName_local I.ok.kind hk hn hm go
  · rcases hk with hk | hk
    · exact wpAny_loadName_cell I.ok.kind hk hc hcell go
    · rcases hx with k | k
      · have : X.env.scope.names.lookup x = some .free := hk
        rw [k] at this; cases this
      · have : X.env.scope.names.lookup x = some .free := hk
        rw [k] at this; cases this
/-- o[i] op= e -/
def tAugS (to ti te : TE) (tget : V → V → Hp → VK → Prop) (tip : TIp) (tset : TSet) : TS := fun D σ H => to σ H fun o H1 => ti σ H1 fun i H2 => tget o i H2 fun x H3 => te σ H3 fun y H4 => tip x y H4 fun z H5 => tset o i z H5 fun H6 => D.nx σ H6
/-- o[i], by values -/
def PGet (X : Cx) (t : V → V → Hp → VK → Prop) : Prop :=
  ∀ (pins : List (Addr × Obj)) (s : Shared) (σ : St) (H : Hp) (o i : V) (ov iv : Value) (Q : VK), Inv X pins σ H s → RelV o ov → RelV i iv → t o i H Q →
    wpAny (model X.prog X.w) X.A (getItem ov iv) (EP X pins σ Q) X.xe s
theorem ps_augS {o i e : Expr} {to ti te : TE} {tget : V → V → Hp → VK → Prop} {tip : TIp} {tset : TSet} {op : Operator} {tpos : Pos} (ho : PE X o to) (hi : PE X i ti) (hg : PGet X tget) (he : PE X e te) (hp : PIp X op tip) (hs : PSet X tset)
    (ha : ∀ ov iv new, augStore i ov iv new = (do holding [new, ov, iv] (setItem ov iv new); release [new, ov, iv] []; pure .next) := by intros; rfl) : PS X (.AugAssign (.Subscript o i tpos) op e pos) (tAugS to ti te tget tip tset) := by
  intro pins s σ H D I h
  refine wpAny_AugAssign_SubscriptAny (thn (ho pins s σ H _ I h) fun ov s1 ⟨x1, H1, I1, r1, q1⟩ => ?_) ha
  refine thn (hi pins s1 σ H1 _ I1 q1) fun iv s2 ⟨x2, H2, I2, r2, q2⟩ => ?_
  refine thn (hg pins s2 σ H2 x1 x2 ov iv _ I2 r1 r2 q2) fun old s3 ⟨x3, H3, I3, r3, q3⟩ => ?_
  refine thn (he pins s3 σ H3 _ I3 q3) fun v s4 ⟨x4, H4, I4, r4, q4⟩ => ?_
  refine thn (hp pins s4 σ H4 x3 x4 old v _ I4 r3 r4 q4) fun new s5 ⟨x5, H5, I5, r5, q5⟩ => ?_
  exact thn (hs pins s5 σ H5 x1 x2 x5 ov iv new _ I5 r1 r2 r5 q5) fun _ s6 ⟨H6, I6, q6⟩ => ⟨σ, H6, I6, q6⟩
/-- ints -/
def ipI (f : Int → Int → Int) : TIp := fun x y H Q => ∃ i j, x = .int i ∧ y = .int j ∧ Q (.int (f i j)) H
theorem ip_add : PIp X .Add (ipI fun i j => i + j) := by
  intro pins s σ H x y v u Q I r1 r2 h
  obtain ⟨i, j, e1, e2, q⟩ := h
  subst e1; subst e2
  obtain ⟨t, rfl⟩ := r1
  obtain ⟨t', rfl⟩ := r2
  exact iadd_int ⟨.int _, H, I.tok _, ⟨_, rfl⟩, q⟩
theorem ip_sub : PIp X .Sub (ipI fun i j => i - j) := by
  intro pins s σ H x y v u Q I r1 r2 h
  obtain ⟨i, j, e1, e2, q⟩ := h
  subst e1; subst e2
  obtain ⟨t, rfl⟩ := r1
  obtain ⟨t', rfl⟩ := r2
  exact isub_int ⟨.int _, H, I.tok _, ⟨_, rfl⟩, q⟩
end

/-! ### while -/
section
variable {X : Cx} {pos : Pos}
/-- the invariant W with its measure -/
def tWhile (c : TT) (tb : TS) : TS := fun D σ H => ∃ W : Nat → St → Hp → Prop, (∃ m, W m σ H) ∧ ∀ m σ H, W m σ H →
  c σ H fun b H1 => if b = true then ∃ N : St → Hp → Prop, (∀ σ' H', N σ' H' → ∃ m', m' < m ∧ W m' σ' H') ∧ tb { D with nx := N, ct := N, bk := D.nx } σ H1 else D.nx σ H1
theorem ps_while {c : Expr} {body : List Stmt} {tc : TT} {tb : TS} (hp : PassesOwn (model X.prog X.w) X.A X.env X.xe) (hc : PT X c tc) (hb : PSs X body tb) : PS X (.While c body [] pos) (tWhile tc tb) := by
  intro pins s σ H D I h
  obtain ⟨W, ⟨m0, w0⟩, turn⟩ := h
  refine wpAny_While (codeAny_whileLoop (fun n s' => ∃ σ' H', Inv X pins σ' H' s' ∧ W n σ' H') ?_ m0 ⟨σ, H, I, w0⟩)
  rintro n s1 ⟨σ1, H1, I1, w1⟩
  refine wpAny_passesOwn hp (thn (hc pins s1 σ1 H1 _ I1 (turn n σ1 H1 w1)) fun b s2 ⟨H2, I2, q2⟩ => ?_)
  cases b with
  | true =>
    obtain ⟨N, hN, q2⟩ := q2
    rw [if_pos rfl]
    refine wpAny_passesOwn hp (thn (hb pins s2 σ1 H2 _ I2 q2) fun f s3 q3 => ?_)
    cases f with
    | next =>
      obtain ⟨σ3, H3, I3, n3⟩ := q3
      obtain ⟨m', hm, w3⟩ := hN σ3 H3 n3
      exact ⟨m', hm, σ3, H3, I3, w3⟩
    | cont =>
      obtain ⟨σ3, H3, I3, n3⟩ := q3
      obtain ⟨m', hm, w3⟩ := hN σ3 H3 n3
      exact ⟨m', hm, σ3, H3, I3, w3⟩
    | brk => exact q3
    | ret v => exact q3
  | false =>
    rw [if_neg Bool.false_ne_true]
    exact wpAny_execs_nil ⟨σ1, H2, I2, q2⟩
end

/-! ### what a loop or a comprehension walks -/
/-- at turn i: it yields x (the heap may grow), or it stops -/
structure It where
  go : Nat → Hp → Prop
  yld : Nat → Hp → V → Hp → Prop
  stop : Nat → Hp → Prop
/-- the iterator's own objects may turn: they are not the frame's, not pinned, younger than the entry (or a comprehension's own) -/
def FpOk (X : Cx) (pins : List (Addr × Obj)) (H : Hp) (b : Addr) : Prop :=
  H b = none ∧ b ≠ X.env.locals ∧ b ∉ X.fs ∧ (b ∈ X.ex ∨ X.s₀.heap.objs.size ≤ b) ∧ (∀ x c, X.env.cells.lookup x = some c → c ≠ b) ∧ ∀ p ∈ X.pn ++ pins, p.1 ≠ b
theorem Inv.fpOk {X : Cx} {pins : List (Addr × Obj)} {σ : St} {H H' : Hp} {s : Shared} {b : Addr} (I : Inv X pins σ H s) (hb : s.heap.objs.size ≤ b) (hn : H' b = none) : FpOk X pins H' b := by
  refine ⟨hn, Nat.ne_of_gt (Nat.lt_of_lt_of_le I.lt hb), I.nofs hb, .inr (Nat.le_trans I.sz hb), fun x c e z => ?_, fun p hp z => ?_⟩
  · obtain ⟨v, q⟩ := I.cell x c e
    exact absurd (Nat.lt_of_lt_of_le q.lt (by rw [z]; exact hb)) (Nat.lt_irrefl _)
  · exact absurd (Nat.lt_of_lt_of_le (Heap.lt_size (I.pin p hp).1) (by rw [z]; exact hb)) (Nat.lt_irrefl _)
structure Turn (P : Program) (w : World) (K : PySem.W.Frag) (tg : Expr) (J : It) (fp : List Addr) (it : Addr) (tn : Nat → Heap → Prop) : Prop where
  mem : it ∈ fp
  obj : ∀ i h, tn i h → ∀ b ∈ fp, ∃ o, h.get? b = some o ∧ ∀ v, o.data ≠ .cell v
  keep : ∀ i h h', tn i h → (∀ b ∈ fp, ∀ o, h.get? b = some o → h'.get? b = some o) → tn i h'
  item : ∀ (X : Cx), X.prog = P → X.w = w → X.K = K → X.calm = true → ∀ (i : Nat) (pins : List (Addr × Obj)) (s : Shared) (σ : St) (H : Hp) (E : Value → Shared → Prop), Inv X pins σ H s → (∀ b ∈ fp, FpOk X pins H b) → tn i s.heap → J.go i H →
    wpAny (model P w) X.A (pyNext (.ref it)) (fun r s1 => ∃ u, r = some u ∧
      wpAny (model P w) X.A (letOwnedTupleGo tg (.ref it) u) (fun _ s2 => ∃ x H', Inv X pins σ H' s2 ∧ RelV x u ∧ J.yld i H x H' ∧ tn (i + 1) s2.heap ∧ ∀ b ∈ fp, H' b = none) E s1) E s
  done : ∀ (X : Cx), X.prog = P → X.w = w → X.K = K → X.calm = true → ∀ (i : Nat) (pins : List (Addr × Obj)) (s : Shared) (σ : St) (H : Hp) (E : Value → Shared → Prop), Inv X pins σ H s → (∀ b ∈ fp, FpOk X pins H b) → tn i s.heap → J.stop i H →
    wpAny (model P w) X.A (pyNext (.ref it)) (fun r s1 => r = none ∧ Inv X pins σ H s1) E s
  self : ∀ (A : Around) (i : Nat) (s : Shared) (Q : Value → Shared → Prop) (E : Value → Shared → Prop), tn i s.heap → Q (.ref it) s → wpAny (model P w) A (pyIter (.ref it)) Q E s
abbrev TI := St → Hp → (It → Hp → Prop) → Prop
/-- an iterator has come -/
def PIE (X : Cx) (pins : List (Addr × Obj)) (σ : St) (tg : Expr) (R : It → Hp → Prop) (itv : Value) (s2 : Shared) : Prop :=
  ∃ (it : Addr) (fp : List Addr) (tn : Nat → Heap → Prop) (J : It) (H' : Hp), itv = .ref it ∧ Inv X pins σ H' s2 ∧ Turn X.prog X.w X.K tg J fp it tn ∧ tn 0 s2.heap ∧ (∀ b ∈ fp, FpOk X pins H' b) ∧ R J H'
def PI (X : Cx) (tg iter : Expr) (wi : TI) : Prop :=
  ∀ (pins : List (Addr × Obj)) (s : Shared) (σ : St) (H : Hp) (R : It → Hp → Prop), Inv X pins σ H s → wi σ H R →
    wpAny (model X.prog X.w) X.A (eval iter X.env) (fun v s1 => wpAny (model X.prog X.w) X.A (pyIter v) (PIE X pins σ tg R) X.xe s1) X.xe s

/-- the step ahead of the store is nothing for an iterator that keeps no tuple -/
theorem go_of {M : Model} {A : Around} {E : Value → Shared → Prop} {s : Shared} {tg : Expr} {it : Addr} {u : Value} {o : Obj} {n : String} {vs : Array Value} {Q : Unit → Shared → Prop} (ho : s.heap.get? it = some o) (hc : o.cls = .type n) (hd : o.data = .fields vs)
    (hn : ["enumerate", "zip", "dict_itemiterator", "dict_reverseitemiterator", "odict_iterator", "itertools.zip_longest", "itertools.pairwise"].contains n = false) (hQ : Q () s) : wpAny M A (letOwnedTupleGo tg (.ref it) u) Q E s := by
  unfold letOwnedTupleGo
  cases tg <;> first
    | exact wpAny_pure hQ
    | (cases u <;> first
        | exact wpAny_pure hQ
        | (refine wpAny_bind (wpAny_load ho ?_)
           rw [hc, hd]
           show wpAny M A (if (["enumerate", "zip", "dict_itemiterator", "dict_reverseitemiterator", "odict_iterator", "itertools.zip_longest", "itertools.pairwise"].contains n && vs[0]? == some (rawInt _)) = true then _ else _) Q E s
           rw [if_neg (by intro h; rw [hn, Bool.false_and] at h; cases h)]
           exact wpAny_pure hQ))

/-- the list at a, as it stands at each turn (a loop may append to it) -/
def Itl (K : PySem.W.Frag) (a : Addr) : It :=
  ⟨fun i H => ∃ xs x, SqL K H a xs ∧ xs[i]? = some x, fun i H x H' => H' = H ∧ ∀ xs, SqL K H a xs → xs[i]? = some x, fun i H => ∃ xs, SqL K H a xs ∧ xs.length ≤ i⟩
def Itt (K : PySem.W.Frag) (a : Addr) : It :=
  ⟨fun i H => ∃ xs x, SqT K H a xs ∧ xs[i]? = some x, fun i H x H' => H' = H ∧ ∀ xs, SqT K H a xs → xs[i]? = some x, fun i H => ∃ xs, SqT K H a xs ∧ xs.length ≤ i⟩
/-- lo, lo + 1, .. (n of them) -/
def Itr (lo : Int) (n : Nat) : It := ⟨fun i _ => i < n, fun i H x H' => H' = H ∧ x = .int (lo + i), fun i _ => n ≤ i⟩
theorem turn_list {P : Program} {w : World} {K : PySem.W.Frag} {tg : Expr} (a it : Addr) : Turn P w K tg (Itl K a) [it] it (fun i h => h.IsListIter it a i) where
  mem := by simp
  obj := fun i h st b hb => by
    have e : b = it := by simpa using hb
    subst e
    obtain ⟨o, e, c, d⟩ := st
    exact ⟨o, e, fun v z => by rw [d] at z; cases z⟩
  keep := fun i h h' st k => st.at fun o e => k it (by simp) o e
  item := by
    intro X hP hw hK hc i pins s σ H E I hf st hg
    subst hP hw hK
    obtain ⟨xs, x, hq, hx⟩ := hg
    obtain ⟨its, rv, p, hz⟩ := I.list hq
    obtain ⟨u, hu, ru⟩ := rv.get hx
    obtain ⟨f0, f1, f2, f3, f4, f5⟩ := hf it (by simp)
    refine wpAny_pyNext_list_item st p.isList (x := u) (by simpa using hu) fun h' st' sb => ?_
    have I1 : Inv X pins σ H { s with heap := h' } := I.turned (t' := s.toks) (fun b o hb e => (sb.2 b hb).trans e) f0 f1 f3 f4 f5
    obtain ⟨o, e, c, d⟩ := id st'
    exact ⟨u, rfl, go_of (s := { s with heap := h' }) e c d (by decide) ⟨x, H, I1, ru, ⟨rfl, fun ys hy => by rw [I.list_inj hy hq]; exact hx⟩, st', fun b hb => (hf b hb).1⟩⟩
  done := by
    intro X hP hw hK hc i pins s σ H E I hf st hg
    subst hP hw hK
    obtain ⟨xs, hq, hx⟩ := hg
    obtain ⟨its, rv, p, hz⟩ := I.list hq
    obtain ⟨f0, f1, f2, f3, f4, f5⟩ := hf it (by simp)
    have hl := rv.length
    exact wpAny_pyNext_list_end (I.ok.hd hc) st p.isList (by simp; omega) fun h' eb => ⟨rfl, I.turned (t' := s.toks) (fun b o hb e => eb b o hb e) f0 f1 f3 f4 f5⟩
  self := fun _ _ _ _ _ st h => wpAny_pyIter_listiter st h
theorem turn_tuple {P : Program} {w : World} {K : PySem.W.Frag} {tg : Expr} (a it : Addr) : Turn P w K tg (Itt K a) [it] it (fun i h => h.IsTupleIter it a i) where
  mem := by simp
  obj := fun i h st b hb => by
    have e : b = it := by simpa using hb
    subst e
    obtain ⟨o, e, c, d⟩ := st
    exact ⟨o, e, fun v z => by rw [d] at z; cases z⟩
  keep := fun i h h' st k => st.at fun o e => k it (by simp) o e
  item := by
    intro X hP hw hK hc i pins s σ H E I hf st hg
    subst hP hw hK
    obtain ⟨xs, x, hq, hx⟩ := hg
    obtain ⟨its, rv, p, hz⟩ := I.tuple hq
    obtain ⟨u, hu, ru⟩ := rv.get hx
    obtain ⟨f0, f1, f2, f3, f4, f5⟩ := hf it (by simp)
    refine wpAny_pyNext_tuple_item st (show s.heap.IsTuple a its.toArray from p) (x := u) (by simpa using hu) fun h' st' sb => ?_
    have I1 : Inv X pins σ H { s with heap := h' } := I.turned (t' := s.toks) (fun b o hb e => (sb.2 b hb).trans e) f0 f1 f3 f4 f5
    obtain ⟨o, e, c, d⟩ := id st'
    exact ⟨u, rfl, go_of (s := { s with heap := h' }) e c d (by decide) ⟨x, H, I1, ru, ⟨rfl, fun ys hy => by rw [I.tuple_inj hy hq]; exact hx⟩, st', fun b hb => (hf b hb).1⟩⟩
  done := by
    intro X hP hw hK hc i pins s σ H E I hf st hg
    subst hP hw hK
    obtain ⟨xs, hq, hx⟩ := hg
    obtain ⟨its, rv, p, hz⟩ := I.tuple hq
    obtain ⟨f0, f1, f2, f3, f4, f5⟩ := hf it (by simp)
    have hl := rv.length
    exact wpAny_pyNext_tuple_end (I.ok.hd hc) st (show s.heap.IsTuple a its.toArray from p) (by simp; omega) fun h' eb => ⟨rfl, I.turned (t' := s.toks) (fun b o hb e => eb b o hb e) f0 f1 f3 f4 f5⟩
  self := fun _ _ _ _ _ st h => wpAny_pyIter_tupleiter st h
theorem turn_range {P : Program} {w : World} {K : PySem.W.Frag} {tg : Expr} (it : Addr) (lo : Int) (n : Nat) : Turn P w K tg (Itr lo n) [it] it (fun i h => IsRangeIter h it (lo + (i : Nat) * 1) ((n : Int) - (i : Nat)) 1) where
  mem := by simp
  obj := fun i h st b hb => by
    have e : b = it := by simpa using hb
    subst e
    exact ⟨_, st, fun v z => by
      have z' : Data.fields _ = Data.cell v := z
      cases z'⟩
  keep := fun i h h' st k => k it (by simp) _ st
  item := by
    intro X hP hw hK hc i pins s σ H E I hf st hg
    subst hP hw hK
    obtain ⟨f0, f1, f2, f3, f4, f5⟩ := hf it (by simp)
    have W := Walks.range (prog := X.prog) (w := X.w) (I.ok.hd hc) it lo 1 n
    refine W.item i s _ _ hg st fun v h' tk hv st' kk => ?_
    obtain ⟨t, rfl⟩ := hv
    have I1 : Inv X pins σ H { s with heap := h', toks := tk } := I.turned (fun b o hb e => kk b o (by simpa using hb) e) f0 f1 f3 f4 f5
    refine ⟨_, rfl, go_of (s := { s with heap := h', toks := tk }) (n := "range_iterator") st' rfl rfl (by decide) ⟨.int (lo + i), H, I1, ⟨t, ?_⟩, ⟨rfl, rfl⟩, st', fun b hb => (hf b hb).1⟩⟩
    rw [Int.mul_one]
  done := by
    intro X hP hw hK hc i pins s σ H E I hf st hg
    subst hP hw hK
    obtain ⟨f0, f1, f2, f3, f4, f5⟩ := hf it (by simp)
    exact wpAny_pyNext_range_end (I.ok.hd hc) st (by have : n ≤ i := hg; omega) fun h' eb => ⟨rfl, I.turned (t' := s.toks) (fun b o hb e => eb b o hb e) f0 f1 f3 f4 f5⟩
  self := fun _ _ _ _ _ st h => wpAny_pyIter_rangeiter st h
end L2

namespace L2
open PySem PySem.Spec PyProof.Rows
section
variable {X : Cx} {tg : Expr}
def iList (K : PySem.W.Frag) (tl : TE) : TI := fun σ H R => tl σ H fun x H1 => ∃ a, x = .ref a ∧ (∃ xs, SqL K H1 a xs) ∧ R (Itl K a) H1
def iTup (K : PySem.W.Frag) (tl : TE) : TI := fun σ H R => tl σ H fun x H1 => ∃ a, x = .ref a ∧ (∃ xs, SqT K H1 a xs) ∧ R (Itt K a) H1
theorem pi_list {l : Expr} {tl : TE} (hl : PE X l tl) : PI X tg l (iList X.K tl) := by
  intro pins s σ H R I h
  refine thn (hl pins s σ H _ I h) fun v s1 ⟨x, H1, I1, r1, q1⟩ => ?_
  obtain ⟨a, e, ⟨xs, hq⟩, q⟩ := q1
  subst e
  cases r1
  obtain ⟨its, rv, p, hz⟩ := I1.list hq
  refine wpAny_pyIter_list p.isList ?_
  refine ⟨s1.heap.objs.size, [s1.heap.objs.size], _, _, H1, rfl, I1.kept (t' := s1.toks) fun b o e => Heap.get?_push_of_some _ e, turn_list a _, ⟨_, Heap.get?_push_size _ rfl, rfl, rfl⟩, fun b hb => ?_, q⟩
  have e : b = s1.heap.objs.size := by simpa using hb
  subst e
  exact I1.fpOk (Nat.le_refl _) (I1.hok.fresh (Nat.le_refl _))
theorem pi_tup {l : Expr} {tl : TE} (hl : PE X l tl) : PI X tg l (iTup X.K tl) := by
  intro pins s σ H R I h
  refine thn (hl pins s σ H _ I h) fun v s1 ⟨x, H1, I1, r1, q1⟩ => ?_
  obtain ⟨a, e, ⟨xs, hq⟩, q⟩ := q1
  subst e
  cases r1
  obtain ⟨its, rv, p, hz⟩ := I1.tuple hq
  refine wpAny_pyIter_tuple (show s1.heap.IsTuple a its.toArray from p) ?_
  refine ⟨s1.heap.objs.size, [s1.heap.objs.size], _, _, H1, rfl, I1.kept (t' := s1.toks) fun b o e => Heap.get?_push_of_some _ e, turn_tuple a _, ⟨_, Heap.get?_push_size _ rfl, rfl, rfl⟩, fun b hb => ?_, q⟩
  have e : b = s1.heap.objs.size := by simpa using hb
  subst e
  exact I1.fpOk (Nat.le_refl _) (I1.hok.fresh (Nat.le_refl _))
/-- a range object just made, walked -/
theorem range_it {pins : List (Addr × Obj)} {σ : St} {H : Hp} {s : Shared} {R : It → Hp → Prop} {E : Value → Shared → Prop} {lo hi : Int} {t u v : Tok} {tk : Nat} (I : Inv X pins σ H s) (h1 : -(2 ^ 62) ≤ lo) (h2 : lo < 2 ^ 62) (h3 : -(2 ^ 62) ≤ hi) (h4 : hi < 2 ^ 62)
    (q : R (Itr lo (hi - lo).toNat) H) : wpAny (model X.prog X.w) X.A (pyIter (.ref s.heap.objs.size)) (PIE X pins σ tg R) E { s with heap := s.heap.push { cls := .type "range", data := .fields #[.int lo t, .int hi u, .int 1 v] }, toks := tk } := by
  refine wpAny_pyIter_range (IsRange.new ..) (small_one h1 h2 h3 h4) ?_
  have I1 : Inv X pins σ H { s with heap := s.heap.push { cls := .type "range", data := .fields #[.int lo t, .int hi u, .int 1 v] }, toks := tk } := I.kept fun b o e => Heap.get?_push_of_some _ e
  refine ⟨(s.heap.push { cls := .type "range", data := .fields #[.int lo t, .int hi u, .int 1 v] }).objs.size, [(s.heap.push { cls := .type "range", data := .fields #[.int lo t, .int hi u, .int 1 v] }).objs.size], _, _, H, rfl,
    I1.kept (t' := tk) fun b o e => Heap.get?_push_of_some _ e, turn_range _ lo (hi - lo).toNat, ?_, fun b hb => ?_, q⟩
  · have e1 : lo + ((0 : Nat) : Int) * 1 = lo := by simp
    have e2 : (((hi - lo).toNat : Nat) : Int) - ((0 : Nat) : Int) = Builtin.Range.rangeSize lo hi 1 := by rw [rangeSize_one]; split <;> omega
    show IsRangeIter _ _ (lo + ((0 : Nat) : Int) * 1) ((((hi - lo).toNat : Nat) : Int) - ((0 : Nat) : Int)) 1
    rw [e1, e2]
    exact Heap.get?_push_size _ rfl
  · have e : b = (s.heap.push { cls := .type "range", data := .fields #[.int lo t, .int hi u, .int 1 v] }).objs.size := by simpa using hb
    subst e
    exact I1.fpOk (Nat.le_refl _) (I1.hok.fresh (Nat.le_refl _))
def iRng1 (ta : TA) : TI := fun σ H R => ta σ H fun vs H1 => ∃ j : Int, vs = [.int j] ∧ -(2 ^ 62) ≤ j ∧ j < 2 ^ 62 ∧ R (Itr 0 j.toNat) H1
def iRng2 (ta : TA) : TI := fun σ H R => ta σ H fun vs H1 => ∃ i j : Int, vs = [.int i, .int j] ∧ (-(2 ^ 62) ≤ i ∧ i < 2 ^ 62 ∧ -(2 ^ 62) ≤ j ∧ j < 2 ^ 62) ∧ R (Itr i (j - i).toNat) H1
theorem pi_range1 {a : Expr} {ta : TA} {p pos : Pos} (hg : Gl X "range") (hm : X.mg "range" = none) (ha : PA X [a] ta) (hs : starEach [a] X.env = [(false, eval a X.env)] := by rfl) : PI X tg (.Call (.Name "range" p) [a] [] pos) (iRng1 ta) := by
  intro pins s σ H R I h
  refine Call_ (ld_blt I hg hm boot_range (PyProof.Rows.callWith_type1 (thn (ha pos pins s σ H _ I h) fun us s1 ⟨vs, H1, I1, r1, q1⟩ => ?_) hs rfl))
  obtain ⟨j, e, q1, q2, q⟩ := q1
  subst e
  cases r1 with
  | cons r rr =>
    cases rr
    obtain ⟨t, rfl⟩ := r
    exact call_range_1 (range_it I1 (by omega) (by omega) q1 q2 (by simpa using q))
theorem pi_range2 {a b : Expr} {ta : TA} {p pos : Pos} (hg : Gl X "range") (hm : X.mg "range" = none) (ha : PA X [a, b] ta) (hs : starEach [a, b] X.env = [(false, eval a X.env), (false, eval b X.env)] := by rfl) (hs2 : starEach [b] X.env = [(false, eval b X.env)] := by rfl) :
    PI X tg (.Call (.Name "range" p) [a, b] [] pos) (iRng2 ta) := by
  intro pins s σ H R I h
  refine Call_ (ld_blt I hg hm boot_range (PyProof.Rows.callWith_type1 (thn (ha pos pins s σ H _ I h) fun us s1 ⟨vs, H1, I1, r1, q1⟩ => ?_) (by rw [hs, hs2]) (by rw [hs2]; rfl)))
  obtain ⟨i, j, e, ⟨q1, q2, q3, q4⟩, q⟩ := q1
  subst e
  cases r1 with
  | cons r rr =>
    cases rr with
    | cons r' rr =>
      cases rr
      obtain ⟨t, rfl⟩ := r
      obtain ⟨t', rfl⟩ := r'
      exact call_range_2 (range_it I1 q1 q2 q3 q4 q)

/-! ### for -/
/-- W: the invariant by the turn and a measure; N: what the body is to reach -/
def tFor (wi : TI) (g : TG) (tb : TS) : TS := fun D σ H => wi σ H fun J H1 => ∃ W : Nat → Nat → St → Hp → Prop, (∃ m, W 0 m σ H1) ∧ ∀ i m σ H, W i m σ H →
  (J.stop i H ∧ D.nx σ H) ∨ (J.go i H ∧ ∃ N : St → Hp → Prop, (∀ σ' H', N σ' H' → ∃ m', m' < m ∧ W (i + 1) m' σ' H') ∧ ∀ x H', J.yld i H x H' → g x σ H' fun σ2 H2 => tb { D with nx := N, ct := N, bk := D.nx } σ2 H2)
/-- the records at fp as they stand -/
def pinsAt (fp : List Addr) (h : Heap) : List (Addr × Obj) := fp.filterMap fun b => (h.get? b).map fun o => (b, o)
theorem mem_pinsAt {fp : List Addr} {h : Heap} {b : Addr} {o : Obj} (hb : b ∈ fp) (e : h.get? b = some o) : (b, o) ∈ pinsAt fp h := List.mem_filterMap.mpr ⟨b, hb, by rw [e]; rfl⟩
theorem of_pinsAt {fp : List Addr} {h : Heap} {p : Addr × Obj} (hp : p ∈ pinsAt fp h) : p.1 ∈ fp ∧ h.get? p.1 = some p.2 := by
  obtain ⟨b, hb, e⟩ := List.mem_filterMap.mp hp
  cases q : h.get? b with
  | none => rw [q] at e; cases e
  | some o =>
    rw [q] at e
    have e' : (b, o) = p := Option.some.inj e
    subst e'
    exact ⟨hb, q⟩
theorem Inv.pinned {pins : List (Addr × Obj)} {σ : St} {H : Hp} {s : Shared} {fp : List Addr} (I : Inv X pins σ H s) (hf : ∀ b ∈ fp, FpOk X pins H b) (ho : ∀ b ∈ fp, ∃ o, s.heap.get? b = some o ∧ ∀ v, o.data ≠ .cell v) : Inv X (pins ++ pinsAt fp s.heap) σ H s :=
  I.pins_of fun p hp => (List.mem_append.mp hp).elim (fun z => I.pin p (List.mem_append_right _ z)) fun z => by
    obtain ⟨hb, e⟩ := of_pinsAt z
    obtain ⟨f0, f1, f2, _⟩ := hf p.1 hb
    obtain ⟨o, e', d⟩ := ho p.1 hb
    rw [e] at e'; cases e'
    exact ⟨e, f0, f1, f2, d⟩
theorem Inv.unpinned {pins pl : List (Addr × Obj)} {σ : St} {H : Hp} {s : Shared} (I : Inv X (pins ++ pl) σ H s) : Inv X pins σ H s := I.pins_of fun p hp => I.pin p (List.mem_append_right _ (List.mem_append_left _ hp))
theorem ps_for {iter : Expr} {body : List Stmt} {wi : TI} {g : TG} {tb : TS} {pos : Pos} (hp : PassesOwn (model X.prog X.w) X.A X.env X.xe) (hc : X.calm = true) (hi : PI X tg iter wi) (hg : PG X tg g) (hb : PSs X body tb)
    (hs : ∀ x, foldedSetIterable iter X.env x = pure x := by intro _; rfl) : PS X (.For tg iter body [] pos) (tFor wi g tb) := by
  intro pins s σ H D I h
  refine wpAny_For (thn (hi pins s σ H _ I h) fun v s1 h1 => thn h1 fun itv s2 h2 => ?_) hs
  obtain ⟨it, fp, tn, J, H2, e, I2, T, st2, f2, W, ⟨m0, w0⟩, turn⟩ := h2
  subst e
  -- what stays true of the iterator's objects through the loop
  have stat : ∀ {H' : Hp}, (∀ b ∈ fp, H' b = none) → ∀ b ∈ fp, FpOk X pins H' b := fun hn b hb => ⟨hn b hb, (f2 b hb).2⟩
  refine codeAny_forLoop_any (fun n s' => ∃ i σ' H', Inv X pins σ' H' s' ∧ tn i s'.heap ∧ (∀ b ∈ fp, H' b = none) ∧ W i n σ' H') ?_ m0 ⟨0, σ, H2, I2, st2, fun b hb => (f2 b hb).1, w0⟩
  rintro n s3 ⟨i, σ3, H3, I3, st3, fr3, w3⟩
  rcases turn i n σ3 H3 w3 with ⟨stop, qn⟩ | ⟨go, N, hN, step⟩
  · refine wpAny_passesOwn hp (thn (T.done X rfl rfl rfl hc i pins s3 σ3 H3 X.xe I3 (stat fr3) st3 stop) fun r s4 ⟨hr, I4⟩ => ?_)
    subst hr
    exact wpAny_execs_nil ⟨σ3, H3, I4, qn⟩
  · refine wpAny_passesOwn hp (thn (T.item X rfl rfl rfl hc i pins s3 σ3 H3 X.xe I3 (stat fr3) st3 go) fun r s4 ⟨u, hr, h4⟩ => ?_)
    subst hr
    refine wpAny_passesOwn hp (thn h4 fun _ s5 ⟨x, H5, I5, r5, y5, st5, fr5⟩ => ?_)
    have I5' := I5.pinned (stat fr5) (T.obj _ _ st5)
    refine wpAny_passesOwn hp (thn (hg _ s5 σ3 H5 x u _ I5' r5 (step x H5 y5)) fun _ s6 ⟨σ6, H6, I6, q6⟩ => ?_)
    refine wpAny_passesOwn hp (thn (hb _ s6 σ6 H6 _ I6 q6) fun f s7 q7 => ?_)
    have again : ∀ {σ7 : St} {H7 : Hp}, Inv X (pins ++ pinsAt fp s5.heap) σ7 H7 s7 → N σ7 H7 → ∃ m, m < n ∧ ∃ i σ' H', Inv X pins σ' H' s7 ∧ tn i s7.heap ∧ (∀ b ∈ fp, H' b = none) ∧ W i m σ' H' := fun {σ7 H7} I7 n7 => by
      obtain ⟨m', hm, w7⟩ := hN σ7 H7 n7
      refine ⟨m', hm, i + 1, σ7, H7, I7.unpinned, T.keep _ _ _ st5 fun b hb o e => (I7.pin (b, o) (List.mem_append_right _ (List.mem_append_right _ (mem_pinsAt hb e)))).1, fun b hb => ?_, w7⟩
      obtain ⟨o, e, d⟩ := T.obj _ _ st5 b hb
      exact (I7.pin (b, o) (List.mem_append_right _ (List.mem_append_right _ (mem_pinsAt hb e)))).2.1
    cases f with
    | next => obtain ⟨σ7, H7, I7, n7⟩ := q7; exact again I7 n7
    | cont => obtain ⟨σ7, H7, I7, n7⟩ := q7; exact again I7 n7
    | brk => obtain ⟨σ7, H7, I7, q7⟩ := q7; exact ⟨σ7, H7, I7.unpinned, q7⟩
    | ret v => obtain ⟨x7, σ7, H7, I7, r7, q7⟩ := q7; exact ⟨x7, σ7, H7, I7.unpinned, r7, q7⟩
end

/-! ### the forms one uses -/
/-- over a list that the body leaves as it is -/
theorem for_list {K : PySem.W.Frag} {a : Addr} {xs : List V} {g : TG} {tb : TS} {D : Ends} {σ : St} {H : Hp} (Pv : Nat → St → Hp → Prop) (h0 : Pv 0 σ H) (hl : ∀ i σ H, i ≤ xs.length → Pv i σ H → SqL K H a xs)
    (hs : ∀ i x σ H, xs[i]? = some x → Pv i σ H → g x σ H fun σ2 H2 => tb { D with nx := Pv (i + 1), ct := Pv (i + 1), bk := D.nx } σ2 H2) (hd : ∀ σ H, Pv xs.length σ H → D.nx σ H) :
    ∃ W : Nat → Nat → St → Hp → Prop, (∃ m, W 0 m σ H) ∧ ∀ i m σ H, W i m σ H →
      ((Itl K a).stop i H ∧ D.nx σ H) ∨ ((Itl K a).go i H ∧ ∃ N : St → Hp → Prop, (∀ σ' H', N σ' H' → ∃ m', m' < m ∧ W (i + 1) m' σ' H') ∧ ∀ x H', (Itl K a).yld i H x H' → g x σ H' fun σ2 H2 => tb { D with nx := N, ct := N, bk := D.nx } σ2 H2) := by
  refine ⟨fun i m σ H => m = xs.length - i ∧ i ≤ xs.length ∧ Pv i σ H, ⟨xs.length, by simp, Nat.zero_le _, h0⟩, ?_⟩
  rintro i m σ H ⟨rfl, hi, p⟩
  have q := hl i σ H hi p
  by_cases hlt : i < xs.length
  · refine .inr ⟨⟨xs, xs[i], q, by simp [hlt]⟩, Pv (i + 1), fun σ' H' p' => ⟨xs.length - (i + 1), by omega, rfl, hlt, p'⟩, fun x H' y => ?_⟩
    obtain ⟨e, y⟩ := y
    subst e
    exact hs i x σ _ (y xs q) p
  · have e : i = xs.length := by omega
    subst e
    exact .inl ⟨⟨xs, q, Nat.le_refl _⟩, hd σ H p⟩
theorem for_tup {K : PySem.W.Frag} {a : Addr} {xs : List V} {g : TG} {tb : TS} {D : Ends} {σ : St} {H : Hp} (Pv : Nat → St → Hp → Prop) (h0 : Pv 0 σ H) (hl : ∀ i σ H, i ≤ xs.length → Pv i σ H → SqT K H a xs)
    (hs : ∀ i x σ H, xs[i]? = some x → Pv i σ H → g x σ H fun σ2 H2 => tb { D with nx := Pv (i + 1), ct := Pv (i + 1), bk := D.nx } σ2 H2) (hd : ∀ σ H, Pv xs.length σ H → D.nx σ H) :
    ∃ W : Nat → Nat → St → Hp → Prop, (∃ m, W 0 m σ H) ∧ ∀ i m σ H, W i m σ H →
      ((Itt K a).stop i H ∧ D.nx σ H) ∨ ((Itt K a).go i H ∧ ∃ N : St → Hp → Prop, (∀ σ' H', N σ' H' → ∃ m', m' < m ∧ W (i + 1) m' σ' H') ∧ ∀ x H', (Itt K a).yld i H x H' → g x σ H' fun σ2 H2 => tb { D with nx := N, ct := N, bk := D.nx } σ2 H2) := by
  refine ⟨fun i m σ H => m = xs.length - i ∧ i ≤ xs.length ∧ Pv i σ H, ⟨xs.length, by simp, Nat.zero_le _, h0⟩, ?_⟩
  rintro i m σ H ⟨rfl, hi, p⟩
  have q := hl i σ H hi p
  by_cases hlt : i < xs.length
  · refine .inr ⟨⟨xs, xs[i], q, by simp [hlt]⟩, Pv (i + 1), fun σ' H' p' => ⟨xs.length - (i + 1), by omega, rfl, hlt, p'⟩, fun x H' y => ?_⟩
    obtain ⟨e, y⟩ := y
    subst e
    exact hs i x σ _ (y xs q) p
  · have e : i = xs.length := by omega
    subst e
    exact .inl ⟨⟨xs, q, Nat.le_refl _⟩, hd σ H p⟩
theorem for_range {lo : Int} {n : Nat} {g : TG} {tb : TS} {D : Ends} {σ : St} {H : Hp} (Pv : Nat → St → Hp → Prop) (h0 : Pv 0 σ H)
    (hs : ∀ i σ H, i < n → Pv i σ H → g (.int (lo + i)) σ H fun σ2 H2 => tb { D with nx := Pv (i + 1), ct := Pv (i + 1), bk := D.nx } σ2 H2) (hd : ∀ σ H, Pv n σ H → D.nx σ H) :
    ∃ W : Nat → Nat → St → Hp → Prop, (∃ m, W 0 m σ H) ∧ ∀ i m σ H, W i m σ H →
      ((Itr lo n).stop i H ∧ D.nx σ H) ∨ ((Itr lo n).go i H ∧ ∃ N : St → Hp → Prop, (∀ σ' H', N σ' H' → ∃ m', m' < m ∧ W (i + 1) m' σ' H') ∧ ∀ x H', (Itr lo n).yld i H x H' → g x σ H' fun σ2 H2 => tb { D with nx := N, ct := N, bk := D.nx } σ2 H2) := by
  refine ⟨fun i m σ H => m = n - i ∧ i ≤ n ∧ Pv i σ H, ⟨n, by simp, Nat.zero_le _, h0⟩, ?_⟩
  rintro i m σ H ⟨rfl, hi, p⟩
  by_cases hlt : i < n
  · refine .inr ⟨hlt, Pv (i + 1), fun σ' H' p' => ⟨n - (i + 1), by omega, rfl, hlt, p'⟩, fun x H' y => ?_⟩
    obtain ⟨e, y⟩ := y
    subst e y
    exact hs i σ _ hlt p
  · have e : i = n := by omega
    subst e
    exact .inl ⟨Nat.le_refl _, hd σ H p⟩
/-- while, by a word and a measure of the state -/
theorem while_by {c : TT} {tb : TS} {D : Ends} {σ : St} {H : Hp} (Pv : St → Hp → Prop) (μ : St → Hp → Nat) (h0 : Pv σ H)
    (hs : ∀ σ H, Pv σ H → c σ H fun b H1 => if b = true then tb { D with nx := fun σ' H' => Pv σ' H' ∧ μ σ' H' < μ σ H, ct := fun σ' H' => Pv σ' H' ∧ μ σ' H' < μ σ H, bk := D.nx } σ H1 else D.nx σ H1)
    (mono : ∀ σ H Q Q', (∀ b H1, Q b H1 → Q' b H1) → c σ H Q → c σ H Q') : tWhile c tb D σ H := by
  refine ⟨fun m σ H => m = μ σ H ∧ Pv σ H, ⟨_, rfl, h0⟩, ?_⟩
  rintro m σ H ⟨rfl, p⟩
  refine mono σ H _ _ (fun b H1 q => ?_) (hs σ H p)
  cases b with
  | true => exact ⟨_, fun σ' H' ⟨p', l⟩ => ⟨_, l, rfl, p'⟩, q⟩
  | false => exact q
end L2

namespace L2
open PySem PySem.Spec PyProof.Rows

abbrev R2 := V → V → Hp → VK → Prop
/-- a two-place operation on values: f is binaryOp op, inplaceOp op or compareOp op -/
def OpR (X : Cx) (f : Value → Value → Sem Value) (r : R2) : Prop :=
  ∀ (pins : List (Addr × Obj)) (s : Shared) (σ : St) (H : Hp) (x y : V) (v u : Value) (Q : VK), Inv X pins σ H s → RelV x v → RelV y u → r x y H Q →
    wpAny (model X.prog X.w) X.A (f v u) (EP X pins σ Q) X.xe s
/-- a one-place operation -/
def UnR (X : Cx) (f : Value → Sem Value) (r : V → Hp → VK → Prop) : Prop :=
  ∀ (pins : List (Addr × Obj)) (s : Shared) (σ : St) (H : Hp) (x : V) (v : Value) (Q : VK), Inv X pins σ H s → RelV x v → r x H Q →
    wpAny (model X.prog X.w) X.A (f v) (EP X pins σ Q) X.xe s
/-- a call of a value that is known (a builtin, a type) with values -/
def CallR (X : Cx) (f : Value) (r : List V → Hp → VK → Prop) : Prop :=
  ∀ (pins : List (Addr × Obj)) (s : Shared) (σ : St) (H : Hp) (xs : List V) (us : List Value) (Q : VK), Inv X pins σ H s → Vals xs us → r xs H Q →
    wpAny (model X.prog X.w) X.A (call f us) (EP X pins σ Q) X.xe s
/-- a value's truth -/
def TruR (X : Cx) (r : V → Hp → (Bool → Hp → Prop) → Prop) : Prop :=
  ∀ (pins : List (Addr × Obj)) (s : Shared) (σ : St) (H : Hp) (x : V) (v : Value) (Q : Bool → Hp → Prop), Inv X pins σ H s → RelV x v → r x H Q →
    wpAny (model X.prog X.w) X.A (truthy v) (TP X pins σ Q) X.xe s

def tOp (r : R2) (ta tb : TE) : TE := fun σ H Q => ta σ H fun x H1 => tb σ H1 fun y H2 => r x y H2 Q
def tUn (r : V → Hp → VK → Prop) (ta : TE) : TE := fun σ H Q => ta σ H fun x H1 => r x H1 Q
/-- ints in, under C, and a value out -/
def rI (C : Int → Int → Prop) (g : Int → Int → V) : R2 := fun x y H Q => ∃ i j, x = .int i ∧ y = .int j ∧ C i j ∧ Q (g i j) H
def rI0 (g : Int → Int → V) : R2 := fun x y H Q => ∃ i j, x = .int i ∧ y = .int j ∧ Q (g i j) H
def rU (g : Int → V) : V → Hp → VK → Prop := fun x H Q => ∃ i, x = .int i ∧ Q (g i) H

section
variable {X : Cx} {a b c : Expr} {ta tb tc : TE} {pos : Pos}

theorem binT (ha : PE X a ta) (hb : PE X b tb) {pins : List (Addr × Obj)} {s : Shared} {σ : St} {H : Hp} {R : V → V → Hp → Prop} (I : Inv X pins σ H s)
    (h : ta σ H fun x H1 => tb σ H1 fun y H2 => R x y H2) {Q : Value → Shared → Prop} {f : Value → Value → Sem Value}
    (hf : ∀ v u s2 x y H2, Inv X pins σ H2 s2 → RelV x v → RelV y u → R x y H2 → wpAny (model X.prog X.w) X.A (f v u) Q X.xe s2) :
    wpAny (model X.prog X.w) X.A (eval a X.env) (fun v s₁ => wpAny (model X.prog X.w) X.A (eval b X.env) (fun u s₂ => wpAny (model X.prog X.w) X.A (f v u) Q X.xe s₂) X.xe s₁) X.xe s := by
  refine thn (ha pins s σ H _ I h) fun v s1 ⟨x, H1, I1, r1, q1⟩ => ?_
  refine thn (hb pins s1 σ H1 _ I1 q1) fun u s2 ⟨y, H2, I2, r2, q2⟩ => ?_
  exact hf v u s2 x y H2 I2 r1 r2 q2

theorem pe_op {op : Operator} {r : R2} (ho : OpR X (binaryOp op) r) (ha : PE X a ta) (hb : PE X b tb) : PE X (.BinOp a op b pos) (tOp r ta tb) := by
  intro pins s σ H Q I h
  exact wpAny_BinOp (binT ha hb I h fun v u s2 x y H2 I2 rx ry q => ho pins s2 σ H2 x y v u Q I2 rx ry q)
theorem pe_un {op : UnaryOp} {r : V → Hp → VK → Prop} (ho : UnR X (unaryOp op) r) (ha : PE X a ta) : PE X (.UnaryOp op a pos) (tUn r ta) := by
  intro pins s σ H Q I h
  exact UnaryOp_ (thn (ha pins s σ H _ I h) fun v s1 ⟨x, H1, I1, r1, q1⟩ => ho pins s1 σ H1 x v Q I1 r1 q1)
/-- a op= e at a name: the name's slot i -/
theorem augR {op : Operator} {r : R2} (ho : OpR X (inplaceOp op) r) {pins : List (Addr × Obj)} {s : Shared} {σ : St} {H : Hp} {x y : V} {v u : Value} {Q : VK} (I : Inv X pins σ H s)
    (rx : RelV x v) (ry : RelV y u) (q : r x y H Q) : wpAny (model X.prog X.w) X.A (inplaceOp op v u) (EP X pins σ Q) X.xe s := ho pins s σ H x y v u Q I rx ry q

/-! ### ints -/
theorem opI {f : Value → Value → Sem Value} {C : Int → Int → Prop} {g : Int → Int → Int}
    (rule : ∀ (i j : Int) (t u : Tok) (s : Shared) (Q : Value → Shared → Prop) (E : Value → Shared → Prop), C i j → Q (.int (g i j) s.toks) { s with toks := s.toks + 1 } → wpAny (model X.prog X.w) X.A (f (.int i t) (.int j u)) Q E s) :
    OpR X f (rI C fun i j => .int (g i j)) := by
  intro pins s σ H x y v u Q I rx ry h
  obtain ⟨i, j, rfl, rfl, hc, q⟩ := h
  obtain ⟨t, rfl⟩ := rx
  obtain ⟨t', rfl⟩ := ry
  exact rule i j t t' s _ _ hc ⟨.int (g i j), H, I.tok _, ⟨_, rfl⟩, q⟩
theorem opI0 {f : Value → Value → Sem Value} {g : Int → Int → Int}
    (rule : ∀ (i j : Int) (t u : Tok) (s : Shared) (Q : Value → Shared → Prop) (E : Value → Shared → Prop), Q (.int (g i j) s.toks) { s with toks := s.toks + 1 } → wpAny (model X.prog X.w) X.A (f (.int i t) (.int j u)) Q E s) :
    OpR X f (rI0 fun i j => .int (g i j)) := by
  intro pins s σ H x y v u Q I rx ry h
  obtain ⟨i, j, rfl, rfl, q⟩ := h
  obtain ⟨t, rfl⟩ := rx
  obtain ⟨t', rfl⟩ := ry
  exact rule i j t t' s _ _ ⟨.int (g i j), H, I.tok _, ⟨_, rfl⟩, q⟩
theorem opB0 {f : Value → Value → Sem Value} {g : Int → Int → Bool}
    (rule : ∀ (i j : Int) (t u : Tok) (s : Shared) (Q : Value → Shared → Prop) (E : Value → Shared → Prop), Q (.bool (g i j)) s → wpAny (model X.prog X.w) X.A (f (.int i t) (.int j u)) Q E s) :
    OpR X f (rI0 fun i j => .bl (g i j)) := by
  intro pins s σ H x y v u Q I rx ry h
  obtain ⟨i, j, rfl, rfl, q⟩ := h
  obtain ⟨t, rfl⟩ := rx
  obtain ⟨t', rfl⟩ := ry
  exact rule i j t t' s _ _ ⟨.bl (g i j), H, I, rfl, q⟩

def CDiv (i j : Int) : Prop := 0 < j ∧ j < 1073741824
def CDivN (i j : Int) : Prop := j ≠ 0 ∧ j.natAbs < 1073741824
def CPow (i j : Int) : Prop := 0 ≤ j ∧ j ≤ 1000000 ∧ i.natAbs < 2 ^ 64
def CMul (i j : Int) : Prop := (-(2 ^ 64) < i ∧ i < 2 ^ 64) ∨ (-(2 ^ 64) < j ∧ j < 2 ^ 64)
theorem CMul.ok {i j : Int} (h : CMul i j) : IntMulOk i j := by
  rcases h with ⟨h1, h2⟩ | ⟨h1, h2⟩
  · exact .of_left (intBits_le_64 h1 h2)
  · exact .of_right (intBits_le_64 h1 h2)
theorem two_pow_nn (k : Nat) : (0 : Int) ≤ 2 ^ k := by
  rw [two_pow_cast]
  exact Int.natCast_nonneg _

theorem op_add : OpR X (binaryOp .Add) (rI0 fun i j => .int (i + j)) := opI0 fun _ _ _ _ _ _ _ q => add_int q
theorem op_sub : OpR X (binaryOp .Sub) (rI0 fun i j => .int (i - j)) := opI0 fun _ _ _ _ _ _ _ q => sub_int q
theorem op_mul : OpR X (binaryOp .Mult) (rI CMul fun i j => .int (i * j)) := opI fun _ _ _ _ _ _ _ hc q => mul_int q hc.ok
/-- // by a positive divisor -/
theorem op_fdiv : OpR X (binaryOp .FloorDiv) (rI CDiv fun i j => .int (i / j)) := opI fun i j _ _ _ _ _ hc q => by
  have h1 : (0 : Int) < j := hc.1
  have h2 : j < 1073741824 := hc.2
  exact floordiv_int (by omega) (by rw [Int.fdiv_eq_ediv_of_nonneg i (by omega)]; exact q) (.inl (PyProof.noPylong_small (by omega)))
theorem op_fdivN : OpR X (binaryOp .FloorDiv) (rI CDivN fun i j => .int (i.fdiv j)) := opI fun _ _ _ _ _ _ _ hc q => floordiv_int hc.1 q (.inl (PyProof.noPylong_small hc.2))
/-- % by a positive divisor of any size -/
theorem op_mod : OpR X (binaryOp .Mod) (rI (fun _ j => 0 < j) fun i j => .int (i % j)) := opI fun i j _ _ _ _ _ hc q => by
  have h1 : (0 : Int) < j := hc
  exact mod_int' (by omega) (by rw [Int.fmod_eq_emod_of_nonneg i (by omega)]; exact q)
theorem op_modN : OpR X (binaryOp .Mod) (rI (fun _ j => j ≠ 0) fun i j => .int (i.fmod j)) := opI fun _ _ _ _ _ _ _ hc q => mod_int' hc q
theorem op_pow : OpR X (binaryOp .Pow) (rI CPow fun i j => .int (i ^ j.toNat)) := opI fun _ _ _ _ _ _ _ hc q => pow_int_small hc.1 hc.2.1 hc.2.2 q
theorem op_shl : OpR X (binaryOp .LShift) (rI CPow fun i j => .int (i * 2 ^ j.toNat)) := opI fun _ _ _ _ _ _ _ hc q => lshift_int_small hc.1 hc.2.1 hc.2.2 q
theorem op_shr : OpR X (binaryOp .RShift) (rI (fun _ j => 0 ≤ j) fun i j => .int (i / 2 ^ j.toNat)) := opI fun i j _ _ _ _ _ hc q =>
  rshift_int hc (by rw [Int.fdiv_eq_ediv_of_nonneg i (two_pow_nn _)]; exact q)
theorem op_and : OpR X (binaryOp .BitAnd) (rI0 fun i j => .int (Builtin.bitAnd i j)) := opI0 fun _ _ _ _ _ _ _ q => and_int q
theorem op_or : OpR X (binaryOp .BitOr) (rI0 fun i j => .int (Builtin.bitOr i j)) := opI0 fun _ _ _ _ _ _ _ q => or_int q
theorem op_xor : OpR X (binaryOp .BitXor) (rI0 fun i j => .int (Builtin.bitXor i j)) := opI0 fun _ _ _ _ _ _ _ q => xor_int q

theorem iop_add : OpR X (inplaceOp .Add) (rI0 fun i j => .int (i + j)) := opI0 fun _ _ _ _ _ _ _ q => iadd_int q
theorem iop_sub : OpR X (inplaceOp .Sub) (rI0 fun i j => .int (i - j)) := opI0 fun _ _ _ _ _ _ _ q => isub_int q
theorem iop_mul : OpR X (inplaceOp .Mult) (rI CMul fun i j => .int (i * j)) := opI fun _ _ _ _ _ _ _ hc q => imul_int q hc.ok
theorem iop_fdiv : OpR X (inplaceOp .FloorDiv) (rI CDiv fun i j => .int (i / j)) := opI fun i j _ _ _ _ _ hc q => by
  have h1 : (0 : Int) < j := hc.1
  have h2 : j < 1073741824 := hc.2
  exact ifloordiv_int (by omega) (by rw [Int.fdiv_eq_ediv_of_nonneg i (by omega)]; exact q) (.inl (PyProof.noPylong_small (by omega)))
theorem iop_mod : OpR X (inplaceOp .Mod) (rI (fun _ j => 0 < j) fun i j => .int (i % j)) := opI fun i j _ _ _ _ _ hc q => by
  have h1 : (0 : Int) < j := hc
  exact imod_int (by omega) (by rw [Int.fmod_eq_emod_of_nonneg i (by omega)]; exact q)
theorem iop_shl : OpR X (inplaceOp .LShift) (rI CPow fun i j => .int (i * 2 ^ j.toNat)) := opI fun _ _ _ _ _ _ _ hc q => ilshift_int_small hc.1 hc.2.1 hc.2.2 q
theorem iop_shr : OpR X (inplaceOp .RShift) (rI (fun _ j => 0 ≤ j) fun i j => .int (i / 2 ^ j.toNat)) := opI fun i j _ _ _ _ _ hc q =>
  irshift_int hc (by rw [Int.fdiv_eq_ediv_of_nonneg i (two_pow_nn _)]; exact q)
theorem iop_and : OpR X (inplaceOp .BitAnd) (rI0 fun i j => .int (Builtin.bitAnd i j)) := opI0 fun _ _ _ _ _ _ _ q => iand_int q
theorem iop_or : OpR X (inplaceOp .BitOr) (rI0 fun i j => .int (Builtin.bitOr i j)) := opI0 fun _ _ _ _ _ _ _ q => ior_int q
theorem iop_xor : OpR X (inplaceOp .BitXor) (rI0 fun i j => .int (Builtin.bitXor i j)) := opI0 fun _ _ _ _ _ _ _ q => ixor_int q

theorem unI {f : Value → Sem Value} {g : Int → Int}
    (rule : ∀ (i : Int) (t : Tok) (s : Shared) (Q : Value → Shared → Prop) (E : Value → Shared → Prop), Q (.int (g i) s.toks) { s with toks := s.toks + 1 } → wpAny (model X.prog X.w) X.A (f (.int i t)) Q E s) :
    UnR X f (rU fun i => .int (g i)) := by
  intro pins s σ H x v Q I rx h
  obtain ⟨i, rfl, q⟩ := h
  obtain ⟨t, rfl⟩ := rx
  exact rule i t s _ _ ⟨.int (g i), H, I.tok _, ⟨_, rfl⟩, q⟩
theorem un_neg : UnR X (unaryOp .USub) (rU fun i => .int (-i)) := unI fun _ _ _ _ _ q => neg_int q
theorem un_inv : UnR X (unaryOp .Invert) (rU fun i => .int (Builtin.bitNot i)) := unI fun _ _ _ _ _ q => invert_int q

/-! ### bools among ints: n += (a < b) -/
theorem op_add_ib : OpR X (binaryOp .Add) (fun x y H Q => ∃ i k, x = .int i ∧ y = .bl k ∧ Q (.int (i + b2i k)) H) := by
  intro pins s σ H x y v u Q I rx ry h
  obtain ⟨i, k, rfl, rfl, q⟩ := h
  obtain ⟨t, rfl⟩ := rx
  cases ry
  exact add_int_bool ⟨.int (i + b2i k), H, I.tok _, ⟨_, rfl⟩, q⟩
end

/-! ### comparisons -/
/-- the scalars that == tells apart as data does -/
def scal : V → V → Bool
  | .non, .non => true | .non, .int _ => true | .int _, .non => true | .non, .bl _ => true | .bl _, .non => true | .non, .str _ => true | .str _, .non => true
  | .int _, .int _ => true | .bl _, .bl _ => true | .str _, .str _ => true | .byt _, .byt _ => true
  | .int _, .str _ => true | .str _, .int _ => true | .bl _, .str _ => true | .str _, .bl _ => true
  | _, _ => false
def rEq : R2 := fun x y H Q => scal x y = true ∧ Q (.bl (decide (x = y))) H
def rNe : R2 := fun x y H Q => scal x y = true ∧ Q (.bl (!decide (x = y))) H

theorem dec_int {i j : Int} : decide (V.int i = V.int j) = (i == j) := by
  rw [Bool.eq_iff_iff]
  simp
theorem dec_bl {i j : Bool} : decide (V.bl i = V.bl j) = (i == j) := by
  rw [Bool.eq_iff_iff]
  simp
theorem dec_str {i j : Str} : decide (V.str i = V.str j) = (i == j) := by
  rw [Bool.eq_iff_iff]
  simp
theorem dec_byt {i j : Array UInt8} : decide (V.byt i = V.byt j) = (i.toList == j.toList) := by
  rw [Bool.eq_iff_iff]
  cases i
  cases j
  simp

section
variable {X : Cx} {a b c : Expr} {ta tb tc : TE} {pos : Pos}
theorem fin_bl {pins : List (Addr × Obj)} {σ : St} {H : Hp} {s : Shared} {Q : VK} {k k' : Bool} (I : Inv X pins σ H s) (q : Q (.bl k) H) (e : k = k') : EP X pins σ Q (.bool k') s := by
  subst e
  exact ⟨.bl k, H, I, rfl, q⟩
theorem op_eq : OpR X (compareOp .Eq) rEq := by
  intro pins s σ H x y v u Q I rx ry h
  obtain ⟨hs, q⟩ := h
  cases x with
  | non =>
    cases rx
    cases y with
    | non => cases ry; exact PySem.EqNone.eq_none_none (fin_bl I q (by simp))
    | bl j => cases ry; exact PySem.EqNone.eq_none_bool (fin_bl I q (by simp))
    | int j => obtain ⟨t', rfl⟩ := ry; exact PySem.EqNone.eq_none_int (fin_bl I q (by simp))
    | str j => obtain ⟨t', rfl⟩ := ry; exact PySem.EqNone.eq_none_str (fin_bl I q (by simp))
    | _ => exact absurd (show false = true from hs) Bool.false_ne_true
  | bl i =>
    cases rx
    cases y with
    | non => cases ry; exact PySem.EqNone.eq_bool_none (fin_bl I q (by simp))
    | bl j => cases ry; exact eq_bool (fin_bl I q dec_bl)
    | str j => obtain ⟨t', rfl⟩ := ry; exact PySem.EqMixed.eq_bool_str (fin_bl I q (by simp))
    | _ => exact absurd (show false = true from hs) Bool.false_ne_true
  | int i =>
    obtain ⟨t, rfl⟩ := rx
    cases y with
    | non => cases ry; exact PySem.EqNone.eq_int_none (fin_bl I q (by simp))
    | int j => obtain ⟨t', rfl⟩ := ry; exact eq_int (fin_bl I q dec_int)
    | str j => obtain ⟨t', rfl⟩ := ry; exact PySem.EqMixed.eq_int_str (fin_bl I q (by simp))
    | _ => exact absurd (show false = true from hs) Bool.false_ne_true
  | str i =>
    obtain ⟨t, rfl⟩ := rx
    cases y with
    | non => cases ry; exact PySem.EqNone.eq_str_none (fin_bl I q (by simp))
    | bl j => cases ry; exact PySem.EqMixed.eq_str_bool (fin_bl I q (by simp))
    | int j => obtain ⟨t', rfl⟩ := ry; exact PySem.EqMixed.eq_str_int (fin_bl I q (by simp))
    | str j => obtain ⟨t', rfl⟩ := ry; exact eq_str (fin_bl I q dec_str)
    | _ => exact absurd (show false = true from hs) Bool.false_ne_true
  | byt i =>
    obtain ⟨t, rfl⟩ := rx
    cases y with
    | byt j => obtain ⟨t', rfl⟩ := ry; exact PySem.W.eq_bytes (fin_bl I q dec_byt)
    | _ => exact absurd (show false = true from hs) Bool.false_ne_true
  | _ => cases y <;> exact absurd (show false = true from hs) Bool.false_ne_true
theorem op_ne : OpR X (compareOp .NotEq) rNe := by
  intro pins s σ H x y v u Q I rx ry h
  obtain ⟨hs, q⟩ := h
  cases x with
  | non =>
    cases rx
    cases y with
    | non => cases ry; exact PySem.EqNone.ne_none_none (fin_bl I q (by simp))
    | bl j => cases ry; exact PySem.EqNone.ne_none_bool (fin_bl I q (by simp))
    | int j => obtain ⟨t', rfl⟩ := ry; exact PySem.EqNone.ne_none_int (fin_bl I q (by simp))
    | str j => obtain ⟨t', rfl⟩ := ry; exact PySem.EqNone.ne_none_str (fin_bl I q (by simp))
    | _ => exact absurd (show false = true from hs) Bool.false_ne_true
  | bl i =>
    cases rx
    cases y with
    | non => cases ry; exact PySem.EqNone.ne_bool_none (fin_bl I q (by simp))
    | bl j => cases ry; exact ne_bool (fin_bl I q (congrArg not dec_bl))
    | str j => obtain ⟨t', rfl⟩ := ry; exact PySem.EqMixed.ne_bool_str (fin_bl I q (by simp))
    | _ => exact absurd (show false = true from hs) Bool.false_ne_true
  | int i =>
    obtain ⟨t, rfl⟩ := rx
    cases y with
    | non => cases ry; exact PySem.EqNone.ne_int_none (fin_bl I q (by simp))
    | int j => obtain ⟨t', rfl⟩ := ry; exact ne_int (fin_bl I q (congrArg not dec_int))
    | str j => obtain ⟨t', rfl⟩ := ry; exact PySem.EqMixed.ne_int_str (fin_bl I q (by simp))
    | _ => exact absurd (show false = true from hs) Bool.false_ne_true
  | str i =>
    obtain ⟨t, rfl⟩ := rx
    cases y with
    | non => cases ry; exact PySem.EqNone.ne_str_none (fin_bl I q (by simp))
    | bl j => cases ry; exact PySem.EqMixed.ne_str_bool (fin_bl I q (by simp))
    | int j => obtain ⟨t', rfl⟩ := ry; exact PySem.EqMixed.ne_str_int (fin_bl I q (by simp))
    | str j => obtain ⟨t', rfl⟩ := ry; exact ne_str (fin_bl I q (congrArg not dec_str))
    | _ => exact absurd (show false = true from hs) Bool.false_ne_true
  | byt i =>
    obtain ⟨t, rfl⟩ := rx
    cases y with
    | byt j => obtain ⟨t', rfl⟩ := ry; exact PySem.W.ne_bytes (fin_bl I q (congrArg not dec_byt))
    | _ => exact absurd (show false = true from hs) Bool.false_ne_true
  | _ => cases y <;> exact absurd (show false = true from hs) Bool.false_ne_true

theorem op_lt : OpR X (compareOp .Lt) (rI0 fun i j => .bl (decide (i < j))) := opB0 fun _ _ _ _ _ _ _ q => lt_int q
theorem op_le : OpR X (compareOp .LtE) (rI0 fun i j => .bl (decide (i ≤ j))) := opB0 fun _ _ _ _ _ _ _ q => le_int q
theorem op_gt : OpR X (compareOp .Gt) (rI0 fun i j => .bl (decide (j < i))) := opB0 fun _ _ _ _ _ _ _ q => gt_int q
theorem op_ge : OpR X (compareOp .GtE) (rI0 fun i j => .bl (decide (j ≤ i))) := opB0 fun _ _ _ _ _ _ _ q => ge_int q
theorem op_lt_str : OpR X (compareOp .Lt) (fun x y H Q => ∃ i j, x = .str i ∧ y = .str j ∧ Q (.bl (decide (i.cps.toList < j.cps.toList))) H) := by
  intro pins s σ H x y v u Q I rx ry h
  obtain ⟨i, j, rfl, rfl, q⟩ := h
  obtain ⟨t, rfl⟩ := rx
  obtain ⟨t', rfl⟩ := ry
  exact lt_str (fin_bl I q rfl)
/-- the one string within the other -/
theorem op_in_str : OpR X (compareOp .In) (fun x y H Q => ∃ i j, x = .str i ∧ y = .str j ∧ Q (.bl (!(Builtin.Str.occurrences j i 0 j.length 1).isEmpty)) H) := by
  intro pins s σ H x y v u Q I rx ry h
  obtain ⟨i, j, rfl, rfl, q⟩ := h
  obtain ⟨t, rfl⟩ := rx
  obtain ⟨t', rfl⟩ := ry
  exact in_str (fin_bl I q rfl)

/-- is None, is not None: the right side a value none -/
theorem op_isN : OpR X (compareOp .Is) (fun x y H Q => y = .non ∧ Q (.bl (decide (x = .non))) H) := by
  intro pins s σ H x y v u Q I rx ry h
  obtain ⟨rfl, q⟩ := h
  cases ry
  refine is_none_gen (fin_bl I q ?_)
  cases x <;> first
    | (cases rx; rfl)
    | (obtain ⟨t, rfl⟩ := rx; rfl)
theorem op_notN : OpR X (compareOp .IsNot) (fun x y H Q => y = .non ∧ Q (.bl (!decide (x = .non))) H) := by
  intro pins s σ H x y v u Q I rx ry h
  obtain ⟨rfl, q⟩ := h
  cases ry
  refine isnot_none_gen (fin_bl I q ?_)
  cases x <;> first
    | (cases rx; rfl)
    | (obtain ⟨t, rfl⟩ := rx; rfl)

theorem op_notin_str : OpR X (compareOp .NotIn) (fun x y H Q => ∃ i j, x = .str i ∧ y = .str j ∧ Q (.bl (!(!(Builtin.Str.occurrences j i 0 j.length 1).isEmpty))) H) := by
  intro pins s σ H x y v u Q I rx ry h
  obtain ⟨i, j, rfl, rfl, q⟩ := h
  obtain ⟨t, rfl⟩ := rx
  obtain ⟨t', rfl⟩ := ry
  exact notIn_str (fin_bl I q rfl)
/-- is, is not of two objects that are tracked lists or instances -/
def isObj : HO → Bool
  | .lst _ => true
  | .ins _ _ _ => true
  | _ => false
theorem obj_there {pins : List (Addr × Obj)} {s : Shared} {σ : St} {H : Hp} {a : Addr} {o : HO} (I : Inv X pins σ H s) (h : H a = some o) (p : isObj o = true) : ∃ ob, s.heap.get? a = some ob ∧ ob.cls ≠ .type "tuple" := by
  cases o with
  | lst xs =>
    obtain ⟨_, its, n, _, e⟩ : xs.length ≤ sizeLine ∧ ∃ (its : List Value) (n : Nat), Vals xs its ∧ s.heap.get? a = some { cls := .type "list", data := .seq its.toArray n } := I.hok a _ h
    exact ⟨_, e, (by show Value.type "list" ≠ .type "tuple"; decide +kernel)⟩
  | ins C dx fs =>
    have x := I.hok a _ h
    obtain ⟨_, _, _, e, _⟩ := x
    exact ⟨_, e, (by show Value.ref C ≠ .type "tuple"; exact fun z => by cases z)⟩
  | _ => exact absurd (show false = true from p) Bool.false_ne_true
theorem op_is_ref : OpR X (compareOp .Is) (fun x y H Q => ∃ a b oa ob, x = .ref a ∧ y = .ref b ∧ H a = some oa ∧ isObj oa = true ∧ H b = some ob ∧ isObj ob = true ∧ Q (.bl (decide (a = b))) H) := by
  intro pins s σ H x y v u Q I rx ry h
  obtain ⟨a, b, oa, ob, rfl, rfl, ha, pa, hb, pb, q⟩ := h
  cases rx
  cases ry
  obtain ⟨o1, e1, n1⟩ := obj_there I ha pa
  obtain ⟨o2, e2, _⟩ := obj_there I hb pb
  by_cases z : a = b
  · subst z
    exact wpAny_is_ref_self (fin_bl I q (by simp))
  · exact wpAny_is_ref_other z e1 e2 n1 (fin_bl I q (by simp [z]))
theorem op_isnot_ref : OpR X (compareOp .IsNot) (fun x y H Q => ∃ a b oa ob, x = .ref a ∧ y = .ref b ∧ H a = some oa ∧ isObj oa = true ∧ H b = some ob ∧ isObj ob = true ∧ Q (.bl (!decide (a = b))) H) := by
  intro pins s σ H x y v u Q I rx ry h
  obtain ⟨a, b, oa, ob, rfl, rfl, ha, pa, hb, pb, q⟩ := h
  cases rx
  cases ry
  obtain ⟨o1, e1, n1⟩ := obj_there I ha pa
  obtain ⟨o2, e2, _⟩ := obj_there I hb pb
  by_cases z : a = b
  · subst z
    exact wpAny_isNot_ref_self (fin_bl I q (by simp))
  · exact wpAny_isNot_ref_other z e1 e2 n1 (fin_bl I q (by simp [z]))

/-- two rules for one operation: by cases -/
theorem OpR.or {f : Value → Value → Sem Value} {r r' : R2} (h : OpR X f r) (h' : OpR X f r') : OpR X f (fun x y H Q => r x y H Q ∨ r' x y H Q) := by
  intro pins s σ H x y v u Q I rx ry q
  rcases q with q | q
  · exact h pins s σ H x y v u Q I rx ry q
  · exact h' pins s σ H x y v u Q I rx ry q

theorem nomark (b : Expr) {op : CmpOp} (h : op ≠ .In := by decide) (h2 : op ≠ .NotIn := by decide) : behindInMarks op b = false := by
  have e1 : (op == CmpOp.In) = false := by cases op <;> first | rfl | exact absurd rfl h
  have e2 : (op == CmpOp.NotIn) = false := by cases op <;> first | rfl | exact absurd rfl h2
  cases b <;> simp [behindInMarks, e1, e2]
/-- a comparison as a value; hm: nomark b, or (for in, not in) by with_unfolding_all rfl -/
theorem pe_cmpR {op : CmpOp} {r : R2} (ho : OpR X (compareOp op) r) (ha : PE X a ta) (hb : PE X b tb) (hm : behindInMarks op b = false) : PE X (.Compare a [op] [b] pos) (tOp r ta tb) := by
  intro pins s σ H Q I h
  exact wpAny_Compare1 (binT ha hb I h fun v u s2 x y H2 I2 rx ry q => ho pins s2 σ H2 x y v u Q I2 rx ry q) hm
/-- a reading of a value as a test -/
def tTest (t : TE) : TT := fun σ H Q => t σ H fun x H' => ∃ k, x = .bl k ∧ Q k H'
theorem pt_cmpR {op : CmpOp} {r : R2} (ho : OpR X (compareOp op) r) (ha : PE X a ta) (hb : PE X b tb) (hm : behindInMarks op b = false) : PT X (.Compare a [op] [b] pos) (tTest (tOp r ta tb)) := by
  intro pins s σ H Q I h
  refine wpAny_isTrue_Compare1 (thn (ha pins s σ H _ I h) fun v s1 ⟨x, H1, I1, r1, q1⟩ => thn (hb pins s1 σ H1 _ I1 q1) fun u s2 ⟨y, H2, I2, r2, q2⟩ =>
    thn (ho pins s2 σ H2 x y v u _ I2 r1 r2 q2) fun c s3 ⟨z, H3, I3, r3, k, e, q3⟩ => ?_) hm
  subst e
  cases r3
  exact wpAny_truthy_bool ⟨H3, I3, q3⟩
/-- a op1 b op2 c -/
def tChain (r r' : R2) (ta tb tc : TE) : TE := fun σ H Q => ta σ H fun x H1 => tb σ H1 fun y H2 => r x y H2 fun z H3 => ∃ k, z = .bl k ∧
  (if k = true then tc σ H3 fun w' H4 => r' y w' H4 Q else Q (.bl false) H3)
theorem pe_chain {op op' : CmpOp} {r r' : R2} (ho : OpR X (compareOp op) r) (ho' : OpR X (compareOp op') r') (ha : PE X a ta) (hb : PE X b tb) (hc : PE X c tc)
    (hm : lastMarks [op, op'] [b, c] = false := by with_unfolding_all rfl) : PE X (.Compare a [op, op'] [b, c] pos) (tChain r r' ta tb tc) := by
  intro pins s σ H Q I h
  refine Compare_chain (thn (ha pins s σ H _ I h) fun v s1 ⟨x, H1, I1, r1, q1⟩ => chain_link (thn (hb pins s1 σ H1 _ I1 q1) fun u s2 ⟨y, H2, I2, r2, q2⟩ =>
    thn (ho pins s2 σ H2 x y v u _ I2 r1 r2 q2) fun d s3 ⟨z, H3, I3, r3, k, e, q3⟩ => ?_)) hm
  subst e
  cases r3
  refine wpAny_truthy_bool ?_
  cases k with
  | false => exact ite_ff ⟨.bl false, H3, I3, rfl, q3⟩
  | true => exact ite_tt (chain_last (thn (hc pins s3 σ H3 _ I3 q3) fun w' s4 ⟨z', H4, I4, r4, q4⟩ => ho' pins s4 σ H4 y z' u w' Q I4 r2 r4 q4))
theorem pt_chain {op op' : CmpOp} {r r' : R2} (ho : OpR X (compareOp op) r) (ho' : OpR X (compareOp op') r') (ha : PE X a ta) (hb : PE X b tb) (hc : PE X c tc)
    (hm : lastMarks [op, op'] [b, c] = false := by with_unfolding_all rfl) : PT X (.Compare a [op, op'] [b, c] pos) (tTest (tChain r r' ta tb tc)) := by
  intro pins s σ H Q I h
  refine isTrue_chain (thn (ha pins s σ H _ I h) fun v s1 ⟨x, H1, I1, r1, q1⟩ => test_link (thn (hb pins s1 σ H1 _ I1 q1) fun u s2 ⟨y, H2, I2, r2, q2⟩ =>
    thn (ho pins s2 σ H2 x y v u _ I2 r1 r2 q2) fun d s3 ⟨z, H3, I3, r3, k, e, q3⟩ => ?_)) hm
  subst e
  cases r3
  refine wpAny_truthy_bool ?_
  cases k with
  | false =>
    obtain ⟨k', e', q'⟩ := q3
    cases e'
    exact ite_ff ⟨H3, I3, q'⟩
  | true =>
    refine ite_tt (test_last (thn (hc pins s3 σ H3 _ I3 q3) fun w' s4 ⟨z', H4, I4, r4, q4⟩ => thn (ho' pins s4 σ H4 y z' u w' _ I4 r2 r4 q4) fun d' s5 ⟨z2, H5, I5, r5, k2, e2, q5⟩ => ?_))
    subst e2
    cases r5
    exact wpAny_truthy_bool ⟨H5, I5, q5⟩

/-! ### truth -/
/-- a value's truth by the abstract heap -/
def TruV (K : PySem.W.Frag) (x : V) (H : Hp) (k : Bool) : Prop :=
  match x with
  | .non => k = false
  | .bl b => k = b
  | .int i => k = (i != 0)
  | .str y => y.length ≤ sizeLine ∧ k = ((y.length : Int) != 0)
  | .byt y => y.size ≤ sizeLine ∧ k = ((y.size : Int) != 0)
  | .ref p => (∃ xs, SqL K H p xs ∧ k = !xs.isEmpty) ∨ (∃ xs, SqT K H p xs ∧ k = !xs.isEmpty) ∨ ∃ kvs, H p = some (.dK kvs) ∧ k = !kvs.isEmpty
  | _ => False
theorem isEmpty_kv {κ : Type} {kvs : List (κ × V)} {vs : List (κ × Value)} (r : KV kvs vs) : (!vs.isEmpty) = !kvs.isEmpty := by
  cases r <;> rfl
theorem isEmpty_of {xs : List V} {its : List Value} (r : Vals xs its) : (!its.toArray.isEmpty) = !xs.isEmpty := by
  cases r <;> simp
theorem line63 : (sizeLine : Nat) < 2 ^ 63 := by rw [sizeLine_eq]; decide
theorem tru_ok : TruR X (fun x H Q => ∃ k, TruV X.K x H k ∧ Q k H) := by
  intro pins s σ H x v Q I rx h
  obtain ⟨k, e, q⟩ := h
  have hl := line63
  have hs : sizeLine = 16777216 := sizeLine_eq
  cases x with
  | non =>
    cases rx
    have e' : k = false := e
    subst e'
    exact truthy_none ⟨H, I, q⟩
  | bl b =>
    cases rx
    have e' : k = b := e
    subst e'
    exact wpAny_truthy_bool ⟨H, I, q⟩
  | int i =>
    obtain ⟨t, rfl⟩ := rx
    have e' : k = (i != 0) := e
    subst e'
    exact PySem.P.truthy_int ⟨H, I, q⟩
  | str y =>
    obtain ⟨t, rfl⟩ := rx
    obtain ⟨hy, e'⟩ : y.length ≤ sizeLine ∧ k = ((y.length : Int) != 0) := e
    subst e'
    exact PySem.P.truthy_str (by omega) ⟨H, I.tok _, q⟩
  | byt y =>
    obtain ⟨t, rfl⟩ := rx
    obtain ⟨hy, e'⟩ : y.size ≤ sizeLine ∧ k = ((y.size : Int) != 0) := e
    subst e'
    exact PySem.W.truthy_bytes (by omega) ⟨H, I.tok _, q⟩
  | ref p =>
    cases rx
    have e' : (∃ xs, SqL X.K H p xs ∧ k = !xs.isEmpty) ∨ (∃ xs, SqT X.K H p xs ∧ k = !xs.isEmpty) ∨ ∃ kvs, H p = some (.dK kvs) ∧ k = !kvs.isEmpty := e
    rcases e' with ⟨xs, hx, e'⟩ | ⟨xs, hx, e'⟩ | ⟨kvs, hx, e'⟩
    · subst e'
      obtain ⟨its, r, pl, hz⟩ := I.list hx
      have hlen := r.length
      exact wpAny_truthy_list pl.isList (by simp only [List.size_toArray]; omega) ⟨H, I.tok _, by rw [isEmpty_of r]; exact q⟩
    · subst e'
      obtain ⟨its, r, pl, hz⟩ := I.tuple hx
      have hlen := r.length
      exact truthy_tuple pl (by simp only [List.size_toArray]; omega) ⟨H, I.tok _, by rw [isEmpty_of r]; exact q⟩
    · subst e'
      obtain ⟨hz, hS, vs, r, m⟩ : kvs.length ≤ sizeLine ∧ (p == sysModules) = false ∧ ∃ vs, KV kvs vs ∧ s.heap.DictOf (mixKind X.prog X.w) p vs := I.hok p _ hx
      have hlen : kvs.length = vs.length := Paired.length r
      exact wpAny_truthy_dict hS m (by omega) ⟨H, I.tok _, by rw [isEmpty_kv r]; exact q⟩
  | _ => exact (show False from e).elim
/-- any expression whose test is its value's truth (a name, a call, a subscript, a field ..: he by fun _ => rfl) -/
theorem pt_truth (ha : PE X a ta) (he : ∀ whole, isTrue a X.env whole = (do let v ← whole; standAt a.pos; holding [v] (truthy v))) :
    PT X a (fun σ H Q => ta σ H fun x H' => ∃ k, TruV X.K x H' k ∧ Q k H') := by
  intro pins s σ H Q I h
  exact isTrue_plain (thn (ha pins s σ H _ I h) fun v s1 ⟨x, H1, I1, r1, q1⟩ => tru_ok pins s1 σ H1 x v Q I1 r1 q1) (he _)

/-! ### strs and bytes -/
theorem pe_byt {x : List UInt8} {k : Nat} : PE X (.Constant (.bytes x) k pos) (fun _ H Q => Q (.byt x.toArray) H) := fun _ _ _ H _ I h => PySem.W.Constant_bytes ⟨.byt x.toArray, H, I.tok _, ⟨_, rfl⟩, h⟩
theorem op_add_str : OpR X (binaryOp .Add) (fun x y H Q => ∃ i j, x = .str i ∧ y = .str j ∧ i.length + j.length ≤ sizeLine ∧ Q (.str (i ++ j)) H) := by
  intro pins s σ H x y v u Q I rx ry h
  obtain ⟨i, j, rfl, rfl, hz, q⟩ := h
  obtain ⟨t, rfl⟩ := rx
  obtain ⟨t', rfl⟩ := ry
  exact add_str (fun t' tk => ⟨.str (i ++ j), H, I.tok _, ⟨_, rfl⟩, q⟩) hz
theorem iop_add_str : OpR X (inplaceOp .Add) (fun x y H Q => ∃ i j, x = .str i ∧ y = .str j ∧ i.length + j.length ≤ sizeLine ∧ Q (.str (i ++ j)) H) := by
  intro pins s σ H x y v u Q I rx ry h
  obtain ⟨i, j, rfl, rfl, hz, q⟩ := h
  obtain ⟨t, rfl⟩ := rx
  obtain ⟨t', rfl⟩ := ry
  exact iadd_str (fun t' tk => ⟨.str (i ++ j), H, I.tok _, ⟨_, rfl⟩, q⟩) hz
theorem op_add_byt : OpR X (binaryOp .Add) (fun x y H Q => ∃ i j, x = .byt i ∧ y = .byt j ∧ i.size + j.size ≤ 16777216 ∧ Q (.byt (i ++ j)) H) := by
  intro pins s σ H x y v u Q I rx ry h
  obtain ⟨i, j, rfl, rfl, hz, q⟩ := h
  obtain ⟨t, rfl⟩ := rx
  obtain ⟨t', rfl⟩ := ry
  exact PySem.W.KBy.add_bytes hz (fun t' tk => ⟨.byt (i ++ j), H, I.tok _, ⟨_, rfl⟩, q⟩)

def PlainIxT (b : Expr) : Prop := ∀ o i, subscripted b false o i = operate [o, i] (getItem o i)
/-- s[i], 0 ≤ i < len -/
theorem pe_item_str (ha : PE X a ta) (hb : PE X b tb) (hs : PlainIxT b) :
    PE X (.Subscript a b pos) (tOp (fun x y H Q => ∃ z i c, x = .str z ∧ y = .int i ∧ 0 ≤ i ∧ i < 2 ^ 63 ∧ i < z.length ∧ z.cps[i.toNat]? = some c ∧ Q (.str ⟨#[c]⟩) H) ta tb) := by
  intro pins s σ H Q I h
  refine Subscript_ (binT ha hb I h fun v u s2 x y H2 I2 rx ry q => ?_)
  obtain ⟨z, i, c, rfl, rfl, h0, h63, h1, hc, q⟩ := q
  obtain ⟨t, rfl⟩ := rx
  obtain ⟨t', rfl⟩ := ry
  have e : seqIndex? i z.length = some i.toNat := PySem.StrLaws.seqIndex_nonneg h0 h1
  exact tail_any (typeIs_str s2 z t) slot_str_getitem.lookup (getItem_str (c := c) (by
    have e1 : decide (i < -(2 ^ 63 : Int)) = false := decide_eq_false (by omega)
    have e2 : decide (i ≥ 2 ^ 63) = false := decide_eq_false (by omega)
    rw [e1, e2] <;> rfl) (by rw [e]; exact hc) ⟨.str ⟨#[c]⟩, H2, I2.tok _, ⟨_, rfl⟩, q⟩) (hs _ _)
/-- b[i], 0 ≤ i < len -/
theorem pe_item_byt (ha : PE X a ta) (hb : PE X b tb) (hs : PlainIxT b) :
    PE X (.Subscript a b pos) (tOp (fun x y H Q => ∃ (z : List UInt8) (i : Int), x = .byt z.toArray ∧ y = .int i ∧ z.length ≤ sizeLine ∧ 0 ≤ i ∧ i < z.length ∧ Q (.int ((z.getD i.toNat 0).toNat : Nat)) H) ta tb) := by
  intro pins s σ H Q I h
  refine Subscript_ (binT ha hb I h fun v u s2 x y H2 I2 rx ry q => ?_)
  obtain ⟨z, i, rfl, rfl, hz, h0, h1, q⟩ := q
  obtain ⟨t, rfl⟩ := rx
  obtain ⟨t', rfl⟩ := ry
  have hl : sizeLine = 16777216 := sizeLine_eq
  exact tail_any (PySem.W.typeIs_bytes s2 z.toArray t) PySem.W.FB.slot_bytes_getitem.lookup (PySem.W.getItem_bytes (by omega) h0 h1 ⟨.int ((z.getD i.toNat 0).toNat : Nat), H2, I2.tok _, ⟨_, rfl⟩, q⟩) (hs _ _)

/-! ### scalar builtins, by CallR -/
theorem vals1 {x : V} {us : List Value} (r : Vals [x] us) : ∃ u, us = [u] ∧ RelV x u := by
  cases r with
  | cons r1 r2 => cases r2; exact ⟨_, rfl, r1⟩
theorem vals2 {x y : V} {us : List Value} (r : Vals [x, y] us) : ∃ u w', us = [u, w'] ∧ RelV x u ∧ RelV y w' := by
  cases r with
  | cons r1 r2 =>
    cases r2 with
    | cons r3 r4 => cases r4; exact ⟨_, _, rfl, r1, r3⟩
theorem call_abs : CallR X (.builtin "abs") (fun xs H Q => ∃ i, xs = [.int i] ∧ Q (.int (if i < 0 then -i else i)) H) := by
  intro pins s σ H xs us Q I r h
  obtain ⟨i, rfl, q⟩ := h
  obtain ⟨u, rfl, t, rfl⟩ := vals1 r
  exact call_abs_int fun u tk => ⟨.int (if i < 0 then -i else i), H, I.tok _, ⟨_, rfl⟩, q⟩
theorem call_max2 (hc : X.calm = true) : CallR X (.builtin "max") (fun xs H Q => ∃ i j, xs = [.int i, .int j] ∧ Q (.int (if j > i then j else i)) H) := by
  intro pins s σ H xs us Q I r h
  obtain ⟨i, j, rfl, q⟩ := h
  obtain ⟨u, w', rfl, ⟨t, rfl⟩, ⟨t', rfl⟩⟩ := vals2 r
  refine max_two_ints (I.ok.hd hc) fun h' tk k => ⟨_, H, I.kept k, ?_, q⟩
  by_cases hj : j > i
  · rw [if_pos hj, if_pos hj]; exact ⟨_, rfl⟩
  · rw [if_neg hj, if_neg hj]; exact ⟨_, rfl⟩
theorem call_min2 (hc : X.calm = true) : CallR X (.builtin "min") (fun xs H Q => ∃ i j, xs = [.int i, .int j] ∧ Q (.int (if j < i then j else i)) H) := by
  intro pins s σ H xs us Q I r h
  obtain ⟨i, j, rfl, q⟩ := h
  obtain ⟨u, w', rfl, ⟨t, rfl⟩, ⟨t', rfl⟩⟩ := vals2 r
  refine min_two_ints (I.ok.hd hc) fun h' tk k => ⟨_, H, I.kept k, ?_, q⟩
  by_cases hj : j < i
  · rw [if_pos hj, if_pos hj]; exact ⟨_, rfl⟩
  · rw [if_neg hj, if_neg hj]; exact ⟨_, rfl⟩
theorem call_int1 : CallR X (.type "int") (fun xs H Q => (∃ i, xs = [.int i] ∧ Q (.int i) H) ∨ ∃ k, xs = [.bl k] ∧ Q (.int (if k then 1 else 0)) H) := by
  intro pins s σ H xs us Q I r h
  rcases h with ⟨i, rfl, q⟩ | ⟨k, rfl, q⟩
  · obtain ⟨u, rfl, t, rfl⟩ := vals1 r
    exact call_int_int ⟨.int i, H, I, ⟨_, rfl⟩, q⟩
  · obtain ⟨u, rfl, r1⟩ := vals1 r
    cases r1
    exact call_int_bool ⟨.int (if k then 1 else 0), H, I.tok _, ⟨_, rfl⟩, q⟩
theorem call_bool1 : CallR X (.type "bool") (fun xs H Q => (∃ i, xs = [.int i] ∧ Q (.bl (i != 0)) H) ∨ ∃ k, xs = [.bl k] ∧ Q (.bl k) H) := by
  intro pins s σ H xs us Q I r h
  rcases h with ⟨i, rfl, q⟩ | ⟨k, rfl, q⟩
  · obtain ⟨u, rfl, t, rfl⟩ := vals1 r
    exact call_bool_int ⟨.bl (i != 0), H, I, rfl, q⟩
  · obtain ⟨u, rfl, r1⟩ := vals1 r
    cases r1
    exact call_bool_bool ⟨.bl k, H, I, rfl, q⟩
theorem call_str_int : CallR X (.type "str") (fun xs H Q => ∃ i, xs = [.int i] ∧ i.natAbs.log2 < 1920 ∧ Q (.str (toString i)) H) := by
  intro pins s σ H xs us Q I r h
  obtain ⟨i, rfl, hz, q⟩ := h
  obtain ⟨u, rfl, t, rfl⟩ := vals1 r
  exact PySem.P.str_of_int hz ⟨.str _, H, I.tok _, ⟨_, rfl⟩, q⟩
theorem call_ord : CallR X (.builtin "ord") (fun xs H Q => ∃ x, xs = [.str x] ∧ x.length = 1 ∧ Q (.int (x.cps.getD 0 0 : Nat)) H) := by
  intro pins s σ H xs us Q I r h
  obtain ⟨x, rfl, hz, q⟩ := h
  obtain ⟨u, rfl, t, rfl⟩ := vals1 r
  exact ord_of_one hz ⟨.int _, H, I.tok _, ⟨_, rfl⟩, q⟩
theorem call_chr : CallR X (.builtin "chr") (fun xs H Q => ∃ i, xs = [.int i] ∧ 0 ≤ i ∧ i ≤ 1114111 ∧ Q (.str ⟨#[i.toNat]⟩) H) := by
  intro pins s σ H xs us Q I r h
  obtain ⟨i, rfl, h0, h1, q⟩ := h
  obtain ⟨u, rfl, t, rfl⟩ := vals1 r
  exact chr_of_range h0 h1 ⟨.str _, H, I.tok _, ⟨_, rfl⟩, q⟩
/-- len of a str, a bytes, a list, a tuple -/
def LenV (K : PySem.W.Frag) (x : V) (H : Hp) (n : Nat) : Prop :=
  match x with
  | .str y => y.length ≤ sizeLine ∧ n = y.length
  | .byt y => y.size ≤ sizeLine ∧ n = y.size
  | .ref p => (∃ xs, SqL K H p xs ∧ n = xs.length) ∨ ∃ xs, SqT K H p xs ∧ n = xs.length
  | _ => False
theorem call_len : CallR X (.builtin "len") (fun xs H Q => ∃ x n, xs = [x] ∧ LenV X.K x H n ∧ Q (.int n) H) := by
  intro pins s σ H xs us Q I r h
  obtain ⟨x, n, rfl, e, q⟩ := h
  obtain ⟨u, rfl, rx⟩ := vals1 r
  have hl := line63
  have hs : sizeLine = 16777216 := sizeLine_eq
  cases x with
  | str y =>
    obtain ⟨t, rfl⟩ := rx
    obtain ⟨hy, e'⟩ : y.length ≤ sizeLine ∧ n = y.length := e
    subst e'
    exact len_str (by omega) ⟨.int _, H, I.tok _, ⟨_, rfl⟩, q⟩
  | byt y =>
    obtain ⟨t, rfl⟩ := rx
    obtain ⟨hy, e'⟩ : y.size ≤ sizeLine ∧ n = y.size := e
    subst e'
    exact PySem.W.len_bytes (by omega) ⟨.int _, H, I.tok _, ⟨_, rfl⟩, q⟩
  | ref p =>
    cases rx
    have e' : (∃ xs, SqL X.K H p xs ∧ n = xs.length) ∨ ∃ xs, SqT X.K H p xs ∧ n = xs.length := e
    rcases e' with ⟨xs, hx, e'⟩ | ⟨xs, hx, e'⟩
    · subst e'
      obtain ⟨its, r', pl, hz⟩ := I.list hx
      have hlen := r'.length
      exact Calls.call_len_list pl.isList (by simp only [List.size_toArray]; omega) ⟨.int xs.length, H, I.tok _, ⟨_, by simp only [List.size_toArray]; rw [hlen]⟩, q⟩
    · subst e'
      obtain ⟨its, r', pl, hz⟩ := I.tuple hx
      have hlen := r'.length
      exact len_tuple pl (by simp only [List.size_toArray]; omega) ⟨.int xs.length, H, I.tok _, ⟨_, by simp only [List.size_toArray]; rw [hlen]⟩, q⟩
  | _ => exact (show False from e).elim
/-- divmod: a new tuple -/
theorem call_divmod : CallR X (.builtin "divmod") (fun xs H Q => ∃ i j, xs = [.int i, .int j] ∧ CDiv i j ∧ ∀ p, H p = none → Q (.ref p) (upd H p (.tup [.int (i / j), .int (i % j)]))) := by
  intro pins s σ H xs us Q I r h
  obtain ⟨i, j, rfl, ⟨h1, h2⟩, q⟩ := h
  obtain ⟨u, w', rfl, ⟨t, rfl⟩, ⟨t', rfl⟩⟩ := vals2 r
  refine divmod_int (by omega) ?_ (.inl (PyProof.noPylong_small (by omega)))
  rw [Int.fdiv_eq_ediv_of_nonneg i (by omega), Int.fmod_eq_emod_of_nonneg i (by omega)]
  have hn : H s.heap.objs.size = none := I.hok.fresh (Nat.le_refl _)
  refine ⟨.ref s.heap.objs.size, _, ?_, rfl, q _ hn⟩
  refine I.laid (fun b o e => Heap.get?_push_of_some _ e) (Nat.le_refl _) ⟨by simp only [List.length_cons, List.length_nil]; rw [sizeLine_eq]; decide, [.int (i / j) s.toks, .int (i % j) (s.toks + 1)], .cons ⟨_, rfl⟩ (.cons ⟨_, rfl⟩ .nil), ?_⟩
  exact ⟨_, Heap.get?_push_size s.heap rfl, rfl, 0, rfl⟩
end
end L2

namespace L2
open PySem PySem.Spec PyProof.Rows

/-! ### an instance, its attributes a map -/
structure ObjM (h : Heap) (x dx C : Addr) (mA : Str → Option Value) : Prop where
  obj : h.get? x = some (PySem.W.instObj C dx)
  ns : h.Ns1 dx mA
  ne : dx ≠ x

theorem lookIn_ns {h : Heap} {dx : Addr} {mA : Str → Option Value} (n : h.Ns1 dx mA) : ∃ od, h.get? dx = some od ∧ ∀ name, PySem.W.lookIn name od = some (mA name) := by
  obtain ⟨o, es, ep, ho, hd, hk, _, hm⟩ := n
  refine ⟨o, ho, fun name => ?_⟩
  have e := hm name
  unfold nsFind findBy at e
  rw [← Array.find?_toList] at e
  unfold PySem.W.lookIn
  rw [hd]
  dsimp only
  split
  · rename_i y q
    rw [q] at e
    exact congrArg some e
  · rename_i q
    rw [q] at e
    have a : es.toList.any (·.refKey) = false := by
      rw [List.any_eq_false]
      intro y hy
      obtain ⟨z, t, hkey⟩ := hk y (Array.mem_toList_iff.mp hy)
      simp [DictEntry.refKey, hkey]
    have a' : ¬ es.toList.any (·.refKey) = true := by rw [a]; exact Bool.false_ne_true
    rw [if_neg a']
    exact congrArg some e

theorem ObjM.look {h : Heap} {x dx C : Addr} {mA : Str → Option Value} (I : ObjM h x dx C mA) : ∃ od, PySem.W.InstAt h x (PySem.W.instObj C dx) C (some od) ∧ ∀ name, PySem.W.lookIn name od = some (mA name) :=
  let ⟨od, ho, hl⟩ := lookIn_ns I.ns
  ⟨od, ⟨I.obj, rfl, rfl, ho⟩, hl⟩

section
variable {prog : Program} {w : World} {A : Around} {E : Value → Shared → Prop} {s : Shared} {K : PySem.W.Frag} {x dx C f : Addr} {mA : Str → Option Value} {name : Str} {v : Value}

theorem get_map {expr : Bool} {Q : Value → Shared → Prop} (X : K.In s.heap) (I : ObjM s.heap x dx C mA) (hg : PySem.W.plainGet K C name = true) (hh : PySem.W.hasDictIn K C = true)
    (ha : PySem.W.findIn K (.ref C) name = some none) (hv : mA name = some v) (hv' : PySem.W.handedIn v = true) (h : Q v { s with toks := s.toks + 1 }) :
    wpAny (model prog w) A (getAttr (.ref x) name expr) Q E s := by
  obtain ⟨od, J, hl⟩ := I.look
  exact PySem.W.get_value X J (PySem.W.plainGet_of hg).1 (PySem.W.findObj_own hh ha rfl (by rw [hl, hv])) hv' h

theorem get_const {expr : Bool} {a : Value} {Q : Value → Shared → Prop} (X : K.In s.heap) (I : ObjM s.heap x dx C mA) (hg : PySem.W.plainGet K C name = true) (hh : PySem.W.hasDictIn K C = true)
    (ha : PySem.W.findIn K (.ref C) name = some (some a)) (hn : PySem.W.specialIn K a "__get__" = some none) (hc : PySem.W.copiedNames.contains name = false) (hv : mA name = none) (hv' : PySem.W.handedIn a = true)
    (h : Q a { s with toks := s.toks + 1 }) : wpAny (model prog w) A (getAttr (.ref x) name expr) Q E s := by
  obtain ⟨od, J, hl⟩ := I.look
  exact PySem.W.get_value X J (PySem.W.plainGet_of hg).1 (PySem.W.findObj_cls hh ha hn hv' hc (by rw [hl, hv])) hv' h

theorem get_meth {pl : Sem Bool} {Q : Value × List Value → Shared → Prop} (X : K.In s.heap) (I : ObjM s.heap x dx C mA) (hg : PySem.W.plainGet K C name = true)
    (hf : PySem.W.findIn K (.ref C) name = some (some (.ref f))) (ht : PySem.W.isFn K (.ref f) = true) (hv : mA name = none) (h : Q (.ref f, [.ref x]) s) :
    wpAny (model prog w) A (getMethod (.ref x) name pl) Q E s := by
  obtain ⟨od, J, hl⟩ := I.look
  exact PySem.W.method_fn X J (PySem.W.plainGet_of hg).1 (PySem.W.plainGet_of hg).2 hf (beq_iff_eq.mp ht) (by show (PySem.W.lookIn name od).map (·.isSome) = some false; rw [hl, hv]; rfl) h

theorem set_map {ns : List Str} {Q : Unit → Shared → Prop} (X : K.In s.heap) (I : ObjM s.heap x dx C mA)
    (hs : PySem.W.findIn K (.ref C) "__setattr__" = some (some (.builtin "object.__setattr__"))) (hp : PySem.W.plainOver K C = true) (ht : PySem.W.takerIn K C name = some none) (hh : PySem.W.hasDictIn K C = true)
    (hw : PySem.Within mA ns) (hsz : ns.length ≤ sizeLine)
    (h : ∀ h', ObjM h' x dx C (fun y => if y = name then some v else mA y) → Heap.SameBut dx s.heap h' → Q () { s with heap := h', toks := s.toks + 2 }) :
    wpAny (model prog w) A (setAttr (.ref x) name v) Q E s := by
  obtain ⟨od, J, hl⟩ := I.look
  refine PySem.W.set_plain X J hs (PySem.W.osa_open (s := { s with toks := s.toks + 1 }) (r := none) X J hp ht fun b => ?_)
  obtain ⟨cd, hc, hd'⟩ := PySem.W.any_some hh
  have hx : s.heap.get? x = some ⟨.ref C, some dx, .plain, #[]⟩ := I.obj
  refine wpAny_bind (wpAny_pure (wpAny_bind (wpAny_bind (wpAny_loadPart hx (wpAny_bind (PySem.W.Looks.here (s := { s with toks := s.toks + 1 }) (PySem.W.looks_clsIn X hc) ?_))))))
  rw [hd']
  refine wpAny_pure (a := some dx) (wpAny_bind (wpAny_pure (wpAny_bind ?_)))
  refine wpAny_nsSet1 (s := { s with toks := s.toks + 1 }) I.ns fun h' hn2 hs2 => ?_
  obtain ⟨oD, esD, epD, hoD, hdD, hcD⟩ := hn2.count (PySem.Within.cons name v hw)
  refine wpAny_bind (wpAny_lookBehind hoD (by rw [hdD]; exact pastItsLine_dict (Nat.le_trans hcD (by rw [List.length_cons]; omega))) ?_)
  exact wpAny_pure (h _ ⟨(hs2.2 _ (Ne.symm I.ne)).trans I.obj, hn2, I.ne⟩ hs2)

/-- C(..): the dict at the heap's end, the instance behind it; then its __init__ -/
theorem make_map {R : Result → Shared → Prop} {vs : List Value} {kw : List (Str × Value)} (X : K.In s.heap) (hm : PySem.W.makesIn K C = true)
    (hi : PySem.W.findIn K (.ref C) "__init__" = some (some (.ref f))) (hf : PySem.W.typeIn K (.ref f) = some (.type "function"))
    (h : codeAny (model prog w) (A.under (.builtin "type.__call__" ⟨.ref C :: vs, kw⟩)) (.call (.ref f) ⟨.ref (s.heap.objs.size + 1) :: vs, kw⟩) (PySem.W.InitBack (s.heap.objs.size + 1) R)
      { s with heap := (s.heap.push PySem.W.emptyDict).push (PySem.W.instObj C s.heap.objs.size) }) :
    codeAny (model prog w) A (.call (.ref C) ⟨vs, kw⟩) R s := by
  obtain ⟨hh, g, d, t, os⟩ := s
  exact PySem.W.make_core (PySem.W.makes_of X hm) (PySem.W.looks_findIn X hi) (fun self => PySem.W.bind_fn X self hf) (.inl rfl) h
/-- C() where there is no __init__ but object's -/
theorem make_map0 {R : Result → Shared → Prop} (X : K.In s.heap) (hm : PySem.W.makesIn K C = true)
    (hi : PySem.W.findIn K (.ref C) "__init__" = some (some (.builtin "object.__init__")))
    (hb : ∀ self, PySem.W.Looks (model prog w) s.heap (bindSpecial (.builtin "object.__init__") self) (.builtin "object.__init__", [self]))
    (h : codeAny (model prog w) (A.under (.builtin "type.__call__" ⟨[.ref C], []⟩)) (.call (.builtin "object.__init__") ⟨[.ref (s.heap.objs.size + 1)], []⟩) (PySem.W.InitBack (s.heap.objs.size + 1) R)
      { s with heap := (s.heap.push PySem.W.emptyDict).push (PySem.W.instObj C s.heap.objs.size) }) :
    codeAny (model prog w) A (.call (.ref C) ⟨[], []⟩) R s := by
  obtain ⟨hh, g, d, t, os⟩ := s
  exact PySem.W.make_core (PySem.W.makes_of X hm) (PySem.W.looks_findIn X hi) hb (.inr ⟨rfl, rfl⟩) h
end

/-! ### the attributes as a list of pairs -/
def putF (f : Str) (v : V) : List (Str × V) → List (Str × V)
  | [] => [(f, v)]
  | (g, x) :: r => if g = f then (g, v) :: r else (g, x) :: putF f v r
theorem lookup_putF (f g : Str) (v : V) : ∀ fs : List (Str × V), (putF f v fs).lookup g = if g = f then some v else fs.lookup g
  | [] => by
    show List.lookup g [(f, v)] = _
    by_cases h : g = f
    · have hb : (g == f) = true := beq_iff_eq.mpr h
      simp only [List.lookup, hb, if_pos h]
    · have hb : (g == f) = false := beq_eq_false_iff_ne.mpr h
      simp only [List.lookup, hb, if_neg h]
  | (k, x) :: r => by
    have ih := lookup_putF f g v r
    rw [show putF f v ((k, x) :: r) = (if k = f then (k, v) :: r else (k, x) :: putF f v r) from rfl]
    by_cases hk : k = f
    · rw [if_pos hk]
      by_cases h : g = k
      · have hb : (g == k) = true := beq_iff_eq.mpr h
        simp only [List.lookup, hb, if_pos (h.trans hk)]
      · have hb : (g == k) = false := beq_eq_false_iff_ne.mpr h
        simp only [List.lookup, hb, if_neg (fun e : g = f => h (e.trans hk.symm))]
    · rw [if_neg hk]
      by_cases h : g = k
      · have hb : (g == k) = true := beq_iff_eq.mpr h
        simp only [List.lookup, hb, if_neg (fun e : g = f => hk (h.symm.trans e))]
      · have hb : (g == k) = false := beq_eq_false_iff_ne.mpr h
        simp only [List.lookup, hb]
        exact ih
theorem keys_putF (f : Str) (v : V) : ∀ fs : List (Str × V), f ∈ (putF f v fs).map (·.1) ∧ ∀ g, g ∈ fs.map (·.1) → g ∈ (putF f v fs).map (·.1)
  | [] => ⟨by simp [putF], fun g h => by simp at h⟩
  | (k, x) :: r => by
    obtain ⟨i1, i2⟩ := keys_putF f v r
    rw [show putF f v ((k, x) :: r) = (if k = f then (k, v) :: r else (k, x) :: putF f v r) from rfl]
    by_cases hk : k = f
    · rw [if_pos hk]
      subst hk
      exact ⟨by simp, fun g h => by simpa using h⟩
    · rw [if_neg hk]
      refine ⟨?_, fun g h => ?_⟩
      · rw [List.map_cons]
        exact List.mem_cons_of_mem _ i1
      · rw [List.map_cons] at h ⊢
        rcases List.mem_cons.mp h with e | e
        · exact List.mem_cons.mpr (.inl e)
        · exact List.mem_cons_of_mem _ (i2 g e)
theorem length_putF (f : Str) (v : V) : ∀ fs : List (Str × V), (putF f v fs).length ≤ fs.length + 1
  | [] => by simp [putF]
  | (k, x) :: r => by
    have ih := length_putF f v r
    rw [show putF f v ((k, x) :: r) = (if k = f then (k, v) :: r else (k, x) :: putF f v r) from rfl]
    by_cases hk : k = f
    · rw [if_pos hk, List.length_cons, List.length_cons]; omega
    · rw [if_neg hk, List.length_cons, List.length_cons]; omega

theorem RelO.some_of {v : V} {o : Option Value} (r : RelO (some v) o) : ∃ u, o = some u ∧ RelV v u := by
  cases o with
  | none => exact (show False from r).elim
  | some u => exact ⟨u, rfl, r⟩
theorem RelO.none_of {o : Option Value} (r : RelO none o) : o = none := by
  cases o with
  | none => rfl
  | some u => exact (show False from r).elim
theorem handed_of {v : V} {u : Value} (r : RelV v u) : PySem.W.handedIn u = true := by
  cases v with
  | non => cases (show u = Value.none from r); rfl
  | bl b => cases (show u = Value.bool b from r); rfl
  | int i => obtain ⟨t, e⟩ := (show ∃ t, u = Value.int i t from r); cases e; rfl
  | str x => obtain ⟨t, e⟩ := (show ∃ t, u = Value.str x t from r); cases e; rfl
  | byt b => obtain ⟨t, e⟩ := (show ∃ t, u = Value.bytes b t from r); cases e; rfl
  | flt b => obtain ⟨t, e⟩ := (show ∃ t, u = Value.float b t from r); cases e; rfl
  | ref a => cases (show u = Value.ref a from r); rfl
  | ty n => cases (show u = Value.type n from r); rfl

section
variable {P : Program} {w : World} {H H' : Hp} {h h' : Heap} {a C dx : Addr} {fs fs' : List (Str × V)}
theorem ins_get (hok : HOk P w H h) (e : H a = some (.ins C dx fs)) : ∃ mA, ObjM h a dx C mA ∧ (∀ f, RelO (fs.lookup f) (mA f)) ∧ PySem.Within mA (fs.map (·.1)) ∧ fs.length ≤ 1000 ∧ H dx = some (.own a) := by
  obtain ⟨d, z, ne, ob, mA, n, r, q⟩ := (show ObjOk P w H h a (.ins C dx fs) from hok a _ e)
  exact ⟨mA, ⟨ob, n, ne⟩, r, q, z, d⟩
end

/-! ### what of the text a class must have -/
structure Cls (K : PySem.W.Frag) (C : Addr) : Prop where
  pg : PySem.W.plainGet K C Str.empty = true
  hd : PySem.W.hasDictIn K C = true
  po : PySem.W.plainOver K C = true
  sa : PySem.W.findIn K (.ref C) "__setattr__" = some (some (.builtin "object.__setattr__"))
theorem Cls.get {K : PySem.W.Frag} {C : Addr} (c : Cls K C) (f : Str) : PySem.W.plainGet K C f = true := c.pg
/-- no class of it has the name -/
def NoAttr (K : PySem.W.Frag) (C : Addr) (f : Str) : Prop := PySem.W.findIn K (.ref C) f = some none
theorem NoAttr.taker {K : PySem.W.Frag} {C : Addr} {f : Str} (n : NoAttr K C f) : PySem.W.takerIn K C f = some none := by
  unfold PySem.W.takerIn
  rw [show PySem.W.findIn K (.ref C) f = some none from n]
  rfl
/-- a constant of the class -/
structure Con (K : PySem.W.Frag) (C : Addr) (f : Str) (v : V) (u : Value) : Prop where
  at_ : PySem.W.findIn K (.ref C) f = some (some u)
  rel : RelV v u
  get : PySem.W.specialIn K u "__get__" = some none
  cp : PySem.W.copiedNames.contains f = false
/-- a method: a plain def of the class or of one above it -/
structure Meth (K : PySem.W.Frag) (C : Addr) (m : Str) (f : Addr) : Prop where
  at_ : PySem.W.findIn K (.ref C) m = some (some (.ref f))
  fn : PySem.W.isFn K (.ref f) = true
  kp : PySem.W.keepIn K (.ref f) = true

section
variable {X : Cx} {pins : List (Addr × Obj)} {σ : St} {H : Hp} {s : Shared} {a C dx : Addr} {fs : List (Str × V)} {f : Str} {v : V} {A : Around} {E : Value → Shared → Prop}

theorem getattr_ok {b : Bool} {Q : Value → Shared → Prop} (I : Inv X pins σ H s) (e : H a = some (.ins C dx fs)) (c : Cls X.K C) (n : NoAttr X.K C f) (l : fs.lookup f = some v)
    (h : ∀ u s', Inv X pins σ H s' → RelV v u → Q u s') : wpAny (model X.prog X.w) A (getAttr (.ref a) f b) Q E s := by
  obtain ⟨mA, O, r, _, _, _⟩ := ins_get I.hok e
  obtain ⟨u, hu, ru⟩ := RelO.some_of (v := v) (o := mA f) (by rw [← l]; exact r f)
  exact get_map I.kIn O (c.get f) c.hd n hu (handed_of ru) (h u _ (I.tok _) ru)

theorem getcon_ok {b : Bool} {u : Value} {Q : Value → Shared → Prop} (I : Inv X pins σ H s) (e : H a = some (.ins C dx fs)) (c : Cls X.K C) (k : Con X.K C f v u) (l : fs.lookup f = none)
    (h : ∀ s', Inv X pins σ H s' → Q u s') : wpAny (model X.prog X.w) A (getAttr (.ref a) f b) Q E s := by
  obtain ⟨mA, O, r, _, _, _⟩ := ins_get I.hok e
  have hn : mA f = none := RelO.none_of (by rw [← l]; exact r f)
  exact get_const I.kIn O (c.get f) c.hd k.at_ k.get k.cp hn (handed_of k.rel) (h _ (I.tok _))

theorem getmeth_ok {m : Str} {g : Addr} {pl : Sem Bool} {Q : Value × List Value → Shared → Prop} (I : Inv X pins σ H s) (e : H a = some (.ins C dx fs)) (c : Cls X.K C) (k : Meth X.K C m g) (l : fs.lookup m = none)
    (h : Q (.ref g, [.ref a]) s) : wpAny (model X.prog X.w) A (getMethod (.ref a) m pl) Q E s := by
  obtain ⟨mA, O, r, _, _, _⟩ := ins_get I.hok e
  have hn : mA m = none := RelO.none_of (by rw [← l]; exact r m)
  exact get_meth I.kIn O (c.get m) k.at_ k.fn hn h

theorem setattr_ok {y : V} {u : Value} {Q : Unit → Shared → Prop} (I : Inv X pins σ H s) (e : H a = some (.ins C dx fs)) (c : Cls X.K C) (n : NoAttr X.K C f) (hl : fs.length < 1000) (ry : RelV y u)
    (h : ∀ s', Inv X pins σ (upd H a (.ins C dx (putF f y fs))) s' → Q () s') : wpAny (model X.prog X.w) A (setAttr (.ref a) f u) Q E s := by
  obtain ⟨mA, O, r, wi, _, ho⟩ := ins_get I.hok e
  have hz : (fs.map (·.1)).length ≤ sizeLine := by rw [List.length_map, sizeLine_eq]; omega
  refine set_map I.kIn O c.sa c.po n.taker c.hd wi hz fun h' O' sb => h _ ?_
  have hd : ∃ o, h'.get? dx = some o := let ⟨o, _, _, e', _⟩ := O'.ns; ⟨o, e'⟩
  refine I.write (x := a) (e := dx) (by rw [e]; exact True.intro) (.inr ho) (fun b q hb z => (sb.2 b hb).trans z) hd ?_
  refine ⟨by rw [upd_ne O.ne]; exact ho, ?_, O.ne, O'.obj, _, O'.ns, fun g => ?_, fun g hg => ?_⟩
  · have := length_putF f y fs; omega
  · show RelO ((putF f y fs).lookup g) (if g = f then some u else mA g)
    rw [lookup_putF]
    by_cases q : g = f
    · rw [if_pos q, if_pos q]; exact ry
    · rw [if_neg q, if_neg q]; exact r g
  · by_cases q : g = f
    · rw [q]; exact (keys_putF f y fs).1
    · refine (keys_putF f y fs).2 g (wi g fun z => hg ?_)
      show (if g = f then some u else mA g) = none
      rw [if_neg q]; exact z

/-- a new instance, tracked, without attributes -/
theorem Inv.made (I : Inv X pins σ H s) : Inv X pins σ (upd (upd H s.heap.objs.size (.own (s.heap.objs.size + 1))) (s.heap.objs.size + 1) (.ins C s.heap.objs.size []))
    { s with heap := (s.heap.push PySem.W.emptyDict).push (PySem.W.instObj C s.heap.objs.size) } := by
  have e1 : (s.heap.push PySem.W.emptyDict).get? s.heap.objs.size = some PySem.W.emptyDict := Heap.get?_push_size s.heap rfl
  have e2 : ((s.heap.push PySem.W.emptyDict).push (PySem.W.instObj C s.heap.objs.size)).get? (s.heap.objs.size + 1) = some (PySem.W.instObj C s.heap.objs.size) := by
    have := Heap.get?_push_size (s.heap.push PySem.W.emptyDict) (o := PySem.W.instObj C s.heap.objs.size) rfl
    rwa [Heap.size_push] at this
  have e3 : (s.heap.push PySem.W.emptyDict).Ns s.heap.objs.size (fun _ => none) := ⟨PySem.W.emptyDict, #[], _, e1, rfl, (fun e he => absurd he (by simp)), fun _ => rfl⟩
  have I1 := I.laid (a := s.heap.objs.size) (o := .own (s.heap.objs.size + 1)) (h' := s.heap.push PySem.W.emptyDict) (t' := s.toks) (fun b u q => Heap.get?_push_of_some _ q) (Nat.le_refl _) ⟨_, e1⟩
  refine I1.laid (a := s.heap.objs.size + 1) (o := .ins C s.heap.objs.size []) (t' := s.toks) (fun b u q => Heap.get?_push_of_some _ q) (Nat.le_of_eq (Heap.size_push _ _)) ?_
  have ne : s.heap.objs.size ≠ s.heap.objs.size + 1 := Nat.ne_of_lt (Nat.lt_succ_self _)
  refine ⟨by rw [upd_ne ne, upd_same], Nat.zero_le _, ne, e2, fun _ => none, (Heap.Ns1.of_empty e3).at fun o q => Heap.get?_push_of_some _ q, fun _ => True.intro, fun y hy => absurd rfl hy⟩

/-- e.f where nothing but the object is asked: through attributeBase (super) and the last hold -/
theorem attr_of {prog : Program} {w : World} {env : Env} {e : Expr} {f : Str} {pos : Pos} {s : Shared} {Q : Value → Shared → Prop} (hb : attributeBase e f env (eval e env) = eval e env)
    (h : wpAny (model prog w) A (eval e env) (fun o s₁ => wpAny (model prog w) A (getAttr o f true) Q E s₁) E s) : wpAny (model prog w) A (eval (.Attribute e f pos) env) Q E s :=
  Attribute_any_ h (by rw [arm_eval_Attribute, hb])
end

/-! ### readings and rules -/
/-- e.f, an attribute of the instance -/
def tFld (K : PySem.W.Frag) (ta : TE) (f : Str) : TE := fun σ H Q => ta σ H fun x H1 => ∃ a C dx fs v, x = .ref a ∧ H1 a = some (.ins C dx fs) ∧ Cls K C ∧ NoAttr K C f ∧ fs.lookup f = some v ∧ Q v H1
/-- e.f, a constant of the class -/
def tCon (K : PySem.W.Frag) (ta : TE) (f : Str) : TE := fun σ H Q => ta σ H fun x H1 => ∃ a C dx fs v u, x = .ref a ∧ H1 a = some (.ins C dx fs) ∧ Cls K C ∧ Con K C f v u ∧ fs.lookup f = none ∧ Q v H1
/-- e.f = value -/
def sFld (K : PySem.W.Frag) (ta tv : TE) (f : Str) : TS := fun D σ H => tv σ H fun y H1 => ta σ H1 fun x H2 => ∃ a C dx fs, x = .ref a ∧ H2 a = some (.ins C dx fs) ∧ Cls K C ∧ NoAttr K C f ∧ fs.length < 1000 ∧
  D.nx σ (upd H2 a (.ins C dx (putF f y fs)))
/-- an augmented operator on two values -/
def InOp (X : Cx) (op : Operator) (rd : V → V → Hp → VK → Prop) : Prop :=
  ∀ (pins : List (Addr × Obj)) (s : Shared) (σ : St) (H : Hp) (x y : V) (u v : Value) (Q : VK), Inv X pins σ H s → RelV x u → RelV y v → rd x y H Q → wpAny (model X.prog X.w) X.A (inplaceOp op u v) (EP X pins σ Q) X.xe s
/-- e.f op= value -/
def sFldAug (K : PySem.W.Frag) (ta tv : TE) (rd : V → V → Hp → VK → Prop) (f : Str) : TS := fun D σ H => ta σ H fun x H1 => ∃ a C dx fs v, x = .ref a ∧ H1 a = some (.ins C dx fs) ∧ Cls K C ∧ NoAttr K C f ∧ fs.lookup f = some v ∧
  tv σ H1 fun y H2 => rd v y H2 fun z H3 => ∃ dx' fs', H3 a = some (.ins C dx' fs') ∧ fs'.length < 1000 ∧ D.nx σ (upd H3 a (.ins C dx' (putF f z fs')))

section
variable {X : Cx} {o e value : Expr} {f : Str} {pos pos' tpos : Pos} {ta tv : TE}
theorem pe_fld (he : PE X e ta) (hb : attributeBase e f X.env (eval e X.env) = eval e X.env) : PE X (.Attribute e f pos) (tFld X.K ta f) := by
  intro pins s σ H Q I h
  refine attr_of hb (thn (he pins s σ H _ I h) fun u s1 ⟨x, H1, I1, rx, a, C, dx, fs, v, ex, ea, c, n, l, q⟩ => ?_)
  subst ex
  obtain rfl : u = Value.ref a := rx
  exact getattr_ok I1 ea c n l fun u' s2 I2 ru => ⟨v, H1, I2, ru, q⟩
theorem pe_con (he : PE X e ta) (hb : attributeBase e f X.env (eval e X.env) = eval e X.env) : PE X (.Attribute e f pos) (tCon X.K ta f) := by
  intro pins s σ H Q I h
  refine attr_of hb (thn (he pins s σ H _ I h) fun u s1 ⟨x, H1, I1, rx, a, C, dx, fs, v, u0, ex, ea, c, k, l, q⟩ => ?_)
  subst ex
  obtain rfl : u = Value.ref a := rx
  exact getcon_ok I1 ea c k l fun s2 I2 => ⟨v, H1, I2, k.rel, q⟩
theorem ps_fld (ha : PE X o ta) (hv : PE X value tv) (hs : swapsWith value (some (.Attribute o f pos')) pos.line X.env = pure false) : PS X (.Assign [.Attribute o f pos'] value pos) (sFld X.K ta tv f) := by
  intro pins s σ H D I h
  refine plainObj_wpAny_Assign_Attribute (thn (hv pins s σ H _ I h) fun u s1 ⟨y, H1, I1, ry, q⟩ => thn (ha pins s1 σ H1 _ I1 q) fun ov s2 ⟨x, H2, I2, rx, a, C, dx, fs, ex, ea, c, n, l, q2⟩ => ?_) hs
  subst ex
  obtain rfl : ov = Value.ref a := rx
  exact setattr_ok I2 ea c n l ry fun s3 I3 => ⟨σ, _, I3, q2⟩
theorem ps_fldaug {op : Operator} {rd : V → V → Hp → VK → Prop} (ha : PE X o ta) (hv : PE X value tv) (hop : InOp X op rd) : PS X (.AugAssign (.Attribute o f tpos) op value pos) (sFldAug X.K ta tv rd f) := by
  intro pins s σ H D I h
  refine wpAny_AugAssign_AttributeAny (thn (ha pins s σ H _ I h) fun ov s1 ⟨x, H1, I1, rx, a, C, dx, fs, v, ex, ea, c, n, l, q⟩ => ?_)
  subst ex
  obtain rfl : ov = Value.ref a := rx
  refine getattr_ok I1 ea c n l fun u s2 I2 ru => thn (hv pins s2 σ H1 _ I2 q) fun w3 s3 ⟨y, H2, I3, ry, q3⟩ => thn (hop pins s3 σ H2 v y u w3 _ I3 ru ry q3) fun w4 s4 ⟨z, H3, I4, rz, dx', fs', ea', l', q4⟩ => ?_
  exact setattr_ok I4 ea' c n l' rz fun s5 I5 => ⟨σ, _, I5, q4⟩
def rAdd : V → V → Hp → VK → Prop := fun x y H Q => ∃ i j, x = .int i ∧ y = .int j ∧ Q (.int (i + j)) H
def rSub : V → V → Hp → VK → Prop := fun x y H Q => ∃ i j, x = .int i ∧ y = .int j ∧ Q (.int (i - j)) H
theorem in_add : InOp X .Add rAdd := by
  rintro pins s σ H x y u v Q I rx ry ⟨i, j, rfl, rfl, q⟩
  obtain ⟨t, rfl⟩ := (show ∃ t, u = Value.int i t from rx)
  obtain ⟨t', rfl⟩ := (show ∃ t', v = Value.int j t' from ry)
  exact PyProof.Rows.iadd_int ⟨.int (i + j), H, I.tok _, ⟨_, rfl⟩, q⟩
theorem in_sub : InOp X .Sub rSub := by
  rintro pins s σ H x y u v Q I rx ry ⟨i, j, rfl, rfl, q⟩
  obtain ⟨t, rfl⟩ := (show ∃ t, u = Value.int i t from rx)
  obtain ⟨t', rfl⟩ := (show ∃ t', v = Value.int j t' from ry)
  exact PyProof.Rows.isub_int ⟨.int (i - j), H, I.tok _, ⟨_, rfl⟩, q⟩

/-- what is between an instance and its method: the tree of a method call -/
theorem methcall_of {pl : Sem Bool} {m : Str} {apos : Pos} {args : List Expr} {pins : List (Addr × Obj)} {s : Shared} {σ : St} {H : Hp} {Q : Value → Shared → Prop} {te : TE} (he : PE X e te) (I : Inv X pins σ H s)
    (h : te σ H fun x H1 => ∃ a C dx fs g, x = .ref a ∧ H1 a = some (.ins C dx fs) ∧ Cls X.K C ∧ Meth X.K C m g ∧ fs.lookup m = none ∧
      ∀ s1, Inv X pins σ H1 s1 → wpAny (model X.prog X.w) X.A (callWith pos (.ref g) [.ref a] (backTo pos (starEach args X.env)) (backToKw pos (keywordEach [] X.env))) Q X.xe s1)
    (ht : eval (.Call (.Attribute e m apos) args [] pos) X.env = (do
      let ov ← eval e X.env
      standAt apos.atName
      let (f, first) ← holding [ov] (getMethod ov m pl)
      callWith pos f first (backTo pos (starEach args X.env)) (backToKw pos (keywordEach [] X.env)))) :
    wpAny (model X.prog X.w) X.A (eval (.Call (.Attribute e m apos) args [] pos) X.env) Q X.xe s := by
  refine PySem.W.methodCall_KW (pl := pl) (thn (he pins s σ H _ I h) fun u s1 ⟨x, H1, I1, rx, a, C, dx, fs, g, ex, ea, c, k, l, q⟩ => ?_) ht
  subst ex
  obtain rfl : u = Value.ref a := rx
  exact getmeth_ok I1 ea c k l (q s1 I1)
end

/-! ### isinstance -/
section
variable {X : Cx} {pins : List (Addr × Obj)} {σ : St} {H : Hp} {s : Shared} {A : Around} {E : Value → Shared → Prop} {Q : Value → Shared → Prop} {c : Value} {b : Bool}
/-- the type of a value, as the fragment's deciders take it; for an instance its class -/
inductive TyOf (K : PySem.W.Frag) (H : Hp) : V → Value → Prop where
  | non : TyOf K H .non (.type "NoneType")
  | bl (x : Bool) : TyOf K H (.bl x) (.type "bool")
  | int (i : Int) : TyOf K H (.int i) (.type "int")
  | str (x : Str) : TyOf K H (.str x) (.type "str")
  | flt (x : UInt64) : TyOf K H (.flt x) (.type "float")
  | lst {a : Addr} {xs : List V} (e : H a = some (.lst xs)) : TyOf K H (.ref a) (.type "list")
  | frz {a : Addr} {o : Obj} {xs : List V} (e : H a = some (.frz o (.lst xs))) : TyOf K H (.ref a) (.type "list")
  | tup {a : Addr} {xs : List V} (e : H a = some (.tup xs)) : TyOf K H (.ref a) (.type "tuple")
  | dK {a : Addr} {kvs : List (Key × V)} (e : H a = some (.dK kvs)) : TyOf K H (.ref a) (.type "dict")
  | dT {a : Addr} {kvs : List (List Key × V)} (e : H a = some (.dT kvs)) : TyOf K H (.ref a) (.type "dict")
  | ins {a C dx : Addr} {fs : List (Str × V)} (e : H a = some (.ins C dx fs)) (cl : Cls K C) (ha : PySem.W.findIn K (.ref C) "__class__" = some (some (.builtin "object.__class__")))
      (hn : PySem.W.specialIn K (.builtin "object.__class__") "__get__" = some (some (.builtin "getset_descriptor.__get__"))) (htk : PySem.W.takesIn K (.builtin "object.__class__") = some true)
      (hm : PySem.W.mroIn K C (.type "object") = some true) : TyOf K H (.ref a) (.ref C)
/-- isinstance(x, c) for one class c, a built-in or an own one: kitOne's answer -/
theorem isinst_ok {x : V} {u t : Value} (I : Inv X pins σ H s) (rx : RelV x u) (ty : TyOf X.K H x t) (e : PySem.W.kitOne X.K t c = some b) (h : ∀ tk, Q (.bool b) { s with toks := tk }) :
    wpAny (model X.prog X.w) A (call (.builtin "isinstance") [u, c]) Q E s := by
  cases ty with
  | non => cases (show u = Value.none from rx); exact PySem.W.kia_one PySem.W.kitx_none I.kIn True.intro e (fun z => nomatch z) h
  | bl y => cases (show u = Value.bool y from rx); exact PySem.W.kia_one PySem.W.kitx_bool I.kIn True.intro e (fun z => nomatch z) h
  | int i => obtain ⟨t, q⟩ := (show ∃ t, u = Value.int i t from rx); cases q; exact PySem.W.kia_one PySem.W.kitx_int I.kIn True.intro e (fun z => nomatch z) h
  | str y => obtain ⟨t, q⟩ := (show ∃ t, u = Value.str y t from rx); cases q; exact PySem.W.kia_one PySem.W.kitx_str I.kIn True.intro e (fun z => nomatch z) h
  | flt y => obtain ⟨t, q⟩ := (show ∃ t, u = Value.float y t from rx); cases q; exact PySem.W.kia_one PySem.W.kitx_float I.kIn True.intro e (fun z => nomatch z) h
  | @lst a xs ea =>
    cases (show u = Value.ref a from rx)
    obtain ⟨_, _, n, _, h1⟩ := (show ObjOk X.prog X.w H s.heap a (.lst xs) from I.hok a _ ea)
    exact PySem.W.kia_one PySem.W.kitx_list I.kIn ⟨_, h1, rfl⟩ e (fun z => nomatch z) h
  | @frz a ob xs ea =>
    cases (show u = Value.ref a from rx)
    obtain ⟨_, _, _, n, _, h1⟩ := (show ObjOk X.prog X.w H s.heap a (.frz ob (.lst xs)) from I.hok a _ ea)
    exact PySem.W.kia_one PySem.W.kitx_list I.kIn ⟨_, h1, rfl⟩ e (fun z => nomatch z) h
  | @tup a xs ea =>
    cases (show u = Value.ref a from rx)
    obtain ⟨_, _, _, p⟩ := (show ObjOk X.prog X.w H s.heap a (.tup xs) from I.hok a _ ea)
    obtain ⟨o, h1, h2, _⟩ := p
    exact PySem.W.kia_one PySem.W.kitx_tuple I.kIn ⟨o, h1, h2⟩ e (fun z => nomatch z) h
  | @dK a kvs ea =>
    cases (show u = Value.ref a from rx)
    obtain ⟨_, _, vs, _, p⟩ := (show ObjOk X.prog X.w H s.heap a (.dK kvs) from I.hok a _ ea)
    obtain ⟨o, es, ep, h1, h2, _⟩ := p
    exact PySem.W.kia_one PySem.W.kitx_dict I.kIn ⟨o, h1, h2.1⟩ e (fun z => nomatch z) h
  | @dT a kvs ea =>
    cases (show u = Value.ref a from rx)
    obtain ⟨_, _, xs, _, o, es, ep, h1, h2, _⟩ := (show ObjOk X.prog X.w H s.heap a (.dT kvs) from I.hok a _ ea)
    exact PySem.W.kia_one PySem.W.kitx_dict I.kIn ⟨o, h1, h2.1⟩ e (fun z => nomatch z) h
  | @ins a C dx fs ea cl ha hn htk hm =>
    cases (show u = Value.ref a from rx)
    obtain ⟨mA, O, _⟩ := ins_get I.hok ea
    obtain ⟨od, J, _⟩ := O.look
    exact PySem.W.kia_one (PySem.W.kitx_own (cl.get _) cl.hd ha hn htk hm) I.kIn J e (fun z => nomatch z) h
end
end L2

namespace L2
open PySem PySem.Spec PyProof.Rows

/-! ### room -/
structure Room (k : Nat) (A : Around) : Prop where
  hd : A.handled = none
  dp : A.depth + 3 * k + 5 < recursionLimit
  un : A.units + 16 * k + 200 < cLine
theorem Room.mono {j k : Nat} {A : Around} (r : Room k A) (h : j ≤ k) : Room j A := ⟨r.hd, by have := r.dp; omega, by have := r.un; omega⟩
theorem Room.deeper {k : Nat} {A : Around} (r : Room (k + 1) A) (env : Env) : Room k (A.deeper env) :=
  ⟨r.hd, by have := r.dp; show A.depth + 1 + 3 * k + 5 < _; omega, by have := r.un; show A.units + 3 + 16 * k + 200 < _; omega⟩
theorem Room.in1 {k : Nat} {A : Around} (r : Room (k + 1) A) : Room k A.in1 :=
  ⟨r.hd, by have := r.dp; show A.depth + 3 * k + 5 < _; omega, by have := r.un; show A.units + 1 + 16 * k + 200 < _; omega⟩
theorem make_depth {A : Around} {C : Addr} {us : List Value} {kw : List (Str × Value)} : (A.under (.builtin "type.__call__" ⟨.ref C :: us, kw⟩)).depth = A.depth + 1 := by
  first | rfl | simp [Around.under, Code.weight, Code.isCreation, Code.isGuard, Code.isCaller, Code.frames, Code.isFrame, guardIds]
theorem make_units {A : Around} {C : Addr} {us : List Value} {kw : List (Str × Value)} : (A.under (.builtin "type.__call__" ⟨.ref C :: us, kw⟩)).units = A.units + 1 := by
  first | rfl | simp [Around.under, Code.cUnits, Code.frames, Code.isFrame]
theorem Room.make {k : Nat} {A : Around} (r : Room (k + 1) A) (C : Addr) (us : List Value) (kw : List (Str × Value)) : Room k (A.under (.builtin "type.__call__" ⟨.ref C :: us, kw⟩)) :=
  ⟨r.hd, by have := r.dp; rw [make_depth]; omega, by have := r.un; rw [make_units]; omega⟩
theorem Room.depth {k : Nat} {A : Around} (r : Room k A) : A.depth < recursionLimit := by have := r.dp; omega
theorem Room.units {k : Nat} {A : Around} (r : Room k A) : A.units + 64 < cLine := by have := r.un; omega
theorem Room.units0 {k : Nat} {A : Around} (r : Room k A) : A.units < cLine := by have := r.un; omega

/-! ### argument lists and displays -/
def tNil : TA := fun _ H Q => Q [] H
def tCons (ta : TE) (tr : TA) : TA := fun σ H Q => ta σ H fun x H1 => tr σ H1 fun xs H2 => Q (x :: xs) H2
section
variable {X : Cx} {e : Expr} {es : List Expr} {te : TE} {t : TA} {pos : Pos}
theorem pa_nil : PA X [] tNil := fun _ _ _ _ H Q I h => Calls.spliced_nil ⟨[], H, I, .nil, h⟩
theorem pa_cons (ha : PE X e te) (hr : PA X es t) (hs : starEach (e :: es) X.env = (false, eval e X.env) :: starEach es X.env := by rfl) : PA X (e :: es) (tCons te t) := by
  intro pos pins s σ H Q I h
  rw [hs]
  show wpAny _ _ (spliced ((false, eval e X.env) :: backTo pos (starEach es X.env))) _ _ s
  refine Calls.spliced_cons (thn (ha pins s σ H _ I h) fun u s1 ⟨x, H1, I1, r1, q1⟩ => ?_)
  exact thn (hr pos pins s1 σ H1 _ I1 q1) fun us s2 ⟨xs, H2, I2, r2, q2⟩ => ⟨x :: xs, H2, I2, .cons r1 r2, q2⟩

/-- a tuple, a list of written items -/
def tTup (t : TA) : TE := fun σ H Q => t σ H fun xs H1 => xs.length ≤ sizeLine ∧ ∀ p, H1 p = none → Q (.ref p) (upd H1 p (.tup xs))
def tLst (t : TA) : TE := fun σ H Q => t σ H fun xs H1 => xs.length ≤ sizeLine ∧ ∀ p, H1 p = none → Q (.ref p) (upd H1 p (.lst xs))
theorem pe_tup {x1} (h : PA X es t) : PE X (.Tuple es x1 pos) (tTup t) := by
  intro pins s σ H Q I hq
  refine wpAny_Tuple_spliced (thn (h pos pins s σ H _ I hq) fun us s1 ⟨xs, H1, I1, r, z, q⟩ => ⟨by rw [← r.length]; exact z, ?_⟩)
  have hf : H1 s1.heap.objs.size = none := I1.hok.fresh (Nat.le_refl _)
  refine ⟨.ref s1.heap.objs.size, upd H1 s1.heap.objs.size (.tup xs), I1.laid (t' := s1.toks) (fun b u e => Heap.get?_push_of_some _ e) (Nat.le_refl _) ?_, rfl, q _ hf⟩
  exact ⟨z, us, r, ⟨_, Heap.get?_push_size _ rfl, rfl, _, rfl⟩⟩
theorem pe_lst (h : PA X es t) : PE X (.List es pos) (tLst t) := by
  intro pins s σ H Q I hq
  refine wpAny_List_spliced (thn (h pos pins s σ H _ I hq) fun us s1 ⟨xs, H1, I1, r, z, q⟩ => ⟨by rw [← r.length]; exact z, ?_⟩)
  have hf : H1 s1.heap.objs.size = none := I1.hok.fresh (Nat.le_refl _)
  refine ⟨.ref s1.heap.objs.size, upd H1 s1.heap.objs.size (.lst xs), I1.laid (t' := s1.toks) (fun b u e => Heap.get?_push_of_some _ e) (Nat.le_refl _) ?_, rfl, q _ hf⟩
  exact ⟨z, us, 0, r, Heap.get?_push_size _ rfl⟩
end

/-! ### what a def promises -/
/-- a def's promise: the bound arguments in the parameters' order, the heap, the wanted end, the wanted exception -/
abbrev Sp := List V → Hp → VK → XK → Prop
/-- how an exception lies behind a call (file 08 gives it): the callers' frames, abstract heap and state ahead of the call, the wish, the exception, the state -/
abbrev CXT := List Env → Hp → Shared → XK → Value → Shared → Prop

/-- the state at a call -/
structure Env0 (P : Program) (w : World) (K : PySem.W.Frag) (mg : Str → Option Value) (base : Heap) (A : Around) (outer : List Env) (s : Shared) (H : Hp) : Prop where
  frames : A.frames = some outer
  mod : Mod K mg base
  bs : ∀ b o, base.get? b = some o → s.heap.get? b = some o ∧ H b = none
  bsz : base.objs.size ≤ s.heap.objs.size
  funs : s.heap.FunFrames base outer
  frf : ∀ b ∈ frs outer, H b = none
  hok : HOk P w H s.heap
  bare : AllBare s.gens
/-- a call's end -/
def CE (outer : List Env) (P : Program) (w : World) (H : Hp) (s : Shared) (Q : VK) (u : Value) (s' : Shared) : Prop :=
  ∃ v H', s'.os = s.os ∧ AllBare s'.gens ∧ Un (frs outer) [] H H' s.heap s'.heap ∧ HOk P w H' s'.heap ∧ RelV v u ∧ Q v H'
def CR (CX : CXT) (outer : List Env) (P : Program) (w : World) (H : Hp) (s : Shared) (Q : VK) (E : XK) (r : Result) (s' : Shared) : Prop :=
  match r with
  | .ok (.ret u) => CE outer P w H s Q u s'
  | .ok _ => False
  | .error e => CX outer H s E e s'
structure FnOk (P : Program) (w : World) (K : PySem.W.Frag) (mg : Str → Option Value) (base : Heap) (CX : CXT) (k : Nat) (f : Addr) (fd : FuncData) (ps : List Str) (sp : Sp) : Prop where
  len : ∀ vs H Q E, sp vs H Q E → vs.length = ps.length
  run : ∀ (A : Around) (outer : List Env) (s : Shared) (H : Hp) (args : Args) (us : List Value) (vs : List V) (Q : VK) (E : XK), Room k A → Env0 P w K mg base A outer s H → BindsTo s fd args (ps.zip us) → Vals vs us → sp vs H Q E →
    codeAny (model P w) A (.call (.ref f) args) (CR CX outer P w H s Q E) s
theorem FnOk.mono {P : Program} {w : World} {K : PySem.W.Frag} {mg : Str → Option Value} {base : Heap} {CX : CXT} {j k : Nat} {f : Addr} {fd : FuncData} {ps : List Str} {sp : Sp} (F : FnOk P w K mg base CX j f fd ps sp) (h : j ≤ k) :
    FnOk P w K mg base CX k f fd ps sp := ⟨F.len, fun A outer s H args us vs Q E hr => F.run A outer s H args us vs Q E (hr.mono h)⟩
/-- a weaker promise -/
theorem FnOk.imp {P : Program} {w : World} {K : PySem.W.Frag} {mg : Str → Option Value} {base : Heap} {CX : CXT} {k : Nat} {f : Addr} {fd : FuncData} {ps : List Str} {sp sp' : Sp} (F : FnOk P w K mg base CX k f fd ps sp)
    (h : ∀ vs H Q E, sp' vs H Q E → sp vs H Q E) : FnOk P w K mg base CX k f fd ps sp' :=
  ⟨fun vs H Q E q => F.len vs H Q E (h _ _ _ _ q), fun A outer s H args us vs Q E hr he hb hv hs => F.run A outer s H args us vs Q E hr he hb hv (h _ _ _ _ hs)⟩

theorem Env0.make {P : Program} {w : World} {K : PySem.W.Frag} {mg : Str → Option Value} {base : Heap} {A : Around} {outer : List Env} {s : Shared} {H : Hp} (e : Env0 P w K mg base A outer s H) (C : Addr) (us : List Value) (kw : List (Str × Value)) :
    Env0 P w K mg base (A.under (.builtin "type.__call__" ⟨.ref C :: us, kw⟩)) outer s H := ⟨by first | exact e.frames | (simpa [Around.under, Code.envs, Code.isFrame, pushEnvs] using e.frames), e.mod, e.bs, e.bsz, e.funs, e.frf, e.hok, e.bare⟩
theorem Env0.in1 {P : Program} {w : World} {K : PySem.W.Frag} {mg : Str → Option Value} {base : Heap} {A : Around} {outer : List Env} {s : Shared} {H : Hp} (e : Env0 P w K mg base A outer s H) :
    Env0 P w K mg base A.in1 outer s H := ⟨e.frames, e.mod, e.bs, e.bsz, e.funs, e.frf, e.hok, e.bare⟩

section
variable {X : Cx} {pins : List (Addr × Obj)} {σ : St} {H : Hp} {s s' : Shared}
/-- from a body: what a callee wants -/
theorem Inv.env0 (I : Inv X pins σ H s) : Env0 X.prog X.w X.K X.mg X.base X.A X.stack s H :=
  ⟨I.ok.frames, I.ok.mod, I.bs, Nat.le_trans I.ok.bsz I.sz, I.stack, I.stkFree, I.hok, I.bare⟩
/-- behind a call -/
theorem Inv.after {Q : VK} {u : Value} (I : Inv X pins σ H s) (h : CE X.stack X.prog X.w H s Q u s') : EP X pins σ Q u s' := by
  obtain ⟨v, H', os, bare, un, hok, r, q⟩ := h
  obtain ⟨hh, g, d, t, os'⟩ := s'
  obtain rfl : os' = s.os := os
  exact ⟨v, H', I.call (h' := hh) (g' := g) (d' := d) (t' := t) (ch := []) un hok bare (fun b z => absurd z (by simp)), r, q⟩
end

/-! ### calls -/
/-- f(..): the written arguments, then the defaults dvs; E: what is wanted of an exception -/
def tCall (sp : Sp) (dvs : List V) (E : XK) (t : TA) : TE := fun σ H Q => t σ H fun vs H1 => sp (vs ++ dvs) H1 Q E
/-- o.m(..) of an instance of the class at C -/
def tMeth (C : Addr) (m : Str) (sp : Sp) (dvs : List V) (E : XK) (ta : TE) (t : TA) : TE := fun σ H Q => ta σ H fun x H1 => ∃ a dx fs, x = .ref a ∧ H1 a = some (.ins C dx fs) ∧ fs.lookup m = none ∧
  t σ H1 fun vs H2 => sp (x :: (vs ++ dvs)) H2 Q E
/-- C(..): a new instance and its dict, then __init__ -/
def tMake (C : Addr) (sp : Sp) (dvs : List V) (E : XK) (t : TA) : TE := fun σ H Q => t σ H fun vs H1 => ∀ x dx, H1 x = none → H1 dx = none → dx ≠ x →
  sp (.ref x :: (vs ++ dvs)) (upd (upd H1 dx (.own x)) x (.ins C dx [])) (fun v H2 => v = .non ∧ Q (.ref x) H2) E

/-- how the parameters are bound: us the positional arguments, kw the keywords' values by name, ds the defaults that fill up -/
def Binds (K : PySem.W.Frag) (fd : FuncData) (ps : List Str) (ds : List Value) : Prop :=
  ∀ (s : Shared) (us : List Value), K.In s.heap → (us ++ ds).length = ps.length → BindsTo s fd ⟨us, []⟩ (ps.zip (us ++ ds))
/-- every parameter is given -/
theorem Binds.all {K : PySem.W.Frag} {fd : FuncData} {ps : List Str} (h : ∀ us : List Value, us.length = ps.length → bindArgs fd ⟨us, []⟩ = pure (ps.zip us)) : Binds K fd ps [] := fun s us _ hl => by
  rw [List.append_nil] at hl ⊢
  exact .of_eq (h us hl)

/-- an exception of a callee reaches what this body wants of exceptions -/
def Passes (CX : CXT) (X : Cx) (E : XK) : Prop := ∀ (pins : List (Addr × Obj)) (σ : St) (H : Hp) (s : Shared) (e : Value) (s' : Shared), Inv X pins σ H s → CX X.stack H s E e s' → X.xe e s'

section
variable {X : Cx} {CX : CXT} {k : Nat} {f C : Addr} {fd : FuncData} {ps : List Str} {sp : Sp} {dvs : List V} {ds : List Value} {E : XK} {x m : Str} {p pos apos : Pos} {e o : Expr} {es : List Expr} {ta : TE} {t : TA}

/-- the callee runs -/
theorem run_fn {pins : List (Addr × Obj)} {σ : St} {H : Hp} {s : Shared} {Q : VK} {us : List Value} {vs : List V} (F : FnOk X.prog X.w X.K X.mg X.base CX k f fd ps sp) (hr : Room k X.A) (hb : Binds X.K fd ps ds) (hd : Vals dvs ds) (hx : Passes CX X E)
    (I : Inv X pins σ H s) (r : Vals vs us) (h : sp (vs ++ dvs) H Q E) : wpAny (model X.prog X.w) X.A (call (.ref f) us) (EP X pins σ Q) X.xe s := by
  have r2 : Vals (vs ++ dvs) (us ++ ds) := r.append hd
  have hl : (us ++ ds).length = ps.length := by rw [← r2.length]; exact F.len _ _ _ _ h
  refine wpAny_call (codeAny_mono (F.run X.A X.stack s H ⟨us, []⟩ (us ++ ds) (vs ++ dvs) Q E hr I.env0 (hb s us I.kIn hl) r2 h) fun r s' hq => ?_)
  cases r with
  | error e => exact hx pins σ H s e s' I hq
  | ok fl =>
    cases fl with
    | ret u => exact I.after hq
    | next => exact False.elim hq
    | brk => exact False.elim hq
    | cont => exact False.elim hq

theorem pe_call (F : FnOk X.prog X.w X.K X.mg X.base CX k f fd ps sp) (hr : Room k X.A) (hg : Gl X x) (hm : X.mg x = some (.ref f)) (hk : PySem.W.keepIn X.K (.ref f) = true) (hb : Binds X.K fd ps ds) (hd : Vals dvs ds) (hx : Passes CX X E)
    (ha : PA X (e :: es) t) (hdb : (x == ("__debug__" : Str)) = false := by decide) (he : starEach (e :: es) X.env = (false, eval e X.env) :: starEach es X.env := by rfl) (hpl : (backTo pos (starEach es X.env)).any (·.1) = false := by rfl) :
    PE X (.Call (.Name x p) (e :: es) [] pos) (tCall sp dvs E t) := by
  intro pins s σ H Q I h
  refine wpAny_Call_Name_kw (ld_glob I hg hm ?_ hdb)
  refine PySem.W.callWith_K (h₀ := X.base) I.ok.mod.kin hk (thn (ha pos pins s σ H _ I h) fun us s1 ⟨vs, H1, I1, r, q⟩ => ⟨I1.kIn, ?_⟩) he hpl
  exact run_fn F hr hb hd hx I1 r q
theorem pe_call0 (F : FnOk X.prog X.w X.K X.mg X.base CX k f fd ps sp) (hr : Room k X.A) (hg : Gl X x) (hm : X.mg x = some (.ref f)) (hk : PySem.W.keepIn X.K (.ref f) = true) (hb : Binds X.K fd ps ds) (hd : Vals dvs ds) (hx : Passes CX X E)
    (hdb : (x == ("__debug__" : Str)) = false := by decide) : PE X (.Call (.Name x p) [] [] pos) (tCall sp dvs E tNil) := by
  intro pins s σ H Q I h
  refine wpAny_Call_Name_kw (ld_glob I hg hm ?_ hdb)
  exact PySem.W.callWith_K0 I.kIn hk (run_fn (us := []) F hr hb hd hx I .nil h)

/-- o.m(e, ..) -/
theorem pe_meth {pl : Sem Bool} (he : PE X o ta) (c : Cls X.K C) (hm : Meth X.K C m f) (F : FnOk X.prog X.w X.K X.mg X.base CX k f fd ps sp) (hr : Room k X.A) (hb : Binds X.K fd ps ds) (hd : Vals dvs ds) (hx : Passes CX X E) (ha : PA X (e :: es) t)
    (hst : starEach (e :: es) X.env = (false, eval e X.env) :: starEach es X.env := by rfl) (hpl : (backTo pos (starEach es X.env)).any (·.1) = false := by rfl)
    (ht : eval (.Call (.Attribute o m apos) (e :: es) [] pos) X.env = (do
      let ov ← eval o X.env
      standAt apos.atName
      let (f, first) ← holding [ov] (getMethod ov m pl)
      callWith pos f first (backTo pos (starEach (e :: es) X.env)) (backToKw pos (keywordEach [] X.env))) := by rfl) :
    PE X (.Call (.Attribute o m apos) (e :: es) [] pos) (tMeth C m sp dvs E ta t) := by
  intro pins s σ H Q I h
  refine PySem.W.methodCall_KW (pl := pl) (thn (he pins s σ H _ I h) fun u s1 ⟨x, H1, I1, rx, a, dx, fs, ex, ea, l, q⟩ => ?_) ht
  subst ex
  obtain rfl : u = Value.ref a := rx
  refine getmeth_ok I1 ea c hm l ?_
  refine PySem.W.callWith_K (first := [.ref a]) (h₀ := X.base) I.ok.mod.kin hm.kp (thn (ha pos pins s1 σ H1 _ I1 q) fun us s2 ⟨vs, H2, I2, r, q2⟩ => ⟨I2.kIn, ?_⟩) hst hpl
  exact run_fn (us := .ref a :: us) (vs := .ref a :: vs) F hr hb hd hx I2 (.cons rfl r) q2
/-- o.m() -/
theorem pe_meth0 {pl : Sem Bool} (he : PE X o ta) (c : Cls X.K C) (hm : Meth X.K C m f) (F : FnOk X.prog X.w X.K X.mg X.base CX k f fd ps sp) (hr : Room k X.A) (hb : Binds X.K fd ps ds) (hd : Vals dvs ds) (hx : Passes CX X E)
    (ht : eval (.Call (.Attribute o m apos) [] [] pos) X.env = (do
      let ov ← eval o X.env
      standAt apos.atName
      let (f, first) ← holding [ov] (getMethod ov m pl)
      callWith pos f first (backTo pos (starEach [] X.env)) (backToKw pos (keywordEach [] X.env))) := by rfl) :
    PE X (.Call (.Attribute o m apos) [] [] pos) (tMeth C m sp dvs E ta tNil) := by
  intro pins s σ H Q I h
  refine PySem.W.methodCall_KW (pl := pl) (thn (he pins s σ H _ I h) fun u s1 ⟨x, H1, I1, rx, a, dx, fs, ex, ea, l, q⟩ => ?_) ht
  subst ex
  obtain rfl : u = Value.ref a := rx
  refine getmeth_ok I1 ea c hm l ?_
  exact PySem.W.callWith_K0 (first := [.ref a]) I1.kIn hm.kp (run_fn (us := [.ref a]) (vs := [.ref a]) F hr hb hd hx I1 (.cons rfl .nil) q)

/-- what a class must have to be made -/
structure Mk (K : PySem.W.Frag) (C f : Addr) : Prop where
  makes : PySem.W.makesIn K C = true
  init : PySem.W.findIn K (.ref C) "__init__" = some (some (.ref f))
  fn : PySem.W.isFn K (.ref f) = true
  kp : PySem.W.keepIn K (.ref C) = true

theorem run_make {pins : List (Addr × Obj)} {σ : St} {H : Hp} {s : Shared} {Q : VK} {us : List Value} {vs : List V} (M : Mk X.K C f) (F : FnOk X.prog X.w X.K X.mg X.base CX k f fd ps sp) (hr : Room (k + 1) X.A) (hb : Binds X.K fd ps ds) (hd : Vals dvs ds)
    (hx : Passes CX X E) (I : Inv X pins σ H s) (r : Vals vs us)
    (h : ∀ x dx, H x = none → H dx = none → dx ≠ x → sp (.ref x :: (vs ++ dvs)) (upd (upd H dx (.own x)) x (.ins C dx [])) (fun v H2 => v = .non ∧ Q (.ref x) H2) E) :
    wpAny (model X.prog X.w) X.A (call (.ref C) us) (EP X pins σ Q) X.xe s := by
  have hq := h (s.heap.objs.size + 1) s.heap.objs.size (I.hok.fresh (Nat.le_succ _)) (I.hok.fresh (Nat.le_refl _)) (Nat.ne_of_lt (Nat.lt_succ_self _))
  have I2 := Inv.made (C := C) I
  have r2 : Vals (V.ref (s.heap.objs.size + 1) :: (vs ++ dvs)) (Value.ref (s.heap.objs.size + 1) :: (us ++ ds)) := .cons rfl (r.append hd)
  have hl : (Value.ref (s.heap.objs.size + 1) :: us ++ ds).length = ps.length := by
    have e := r2.length
    rw [F.len _ _ _ _ hq] at e
    exact e.symm
  refine wpAny_call (make_map (f := f) I.kIn M.makes M.init (beq_iff_eq.mp M.fn) (codeAny_mono (F.run _ X.stack _ _ ⟨Value.ref (s.heap.objs.size + 1) :: us, []⟩ (Value.ref (s.heap.objs.size + 1) :: (us ++ ds)) _ _ E (hr.make C us [])
    (I2.env0.make C us []) (hb _ (Value.ref (s.heap.objs.size + 1) :: us) I2.kIn hl) r2 hq) fun r s' hq' => ?_))
  cases r with
  | error e => exact hx pins σ _ _ e s' I2 hq'
  | ok fl =>
    cases fl with
    | ret u =>
      obtain ⟨v, H', I3, rv, ev, q3⟩ := I2.after hq'
      subst ev
      exact ⟨rv, ⟨V.ref (s.heap.objs.size + 1), H', I3, rfl, q3⟩⟩
    | next => exact False.elim hq'
    | brk => exact False.elim hq'
    | cont => exact False.elim hq'
theorem pe_make (M : Mk X.K C f) (F : FnOk X.prog X.w X.K X.mg X.base CX k f fd ps sp) (hr : Room (k + 1) X.A) (hg : Gl X x) (hm : X.mg x = some (.ref C)) (hb : Binds X.K fd ps ds) (hd : Vals dvs ds) (hx : Passes CX X E)
    (ha : PA X (e :: es) t) (hdb : (x == ("__debug__" : Str)) = false := by decide) (he : starEach (e :: es) X.env = (false, eval e X.env) :: starEach es X.env := by rfl) (hpl : (backTo pos (starEach es X.env)).any (·.1) = false := by rfl) :
    PE X (.Call (.Name x p) (e :: es) [] pos) (tMake C sp dvs E t) := by
  intro pins s σ H Q I h
  refine wpAny_Call_Name_kw (ld_glob I hg hm ?_ hdb)
  refine PySem.W.callWith_K (h₀ := X.base) I.ok.mod.kin M.kp (thn (ha pos pins s σ H _ I h) fun us s1 ⟨vs, H1, I1, r, q⟩ => ⟨I1.kIn, ?_⟩) he hpl
  exact run_make M F hr hb hd hx I1 r q
theorem pe_make0 (M : Mk X.K C f) (F : FnOk X.prog X.w X.K X.mg X.base CX k f fd ps sp) (hr : Room (k + 1) X.A) (hg : Gl X x) (hm : X.mg x = some (.ref C)) (hb : Binds X.K fd ps ds) (hd : Vals dvs ds) (hx : Passes CX X E)
    (hdb : (x == ("__debug__" : Str)) = false := by decide) : PE X (.Call (.Name x p) [] [] pos) (tMake C sp dvs E tNil) := by
  intro pins s σ H Q I h
  refine wpAny_Call_Name_kw (ld_glob I hg hm ?_ hdb)
  exact PySem.W.callWith_K0 I.kIn M.kp (run_make (us := []) M F hr hb hd hx I .nil h)
end

/-! ### keywords -/
/-- the values of the keywords, from the left -/
def PK (X : Cx) (kws : List Keyword) (t : TA) : Prop :=
  ∀ (pos : Pos) (pins : List (Addr × Obj)) (s : Shared) (σ : St) (H : Hp) (Q : List V → Hp → Prop), Inv X pins σ H s → t σ H Q → wpAny (model X.prog X.w) X.A (evalAll ((backToKw pos (keywordEach kws X.env)).map (·.2))) (AP X pins σ Q) X.xe s
section
variable {X : Cx} {CX : CXT} {k : Nat} {f C : Addr} {fd : FuncData} {ps ks : List Str} {sp : Sp} {E : XK} {x m : Str} {p pos apos kpos : Pos} {e o : Expr} {es : List Expr} {kws : List Keyword} {te ta : TE} {t tk : TA} {nm : Option Str}
theorem pk_nil : PK X [] tNil := fun _ _ _ _ H Q I h => wpAny_evalAll_nil ⟨[], H, I, .nil, h⟩
theorem pk_cons (ha : PE X e te) (hr : PK X kws t) : PK X (⟨nm, e, kpos⟩ :: kws) (tCons te t) := by
  intro pos pins s σ H Q I h
  show wpAny _ _ (evalAll ((do let v ← eval e X.env; standAt pos; pure v) :: (backToKw pos (keywordEach kws X.env)).map (·.2))) _ _ s
  refine wpAny_evalAll_cons (wpAny_bind (thn (ha pins s σ H _ I h) fun u s1 ⟨x, H1, I1, r1, q1⟩ => wpAny_bind (wpAny_standAt (wpAny_pure ?_))))
  exact thn (hr pos pins s1 σ H1 _ I1 q1) fun us s2 ⟨xs, H2, I2, r2, q2⟩ => ⟨x :: xs, H2, I2, .cons r1 r2, q2⟩

/-- how a call with keywords binds: g puts the positional values us and the keywords' values ws (names ks) in the parameters' order, defaults among them -/
structure KBinds (K : PySem.W.Frag) (fd : FuncData) (ps ks : List Str) (g : List Value → List Value → List Value) (gV : List V → List V → List V) : Prop where
  to : ∀ (s : Shared) (us ws : List Value), K.In s.heap → (g us ws).length = ps.length → BindsTo s fd ⟨us, ks.zip ws⟩ (ps.zip (g us ws))
  rel : ∀ {vs : List V} {us : List Value} {zs : List V} {ws : List Value}, Vals vs us → Vals zs ws → Vals (gV vs zs) (g us ws)
def tCallK (sp : Sp) (gV : List V → List V → List V) (E : XK) (t tk : TA) : TE := fun σ H Q => t σ H fun vs H1 => tk σ H1 fun zs H2 => sp (gV vs zs) H2 Q E
variable {g : List Value → List Value → List Value} {gV : List V → List V → List V}
theorem run_fnk {pins : List (Addr × Obj)} {σ : St} {H : Hp} {s : Shared} {Q : VK} {us ws : List Value} {vs zs : List V} (F : FnOk X.prog X.w X.K X.mg X.base CX k f fd ps sp) (hr : Room k X.A) (hb : KBinds X.K fd ps ks g gV) (hx : Passes CX X E)
    (I : Inv X pins σ H s) (r : Vals vs us) (rz : Vals zs ws) (h : sp (gV vs zs) H Q E) : wpAny (model X.prog X.w) X.A (call (.ref f) us (ks.zip ws)) (EP X pins σ Q) X.xe s := by
  have r2 := hb.rel r rz
  have hl : (g us ws).length = ps.length := by rw [← r2.length]; exact F.len _ _ _ _ h
  refine wpAny_call (codeAny_mono (F.run X.A X.stack s H ⟨us, ks.zip ws⟩ (g us ws) (gV vs zs) Q E hr I.env0 (hb.to s us ws I.kIn hl) r2 h) fun r s' hq => ?_)
  cases r with
  | error e => exact hx pins σ H s e s' I hq
  | ok fl =>
    cases fl with
    | ret u => exact I.after hq
    | next => exact False.elim hq
    | brk => exact False.elim hq
    | cont => exact False.elim hq
/-- f(e, .., k = v, ..) -/
theorem pe_callK (F : FnOk X.prog X.w X.K X.mg X.base CX k f fd ps sp) (hr : Room k X.A) (hg : Gl X x) (hm : X.mg x = some (.ref f)) (hk : PySem.W.keepIn X.K (.ref f) = true) (hb : KBinds X.K fd ps ks g gV) (hx : Passes CX X E)
    (ha : PA X (e :: es) t) (hkw : PK X kws tk) (hall : (backToKw pos (keywordEach kws X.env)).all (·.1.isSome) = true := by rfl) (hks : (backToKw pos (keywordEach kws X.env)).filterMap (·.1) = ks := by rfl)
    (hdb : (x == ("__debug__" : Str)) = false := by decide) (he : starEach (e :: es) X.env = (false, eval e X.env) :: starEach es X.env := by rfl)
    (hpl : ((backTo pos (starEach (e :: es) X.env)).any (·.1) || (backToKw pos (keywordEach kws X.env)).any (·.1.isNone)) = false := by rfl) :
    PE X (.Call (.Name x p) (e :: es) kws pos) (tCallK sp gV E t tk) := by
  intro pins s σ H Q I h
  refine wpAny_Call_Name_kw (ld_glob I hg hm ?_ hdb)
  refine PySem.W.callWith_KW (h₀ := X.base) I.ok.mod.kin hk hall (thn (ha pos pins s σ H _ I h) fun us s1 ⟨vs, H1, I1, r, q⟩ => ?_) hpl he
  refine thn (hkw pos pins s1 σ H1 _ I1 q) fun ws s2 ⟨zs, H2, I2, rz, q2⟩ => ⟨I2.kIn, ?_⟩
  rw [hks]
  exact run_fnk F hr hb hx I2 r rz q2
end

/-! ### a def's body keeps its promise -/
/-- names: the parameters first -/
structure FnScope (N P : List Str) (sc : Scope) : Prop where
  kind : sc.kind = .function
  co : sc.isCoroutine = false
  gen : sc.isGenerator = false
  nd : N.Nodup
  pre : N.take P.length = P
  par : ∀ x ∈ P, sc.names.lookup x = some .local ∨ sc.names.lookup x = some .cell
  nofree : ∀ y ∈ sc.names, y.2 ≠ .free

theorem bindL_out {kindOf : Str → Option NameKind} {x : Str} : ∀ {binds : List (Str × Value)} {m : Str → Option Value}, (∀ v, (x, v) ∉ binds) → bindL kindOf binds m x = m x
  | [], _, _ => rfl
  | (n, v) :: r, m, h => by
    unfold bindL
    rw [bindL_out fun w hw => h w (List.mem_cons_of_mem _ hw)]
    split
    · have : x ≠ n := by rintro rfl; exact h v List.mem_cons_self
      simp [this]
    · rfl
theorem bindC_out {kindOf : Str → Option NameKind} {x : Str} : ∀ {binds : List (Str × Value)} {m : Str → Option Value}, (∀ v, (x, v) ∉ binds) → bindC kindOf binds m x = m x
  | [], _, _ => rfl
  | (n, v) :: r, m, h => by
    unfold bindC
    rw [bindC_out fun w hw => h w (List.mem_cons_of_mem _ hw)]
    split
    · rfl
    · have : x ≠ n := by rintro rfl; exact h v List.mem_cons_self
      simp [this]
theorem bindL_get {kindOf : Str → Option NameKind} {x : Str} {v : Value} : ∀ {P : List Str} {vs : List Value} {i : Nat} {m : Str → Option Value}, P.Nodup → P[i]? = some x → vs[i]? = some v → kindOf x = some .local →
    bindL kindOf (P.zip vs) m x = some v
  | [], _, _, _, _, h, _, _ => by simp at h
  | _ :: _, [], _, _, _, _, h, _ => by simp at h
  | p :: P, w :: vs, 0, m, nd, h1, h2, hk => by
    simp at h1 h2; subst h1; subst h2
    show bindL kindOf ((p, w) :: P.zip vs) m p = _
    unfold bindL
    rw [bindL_out fun v hv => (List.nodup_cons.mp nd).1 (List.of_mem_zip hv).1, if_pos hk]
    simp
  | p :: P, w :: vs, i + 1, m, nd, h1, h2, hk => by
    show bindL kindOf ((p, w) :: P.zip vs) m x = _
    unfold bindL
    exact bindL_get (i := i) (List.nodup_cons.mp nd).2 (by simpa using h1) (by simpa using h2) hk
theorem bindC_get {kindOf : Str → Option NameKind} {x : Str} {v : Value} : ∀ {P : List Str} {vs : List Value} {i : Nat} {m : Str → Option Value}, P.Nodup → P[i]? = some x → vs[i]? = some v → kindOf x ≠ some .local →
    bindC kindOf (P.zip vs) m x = some v
  | [], _, _, _, _, h, _, _ => by simp at h
  | _ :: _, [], _, _, _, _, h, _ => by simp at h
  | p :: P, w :: vs, 0, m, nd, h1, h2, hk => by
    simp at h1 h2; subst h1; subst h2
    show bindC kindOf ((p, w) :: P.zip vs) m p = _
    unfold bindC
    rw [bindC_out fun v hv => (List.nodup_cons.mp nd).1 (List.of_mem_zip hv).1, if_neg hk]
    simp
  | p :: P, w :: vs, i + 1, m, nd, h1, h2, hk => by
    show bindC kindOf ((p, w) :: P.zip vs) m x = _
    unfold bindC
    exact bindC_get (i := i) (List.nodup_cons.mp nd).2 (by simpa using h1) (by simpa using h2) hk

/-- the names' values at the entry -/
def start (N : List Str) (vs : List V) : St := vs.map some ++ List.replicate (N.length - vs.length) none

/-- the context of a def's body, at its entry; an exception leaves the frame, then lies as CX says -/
def cxOf (CX : CXT) (P : Program) (w : World) (K : PySem.W.Frag) (mg : Str → Option Value) (base : Heap) (N : List Str) (qual : Str) (scope : Scope) (f : Addr) (cd : Value) (A : Around) (outer : List Env) (s : Shared) (H : Hp) (E : XK) : Cx where
  prog := P
  w := w
  K := K
  mg := mg
  base := base
  A := A.deeper (envOfC qual scope s.heap.objs.size f cd)
  N := N
  s₀ := s
  H₀ := H
  env := envOfC qual scope s.heap.objs.size f cd
  outer := outer
  stack := envOfC qual scope s.heap.objs.size f cd :: outer
  ex := []
  calm := true
  fn := fun _ => true
  pn := []
  xe := fun e s' => wpAny (model P w) (A.deeper (envOfC qual scope s.heap.objs.size f cd)) (leaving (envOfC qual scope s.heap.objs.size f cd) e) (fun _ s'' => CX outer H s E e s'') (fun e' s'' => CX outer H s E e' s'') s'

theorem cell_has {sc : Scope} {n : Nat} {x : Str} (h : sc.names.lookup x = some .cell) : ∃ c, (cellsFrom n sc.names []).lookup x = some c := by
  have q := PySem.W.cellsFrom_some sc.names n [] (.inl h)
  exact Option.isSome_iff_exists.mp q

theorem inv_start {CX : CXT} {P : Program} {w : World} {K : PySem.W.Frag} {mg : Str → Option Value} {base : Heap} {N ps : List Str} {qual : Str} {scope : Scope} {f : Addr} {cd : Value} {A : Around} {outer : List Env} {s s1 : Shared} {H : Hp} {E : XK} {us : List Value} {vs : List V}
    (S : FnScope N ps scope) (hd : A.handled = none) (e0 : Env0 P w K mg base A outer s H) (hl : vs.length = ps.length) (r : Vals vs us)
    (x : InCallC s s.heap.objs.size (bindL (envOfC qual scope s.heap.objs.size f cd).kindOf (ps.zip us) fun _ => none) (cellsFrom (s.heap.objs.size + 1) scope.names []) (bindC (envOfC qual scope s.heap.objs.size f cd).kindOf (ps.zip us) fun _ => none) s1) :
    Inv (cxOf CX P w K mg base N qual scope f cd A outer s H E) [] (start N vs) H s1 := by
  have hpl : ps.length ≤ N.length := by have := congrArg List.length S.pre; rw [List.length_take] at this; omega
  obtain ⟨h1, tk, rfl, hk⟩ := x.done
  have noA : ∀ b : Addr, b ∉ (cxOf CX P w K mg base N qual scope f cd A outer s H E).ex := fun b z => absurd (show b ∈ ([] : List Addr) from z) (by simp)
  refine ⟨⟨e0.mod, S.kind, rfl, rfl, Nat.le_refl _, fun y z c h1 h2 => ?_, fun y hy => ?_, fun y c _ h => ?_, fun _ => hd, Around.frames_deeper e0.frames, .inr ⟨rfl, rfl⟩, fun b z => absurd z (noA b), e0.bs, e0.bsz, fun b _ _ => noA b, fun b z => absurd z (noA b), e0.funs, e0.frf⟩,
    rfl, e0.bare, Un.kept hk, ⟨_, x.toInCall.ns, fun i y v h1 h2 h3 => ?_⟩, fun y c h => ⟨_, x.cell y c h⟩, e0.hok.fresh (Nat.le_refl _), fun y c h => ?_, fun p hp => absurd (show p ∈ ([] : List (Addr × Obj)) from hp) (by simp), e0.hok.kept hk, ?_⟩
  · exact name_of_addr x.apart (PySem.mem_of_lookup h1) (PySem.mem_of_lookup h2)
  · have hy : scope.names.lookup y = some .cell ∨ scope.names.lookup y = some .free := hy
    rcases hy with hy | hy
    · exact cell_has hy
    · exact absurd rfl (S.nofree _ (PySem.mem_of_lookup hy))
  · exact Nat.le_of_lt (x.above y c (PySem.mem_of_lookup h))
  · have hi : i < vs.length := by
      unfold start at h2
      by_cases hi : i < vs.length
      · exact hi
      · rw [List.getElem?_append_right (by simpa using hi)] at h2
        rw [List.getElem?_replicate] at h2
        split at h2 <;> cases h2
    have ha : vs[i]? = some v := by
      unfold start at h2
      rw [List.getElem?_append_left (by simpa using hi), List.getElem?_map] at h2
      cases e : vs[i]? with
      | none => rw [e] at h2; cases h2
      | some a => rw [e] at h2; cases h2; rfl
    obtain ⟨u, hu, rv⟩ := r.get ha
    have hp : ps[i]? = some y := by
      rw [← S.pre, List.getElem?_take_of_lt (by omega)]; exact h1
    have ndP : ps.Nodup := by rw [← S.pre]; exact S.nd.sublist (List.take_sublist _ _)
    refine ⟨u, rv, ?_⟩
    rcases S.par y (List.mem_of_getElem? hp) with k | k
    · exact .inl ⟨k, bindL_get ndP hp hu k⟩
    · obtain ⟨c, e⟩ := cell_has (n := s.heap.objs.size + 1) k
      refine .inr ⟨.inl k, c, e, ?_⟩
      have q := x.cell y c e
      rw [bindC_get ndP hp hu (by show scope.names.lookup y ≠ _; rw [k]; decide)] at q
      exact q
  · exact e0.hok.fresh (Nat.le_of_lt (x.above y c (PySem.mem_of_lookup h)))
  · unfold start
    show _ = N.length
    rw [List.length_append, List.length_map, List.length_replicate]
    omega

/-- THE RULE: a def (or a method) of the text, by its body. The body's reading t is chosen for each entry; it is run at the parameters' values -/
theorem fn_of {CX : CXT} {P : Program} {w : World} {K : PySem.W.Frag} {mg : Str → Option Value} {base : Heap} {k : Nat} {f : Addr} {name qual : Str} {params : Arguments} {body : List Stmt} {scope : Scope} {dV kV doc pm cdv ct oc : Value} {an od : Option Addr}
    {osl : Array (Option Value)} {N ps : List Str} {sp : Sp} (lk : K.lookup f = some ⟨oc, od, .func (PySem.W.fnOf name qual params body scope dV kV doc pm an cdv ct), osl⟩) (hcd : PySem.W.codeIn K cdv qual = true) (S : FnScope N ps scope)
    (len : ∀ vs H Q E, sp vs H Q E → vs.length = ps.length)
    (hbody : ∀ (A : Around) (outer : List Env) (s : Shared) (H : Hp) (vs : List V) (Q : VK) (E : XK), Room k (A.deeper (envOfC qual scope s.heap.objs.size f cdv)) → sp vs H Q E →
      ∃ t, PSs (cxOf CX P w K mg base N qual scope f cdv A outer s H E) body t ∧ t { nx := fun _ H' => Q .non H', rt := Q } (start N vs) H) :
    FnOk P w K mg base CX (k + 1) f (PySem.W.fnOf name qual params body scope dV kV doc pm an cdv ct) ps sp := by
  refine ⟨len, fun A outer s H args us vs Q E hr e0 hb r hsp => ?_⟩
  have hl := len _ _ _ _ hsp
  have KX : K.In s.heap := e0.mod.kin.keeps fun b o e => (e0.bs b o e).1
  have lim : s.heap.NoLimit := e0.mod.nolimit.keeps fun b o e => (e0.bs b o e).1
  have hkind : ∀ y ∈ ps.zip us, scope.names.lookup y.1 = some .local ∨ (scope.names.lookup y.1 = some .cell ∧ ((cellsFrom (s.heap.objs.size + 1) scope.names []).lookup y.1).isSome = true) := fun ⟨n, v⟩ hy => by
    rcases S.par n (List.of_mem_zip hy).1 with q | q
    · exact .inl q
    · exact .inr ⟨q, PySem.W.cellsFrom_some _ _ _ (.inl q)⟩
  refine codeAny_call_function hr.depth (KX _ _ lk) rfl S.co S.gen rfl (PySem.W.codeRec_of KX hcd) (hb _ _ _ _ ?_)
  refine wpAny_newFunctionEnv_cells S.kind hkind fun env he s1 x => ?_
  subst he
  refine ⟨lim.keeps x.toInCall.keep, codeAny_func ?_⟩
  obtain ⟨t, ht, hq⟩ := hbody A outer s H vs Q E (hr.deeper _) hsp
  have I : Inv (cxOf CX P w K mg base N qual scope f cdv A outer s H E) [] (start N vs) H s1 := inv_start S hr.hd e0 hl r x
  refine wpAny_mono (ht [] s1 (start N vs) H _ I hq) (fun fl s' hs => ?_) fun e s' hs => hs
  have fin : ∀ {σ' : St} {H' : Hp} {v : V} {u : Value}, Inv (cxOf CX P w K mg base N qual scope f cdv A outer s H E) [] σ' H' s' → RelV v u → Q v H' → CE outer P w H s Q u s' :=
    fun {σ' H' v u} J rv q => ⟨v, H', J.os, J.bare, J.base, J.hok, rv, q⟩
  cases fl with
  | ret u =>
    obtain ⟨v, σ', H', J, rv, q⟩ := hs
    exact fin J rv q
  | next =>
    obtain ⟨σ', H', J, q⟩ := hs
    exact fin (v := V.non) (u := Value.none) J rfl q
  | brk =>
    obtain ⟨_, _, _, q⟩ := hs
    exact False.elim q
  | cont =>
    obtain ⟨_, _, _, q⟩ := hs
    exact False.elim q
end L2

namespace L2
open PySem PySem.Spec PyProof.Rows
section
variable {X : Cx} {x : Str} {p pos : Pos} {e : Expr} {es : List Expr} {t : TA} {id T : String} {r : List V → Hp → VK → Prop}

def tCB (r : List V → Hp → VK → Prop) (t : TA) : TE := fun σ H Q => t σ H fun vs H1 => r vs H1 Q
/-- f(e, ..), f a built-in function -/
theorem pe_callB (hc : CallR X (.builtin id) r) (hg : Gl X x) (hm : X.mg x = none) (hv : bootBuiltins x = some (.builtin id)) (ha : PA X (e :: es) t) (hn : x ≠ "__name__" := by decide) (hdb : (x == ("__debug__" : Str)) = false := by decide)
    (he : starEach (e :: es) X.env = (false, eval e X.env) :: starEach es X.env := by rfl) (hpl : (backTo pos (starEach es X.env)).any (·.1) = false := by rfl) : PE X (.Call (.Name x p) (e :: es) [] pos) (tCB r t) := by
  intro pins s σ H Q I h
  refine wpAny_Call_Name_kw (ld_blt I hg hm hv ?_ hn hdb)
  exact PyProof.Rows.callWith_builtin1 (thn (ha pos pins s σ H _ I h) fun us s1 ⟨vs, H1, I1, r1, q1⟩ => hc pins s1 σ H1 vs us Q I1 r1 q1) he hpl
/-- T(e, ..), T a built-in type -/
theorem pe_callTy (hc : CallR X (.type T) r) (hg : Gl X x) (hm : X.mg x = none) (hv : bootBuiltins x = some (.type T)) (ha : PA X (e :: es) t) (hn : x ≠ "__name__" := by decide) (hdb : (x == ("__debug__" : Str)) = false := by decide)
    (he : starEach (e :: es) X.env = (false, eval e X.env) :: starEach es X.env := by rfl) (hpl : (backTo pos (starEach es X.env)).any (·.1) = false := by rfl) : PE X (.Call (.Name x p) (e :: es) [] pos) (tCB r t) := by
  intro pins s σ H Q I h
  refine wpAny_Call_Name_kw (ld_blt I hg hm hv ?_ hn hdb)
  exact PyProof.Rows.callWith_type1 (thn (ha pos pins s σ H _ I h) fun us s1 ⟨vs, H1, I1, r1, q1⟩ => hc pins s1 σ H1 vs us Q I1 r1 q1) he hpl
/-- T() -/
theorem pe_callTy0 (hc : CallR X (.type T) r) (hg : Gl X x) (hm : X.mg x = none) (hv : bootBuiltins x = some (.type T)) (hn : x ≠ "__name__" := by decide) (hdb : (x == ("__debug__" : Str)) = false := by decide) :
    PE X (.Call (.Name x p) [] [] pos) (tCB r tNil) := by
  intro pins s σ H Q I h
  refine wpAny_Call_Name_kw (ld_blt I hg hm hv ?_ hn hdb)
  exact PyProof.Rows.callWith_type0 (hc pins s σ H [] [] Q I .nil h)
end
end L2

namespace HT
open PySem PyProof.Rows

/-- t < u of tuples of ints -/
def lexLt : List Int → List Int → Bool
  | [], [] => false
  | [], _ :: _ => true
  | _ :: _, [] => false
  | x :: xs, y :: ys => if x = y then lexLt xs ys else decide (x < y)
theorem lexLt_cons (x y : Int) (xs ys : List Int) : lexLt (x :: xs) (y :: ys) = if x = y then lexLt xs ys else decide (x < y) := rfl
theorem lexLt_nil_nil : lexLt [] [] = false := rfl
theorem lexLt_nil_cons (y : Int) (ys : List Int) : lexLt [] (y :: ys) = true := rfl
theorem lexLt_cons_nil (x : Int) (xs : List Int) : lexLt (x :: xs) [] = false := rfl

theorem eqAt_int (A : Around) (s : Shared) (a : Int) (t : Tok) (c : Int) (u : Tok) : ∃ e, SeqAt.EqAt A s (.int a t) (.int c u) e ∧ (e = true ↔ a = c) :=
  ⟨(a == c), SeqAt.EqAt.int_int a t c u, by simp⟩
theorem rcLt_int (A : Around) (s : Shared) (a : Int) (t : Tok) (c : Int) (u : Tok) (prog : Program) (w : World) (E : Value → Shared → Prop) (Q : Value → Shared → Prop) (h : Q (.bool (decide (a < c))) s) :
    wpAny (model prog w) A (richCompare .Lt (.int a t) (.int c u)) Q E s :=
  (PyProof.Rows.lt_int h : wpAny (model prog w) A (compareOp .Lt (.int a t) (.int c u)) Q E s)

section
open PySem.SeqAt
open PySem.AutoSeq1 (wpAny_loadPart')
open PySem.MeetsSeq PySem.MeetsSeq2 PySem.MeetsSeq3

theorem tuple_lt_ints (l b : Addr) (items items2 : Array Value) (n n2 : Nat) (dd dd2 : Option Addr) (sl sl2 : Array (Option Value)) (ns ms : List Int) (hi : IntsAre items.toList ns) (hj : IntsAre items2.toList ms) :
    Meets (Builtin.«tuple.__lt__» ⟨[.ref l, .ref b], []⟩)
      (fun _ R s => s.heap.get? l = some { cls := .type "tuple", dict := dd, data := .seq items n, slots := sl } ∧ s.heap.get? b = some { cls := .type "tuple", dict := dd2, data := .seq items2 n2, slots := sl2 } ∧
        R (.ok (.ret (.bool (lexLt ns ms)))) s) :=
  .of_wp fun prog w A R s h => by
    obtain ⟨hp, g, d, tk, os⟩ := s; obtain ⟨hl, hb, h⟩ := h
    have f2 := AutoSeq1.sub_tuple_tuple
    have z1 : items.size = ns.length := by rw [← hi.length]; simp
    have z2 : items2.size = ms.length := by rw [← hj.length]; simp
    wp_walk using wpAny_loadPart' hl, wpAny_loadPart' hb, wpAny_forIn_list _ (fun rest b s' => b.1 = none ∧ s' = ⟨hp, g, d, tk, os⟩ ∧ ∃ (vs ws : List Value) (ns' ms' : List Int), rest = vs.zip ws ∧
      IntsAre vs ns' ∧ IntsAre ws ms' ∧ ns'.length + items2.size = ms'.length + items.size ∧ R (.ok (.ret (.bool (lexLt ns' ms')))) ⟨hp, g, d, tk, os⟩) _
    case turn =>
      rintro ⟨y, x⟩ rest b s' ⟨hb', rfl, vs, ws, ns', ms', hz, hvi, hwi, hlen, hR⟩
      cases hvi with
      | nil => rw [List.zip_nil_left] at hz; cases hz
      | cons a t hvi' =>
        cases hwi with
        | nil => rw [List.zip_nil_right] at hz; cases hz
        | cons c u hwi' =>
          rw [List.zip_cons_cons] at hz
          injection hz with hyx hrest
          injection hyx with hy hx
          subst hy hx
          rw [lexLt_cons] at hR
          simp only [List.length_cons] at hlen
          obtain ⟨e, he, hiff⟩ := eqAt_int A.in1 ⟨hp, g, d, tk, os⟩ a t c u
          refine wpAny_bind (he prog w _ _ ?_)
          cases e with
          | true =>
            rw [if_pos (hiff.mp rfl)] at hR
            wp_walk
            exact ⟨rfl, rfl, _, _, _, _, hrest, hvi', hwi', by omega, hR⟩
          | false =>
            rw [if_neg (fun q => absurd (hiff.mpr q) Bool.false_ne_true)] at hR
            have hri := rcLt_int A.in1 ⟨hp, g, d, tk, os⟩ a t c u prog w
            wp_walk using hri
            exact ⟨_, rfl, by simpa using hR⟩
    case fin =>
      rintro ⟨b1, b2⟩ s' ⟨hb', rfl, vs, ws, ns', ms', hz, hvi, hwi, hlen, hR⟩
      simp only at hb'
      subst hb'
      have hv : lexLt ns' ms' = decide (items.size < items2.size) := by
        cases hvi with
        | nil =>
          cases hwi with
          | nil =>
            simp only [List.length_nil] at hlen
            rw [lexLt_nil_nil]
            exact (decide_eq_false (by omega)).symm
          | cons c u hw =>
            simp only [List.length_nil, List.length_cons] at hlen
            rw [lexLt_nil_cons]
            exact (decide_eq_true (by omega)).symm
        | cons a t hv =>
          cases hwi with
          | nil =>
            simp only [List.length_nil, List.length_cons] at hlen
            rw [lexLt_cons_nil]
            exact (decide_eq_false (by omega)).symm
          | cons c u hw =>
            rw [List.zip_cons_cons] at hz
            cases hz
      rw [hv] at hR
      wp_walk
      exact ⟨_, rfl, by simpa [Builtin.Tuple.tupleCompareSizes] using hR⟩
    case h =>
      exact ⟨rfl, rfl, items.toList, items2.toList, ns, ms, rfl, hi, hj, by omega, h⟩
end

section
variable {prog : Program} {w : World} {A : Around} {E : Value → Shared → Prop} {s : Shared}

theorem lt_tupInts {l b : Addr} {items items2 : Array Value} {ns ms : List Int} {Q : Value → Shared → Prop} (hl : IsTup s.heap l items) (hb : IsTup s.heap b items2) (hi : IntsAre items.toList ns) (hj : IntsAre items2.toList ms)
    (hu : A.units < cLine) (h : Q (.bool (lexLt ns ms)) s) : wpAny (model prog w) A (compareOp .Lt (.ref l) (.ref b)) Q E s := by
  obtain ⟨⟨cls, dd, data, sl⟩, ho, hc, n, hd⟩ := id hl
  obtain ⟨⟨cls2, dd2, data2, sl2⟩, ho2, hc2, n2, hd2⟩ := id hb
  simp only at hc hd hc2 hd2
  subst hc hd hc2 hd2
  exact richCompare_meets_room (op := .Lt) ⟨_, ho, rfl⟩ ⟨_, ho2, rfl⟩ PySem.F.slot_tuple_lt PySem.F.entry_tuple_lt (PySem.F.args_tuple_lt_2 _ _) (tuple_lt_ints l b items items2 n n2 dd dd2 sl sl2 ns ms hi hj)
    ⟨ho, ho2, show Value.bool (lexLt ns ms) ≠ Value.notImplemented ∧ Q (.bool (lexLt ns ms)) s from ⟨(fun x => nomatch x), h⟩⟩ hu

/-- t + u, t not empty -/
theorem cat_tup {t b : Addr} {vs ws : List Value} {Q : Value → Shared → Prop} (ht : IsTup s.heap t vs.toArray) (hb : IsTup s.heap b ws.toArray) (hv : vs ≠ [])
    (h1 : ws = [] → Q (.ref t) s) (h2 : ws ≠ [] → Q (.ref s.heap.objs.size) { s with heap := s.heap.push { cls := .type "tuple", data := .seq (vs ++ ws).toArray } })
    (hsz : vs.length + ws.length ≤ sizeLine) : wpAny (model prog w) A (binaryOp .Add (.ref t) (.ref b)) Q E s := by
  obtain ⟨⟨cls, dd, data, sl⟩, ho, hc, n, hd⟩ := id ht
  obtain ⟨⟨cls2, dd2, data2, sl2⟩, ho2, hc2, n2, hd2⟩ := id hb
  simp only at hc hd hc2 hd2
  subst hc hd hc2 hd2
  have e : vs.toArray ++ ws.toArray = (vs ++ ws).toArray := by simp
  by_cases hw : ws = []
  · exact concat_meets ⟨_, ho, rfl⟩ ⟨_, ho2, rfl⟩ noFill_tuple_add seq_tuple_add PySem.F.slot_tuple_add PySem.F.entry_tuple_add (PySem.F.args_tuple_add_2 _ _)
      (tuple_addW1 t b vs.toArray ws.toArray n n2 dd dd2 sl sl2 (by simpa using hv) (by simp [hw])) ⟨ho, ho2, h1 hw⟩
  · refine concat_meets ⟨_, ho, rfl⟩ ⟨_, ho2, rfl⟩ noFill_tuple_add seq_tuple_add PySem.F.slot_tuple_add PySem.F.entry_tuple_add (PySem.F.args_tuple_add_2 _ _)
      (tuple_addW2 t b vs.toArray ws.toArray n n2 dd dd2 sl sl2 (by simpa using hv) (by simpa using hw) (by rw [List.size_toArray, List.size_toArray]; exact hsz)) ⟨ho, ho2, ?_⟩
    rw [e]
    exact h2 hw

/-! ### t[a:b], not the whole -/
/-- a slice's bound as a place among n (d where it is left out) -/
def sIx (n d : Nat) : Option Int → Nat
  | none => d
  | some v => if v < 0 then (v + (n : Int)).toNat else min v.toNat n
theorem sIx_none (n d : Nat) : sIx n d none = d := rfl
theorem sIx_nat (n d k : Nat) : sIx n d (some (k : Int)) = min k n := by
  show (if (k : Int) < 0 then ((k : Int) + (n : Int)).toNat else min (k : Int).toNat n) = min k n
  rw [if_neg (by omega), Int.toNat_natCast]
theorem sIx_le (n d : Nat) (hd : d ≤ n) (o : Option Int) : sIx n d o ≤ n := by
  cases o with
  | none => exact hd
  | some v =>
    show (if v < 0 then (v + (n : Int)).toNat else min v.toNat n) ≤ n
    by_cases hv : v < 0
    · rw [if_pos hv]; omega
    · rw [if_neg hv]; exact Nat.min_le_right _ _
theorem clip_eq (v : Int) (n d : Nat) : (if v < 0 then max (v + (n : Int)) 0 else min v (n : Int)) = ((sIx n d (some v) : Nat) : Int) := by
  show (if v < 0 then max (v + (n : Int)) 0 else min v (n : Int)) = (((if v < 0 then (v + (n : Int)).toNat else min v.toNat n) : Nat) : Int)
  by_cases hv : v < 0
  · simp only [if_pos hv]; omega
  · simp only [if_neg hv]; omega
theorem adjust_gen (lo hi : Option Int) (n : Nat) : Builtin.Slice.sliceAdjust lo hi 1 (n : Int) = (((sIx n 0 lo : Nat) : Int), ((sIx n n hi : Nat) : Int)) := by
  have h1 : ¬ ((1 : Int) < 0) := by omega
  unfold Builtin.Slice.sliceAdjust
  simp only [h1, if_false]
  refine Prod.ext ?_ ?_
  · cases lo with
    | none => rfl
    | some v => exact clip_eq v n 0
  · cases hi with
    | none => rfl
    | some v => exact clip_eq v n n
theorem places_gen (i j : Nat) : Builtin.Slice.slicePlaces (i : Int) (j : Int) 1 = j - i := by
  unfold Builtin.Slice.slicePlaces
  have h1 : (1 : Int) > 0 := by omega
  simp only [h1, if_true, Int.ediv_one]
  split <;> omega
theorem slicePart_ {v : Value} {o : Option Int} {Q : Option Int → Shared → Prop} (p : IsPart v o) (h : Q o s) : wpAny (model prog w) A (Builtin.Slice.slicePartIndex v) Q E s := by
  cases p with
  | none => exact slicePart_none h
  | int i t => exact slicePart_int h
theorem sliceApplied_gen {sl : Addr} {vl vu : Value} {lo hi : Option Int} {n : Nat} {Q : Int × Int × Nat → Shared → Prop} (hs : s.heap.IsSliceOf sl vl vu .none) (pl : IsPart vl lo) (pu : IsPart vu hi)
    (h : Q (((sIx n 0 lo : Nat) : Int), 1, sIx n n hi - sIx n 0 lo) s) : wpAny (model prog w) A (Builtin.Slice.sliceApplied (.ref sl) (pure (n : Int))) Q E s := by
  obtain ⟨os, hos, hcs, hds⟩ := id hs
  unfold Builtin.Slice.sliceApplied Builtin.Slice.sliceFields
  refine wpAny_bind (wpAny_bind (wpAny_field hos hds (x := vl) rfl (wpAny_bind (wpAny_field hos hds (x := vu) rfl (wpAny_bind (wpAny_field hos hds (x := .none) rfl (wpAny_pure ?_)))))))
  refine wpAny_bind (slicePart_none ?_)
  show wpAny _ _ (if ((1 : Int) == 0) = true then _ else _) _ _ s
  rw [if_neg (by decide)]
  refine wpAny_bind (slicePart_ pl (wpAny_bind (slicePart_ pu (wpAny_bind (wpAny_pure ?_)))))
  show wpAny _ _ (match Builtin.Slice.sliceAdjust lo hi 1 (n : Int) with | (lo, hi) => pure (lo, (1 : Int), Builtin.Slice.slicePlaces lo hi 1)) _ _ s
  rw [adjust_gen lo hi n]
  show wpAny _ _ (pure (((sIx n 0 lo : Nat) : Int), (1 : Int), Builtin.Slice.slicePlaces ((sIx n 0 lo : Nat) : Int) ((sIx n n hi : Nat) : Int) 1)) _ _ s
  rw [places_gen]
  exact wpAny_pure h
theorem pick_gen (xs : Array Value) (i k : Nat) : ((List.range k).filterMap fun (m : Nat) => xs[((i : Int) + (m : Int) * 1).toNat]?).toArray = ((xs.toList.drop i).take k).toArray := by
  have e : (fun (m : Nat) => xs[((i : Int) + (m : Int) * 1).toNat]?) = fun m => xs[i + m]? := by
    funext m
    have : ((i : Int) + (m : Int) * 1).toNat = i + m := by omega
    rw [this]
  rw [e]
  have := pick_run xs i k
  rw [List.filterMap_map] at this
  have e2 : ((fun x => xs[x]?) ∘ fun x => i + x) = fun m => xs[i + m]? := rfl
  rw [e2] at this
  rw [this]

theorem getItem_tuple_cut {t sl : Addr} {items : Array Value} {vl vu : Value} {lo hi : Option Int} {Q : Value → Shared → Prop} (ht : IsTup s.heap t items) (hs : s.heap.IsSliceOf sl vl vu .none) (pl : IsPart vl lo) (pu : IsPart vu hi)
    (hw : ¬ (sIx items.size 0 lo = 0 ∧ sIx items.size items.size hi = items.size))
    (h : Q (.ref s.heap.objs.size) { s with heap := s.heap.push { cls := .type "tuple", data := .seq ((items.toList.drop (sIx items.size 0 lo)).take (sIx items.size items.size hi - sIx items.size 0 lo)).toArray } })
    (hsz : items.size ≤ sizeLine) : wpAny (model prog w) A (getItem (.ref t) (.ref sl)) Q E s := by
  have htake : sizeOk (.seq ((items.toList.drop (sIx items.size 0 lo)).take (sIx items.size items.size hi - sIx items.size 0 lo)).toArray) := by
    show ((items.toList.drop (sIx items.size 0 lo)).take (sIx items.size items.size hi - sIx items.size 0 lo)).toArray.size ≤ sizeLine
    rw [List.size_toArray, List.length_take, List.length_drop, Array.length_toList]
    omega
  have hj : sIx items.size items.size hi ≤ items.size := sIx_le _ _ (Nat.le_refl _) hi
  obtain ⟨os, hos, hcs, hds⟩ := id hs
  have hTs : s.TypeIs (.ref sl) "slice" := ⟨os, hos, hcs⟩
  unfold getItem
  try with_reducible refine wpAny_holding ?_
  first | refine wpAny_bind (wpAny_pure ?_) | skip
  refine wpAny_bind (wpAny_sequenceKey ht.typeIs (by decide) ?_)
  refine wpAny_bind (wpAny_callSpecial?_slot (name := Str.ofString "__getitem__") ht.typeIs PyProof.Rows.slot_tuple_getitem
    (wpAny_call_entry PyProof.Rows.slot_tuple_getitem ht.typeIs entry_tuple_getitem ?_ (args_tuple_getitem _ _)))
  show wpAny _ _ (Builtin.Tuple.tupleItemsOf (.ref t) >>= _) _ _ s
  refine wpAny_bind (tupleItemsOf_ ht ?_)
  refine wpAny_bind (wpAny_typeOf hTs ?_)
  rw [if_pos (by decide)]
  refine wpAny_bind (sliceApplied_gen hs pl pu ?_)
  have hno : ¬ ((((sIx items.size 0 lo : Nat) : Int) == 0 && (1 : Int) == 1 && (sIx items.size items.size hi - sIx items.size 0 lo) == items.size) = true) := by
    intro q
    rw [Bool.and_eq_true, Bool.and_eq_true] at q
    have q1 : ((sIx items.size 0 lo : Nat) : Int) = 0 := eq_of_beq q.1.1
    have q2 : sIx items.size items.size hi - sIx items.size 0 lo = items.size := eq_of_beq q.2
    exact hw ⟨by omega, by omega⟩
  show wpAny _ _ (if (((sIx items.size 0 lo : Nat) : Int) == 0 && (1 : Int) == 1 && (sIx items.size items.size hi - sIx items.size 0 lo) == items.size) = true then _ else _) _ _ s
  rw [if_neg hno, pick_gen]
  first
    | exact wpAny_bind (m := Builtin.Tuple.tupleExact _) (wpAny_newObj_type (wpAny_pure ⟨_, rfl, wpAny_pure h⟩) htake)
    | exact wpAny_bind (m := Builtin.Tuple.tupleExact _) (wpAny_newObj_type (wpAny_bind (wpAny_pure (wpAny_pure ⟨_, rfl, wpAny_pure h⟩))) htake)
    | exact wpAny_bind (wpAny_bind (m := Builtin.Tuple.tupleExact _) (wpAny_newObj_type (wpAny_pure (wpAny_pure ⟨_, rfl, wpAny_pure h⟩)) htake))
    | exact wpAny_bind (wpAny_bind (m := Builtin.Tuple.tupleExact _) (wpAny_newObj_type (wpAny_pure ⟨_, rfl, wpAny_pure h⟩) htake))
end
end HT

namespace L2
open PySem PySem.Spec PyProof.Rows

/-! ### the parts of a slice -/
abbrev TO := St → Hp → (Option Int → Hp → Prop) → Prop
/-- a slice's part (left out, or an int) -/
def PO (X : Cx) (e : Option Expr) (t : TO) : Prop :=
  ∀ (pins : List (Addr × Obj)) (s : Shared) (σ : St) (H : Hp) (Q : Option Int → Hp → Prop), Inv X pins σ H s → t σ H Q →
    wpAny (model X.prog X.w) X.A (evalPart e X.env) (fun u s' => ∃ o H', Inv X pins σ H' s' ∧ IsPart u o ∧ Q o H') X.xe s
def tNoPart : TO := fun _ H Q => Q none H
def tPart (t : TE) : TO := fun σ H Q => t σ H fun x H1 => ∃ i, x = .int i ∧ Q (some i) H1

theorem intsAre_of {ns : List Int} : ∀ {us : List Value}, Vals (ns.map V.int) us → IntsAre us ns := by
  induction ns with
  | nil => intro us r; rw [List.map_nil] at r; cases r; exact .nil
  | cons n ns ih =>
    intro us r
    rw [List.map_cons] at r
    cases r with
    | cons r1 r2 =>
      obtain ⟨t, e⟩ := r1
      subst e
      exact .cons n t (ih r2)

section
variable {X : Cx} {e : Expr} {te : TE} {lo hi : Option Expr} {tl th : TO} {pos p2 : Pos}

theorem po_none : PO X none tNoPart := by
  intro pins s σ H Q I h
  rw [evalPart_none]
  exact wpAny_pure ⟨none, H, I, .none, h⟩
theorem po_some (h : PE X e te) : PO X (some e) (tPart te) := by
  intro pins s σ H Q I hw
  rw [evalPart_some]
  refine thn (h pins s σ H _ I hw) fun u s1 ⟨x, H1, I1, r1, q1⟩ => ?_
  obtain ⟨i, rfl, q⟩ := q1
  obtain ⟨t, rfl⟩ := r1
  exact ⟨some i, H1, I1, .int i t, q⟩

/-- what a slice of a value is, by values: the slice object stands at sl -/
def SlR (X : Cx) (r : V → Option Int → Option Int → Hp → VK → Prop) : Prop :=
  ∀ (pins : List (Addr × Obj)) (s : Shared) (σ : St) (H : Hp) (x : V) (v vl vu : Value) (lo hi : Option Int) (sl : Addr) (Q : VK), Inv X pins σ H s → RelV x v → s.heap.IsSliceOf sl vl vu .none → IsPart vl lo → IsPart vu hi → r x lo hi H Q →
    ∃ T id, typeLookup (.type T) "__getitem__" = pure (some (.builtin id)) ∧ s.TypeIs v T ∧ wpAny (model X.prog X.w) X.A (getItem v (.ref sl)) (EP X pins σ Q) X.xe s
theorem SlR.or {r r' : V → Option Int → Option Int → Hp → VK → Prop} (h : SlR X r) (h' : SlR X r') : SlR X (fun x lo hi H Q => r x lo hi H Q ∨ r' x lo hi H Q) := by
  intro pins s σ H x v vl vu lo hi sl Q I rx hs pl pu q
  rcases q with q | q
  · exact h pins s σ H x v vl vu lo hi sl Q I rx hs pl pu q
  · exact h' pins s σ H x v vl vu lo hi sl Q I rx hs pl pu q
def tSl (r : V → Option Int → Option Int → Hp → VK → Prop) (te : TE) (tl th : TO) : TE := fun σ H Q => te σ H fun x H1 => tl σ H1 fun l H2 => th σ H2 fun u H3 => r x l u H3 Q
/-- a[lo:hi], any a -/
theorem pe_slice {r : V → Option Int → Option Int → Hp → VK → Prop} (hr : SlR X r) (he : PE X e te) (hl : PO X lo tl) (hu : PO X hi th) : PE X (.Subscript e (.Slice lo hi none p2) pos) (tSl r te tl th) := by
  intro pins s σ H Q I h
  refine Subscript_ (thn (he pins s σ H _ I h) fun v s1 ⟨x, H1, I1, r1, q1⟩ => ?_)
  refine wpAny_Slice (thn (hl pins s1 σ H1 _ I1 q1) fun vl s2 ⟨l, H2, I2, pl, q2⟩ => thn (hu pins s2 σ H2 _ I2 q2) fun vu s3 ⟨u, H3, I3, pu, q3⟩ => ?_)
  rw [evalPart_none]
  refine wpAny_pure ?_
  have I4 : Inv X pins σ H3 { s3 with heap := s3.heap.push { cls := .type "slice", data := .fields #[vl, vu, .none] } } := I3.kept (t' := s3.toks) fun b ob q => Heap.get?_push_of_some _ q
  obtain ⟨T, id, hT, ht, hg⟩ := hr pins { s3 with heap := s3.heap.push { cls := .type "slice", data := .fields #[vl, vu, .none] } } σ H3 x v vl vu l u s3.heap.objs.size Q I4 r1 (Heap.IsSliceOf.new ..) pl pu q3
  show wpAny (model X.prog X.w) X.A (subscriptTail e (.Slice lo hi none p2) v (.ref s3.heap.objs.size)) (EP X pins σ Q) X.xe { s3 with heap := s3.heap.push { cls := .type "slice", data := .fields #[vl, vu, .none] } }
  exact tail_any (ops := [.ref s3.heap.objs.size, v]) ht hT hg (by with_unfolding_all rfl)

/-- the items of xs[lo:hi] -/
def cutV (xs : List V) (lo hi : Option Int) : List V := (xs.drop (HT.sIx xs.length 0 lo)).take (HT.sIx xs.length xs.length hi - HT.sIx xs.length 0 lo)
theorem cutV_length (xs : List V) (lo hi : Option Int) : (cutV xs lo hi).length ≤ xs.length := by
  unfold cutV
  rw [List.length_take, List.length_drop]
  omega
/-- t[lo:hi], not the whole of it (the whole would be t itself) -/
def rSlT (K : PySem.W.Frag) : V → Option Int → Option Int → Hp → VK → Prop := fun x lo hi H Q => ∃ a xs, x = .ref a ∧ SqT K H a xs ∧
  ¬ (HT.sIx xs.length 0 lo = 0 ∧ HT.sIx xs.length xs.length hi = xs.length) ∧ ∀ p, H p = none → Q (.ref p) (upd H p (.tup (cutV xs lo hi)))
theorem sl_tup : SlR X (rSlT X.K) := by
  intro pins s σ H x v vl vu lo hi sl Q I rx hs pl pu h
  obtain ⟨a, xs, rfl, hx, hw, q⟩ := h
  cases rx
  obtain ⟨its, r, ht, hz⟩ := I.tuple hx
  have hlen : its.toArray.size = xs.length := by rw [List.size_toArray]; exact r.length.symm
  refine ⟨"tuple", _, PyProof.Rows.slot_tuple_getitem.lookup, ht.typeIs, ?_⟩
  refine HT.getItem_tuple_cut ht hs pl pu (by rw [hlen]; exact hw) ?_ (by rw [hlen]; exact hz)
  rw [hlen]
  refine ⟨.ref s.heap.objs.size, _, I.laid (t' := s.toks) (o := .tup (cutV xs lo hi)) (fun b ob q => Heap.get?_push_of_some _ q) (Nat.le_refl _) ?_, rfl, q _ (I.hok.fresh (Nat.le_refl _))⟩
  exact ⟨Nat.le_trans (cutV_length xs lo hi) hz, _, (r.drop (HT.sIx xs.length 0 lo)).take (HT.sIx xs.length xs.length hi - HT.sIx xs.length 0 lo), IsTup.new _ _⟩

/-! ### t < u, t + u -/
def rLtT (K : PySem.W.Frag) : R2 := fun x y H Q => ∃ a b ns ms, x = .ref a ∧ y = .ref b ∧ SqT K H a (ns.map V.int) ∧ SqT K H b (ms.map V.int) ∧ Q (.bl (HT.lexLt ns ms)) H
theorem op_ltT (hu : X.A.units < cLine) : OpR X (compareOp .Lt) (rLtT X.K) := by
  intro pins s σ H x y v u Q I rx ry h
  obtain ⟨a, b, ns, ms, rfl, rfl, ha, hb, q⟩ := h
  cases rx
  cases ry
  obtain ⟨its, r1, p1, _⟩ := I.tuple ha
  obtain ⟨its2, r2, p2, _⟩ := I.tuple hb
  have i1 : IntsAre its.toArray.toList ns := intsAre_of r1
  have i2 : IntsAre its2.toArray.toList ms := intsAre_of r2
  exact HT.lt_tupInts p1 p2 i1 i2 hu ⟨.bl (HT.lexLt ns ms), H, I, rfl, q⟩
/-- t + u, t not empty: u empty gives t itself -/
def rCatT (K : PySem.W.Frag) : R2 := fun x y H Q => ∃ a b xs ys, x = .ref a ∧ y = .ref b ∧ SqT K H a xs ∧ SqT K H b ys ∧ xs ≠ [] ∧ xs.length + ys.length ≤ sizeLine ∧
  (ys = [] → Q (.ref a) H) ∧ (ys ≠ [] → ∀ p, H p = none → Q (.ref p) (upd H p (.tup (xs ++ ys))))
theorem Vals.nil_iff {xs : List V} {us : List Value} (r : Vals xs us) : us = [] ↔ xs = [] := by
  cases r with
  | nil => simp
  | cons _ _ => simp
theorem op_catT : OpR X (binaryOp .Add) (rCatT X.K) := by
  intro pins s σ H x y v u Q I rx ry h
  obtain ⟨a, b, xs, ys, rfl, rfl, ha, hb, hx, hz, q1, q2⟩ := h
  cases rx
  cases ry
  obtain ⟨its, r1, p1, _⟩ := I.tuple ha
  obtain ⟨its2, r2, p2, _⟩ := I.tuple hb
  refine HT.cat_tup p1 p2 (fun z => hx (r1.nil_iff.mp z)) (fun z => ⟨.ref a, H, I, rfl, q1 (r2.nil_iff.mp z)⟩) (fun z => ?_) (by rw [← r1.length, ← r2.length]; exact hz)
  refine ⟨.ref s.heap.objs.size, _, I.laid (t' := s.toks) (o := .tup (xs ++ ys)) (fun b ob q => Heap.get?_push_of_some _ q) (Nat.le_refl _) ?_, rfl, q2 (fun w => z (r2.nil_iff.mpr w)) _ (I.hok.fresh (Nat.le_refl _))⟩
  exact ⟨by rw [List.length_append]; exact hz, _, r1.append r2, IsTup.new _ _⟩
/-- tuple(t) -/
theorem call_tupleT : CallR X (.type "tuple") (fun xs H Q => ∃ a ys, xs = [.ref a] ∧ SqT X.K H a ys ∧ Q (.ref a) H) := by
  intro pins s σ H xs us Q I r h
  obtain ⟨a, ys, rfl, ha, q⟩ := h
  obtain ⟨u, rfl, ru⟩ := vals1 r
  cases ru
  obtain ⟨its, _, p1, _⟩ := I.tuple ha
  exact call_tuple_same (items := its.toArray) p1 ⟨.ref a, H, I, rfl, q⟩
end
end L2

namespace L2
open PySem PySem.Spec PyProof.Rows

/-! ### places -/
/-- the place that an index of any sign means -/
def ixN (n : Nat) (i : Int) : Option Nat := if 0 ≤ i then (if i < n then some i.toNat else none) else if -(n : Int) ≤ i then some (i + n).toNat else none
def atI {α : Type} (xs : List α) (i : Int) : Option α := (ixN xs.length i).bind fun j => xs[j]?
theorem ixN_seq {n : Nat} {i : Int} {j : Nat} (h : ixN n i = some j) : seqIndex? i n = some j ∧ j < n ∧ -(n : Int) ≤ i ∧ i < n := by
  unfold ixN at h
  by_cases h0 : 0 ≤ i
  · rw [if_pos h0] at h
    by_cases h1 : i < n
    · rw [if_pos h1] at h
      have e : i.toNat = j := Option.some.inj h
      exact ⟨by rw [seqIndex_of h0 h1, e], by omega, by omega, h1⟩
    · rw [if_neg h1] at h; cases h
  · rw [if_neg h0] at h
    by_cases h1 : -(n : Int) ≤ i
    · rw [if_pos h1] at h
      have e : (i + n).toNat = j := Option.some.inj h
      exact ⟨by rw [seqIndex_neg (by omega) h1, e], by omega, h1, by omega⟩
    · rw [if_neg h1] at h; cases h
theorem atI_get {α : Type} {xs : List α} {i : Int} {v : α} (h : atI xs i = some v) : ∃ j, seqIndex? i xs.length = some j ∧ xs[j]? = some v ∧ j < xs.length ∧ -(xs.length : Int) ≤ i ∧ i < xs.length := by
  unfold atI at h
  cases e : ixN xs.length i with
  | none => rw [e] at h; cases h
  | some j =>
    rw [e] at h
    obtain ⟨h1, h2, h3, h4⟩ := ixN_seq e
    exact ⟨j, h1, h, h2, h3, h4⟩
theorem atI_nat {α : Type} {xs : List α} {j : Nat} {v : α} (h : xs[j]? = some v) : atI xs (j : Int) = some v := by
  have hj : j < xs.length := (List.getElem?_eq_some_iff.mp h).1
  have e : ixN xs.length (j : Int) = some j := by
    unfold ixN
    rw [if_pos (by omega), if_pos (by omega)]; simp
  unfold atI; rw [e]; exact h
theorem atI_last {α : Type} (xs : List α) (v : α) : atI (xs ++ [v]) (-1) = some v := by
  have hl : (xs ++ [v]).length = xs.length + 1 := by simp
  have e : ixN (xs ++ [v]).length (-1) = some xs.length := by
    unfold ixN
    rw [hl, if_neg (by decide), if_pos (by omega)]
    congr 1
    omega
  unfold atI
  rw [e]
  show (xs ++ [v])[xs.length]? = some v
  simp

/-! ### what may be subscripted -/
/-- what stands as an index of a plain subscript -/
def PlainIx (b : Expr) : Prop := ∀ o i, subscripted b false o i = operate [o, i] (getItem o i)
/-- a subscript by values -/
def IxR (X : Cx) (r : R2) : Prop :=
  ∀ (value slice : Expr) (pins : List (Addr × Obj)) (s : Shared) (σ : St) (H : Hp) (x y : V) (v u : Value) (Q : VK), Inv X pins σ H s → RelV x v → RelV y u → r x y H Q →
    subscripted slice false v u = operate [v, u] (getItem v u) → wpAny (model X.prog X.w) X.A (subscriptTail value slice v u) (EP X pins σ Q) X.xe s
/-- a call of a builtin's method by values: the receiver, the arguments -/
def MtR (X : Cx) (id : String) (r : V → List V → Hp → VK → Prop) : Prop :=
  ∀ (pins : List (Addr × Obj)) (s : Shared) (σ : St) (H : Hp) (x : V) (xs : List V) (v : Value) (us : List Value) (Q : VK), Inv X pins σ H s → RelV x v → Vals xs us → r x xs H Q →
    wpAny (model X.prog X.w) X.A (call (.builtin id) (v :: us)) (EP X pins σ Q) X.xe s
section
variable {X : Cx} {a b : Expr} {ta tb : TE} {pos : Pos}
theorem IxR.or {r r' : R2} (h : IxR X r) (h' : IxR X r') : IxR X (fun x y H Q => r x y H Q ∨ r' x y H Q) := by
  intro value slice pins s σ H x y v u Q I rx ry q hs
  rcases q with q | q
  · exact h value slice pins s σ H x y v u Q I rx ry q hs
  · exact h' value slice pins s σ H x y v u Q I rx ry q hs
theorem MtR.or {id : String} {r r' : V → List V → Hp → VK → Prop} (h : MtR X id r) (h' : MtR X id r') : MtR X id (fun x xs H Q => r x xs H Q ∨ r' x xs H Q) := by
  intro pins s σ H x xs v us Q I rx rs q
  rcases q with q | q
  · exact h pins s σ H x xs v us Q I rx rs q
  · exact h' pins s σ H x xs v us Q I rx rs q
/-- a[b] -/
theorem pe_ix {r : R2} (hr : IxR X r) (ha : PE X a ta) (hb : PE X b tb) (hs : PlainIx b) : PE X (.Subscript a b pos) (tOp r ta tb) := by
  intro pins s σ H Q I h
  exact Subscript_ (binT ha hb I h fun v u s2 x y H2 I2 rx ry q => hr a b pins s2 σ H2 x y v u Q I2 rx ry q (hs _ _))

def rIxL (K : PySem.W.Frag) : R2 := fun x y H Q => ∃ p xs i v, x = .ref p ∧ y = .int i ∧ SqL K H p xs ∧ atI xs i = some v ∧ Q v H
def rIxT (K : PySem.W.Frag) : R2 := fun x y H Q => ∃ p xs i v, x = .ref p ∧ y = .int i ∧ SqT K H p xs ∧ atI xs i = some v ∧ Q v H
def rIxS : R2 := fun x y H Q => ∃ z i c, x = .str z ∧ y = .int i ∧ z.length ≤ sizeLine ∧ atI z.cps.toList i = some c ∧ Q (.str ⟨#[c]⟩) H
theorem ix_list : IxR X (rIxL X.K) := by
  intro value slice pins s σ H x y v u Q I rx ry h hs
  obtain ⟨p, xs, i, z, rfl, rfl, hq, he, q⟩ := h
  cases rx
  obtain ⟨t, rfl⟩ := ry
  obtain ⟨its, r, pl, hz⟩ := I.list hq
  obtain ⟨j, h1, h2, h3, h4, h5⟩ := atI_get he
  obtain ⟨w, ew, rw'⟩ := r.get h2
  have hl := r.length
  have hn := line63
  have fin : EP X pins σ Q w s := ⟨z, H, I, rw', q⟩
  by_cases h0 : 0 ≤ i
  · have hj : i.toNat = j := by
      rw [seqIndex_of h0 h5] at h1
      exact Option.some.inj h1
    exact item_listR pl.isList h0 (by omega) (by rw [hj]; simpa using ew) fin hs
  · have hj : (i + (its.toArray.size : Int)).toNat = j := by
      rw [seqIndex_neg (by omega) h4] at h1
      rw [List.size_toArray, ← hl]
      exact Option.some.inj h1
    exact subscriptTail_builtinR (x := w) pl.isList.typeIs slot_list_getitem.lookup
      (wpAny_getItem_list_neg (Q := fun r s' => r = w ∧ EP X pins σ Q r s') pl.isList (by omega) (by rw [List.size_toArray] <;> omega) (by omega) (by rw [hj]; simpa using ew) ⟨rfl, fin⟩) hs
theorem ix_tup : IxR X (rIxT X.K) := by
  intro value slice pins s σ H x y v u Q I rx ry h hs
  obtain ⟨p, xs, i, z, rfl, rfl, hq, he, q⟩ := h
  cases rx
  obtain ⟨t, rfl⟩ := ry
  obtain ⟨its, r, pl, hz⟩ := I.tuple hq
  obtain ⟨j, h1, h2, h3, h4, h5⟩ := atI_get he
  obtain ⟨w, ew, rw'⟩ := r.get h2
  have hl := r.length
  have hn := line63
  have fin : EP X pins σ Q w s := ⟨z, H, I, rw', q⟩
  exact subscriptTail_builtinR (x := w) pl.typeIs slot_tuple_getitem.lookup
    (getItem_tuple (j := j) (Q := fun r s' => r = w ∧ EP X pins σ Q r s') pl (by omega) (by omega) (by rw [List.size_toArray, ← hl]; exact h1) (by simpa using ew) ⟨rfl, fin⟩) hs
theorem ix_str : IxR X rIxS := by
  intro value slice pins s σ H x y v u Q I rx ry h hs
  obtain ⟨z, i, c, rfl, rfl, hz, he, q⟩ := h
  obtain ⟨t, rfl⟩ := rx
  obtain ⟨t', rfl⟩ := ry
  obtain ⟨j, h1, h2, h3, h4, h5⟩ := atI_get he
  have hl : z.cps.toList.length = z.length := by simp [Str.length]
  rw [hl] at h1 h4 h5
  have hn := line63
  exact tail_any (typeIs_str s z t) slot_str_getitem.lookup (getItem_str (c := c) (by
    have e1 : decide (i < -(2 ^ 63 : Int)) = false := decide_eq_false (by omega)
    have e2 : decide (i ≥ 2 ^ 63) = false := decide_eq_false (by omega)
    rw [e1, e2, Bool.or_false]) (by rw [h1]; simpa using h2) ⟨.str ⟨#[c]⟩, H, I.tok _, ⟨_, rfl⟩, q⟩) hs
/-- list, tuple or str -/
def rIx (K : PySem.W.Frag) : R2 := fun x y H Q => rIxL K x y H Q ∨ rIxT K x y H Q ∨ rIxS x y H Q
theorem ix_seq : IxR X (rIx X.K) := ix_list.or (ix_tup.or ix_str)

/-! ### xs[i] = v, any sign -/
/-- the list's object behind a store -/
theorem mapSeq_set (its : List Value) (n j : Nat) (u : Value) : Obj.mapSeq (·.setIfInBounds j u) { cls := .type "list", data := .seq its.toArray n } = { cls := .type "list", data := .seq (its.set j u).toArray n } := by
  simp [Obj.mapSeq]
theorem Inv.lst {pins : List (Addr × Obj)} {σ : St} {H : Hp} {s : Shared} {p : Addr} {xs : List V} (I : Inv X pins σ H s) (h : H p = some (.lst xs)) :
    ∃ (its : List Value) (n : Nat), Vals xs its ∧ s.heap.get? p = some { cls := .type "list", data := .seq its.toArray n } ∧ xs.length ≤ sizeLine := by
  obtain ⟨z, its, n, r, e⟩ := I.hok p _ h
  exact ⟨its, n, r, e, z⟩
/-- the list at p is written by an update of its object -/
theorem Inv.lstUpd {pins : List (Addr × Obj)} {σ : St} {H : Hp} {s : Shared} {p : Addr} {xs ys : List V} {its its' : List Value} {n n' : Nat} {f : Obj → Obj} (I : Inv X pins σ H s) (h : H p = some (.lst xs))
    (ho : s.heap.get? p = some { cls := .type "list", data := .seq its.toArray n }) (hf : f { cls := .type "list", data := .seq its.toArray n } = { cls := .type "list", data := .seq its'.toArray n' }) (r : Vals ys its') (hz : ys.length ≤ sizeLine) (t : Nat) :
    Inv X pins σ (upd H p (.lst ys)) { s with heap := s.heap.update p f, toks := t } := by
  have e : (s.heap.update p f).get? p = some { cls := .type "list", data := .seq its'.toArray n' } := by
    rw [Heap.get?_update_self f ho (by rw [hf] <;> rfl), hf]
  refine I.write (x := p) (e := p) (by rw [h]; trivial) (.inl rfl) (fun b u hb q => (Heap.get?_update_other _ _ (Ne.symm hb)).trans q) ⟨_, e⟩ ?_
  exact ⟨hz, its', n', r, e⟩
def rSetL : V → V → V → Hp → (Hp → Prop) → Prop := fun o i v H Q => ∃ p xs k j, o = .ref p ∧ i = .int k ∧ H p = some (.lst xs) ∧ ixN xs.length k = some j ∧ Q (upd H p (.lst (xs.set j v)))
theorem set_list : PSet X rSetL := by
  intro pins s σ H o i v ov iv u Q I ro ri rv h
  obtain ⟨p, xs, k, j, rfl, rfl, hp, hj, q⟩ := h
  cases ro
  obtain ⟨t, rfl⟩ := ri
  obtain ⟨its, n, r, ho, hz⟩ := I.lst hp
  obtain ⟨h1, h2, h3, h4⟩ := ixN_seq hj
  have hl := r.length
  have hn := line63
  have I' : Inv X pins σ (upd H p (.lst (xs.set j v))) { s with heap := s.heap.update p (Obj.mapSeq (·.setIfInBounds j u)) } :=
    I.lstUpd hp ho (mapSeq_set its n j u) (r.set rv j) (by rw [List.length_set]; exact hz) s.toks
  by_cases h0 : 0 ≤ k
  · have hk : k.toNat = j := by
      rw [seqIndex_of h0 h4] at h1
      exact Option.some.inj h1
    exact PySem.W.ki_setAt ho h0 (by omega) (by rw [List.size_toArray, ← hl]; exact h4) (by rw [hk]; exact ⟨_, I', q⟩)
  · have hk : (k + (its.toArray.size : Int)).toNat = j := by
      rw [seqIndex_neg (by omega) h3] at h1
      rw [List.size_toArray, ← hl]
      exact Option.some.inj h1
    exact PySem.W.ki_setBack ho (by omega) (by rw [List.size_toArray, ← hl]; exact h3) (by omega) (by rw [hk]; exact ⟨_, I', q⟩)

/-! ### slices -/
theorem slice_bounds (lo hi : Option Int) (n : Nat) : (sliceBounds lo hi none n).1 = ((HT.sIx n 0 lo : Nat) : Int) ∧ (sliceBounds lo hi none n).2.1 = ((HT.sIx n n hi : Nat) : Int) ∧ (sliceBounds lo hi none n).2.2 = 1 := by
  refine ⟨?_, ?_, rfl⟩
  · cases lo with
    | none => simp [sliceBounds, HT.sIx]
    | some i =>
      simp only [sliceBounds, HT.sIx, Option.getD_none, show (1 : Int) > 0 by decide, if_true]
      by_cases h : i < 0
      · simp only [h, if_true] <;> omega
      · simp only [h, if_false] <;> omega
  · cases hi with
    | none => simp [sliceBounds, HT.sIx]
    | some i =>
      simp only [sliceBounds, HT.sIx, Option.getD_none, show (1 : Int) > 0 by decide, if_true]
      by_cases h : i < 0
      · simp only [h, if_true] <;> omega
      · simp only [h, if_false] <;> omega
theorem slicePick_cut (its : List Value) (lo hi : Option Int) : slicePick its.toArray lo hi none = ((its.drop (HT.sIx its.length 0 lo)).take (HT.sIx its.length its.length hi - HT.sIx its.length 0 lo)).toArray := by
  obtain ⟨h1, h2, h3⟩ := slice_bounds lo hi its.toArray.size
  unfold slicePick
  rw [h1, h2, h3]
  simp only [sliceRange_one, pick_run, List.size_toArray] <;> rfl
/-- xs[lo:hi] of a list: a new list -/
def rSlL (K : PySem.W.Frag) : V → Option Int → Option Int → Hp → VK → Prop := fun x lo hi H Q => ∃ a xs, x = .ref a ∧ SqL K H a xs ∧ ∀ p, H p = none → Q (.ref p) (upd H p (.lst (cutV xs lo hi)))
theorem sl_list : SlR X (rSlL X.K) := by
  intro pins s σ H x v vl vu lo hi sl Q I rx hs pl pu h
  obtain ⟨a, xs, rfl, hx, q⟩ := h
  cases rx
  obtain ⟨its, r, ht, hz⟩ := I.list hx
  have hlen := r.length
  refine ⟨"list", _, slot_list_getitem.lookup, ht.isList.typeIs, ?_⟩
  refine wpAny_getItem_list_slice ht.isList hs pl pu .none (by simp) ?_ (by rw [List.size_toArray] <;> omega)
  rw [slicePick_cut, ← hlen]
  refine ⟨.ref s.heap.objs.size, _, I.laid (t' := s.toks) (o := .lst (cutV xs lo hi)) (fun b ob q => Heap.get?_push_of_some _ q) (Nat.le_refl _) ?_, rfl, q _ (I.hok.fresh (Nat.le_refl _))⟩
  exact ⟨Nat.le_trans (cutV_length xs lo hi) hz, _, 0, (r.drop (HT.sIx xs.length 0 lo)).take (HT.sIx xs.length xs.length hi - HT.sIx xs.length 0 lo), Heap.get?_push_size _ rfl⟩

/-! ### in, not in: flat items -/
def flatV : V → Bool
  | .non => true
  | .bl _ => true
  | .int _ => true
  | .str _ => true
  | _ => false
/-- == of flat values -/
def eqV : V → V → Bool
  | .non, .non => true
  | .bl a, .bl b => a == b
  | .bl a, .int b => (if a then 1 else 0) == b
  | .int a, .bl b => a == (if b then 1 else 0)
  | .int a, .int b => a == b
  | .str a, .str b => a == b
  | _, _ => false
theorem eqAt_V {A : Around} {s : Shared} {y x : V} {u v : Value} (ry : RelV y u) (rx : RelV x v) (fy : flatV y = true) (fx : flatV x = true) : SeqAt.EqAt A s u v (eqV y x) := by
  cases y with
  | non =>
    cases ry
    cases x with
    | non => cases rx; exact SeqAt.EqAt.same _
    | bl b => cases rx; exact SeqAt.EqAt.none_bool b
    | int b => obtain ⟨t, rfl⟩ := rx; exact SeqAt.EqAt.none_int b t
    | str b => obtain ⟨t, rfl⟩ := rx; exact SeqAt.EqAt.none_str b t
    | _ => exact absurd (show false = true from fx) Bool.false_ne_true
  | bl a =>
    cases ry
    cases x with
    | non => cases rx; exact SeqAt.EqAt.bool_none a
    | bl b => cases rx; exact SeqAt.EqAt.bool_bool a b
    | int b => obtain ⟨t, rfl⟩ := rx; exact SeqAt.EqAt.bool_int a b t
    | str b => obtain ⟨t, rfl⟩ := rx; exact SeqAt.EqAt.bool_str a b t
    | _ => exact absurd (show false = true from fx) Bool.false_ne_true
  | int a =>
    obtain ⟨t', rfl⟩ := ry
    cases x with
    | non => cases rx; exact SeqAt.EqAt.int_none a t'
    | bl b => cases rx; exact SeqAt.EqAt.int_bool a t' b
    | int b => obtain ⟨t, rfl⟩ := rx; exact SeqAt.EqAt.int_int a t' b t
    | str b => obtain ⟨t, rfl⟩ := rx; exact SeqAt.EqAt.int_str a t' b t
    | _ => exact absurd (show false = true from fx) Bool.false_ne_true
  | str a =>
    obtain ⟨t', rfl⟩ := ry
    cases x with
    | non => cases rx; exact SeqAt.EqAt.str_none a t'
    | bl b => cases rx; exact SeqAt.EqAt.str_bool a t' b
    | int b => obtain ⟨t, rfl⟩ := rx; exact SeqAt.EqAt.str_int a t' b t
    | str b => obtain ⟨t, rfl⟩ := rx; exact SeqAt.EqAt.str_str a t' b t
    | _ => exact absurd (show false = true from fx) Bool.false_ne_true
  | _ => exact absurd (show false = true from fy) Bool.false_ne_true
/-- the items' answers, read off the values (a value's own answer does not lean on its token) -/
def eqU (x : V) (u : Value) : Bool := match u with
  | .none => eqV .non x
  | .bool b => eqV (.bl b) x
  | .int i _ => eqV (.int i) x
  | .str z _ => eqV (.str z) x
  | _ => false
theorem eqU_of {x y : V} {u : Value} (r : RelV y u) (f : flatV y = true) : eqU x u = eqV y x := by
  cases y with
  | non => cases r; rfl
  | bl b => cases r; rfl
  | int i => obtain ⟨t, rfl⟩ := r; rfl
  | str z => obtain ⟨t, rfl⟩ := r; rfl
  | _ => exact absurd (show false = true from f) Bool.false_ne_true
theorem any_eqU {x : V} : ∀ {xs : List V} {us : List Value}, Vals xs us → xs.all flatV = true → us.any (eqU x) = xs.any fun y => eqV y x
  | _, _, .nil, _ => rfl
  | y :: xs, u :: us, .cons r t, f => by
    rw [List.all_cons, Bool.and_eq_true] at f
    rw [List.any_cons, List.any_cons, eqU_of r f.1, any_eqU t f.2]
theorem mem_eqAt {A : Around} {s : Shared} {x : V} {v : Value} (rx : RelV x v) (fx : flatV x = true) : ∀ {xs : List V} {us : List Value}, Vals xs us → xs.all flatV = true → ∀ u ∈ us, SeqAt.EqAt A s u v (eqU x u)
  | _, _, .nil, _ => fun u hu => by cases hu
  | y :: xs, u :: us, .cons r t, f => fun u' hu => by
    rw [List.all_cons, Bool.and_eq_true] at f
    rcases List.mem_cons.mp hu with rfl | hu
    · rw [eqU_of r f.1]; exact eqAt_V r rx f.1 fx
    · exact mem_eqAt rx fx t f.2 u' hu
def inV (x : V) (xs : List V) : Bool := xs.any fun y => eqV y x
/-- x in a list or tuple of flat items -/
def rIn (K : PySem.W.Frag) (neg : Bool) : R2 := fun x y H Q => ∃ p xs, y = .ref p ∧ (SqL K H p xs ∨ SqT K H p xs) ∧ flatV x = true ∧ xs.all flatV = true ∧ Q (.bl (if neg then !inV x xs else inV x xs)) H
theorem op_in_seq : OpR X (compareOp .In) (rIn X.K false) := by
  intro pins s σ H x y v u Q I rx ry h
  obtain ⟨p, xs, rfl, hq, fx, fs, q⟩ := h
  cases ry
  rcases hq with hq | hq
  · obtain ⟨its, r, pl, hz⟩ := I.list hq
    refine SeqAt.in_listAt (eqU x) pl.isList (fun w hw => mem_eqAt rx fx r fs w (by simpa using hw)) ⟨.bl _, H, I, rfl, ?_⟩
    rw [show its.toArray.any (eqU x) = its.any (eqU x) by simp, any_eqU r fs]
    exact q
  · obtain ⟨its, r, pl, hz⟩ := I.tuple hq
    refine SeqAt.in_tupleAt (eqU x) pl (fun w hw => mem_eqAt rx fx r fs w (by simpa using hw)) ⟨.bl _, H, I, rfl, ?_⟩
    rw [show its.toArray.any (eqU x) = its.any (eqU x) by simp, any_eqU r fs]
    exact q
theorem op_notIn_seq : OpR X (compareOp .NotIn) (rIn X.K true) := by
  intro pins s σ H x y v u Q I rx ry h
  obtain ⟨p, xs, rfl, hq, fx, fs, q⟩ := h
  cases ry
  rcases hq with hq | hq
  · obtain ⟨its, r, pl, hz⟩ := I.list hq
    refine SeqAt.notIn_listAt (eqU x) pl.isList (fun w hw => mem_eqAt rx fx r fs w (by simpa using hw)) ⟨.bl _, H, I, rfl, ?_⟩
    rw [show its.toArray.any (eqU x) = its.any (eqU x) by simp, any_eqU r fs]
    exact q
  · obtain ⟨its, r, pl, hz⟩ := I.tuple hq
    refine SeqAt.notIn_tupleAt (eqU x) pl (fun w hw => mem_eqAt rx fx r fs w (by simpa using hw)) ⟨.bl _, H, I, rfl, ?_⟩
    rw [show its.toArray.any (eqU x) = its.any (eqU x) by simp, any_eqU r fs]
    exact q
theorem op_notIn_str : OpR X (compareOp .NotIn) (fun x y H Q => ∃ i j, x = .str i ∧ y = .str j ∧ Q (.bl (!(!(Builtin.Str.occurrences j i 0 j.length 1).isEmpty))) H) := by
  intro pins s σ H x y v u Q I rx ry h
  obtain ⟨i, j, rfl, rfl, q⟩ := h
  obtain ⟨t, rfl⟩ := rx
  obtain ⟨t', rfl⟩ := ry
  exact notIn_str ⟨.bl _, H, I, rfl, q⟩

/-! ### len, list(x), tuple(x) of any list or tuple that is read -/
theorem call_len_seq : CallR X (.builtin "len") (fun xs H Q => ∃ p ys, xs = [.ref p] ∧ (SqL X.K H p ys ∨ SqT X.K H p ys) ∧ Q (.int ys.length) H) := by
  intro pins s σ H xs us Q I r h
  obtain ⟨p, ys, rfl, hq, q⟩ := h
  obtain ⟨u, rfl, rx⟩ := vals1 r
  cases rx
  have hn := line63
  rcases hq with hq | hq
  · obtain ⟨its, r', pl, hz⟩ := I.list hq
    have hlen := r'.length
    exact Calls.call_len_list pl.isList (by simp only [List.size_toArray] <;> omega) ⟨.int ys.length, H, I.tok _, ⟨s.toks + 1, by rw [List.size_toArray, hlen]⟩, q⟩
  · obtain ⟨its, r', pl, hz⟩ := I.tuple hq
    have hlen := r'.length
    exact len_tuple pl (by simp only [List.size_toArray] <;> omega) ⟨.int ys.length, H, I.tok _, ⟨s.toks + 1, by rw [List.size_toArray, hlen]⟩, q⟩
theorem call_len_str : CallR X (.builtin "len") (fun xs H Q => ∃ z, xs = [.str z] ∧ z.length ≤ sizeLine ∧ Q (.int z.length) H) := by
  intro pins s σ H xs us Q I r h
  obtain ⟨z, rfl, hz, q⟩ := h
  obtain ⟨u, rfl, t, rfl⟩ := vals1 r
  have hn := line63
  exact len_str (by omega) ⟨.int z.length, H, I.tok _, ⟨_, rfl⟩, q⟩
theorem CallR.or {f : Value} {r r' : List V → Hp → VK → Prop} (h : CallR X f r) (h' : CallR X f r') : CallR X f (fun xs H Q => r xs H Q ∨ r' xs H Q) := by
  intro pins s σ H xs us Q I rs q
  rcases q with q | q
  · exact h pins s σ H xs us Q I rs q
  · exact h' pins s σ H xs us Q I rs q
theorem call_list_of : CallR X (.type "list") (fun xs H Q => ∃ p ys, xs = [.ref p] ∧ (SqL X.K H p ys ∨ SqT X.K H p ys) ∧ ∀ l, H l = none → Q (.ref l) (upd H l (.lst ys))) := by
  intro pins s σ H xs us Q I r h
  obtain ⟨p, ys, rfl, hq, q⟩ := h
  obtain ⟨u, rfl, rx⟩ := vals1 r
  cases rx
  have fin : ∀ (its : List Value), Vals ys its → ys.length ≤ sizeLine → ∀ (h' : Heap) (c' : Nat), (∀ b o', s.heap.get? b = some o' → h'.get? b = some o') →
      h'.get? s.heap.objs.size = some { cls := .type "list", dict := none, data := .seq its.toArray c', slots := #[] } → EP X pins σ Q (.ref s.heap.objs.size) { s with heap := h' } := fun its r' hz h' c' kp e =>
    ⟨.ref s.heap.objs.size, _, I.laid (t' := s.toks) kp (Nat.le_refl _) (show ObjOk X.prog X.w _ h' _ (.lst ys) from ⟨hz, its, c', r', e⟩), rfl, q _ (I.hok.fresh (Nat.le_refl _))⟩
  rcases hq with hq | hq
  · obtain ⟨its, r', pl, hz⟩ := I.list hq
    have hlen := r'.length
    obtain ⟨o, ho, hc, n, hd⟩ := pl.isList
    exact call_list_seq p (.inl rfl) ho hc hd (fun h' c' kp e => fin its r' hz h' c' kp e) (by simp only [List.size_toArray] <;> omega)
  · obtain ⟨its, r', pl, hz⟩ := I.tuple hq
    have hlen := r'.length
    obtain ⟨o, ho, hc, n, hd⟩ := pl
    exact call_list_seq p (.inr rfl) ho hc hd (fun h' c' kp e => fin its r' hz h' c' kp e) (by simp only [List.size_toArray] <;> omega)
theorem call_tuple_of : CallR X (.type "tuple") (fun xs H Q => ∃ p ys, xs = [.ref p] ∧ ((SqL X.K H p ys ∧ ∀ l, H l = none → Q (.ref l) (upd H l (.tup ys))) ∨ (SqT X.K H p ys ∧ Q (.ref p) H))) := by
  intro pins s σ H xs us Q I r h
  obtain ⟨p, ys, rfl, h⟩ := h
  obtain ⟨u, rfl, rx⟩ := vals1 r
  cases rx
  rcases h with ⟨hq, q⟩ | ⟨hq, q⟩
  · obtain ⟨its, r', pl, hz⟩ := I.list hq
    have hlen := r'.length
    refine call_tuple_list pl.isList (fun h' kp => ?_) (by simp only [List.size_toArray] <;> omega)
    have I1 : Inv X pins σ H { s with heap := h' } := I.kept (t' := s.toks) kp
    have I2 : Inv X pins σ (upd H h'.objs.size (.tup ys)) { s with heap := h'.push { cls := .type "tuple", data := .seq its.toArray } } :=
      I1.laid (t' := s.toks) (fun b o e => Heap.get?_push_of_some _ e) (Nat.le_refl _) (show ObjOk X.prog X.w _ _ _ (.tup ys) from ⟨hz, its, r', IsTup.new _ _⟩)
    exact ⟨.ref h'.objs.size, _, I2, rfl, q _ (I1.hok.fresh (Nat.le_refl _))⟩
  · obtain ⟨its, r', pl, hz⟩ := I.tuple hq
    exact call_tuple_same pl ⟨.ref p, H, I, rfl, q⟩

/-! ### the call of a builtin's method: o.m(..) -/
/-- the value is of that builtin type -/
def tyV (K : PySem.W.Frag) (T : String) (x : V) (H : Hp) : Prop := match x with
  | .str _ => T = "str"
  | .int _ => T = "int"
  | .ref p => (T = "list" ∧ ∃ xs, SqL K H p xs) ∨ (T = "tuple" ∧ ∃ o, K.lookup p = some o ∧ o.cls = .type "tuple" ∧ o.dict = none) ∨
      (T = "dict" ∧ ((∃ kvs, H p = some (.dK kvs)) ∨ ∃ kvs, H p = some (.dT kvs))) ∨ (T = "set" ∧ ∃ S n, H p = some (.set S n))
  | _ => False
theorem tyV_is {pins : List (Addr × Obj)} {σ : St} {H : Hp} {s : Shared} {T : String} {x : V} {v : Value} (I : Inv X pins σ H s) (r : RelV x v) (ty : tyV X.K T x H) :
    s.TypeIs v T ∧ ∀ a, v = .ref a → ∃ ob, s.heap.get? a = some ob ∧ ob.dict = none := by
  cases x with
  | str z =>
    obtain ⟨t, rfl⟩ := r
    cases (show T = "str" from ty)
    exact ⟨typeIs_str s z t, fun _ e => nomatch e⟩
  | int i =>
    obtain ⟨t, rfl⟩ := r
    cases (show T = "int" from ty)
    exact ⟨typeIs_int s i t, fun _ e => nomatch e⟩
  | ref p =>
    cases r
    rcases ty with ⟨rfl, xs, hq⟩ | ⟨rfl, o, hk, hc, hd⟩ | ⟨rfl, hk⟩ | ⟨rfl, S, n, hk⟩
    · obtain ⟨its, _, pl, _⟩ := I.list hq
      refine ⟨pl.isList.typeIs, fun a e => ?_⟩
      cases e
      obtain ⟨o, n, e, c, hd, _⟩ := pl
      exact ⟨o, e, hd⟩
    · refine ⟨⟨o, I.kIn p o hk, hc⟩, fun a e => ?_⟩
      cases e
      exact ⟨o, I.kIn _ o hk, hd⟩
    · have z : ∃ o, s.heap.get? p = some o ∧ o.ExactDict := by
        rcases hk with ⟨kvs, hk⟩ | ⟨kvs, hk⟩
        · obtain ⟨_, _, _, _, o, _, _, e, ex, _⟩ := I.hok p _ hk
          exact ⟨o, e, ex⟩
        · obtain ⟨_, _, _, _, o, _, _, e, ex, _⟩ := I.hok p _ hk
          exact ⟨o, e, ex⟩
      obtain ⟨o, e, ex⟩ := z
      refine ⟨⟨o, e, ex.1⟩, fun a e2 => ?_⟩
      cases e2
      exact ⟨o, e, ex.2.1⟩
    · obtain ⟨o, _, _, _, e, ex, _⟩ := I.hok p _ hk
      refine ⟨⟨o, e, ex.1⟩, fun a e2 => ?_⟩
      cases e2
      exact ⟨o, e, ex.2.1⟩
  | _ => exact False.elim ty
def tBM0 (K : PySem.W.Frag) (T : String) (r : V → List V → Hp → VK → Prop) (to : TE) : TE := fun σ H Q => to σ H fun x H1 => tyV K T x H1 ∧ r x [] H1 Q
def tBM (K : PySem.W.Frag) (T : String) (r : V → List V → Hp → VK → Prop) (to : TE) (t : TA) : TE := fun σ H Q => to σ H fun x H1 => tyV K T x H1 ∧ t σ H1 fun xs H2 => r x xs H2 Q
variable {o e : Expr} {es : List Expr} {to : TE} {t : TA} {name : Str} {apos cpos : Pos} {T id : String} {r : V → List V → Hp → VK → Prop}
theorem pe_bm0 (pa : PlainAttrs T) (slot : Slot T name id) (hty : typeOf (.builtin id) = pure (.type "method_descriptor")) (hm : MtR X id r) (ho : PE X o to)
    (hbase : attributeBase o name X.env (eval o X.env) = eval o X.env := by rfl) (hline : (apos.endLine == cpos.line) = true := by rfl) : PE X (.Call (.Attribute o name apos) [] [] cpos) (tBM0 X.K T r to) := by
  intro pins s σ H Q I h
  refine wpAny_Call_method0_late hbase hline (thn (ho pins s σ H _ I h) fun v s1 ⟨x, H1, I1, r1, ty, q1⟩ => ?_)
  obtain ⟨h1, h2⟩ := tyV_is I1 r1 ty
  exact ⟨T, id, pa, slot, hty, h1, h2, Calls.callWith_builtin rfl (PySem.evalArgs_none (hm pins s1 σ H1 x [] v [] Q I1 r1 .nil q1))⟩
theorem pe_bm (pa : PlainAttrs T) (slot : Slot T name id) (hty : typeOf (.builtin id) = pure (.type "method_descriptor")) (hm : MtR X id r) (ho : PE X o to) (ha : PA X (e :: es) t)
    (hbase : attributeBase o name X.env (eval o X.env) = eval o X.env := by rfl)
    (hfew : ((backTo cpos (starEach (e :: es) X.env)).all (fun x => !x.1) && (backToKw cpos (keywordEach [] X.env)).all (fun x => x.1.isSome)
      && decide ((e :: es).length + ([] : List Keyword).length + (if ([] : List Keyword).isEmpty then 0 else 1) < 30)) = true := by rfl)
    (hline : (apos.endLine == cpos.line) = true := by rfl) (hs : starEach (e :: es) X.env = (false, eval e X.env) :: starEach es X.env := by rfl) (hplain : (backTo cpos (starEach es X.env)).any (·.1) = false := by rfl) :
    PE X (.Call (.Attribute o name apos) (e :: es) [] cpos) (tBM X.K T r to t) := by
  intro pins s σ H Q I h
  refine wpAny_Call_method_late hbase hfew hline rfl (thn (ho pins s σ H _ I h) fun v s1 ⟨x, H1, I1, r1, ty, q1⟩ => ?_)
  obtain ⟨h1, h2⟩ := tyV_is I1 r1 ty
  refine ⟨T, id, pa, slot, hty, h1, h2, ?_⟩
  have hA := ha cpos pins s1 σ H1 _ I1 q1
  rw [hs] at hA ⊢
  refine Calls.callWith_builtin (by show (false || (backTo cpos (starEach es X.env)).any (·.1)) = false; rw [hplain] <;> rfl) (Calls.evalArgs_plain ?_)
  exact thn hA fun us s2 ⟨vs, H2, I2, r2, q2⟩ => hm pins s2 σ H2 x vs v us Q I2 r1 r2 q2
/- xs.append(e), list.index on a module's tuple .. are MtR facts of 06m -/
end
end L2

namespace L2
open PySem PySem.Spec PyProof.Rows

def MtM (X : Cx) (id : String) (r : V → List V → Hp → VK → Prop) : Prop :=
  ∀ (pins : List (Addr × Obj)) (s : Shared) (σ : St) (H : Hp) (x : V) (xs : List V) (v : Value) (us : List Value) (Q : VK), Inv X pins σ H s → RelV x v → Vals xs us → r x xs H Q →
    wpAny (model X.prog X.w) X.A (call (.builtin id) (v :: us)) (EP X pins σ Q) X.xe s

/-! ### lists of values -/
theorem Vals.one : ∀ {x : V} {us : List Value}, Vals [x] us → ∃ u, us = [u] ∧ RelV x u
  | _, _, .cons r .nil => ⟨_, rfl, r⟩
theorem Vals.two : ∀ {x y : V} {us : List Value}, Vals [x, y] us → ∃ u v, us = [u, v] ∧ RelV x u ∧ RelV y v
  | _, _, _, .cons r (.cons q .nil) => ⟨_, _, rfl, r, q⟩
theorem Vals.zero : ∀ {us : List Value}, Vals [] us → us = []
  | _, .nil => rfl
theorem Vals.dropLast {xs : List V} {us : List Value} (h : Vals xs us) : Vals xs.dropLast us.dropLast := by
  induction h with
  | nil => exact .nil
  | cons r t ih =>
    cases t with
    | nil => exact .nil
    | cons q t' => exact .cons r ih
theorem Vals.eraseIdx : ∀ {xs : List V} {us : List Value} (i : Nat), Vals xs us → Vals (xs.eraseIdx i) (us.eraseIdx i)
  | _, _, _, .nil => .nil
  | _, _, 0, .cons _ t => t
  | _, _, i + 1, .cons r t => .cons r (Vals.eraseIdx i t)
theorem Vals.reverse {xs : List V} {us : List Value} (h : Vals xs us) : Vals xs.reverse us.reverse := by
  induction h with
  | nil => exact .nil
  | cons r t ih => rw [List.reverse_cons, List.reverse_cons]; exact Vals.append ih (.cons r .nil)
theorem Vals.rep {xs : List V} {us : List Value} (h : Vals xs us) : ∀ k : Nat, Vals (List.replicate k xs).flatten (List.replicate k us).flatten
  | 0 => .nil
  | k + 1 => by
    rw [List.replicate_succ, List.replicate_succ, List.flatten_cons, List.flatten_cons]
    exact Vals.append h (Vals.rep h k)
theorem erase_last {α : Type} (l : List α) : l.eraseIdx (l.length - 1) = l.dropLast := by
  induction l with
  | nil => rfl
  | cons a r ih =>
    cases r with
    | nil => rfl
    | cons b r =>
      have e : (a :: b :: r).length - 1 = ((b :: r).length - 1) + 1 := by
        have h1 : (a :: b :: r).length = r.length + 2 := rfl
        have h2 : (b :: r).length = r.length + 1 := rfl
        omega
      rw [e, List.eraseIdx_cons_succ, ih]
      all_goals rfl
theorem len_erase {α : Type} : ∀ (l : List α) (i : Nat), (l.eraseIdx i).length ≤ l.length
  | [], _ => Nat.le_refl _
  | _ :: _, 0 => Nat.le_succ _
  | _ :: r, i + 1 => Nat.succ_le_succ (len_erase r i)
theorem foldl_rep (its : List Value) : ∀ (k : Nat) (acc : List Value),
    List.foldl (fun x1 x2 => x1 ++ x2) acc.toArray (List.replicate k its.toArray) = (acc ++ (List.replicate k its).flatten).toArray
  | 0, acc => by simp
  | k + 1, acc => by
    have e : acc.toArray ++ its.toArray = (acc ++ its).toArray := by simp
    have e2 : (acc ++ its) ++ (List.replicate k its).flatten = acc ++ (List.replicate (k + 1) its).flatten := by
      rw [List.replicate_succ, List.flatten_cons, List.append_assoc]
    rw [← e2, ← foldl_rep its k (acc ++ its), ← e, List.replicate_succ, List.foldl_cons]

section
variable {X : Cx} {pins : List (Addr × Obj)} {σ : St} {H : Hp} {s : Shared} {l b : Addr} {xs ys zs : List V}

/-! ### the two steps: a tracked list is rewritten, a new list is laid -/
theorem Inv.lset {its its' : List Value} {n : Nat} {f : Array Value → Array Value} {t' : Nat} (I : Inv X pins σ H s) (hH : H l = some (.lst xs))
    (e : s.heap.get? l = some { cls := .type "list", data := .seq its.toArray n }) (hf : f its.toArray = its'.toArray) (hv : Vals ys its') (hz : ys.length ≤ sizeLine) :
    Inv X pins σ (upd H l (.lst ys)) { s with heap := s.heap.update l (Obj.mapSeq f), toks := t' } := by
  have q := PySem.IsL.update e f
  rw [hf] at q
  refine I.write (x := l) (e := l) (by rw [hH]; exact trivial) (.inl rfl) (fun b' u hb hu => (Heap.get?_update_other s.heap (Obj.mapSeq f) (Ne.symm hb)).trans hu) ⟨_, q⟩ ?_
  exact ⟨hz, its', _, hv, q⟩
theorem Inv.lnew {its : List Value} {t' : Nat} (I : Inv X pins σ H s) (hv : Vals ys its) (hz : ys.length ≤ sizeLine) :
    Inv X pins σ (upd H s.heap.objs.size (.lst ys)) { s with heap := s.heap.push { cls := .type "list", data := .seq its.toArray }, toks := t' } :=
  I.laid (fun _ _ q => Heap.get?_push_of_some _ q) (Nat.le_refl _) ⟨hz, its, 0, hv, Heap.get?_push_size _ rfl⟩
theorem Inv.fresh (I : Inv X pins σ H s) : H s.heap.objs.size = none := I.hok.fresh (Nat.le_refl _)
theorem Inv.lstM (I : Inv X pins σ H s) (hH : H l = some (.lst xs)) : xs.length ≤ sizeLine ∧ ∃ (its : List Value) (n : Nat), Vals xs its ∧ xs.length = its.length ∧ s.heap.get? l = some { cls := .type "list", data := .seq its.toArray n } := by
  obtain ⟨z, its, n, r, e⟩ := I.hok l _ hH
  exact ⟨z, its, n, r, r.length, e⟩

theorem notLongL {n : Nat} (h : n ≤ sizeLine) : Builtin.List.listTooLong n = false := by
  unfold Builtin.List.listTooLong
  exact decide_eq_false (by omega)
end

section
variable {X : Cx}

/-! ### methods -/
def rAppend : V → List V → Hp → VK → Prop := fun x vs H Q => ∃ l xs y, x = .ref l ∧ vs = [y] ∧ H l = some (.lst xs) ∧ xs.length < sizeLine ∧ Q .non (upd H l (.lst (xs ++ [y])))
theorem mt_append : MtM X "list.append" rAppend := by
  intro pins s σ H x vs v us Q I rx rv h
  obtain ⟨l, xs, y, rfl, rfl, hH, hz, q⟩ := h
  cases rx
  obtain ⟨u, rfl, ru⟩ := rv.one
  obtain ⟨z, its, n, r, hl, e⟩ := I.lstM hH
  refine call_meets F.slot_list_append ⟨_, e, rfl⟩ F.entry_list_append (F.args_list_append_2 _ _) (PySem.list_append l its.toArray n u (by rw [List.size_toArray]; omega)) ⟨e, ?_⟩
  refine ⟨.non, _, I.lset (its' := its ++ [u]) hH e (by simp) (r.append (.cons ru .nil)) ?_, rfl, q⟩
  rw [List.length_append, List.length_singleton]
  omega

def rExtend : V → List V → Hp → VK → Prop := fun x vs H Q => ∃ l b xs zs, x = .ref l ∧ vs = [.ref b] ∧ H l = some (.lst xs) ∧ H b = some (.lst zs) ∧ xs.length + zs.length ≤ sizeLine ∧ Q .non (upd H l (.lst (xs ++ zs)))
theorem mt_extend : MtM X "list.extend" rExtend := by
  intro pins s σ H x vs v us Q I rx rv h
  obtain ⟨l, b, xs, zs, rfl, rfl, hH, hB, hz, q⟩ := h
  cases rx
  obtain ⟨u, rfl, ru⟩ := rv.one
  cases ru
  obtain ⟨z, its, n, r, hl, e⟩ := I.lstM hH
  obtain ⟨z2, its2, n2, r2, hl2, e2⟩ := I.lstM hB
  have hsz : its.toArray.size + its2.toArray.size ≤ sizeLine := by rw [List.size_toArray, List.size_toArray]; omega
  have hlong : ¬ (!its.toArray.isEmpty && Builtin.List.listTooLong (its.toArray.size + its2.toArray.size)) = true := by
    rw [notLongL hsz, Bool.and_false]
    exact Bool.false_ne_true
  refine call_meets F.slot_list_extend ⟨_, e, rfl⟩ F.entry_list_extend (F.args_list_extend_2 _ _)
    (AutoSeq1.list_extend_list_list_0 l its.toArray n b its2.toArray n2 hlong (by rw [List.size_toArray]; omega) (by omega)) ⟨e, e2, ?_⟩
  refine ⟨.non, _, I.lset (its' := its ++ its2) hH e (by simp) (r.append r2) ?_, rfl, q⟩
  rw [List.length_append]
  omega

def rPop : V → List V → Hp → VK → Prop := fun x vs H Q => ∃ l xs y, x = .ref l ∧ vs = [] ∧ H l = some (.lst xs) ∧ xs[xs.length - 1]? = some y ∧ Q y (upd H l (.lst xs.dropLast))
theorem mt_pop : MtM X "list.pop" rPop := by
  intro pins s σ H x vs v us Q I rx rv h
  obtain ⟨l, xs, y, rfl, rfl, hH, hy, q⟩ := h
  cases rx
  have hus := rv.zero
  subst hus
  obtain ⟨z, its, n, r, hl, e⟩ := I.lstM hH
  obtain ⟨u, hu, ru⟩ := r.get hy
  have hy' : its.toArray[its.toArray.size - 1]? = some u := by
    show its.toArray[its.length - 1]? = some u
    rw [← Array.getElem?_toList, ← hl]
    exact hu
  refine call_meets F.slot_list_pop ⟨_, e, rfl⟩ F.entry_list_pop (F.args_list_pop_1 _) (MeetsSeq.list_pop_last l its.toArray n u hy' (by rw [List.size_toArray]; omega)) ⟨e, ?_⟩
  refine ⟨y, _, I.lset (its' := its.dropLast) hH e ?_ r.dropLast ?_, ru, q⟩
  · show its.toArray.eraseIdxIfInBounds (its.toArray.size - 1) = its.dropLast.toArray
    rw [List.size_toArray, List.eraseIdxIfInBounds_toArray, erase_last]
  · rw [List.length_dropLast]
    omega

def rPopAt : V → List V → Hp → VK → Prop := fun x vs H Q => ∃ l xs i k y, x = .ref l ∧ vs = [.int i] ∧ H l = some (.lst xs) ∧ -(2 ^ 63) ≤ i ∧ i < 2 ^ 63 ∧ seqIndex? i xs.length = some k ∧ xs[k]? = some y ∧ Q y (upd H l (.lst (xs.eraseIdx k)))
theorem mt_popAt : MtM X "list.pop" rPopAt := by
  intro pins s σ H x vs v us Q I rx rv h
  obtain ⟨l, xs, i, k, y, rfl, rfl, hH, h1, h2, hk, hy, q⟩ := h
  cases rx
  obtain ⟨u, rfl, ru⟩ := rv.one
  obtain ⟨t, rfl⟩ := ru
  obtain ⟨z, its, n, r, hl, e⟩ := I.lstM hH
  obtain ⟨w, hw, rw'⟩ := r.get hy
  refine call_meets F.slot_list_pop ⟨_, e, rfl⟩ F.entry_list_pop (F.args_list_pop_2 _ _)
    (MeetsSeq.list_pop_at l its.toArray n i t k w (fitsIndex_both h1 h2) (by rw [List.size_toArray, ← hl]; exact hk) (by rw [← Array.getElem?_toList]; exact hw) (by rw [List.size_toArray]; omega)) ⟨e, ?_⟩
  refine ⟨y, _, I.lset (its' := its.eraseIdx k) hH e ?_ (r.eraseIdx k) ?_, rw', q⟩
  · show its.toArray.eraseIdxIfInBounds k = (its.eraseIdx k).toArray
    rw [List.eraseIdxIfInBounds_toArray]
  · have := len_erase xs k
    omega

def rReverse : V → List V → Hp → VK → Prop := fun x vs H Q => ∃ l xs, x = .ref l ∧ vs = [] ∧ H l = some (.lst xs) ∧ Q .non (upd H l (.lst xs.reverse))
theorem mt_reverse : MtM X "list.reverse" rReverse := by
  intro pins s σ H x vs v us Q I rx rv h
  obtain ⟨l, xs, rfl, rfl, hH, q⟩ := h
  cases rx
  have hus := rv.zero
  subst hus
  obtain ⟨z, its, n, r, hl, e⟩ := I.lstM hH
  refine call_meets F.slot_list_reverse ⟨_, e, rfl⟩ F.entry_list_reverse (F.args_list_reverse_1 _) (AutoSeq1.list_reverse_list_0 l its.toArray n (by rw [List.size_toArray]; omega)) ⟨e, ?_⟩
  refine ⟨.non, _, I.lset (its' := its.reverse) hH e (by simp) r.reverse ?_, rfl, q⟩
  rw [List.length_reverse]
  omega

def rClear : V → List V → Hp → VK → Prop := fun x vs H Q => ∃ l xs, x = .ref l ∧ vs = [] ∧ H l = some (.lst xs) ∧ Q .non (upd H l (.lst []))
theorem mt_clear : MtM X "list.clear" rClear := by
  intro pins s σ H x vs v us Q I rx rv h
  obtain ⟨l, xs, rfl, rfl, hH, q⟩ := h
  cases rx
  have hus := rv.zero
  subst hus
  obtain ⟨z, its, n, r, hl, e⟩ := I.lstM hH
  refine call_meets F.slot_list_clear ⟨_, e, rfl⟩ F.entry_list_clear (F.args_list_clear_1 _) (AutoSeq1.list_clear_list_0 l its.toArray n (by rw [List.size_toArray]; omega)) ⟨e, ?_⟩
  exact ⟨.non, _, I.lset (its' := []) (ys := []) hH e rfl .nil (Nat.zero_le _), rfl, q⟩

/-! ### list + list, list += list, list * int -/
def rCat : R2 := fun x y H Q => ∃ l b xs zs, x = .ref l ∧ y = .ref b ∧ H l = some (.lst xs) ∧ H b = some (.lst zs) ∧ xs.length + zs.length ≤ sizeLine ∧ ∀ p, H p = none → Q (.ref p) (upd H p (.lst (xs ++ zs)))
theorem op_cat : OpR X (binaryOp .Add) rCat := by
  intro pins s σ H x y v u Q I rx ry h
  obtain ⟨l, b, xs, zs, rfl, rfl, hH, hB, hz, q⟩ := h
  cases rx
  cases ry
  obtain ⟨z, its, n, r, hl, e⟩ := I.lstM hH
  obtain ⟨z2, its2, n2, r2, hl2, e2⟩ := I.lstM hB
  refine PySem.P.add_list e e2 ?_ (by rw [List.size_toArray, List.size_toArray]; omega)
  have ea : its.toArray ++ its2.toArray = (its ++ its2).toArray := by simp
  rw [ea]
  exact ⟨.ref _, _, I.lnew (t' := s.toks) (r.append r2) (by rw [List.length_append]; omega), rfl, q _ I.fresh⟩
/-- a list times an int (a negative one is nothing) -/
def rRep : R2 := fun x y H Q => ∃ l k xs, x = .ref l ∧ y = .int k ∧ H l = some (.lst xs) ∧ -(2 ^ 63) ≤ k ∧ k < 2 ^ 63 ∧ xs.length * k.toNat ≤ sizeLine ∧
  ∀ p, H p = none → Q (.ref p) (upd H p (.lst (List.replicate k.toNat xs).flatten))
theorem len_rep {α : Type} (xs : List α) (k : Nat) : (List.replicate k xs).flatten.length = k * xs.length := by
  induction k with
  | zero => simp
  | succ k ih => rw [List.replicate_succ, List.flatten_cons, List.length_append, ih, Nat.succ_mul, Nat.add_comm]
theorem op_rep : OpR X (binaryOp .Mult) rRep := by
  intro pins s σ H x y v u Q I rx ry h
  obtain ⟨l, k, xs, rfl, rfl, hH, h1, h2, hz, q⟩ := h
  cases rx
  obtain ⟨t, rfl⟩ := ry
  obtain ⟨z, its, n, r, hl, e⟩ := I.lstM hH
  have hlen : its.toArray.size * k.toNat ≤ sizeLine := by rw [List.size_toArray, ← hl]; exact hz
  have hcap : ¬ its.toArray.size * k.toNat > (2 ^ 63 - 1) / 8 := by
    have : (sizeLine : Nat) ≤ (2 ^ 63 - 1) / 8 := by decide
    omega
  have hfit : ¬ (!Builtin.List.listFitsIndex k) = true := by
    rw [fitsIndex_both h1 h2]
    exact Bool.false_ne_true
  have hlong : ¬ Builtin.List.listTooLong (its.toArray.size * k.toNat) = true := by
    rw [notLongL hlen]
    exact Bool.false_ne_true
  have hnew : List.foldl (fun x1 x2 => x1 ++ x2) #[] (List.replicate (if its.toArray.isEmpty = true then 0 else k.toNat) its.toArray) = (List.replicate k.toNat its).flatten.toArray := by
    have f0 : ∀ m : Nat, List.foldl (fun x1 x2 => x1 ++ x2) #[] (List.replicate m its.toArray) = (List.replicate m its).flatten.toArray := fun m => by
      have := foldl_rep its m []
      rw [List.nil_append] at this
      exact this
    rw [f0]
    cases its with
    | nil => simp
    | cons a r' => rw [if_neg (by simp)]
  refine wpAny_binaryOp_repeat_ref (T := "list") (U := "int") (by decide) ⟨_, e, rfl⟩ (fun s' => typeIs_int s' k t) noFill_list_mul F.fills_int_mul F.slot_int_rmul repeat_list F.slot_int_index.lookup
    (call_meets F.slot_int_rmul (typeIs_int s k t) F.entry_int_rmul (F.args_int_rmul_2 _ _) (int___rmul___int_list k t l its.toArray n)
      ⟨e, rfl, ⟨_, e, rfl⟩, call_meets F.slot_list_mul ⟨_, e, rfl⟩ F.entry_list_mul (F.args_list_mul_2 _ _) (AutoListH.list___mul___list_int_3 l its.toArray n k t hfit hcap hlong) ⟨e, ?_⟩⟩)
  rw [hnew]
  exact ⟨.ref _, _, I.lnew (t' := s.toks) (r.rep k.toNat) (by rw [len_rep, Nat.mul_comm]; exact hz), rfl, q _ I.fresh⟩

/-! ### del xs[i] -/
theorem del_list {pins : List (Addr × Obj)} {s : Shared} {σ : St} {H : Hp} {l : Addr} {xs : List V} {i : Int} {t : Tok} {k : Nat} {Q : Unit → Shared → Prop} (I : Inv X pins σ H s) (hH : H l = some (.lst xs))
    (h1 : -(2 ^ 63) ≤ i) (h2 : i < 2 ^ 63) (hk : seqIndex? i xs.length = some k) (h : ∀ s', Inv X pins σ (upd H l (.lst (xs.eraseIdx k))) s' → Q () s') :
    wpAny (model X.prog X.w) X.A (delItem (.ref l) (.int i t)) Q X.xe s := by
  obtain ⟨z, its, n, r, hl, e⟩ := I.lstM hH
  refine PySem.P.delItem_list (k := k) e (fitsIndex_both h1 h2) (by rw [List.size_toArray, ← hl]; exact hk) (h _ ?_) (by rw [List.size_toArray]; omega)
  refine I.lset (its' := its.eraseIdx k) (t' := s.toks) hH e ?_ (r.eraseIdx k) ?_
  · show its.toArray.eraseIdxIfInBounds k = (its.eraseIdx k).toArray
    rw [List.eraseIdxIfInBounds_toArray]
  · have := len_erase xs k
    omega
end

/-! ### xs[a:b] = ys -/
section
variable {prog : Program} {w : World} {A : Around} {E : Value → Shared → Prop} {s : Shared}
theorem splice_eq (its its2 : List Value) (a c : Nat) : its.toArray.extract 0 a ++ its2.toArray ++ its.toArray.extract c its.toArray.size = (its.take a ++ its2 ++ its.drop c).toArray := by
  apply Array.toList_inj.mp
  first
    | (simp
       exact List.take_of_length_le (by simp))
    | simp [List.take_of_length_le]
    | simp
theorem bounds_run {a c n : Nat} (hac : a ≤ c) (hc : c ≤ n) : sliceBounds (some (a : Int)) (some (c : Int)) none n = ((a : Int), (c : Int), 1) := by
  simp only [sliceBounds, Option.getD_none]
  have h1 : ¬ ((a : Int) < 0) := by omega
  have h2 : ¬ ((c : Int) < 0) := by omega
  simp only [h1, h2, if_false, show (1 : Int) > 0 by decide, if_true]
  congr 1
  · omega
  · congr 1; omega
set_option maxRecDepth 100000 in
/-- list.__setitem__ with a slice of step one and another list -/
theorem setItem_slice {l b sl : Addr} {items new : Array Value} {n n2 : Nat} {vl vu : Value} {a c : Nat} {Q : Unit → Shared → Prop}
    (e : s.heap.get? l = some { cls := .type "list", data := .seq items n }) (e2 : s.heap.get? b = some { cls := .type "list", data := .seq new n2 }) (hne : l ≠ b)
    (hs : s.heap.IsSliceOf sl vl vu .none) (pl : IsPart vl (some (a : Int))) (pu : IsPart vu (some (c : Int))) (hac : a ≤ c) (hc : c ≤ items.size)
    (hsz : items.size + new.size ≤ sizeLine) (h : Q () { s with heap := s.heap.update l (Obj.mapSeq fun xs => xs.extract 0 a ++ new ++ xs.extract c xs.size) }) :
    wpAny (model prog w) A (setItem (.ref l) (.ref sl) (.ref b)) Q E s := by
  have hl : s.heap.IsList l items := PySem.IsL.isList e
  have hb : s.heap.IsList b new := PySem.IsL.isList e2
  obtain ⟨os, hos, hcs, hds⟩ := id hs
  have hTs : s.TypeIs (.ref sl) "slice" := ⟨os, hos, hcs⟩
  have hstep : ¬ ((rawPart none == rawInt 0) = true) := Bool.false_ne_true
  have hsame : Builtin.List.listSameRef (.ref l) (.ref b) = false := by
    unfold Builtin.List.listSameRef
    exact beq_eq_false_iff_ne.mpr hne
  have hmax : (max (a : Int) (c : Int)).toNat = c := by omega
  have hz' : ((fun xs : Array Value => xs.extract 0 a ++ new ++ xs.extract c xs.size) items).size ≤ sizeLine + 1 := by
    simp only [Array.size_append, Array.size_extract]
    omega
  unfold setItem
  try with_reducible refine wpAny_holding ?_
  first | refine wpAny_bind (wpAny_pure ?_) | skip
  refine wpAny_bind (wpAny_sequenceKey hl.typeIs (by decide) ?_)
  refine wpAny_bind (wpAny_callSpecial?_slot (name := Str.ofString "__setitem__") hl.typeIs slot_list_setitem
    (wpAny_call_entry slot_list_setitem hl.typeIs entry_list_setitem ?_ (args_list_setitem _ _ _)))
  show wpAny _ _ (Builtin.List.listSubscript? (.ref sl) >>= _) _ _ s
  refine wpAny_bind ?_
  unfold Builtin.List.listSubscript?
  refine wpAny_bind (wpAny_specialOf hTs slice_no_index ?_)
  simp only [Option.isNone_none, if_true]
  refine wpAny_pure ?_
  show wpAny _ _ (typeOf (.ref sl) >>= _) _ _ s
  refine wpAny_bind (wpAny_typeOf hTs ?_)
  first
    | rw [if_neg (by decide)]
    | refine PySem.W.KFB.if_not (by decide) ?_
  rw [listSliceParts_eq]
  refine wpAny_bind (wpAny_bind (wpAny_field hos hds (x := .none) rfl (wpAny_bind (wpAny_listPart .none ?_))))
  rw [if_neg hstep]
  refine wpAny_bind (wpAny_field hos hds (x := vl) rfl (wpAny_bind (wpAny_listPart pl ?_)))
  refine wpAny_bind (wpAny_field hos hds (x := vu) rfl (wpAny_bind (wpAny_listPart pu (wpAny_pure ?_))))
  first
    | simp only [hsame, Bool.false_eq_true, if_false]
    | refine PySem.W.KFB.if_not hsame ?_
    | (dsimp only
       rw [if_neg (by rw [hsame]; exact Bool.false_ne_true)])
  refine wpAny_bind (m := Builtin.List.listAllItems (.ref b) "must assign iterable to extended slice") ?_
  unfold Builtin.List.listAllItems
  refine wpAny_bind (wpAny_typeOf hb.typeIs ?_)
  first
    | refine PySem.W.KFB.if_so (by decide) ?_
    | rw [if_pos (by decide)]
    | simp only [beq_self_eq_true, Bool.true_or, if_true]
  unfold Builtin.List.listItems
  refine wpAny_bind (wpAny_seqItems e2 rfl (wpAny_pure ?_))
  refine wpAny_bind (wpAny_bind (wpAny_seqItems e rfl (wpAny_pure ?_)))
  refine wpAny_bind (wpAny_of_eq ((sliceIndices_raw (some (a : Int)) (some (c : Int)) none items.size (by simp)).trans (congrArg (pure : Int × Int × Int → Sem (Int × Int × Int)) (bounds_run hac hc))) ?_)
  show wpAny _ _ (if ((1 : Int) == 1) = true then _ else _) _ _ s
  rw [if_pos (by decide)]
  refine wpAny_bind (wpAny_rule ?_)
  first
    | simp only [notLongL hsz, Bool.false_eq_true, if_false]
    | refine PySem.W.KFB.if_not (notLongL hsz) ?_
  first | refine wpAny_bind (wpAny_pure ?_) | skip
  show wpAny _ _ (updateSeq l (fun xs => xs.extract 0 ((a : Int)).toNat ++ new ++ xs.extract (max (a : Int) (c : Int)).toNat xs.size) >>= _) _ _ s
  rw [hmax, Int.toNat_natCast]
  refine wpAny_bind (wpAny_updateSeq (hz := Nat.le_trans (Nat.le_add_right _ _) hsz) (_hz' := hz') e rfl ?_)
  refine wpAny_bind (wpAny_letGo ?_)
  first
    | exact wpAny_bind (wpAny_pure (wpAny_pure ⟨.none, rfl, wpAny_pure h⟩))
    | exact wpAny_pure ⟨.none, rfl, wpAny_pure h⟩
end

section
variable {X : Cx}
/-- xs[a:c] = ys of another list, at the value level: sl is the slice object that was just made -/
theorem set_slice {pins : List (Addr × Obj)} {s : Shared} {σ : St} {H : Hp} {l b sl : Addr} {xs ys : List V} {a c : Int} {vl vu : Value} {Q : Unit → Shared → Prop} (I : Inv X pins σ H s)
    (hH : H l = some (.lst xs)) (hB : H b = some (.lst ys)) (hne : l ≠ b) (hs : s.heap.IsSliceOf sl vl vu .none) (ra : RelV (.int a) vl) (rc : RelV (.int c) vu) (h0 : 0 ≤ a) (hac : a ≤ c) (hc : c ≤ xs.length)
    (hz : xs.length + ys.length ≤ sizeLine) (h : ∀ s', Inv X pins σ (upd H l (.lst (xs.take a.toNat ++ ys ++ xs.drop c.toNat))) s' → Q () s') :
    wpAny (model X.prog X.w) X.A (setItem (.ref l) (.ref sl) (.ref b)) Q X.xe s := by
  obtain ⟨ta, rfl⟩ := ra
  obtain ⟨tc, rfl⟩ := rc
  obtain ⟨z, its, n, r, hl, e⟩ := I.lstM hH
  obtain ⟨z2, its2, n2, r2, hl2, e2⟩ := I.lstM hB
  obtain ⟨a', rfl⟩ := Int.eq_ofNat_of_zero_le h0
  obtain ⟨c', rfl⟩ := Int.eq_ofNat_of_zero_le (Int.le_trans h0 hac)
  simp only [Int.toNat_natCast] at h
  refine setItem_slice (a := a') (c := c') e e2 hne hs (.int _ _) (.int _ _) (by omega) (by rw [List.size_toArray]; omega) (by rw [List.size_toArray, List.size_toArray]; omega) (h _ ?_)
  refine I.lset (its' := its.take a' ++ its2 ++ its.drop c') (t' := s.toks) hH e ?_ (Vals.append (Vals.append (r.take _) r2) (r.drop _)) ?_
  · exact splice_eq its its2 a' c'
  · rw [List.length_append, List.length_append, List.length_take, List.length_drop]
    omega
end
end L2

namespace Att
open PySem PySem.W PySem.Calls PyProof.Rows

/-! ### the script -/
theorem ints_of_wellAll {P : Params} {h : Heap} : ∀ (ns : List Int) (vs : List Value), WellAll P h vs (ns.map WData.int) → IntsAre vs ns := by
  intro ns
  induction ns with
  | nil =>
    intro vs w
    rw [List.map_nil] at w
    cases w
    exact .nil
  | cons n ns ih =>
    intro vs w
    rw [List.map_cons] at w
    cases w with
    | cons a b =>
      cases a
      exact .cons _ _ (ih _ b)

theorem script_of {l : OpenLaw} {n : Nat} (hn : l.most = some n) {P : Params} {h : Heap} {args : List WData} {vals : List Value}
    (hpre : l.row.toRowW.claim.pre args = true) (hwl : WellAll P h vals args) :
    ∃ a vs ns, vals = [Value.ref a] ∧ args = [WData.list (ns.map WData.int)] ∧ h.get? a = some { cls := .type "list", data := .seq vs.toArray } ∧ IntsAre vs ns ∧ ns.length ≤ n := by
  have hsh : WShape.hasAll [] args [.list .int] = true := (pre_splitW hpre).1
  have hc : l.pre.holds [] { args := args } = true := (pre_splitW hpre).2
  obtain ⟨d, r, rfl, h1, h2⟩ := hasAllW_cons hsh
  obtain rfl := hasAllW_nil h2
  obtain ⟨xs, rfl, h3⟩ := hasW_list h1
  obtain ⟨ns, rfl⟩ := items_int h3
  have hlen : ns.length ≤ n := by
    unfold OpenLaw.pre at hc
    have h4 : (WTm.not (.lt (.lit (.int (n : Int))) (.len (.arg 0)))).holds [] { args := [.list (ns.map .int)] } = true := by
      have h4 := (holds_andW hc).1
      rw [hn] at h4
      exact h4
    have h5 := condW_of h4 (w_not (w_lt w_lit (w_len_list (w_arg rfl))))
    rw [List.length_map] at h5
    refine Nat.le_of_not_lt fun q => ?_
    have q' : (n : Int) < ((ns.length : Nat) : Int) := by omega
    first
      | (rw [decide_eq_true q'] at h5; exact absurd h5 (by decide))
      | (simp at h5; omega)
  cases hwl with
  | cons w1 w2 =>
    cases w2
    cases w1 with
    | list ho hall => exact ⟨_, _, ns, rfl, rfl, ho, ints_of_wellAll ns _ hall, hlen⟩

theorem post_true (l : OpenLaw) (args : List WData) : l.row.toRowW.claim.post args (.bool true) args = true :=
  postW_of (r := l.row.toRowW) (X := (true == true))
    (show WShape.has [] (.bool true) .bool = true by first | rfl | decide | simp [WShape.has, WShape.arms, WShape.armsAll])
    (show (WTm.eq .res (.lit (.bool true))).value [] { args := args, res := some (.bool true), after := args } = some (.bool (true == true)) from w_eq_bool (w_res rfl) w_lit) rfl

/-! ### the attachment: holds_open's last premise (the goal 'hc' behind k_head) from a wpAny of the law's body -/
theorem attach {l : OpenLaw} {n : Nat} {q : Program} {loose : List Str} {XP : (Str → Option Value) → Heap → Prop} {YP : World → Heap → Prop} {d : DefRec} {x : Str}
    (hn : l.most = some n) (hdf : d.params.defaults = [])
    (hbind : ∀ pm cd doc v : Value, bindArgs (docDef d.name d.params d.body d.scope pm cd doc) ⟨[v], []⟩ = pure [(x, v)])
    (hx : d.scope.names.lookup x = some .local ∨ d.scope.names.lookup x = some .cell)
    (hk : d.scope.kind = .function) (hco : d.scope.isCoroutine = false) (hgen : d.scope.isGenerator = false)
    (body : ∀ (w : World) (s₀ s₁ s : Shared) (mg mb : Str → Option Value) (fa : Addr) (o : Obj) (pm cd doc : Value) (a : Addr) (vs : List Value) (ns : List Int),
      Ground q loose [] XP w s₀ mg mb s₁.heap → YP w s₁.heap →
      s₁.heap.get? fa = some o → o.data = .func (docDef d.name d.params d.body d.scope pm cd doc) → s₁.heap.CodeRec cd d.name → mg d.name = some (.ref fa) →
      s₁.heap.get? a = some { cls := .type "list", data := .seq vs.toArray } → IntsAre vs ns → ns.length ≤ n →
      s.gens = #[] → s.os = s₁.os →
      Fr s₁.heap s₁.heap.objs.size s.heap (bindL (envOfC d.name d.scope s₁.heap.objs.size fa cd).kindOf [(x, .ref a)] fun _ => none) →
      Cl s₁.heap.objs.size (cellsFrom (s₁.heap.objs.size + 1) d.scope.names []) s.heap (bindC (envOfC d.name d.scope s₁.heap.objs.size fa cd).kindOf [(x, .ref a)] fun _ => none) →
      wpAny (model l.prog w) (callerA.deeper (envOfC d.name d.scope s₁.heap.objs.size fa cd)) (execs d.body (envOfC d.name d.scope s₁.heap.objs.size fa cd))
        (fun f s' => f = .ret (.bool true) ∧ OldK s₁.heap s'.heap ∧ s'.os = s₁.os ∧ AllBare s'.gens) (fun _ _ => False) s) :
    WalkO q loose XP YP l.row.toRowW d [] (fun f vs => PySem.call f vs) := by
  intro w s₀ s₁ mg mb G Y fa o pm cd doc dV kV ho hd hcd hD hmg hg args vals as hpre hlay hrd hwl hlo
  obtain rfl : dV = .none := Dflts.none hD hdf
  obtain rfl : kV = .none := Dflts.noKw hD
  obtain ⟨a, vs, ns, rfl, rfl, hobj, hints, hlen⟩ := script_of hn hpre hwl
  refine enter_call ?_
  refine call_cells_ret (o := o) (by rw [depth_caller]; decide) ho (fd_plain hd) G.T.nolimit hcd (hbind pm cd doc (.ref a)) (fun y hy => ?_) (fun h₁ tk F X => ?_) hco hgen hk
  · obtain rfl : y = (x, Value.ref a) := List.mem_singleton.mp hy
    rcases hx with e | e
    · exact .inl e
    · exact .inr ⟨e, cellsFrom_some _ _ _ (.inl e)⟩
  · refine wpAny_mono (body w s₀ s₁ { s₁ with heap := h₁, toks := tk } mg mb fa o pm cd doc a vs ns G Y ho (fd_plain hd) hcd hmg hobj hints hlen hg rfl F X) (fun f s' hq => ?_) (fun _ _ hq => hq)
    obtain ⟨rfl, h2, h3, h4⟩ := hq
    exact ⟨.inl ⟨.bool true, .bool true, [], rfl, fun _ => rfl, .bool true, post_true l _, fun _ => ⟨List.Pairwise.nil, fun _ hm => (nomatch hm)⟩⟩, h2, h3, h4⟩

/-- the same from a codeAny of the CALL (for a layer whose function contracts speak of calls) -/
theorem attach_call {l : OpenLaw} {n : Nat} {q : Program} {loose : List Str} {XP : (Str → Option Value) → Heap → Prop} {YP : World → Heap → Prop} {d : DefRec}
    (hn : l.most = some n) (hdf : d.params.defaults = [])
    (call : ∀ (w : World) (s₀ s₁ : Shared) (mg mb : Str → Option Value) (fa : Addr) (o : Obj) (pm cd doc : Value) (a : Addr) (vs : List Value) (ns : List Int),
      Ground q loose [] XP w s₀ mg mb s₁.heap → YP w s₁.heap →
      s₁.heap.get? fa = some o → o.data = .func (docDef d.name d.params d.body d.scope pm cd doc) → s₁.heap.CodeRec cd d.name → mg d.name = some (.ref fa) →
      s₁.heap.get? a = some { cls := .type "list", data := .seq vs.toArray } → IntsAre vs ns → ns.length ≤ n → s₁.gens = #[] →
      codeAny (model l.prog w) callerA (.call (.ref fa) ⟨[.ref a], []⟩) (fun r s' => r = .ok (.ret (.bool true)) ∧ OldK s₁.heap s'.heap ∧ s'.os = s₁.os ∧ AllBare s'.gens) s₁) :
    WalkO q loose XP YP l.row.toRowW d [] (fun f vs => PySem.call f vs) := by
  intro w s₀ s₁ mg mb G Y fa o pm cd doc dV kV ho hd hcd hD hmg hg args vals as hpre hlay hrd hwl hlo
  obtain rfl : dV = .none := Dflts.none hD hdf
  obtain rfl : kV = .none := Dflts.noKw hD
  obtain ⟨a, vs, ns, rfl, rfl, hobj, hints, hlen⟩ := script_of hn hpre hwl
  refine enter_call (codeAny_mono (call w s₀ s₁ mg mb fa o pm cd doc a vs ns G Y ho (fd_plain hd) hcd hmg hobj hints hlen hg) fun r s' hq => ?_)
  obtain ⟨rfl, h2, h3, h4⟩ := hq
  exact ⟨.inl ⟨.bool true, .bool true, [], rfl, fun _ => rfl, .bool true, post_true l _, fun _ => ⟨List.Pairwise.nil, fun _ hm => (nomatch hm)⟩⟩, h2, h3, h4⟩

/-- the same where the top left finished generators (o_head chose holds_openN): nothing may have changed at all and no generator may be left -/
theorem attachN {l : OpenLaw} {n : Nat} {q : Program} {loose : List Str} {XP : (Str → Option Value) → Heap → Prop} {YP : World → Heap → Prop} {d : DefRec} {x : Str}
    (hn : l.most = some n) (hdf : d.params.defaults = [])
    (hbind : ∀ pm cd doc v : Value, bindArgs (docDef d.name d.params d.body d.scope pm cd doc) ⟨[v], []⟩ = pure [(x, v)])
    (hx : d.scope.names.lookup x = some .local ∨ d.scope.names.lookup x = some .cell)
    (hk : d.scope.kind = .function) (hco : d.scope.isCoroutine = false) (hgen : d.scope.isGenerator = false)
    (body : ∀ (w : World) (s₀ s₁ s : Shared) (mg mb : Str → Option Value) (fa : Addr) (o : Obj) (pm cd doc : Value) (a : Addr) (vs : List Value) (ns : List Int),
      Ground q loose [] XP w s₀ mg mb s₁.heap → YP w s₁.heap →
      s₁.heap.get? fa = some o → o.data = .func (docDef d.name d.params d.body d.scope pm cd doc) → s₁.heap.CodeRec cd d.name → mg d.name = some (.ref fa) →
      s₁.heap.get? a = some { cls := .type "list", data := .seq vs.toArray } → IntsAre vs ns → ns.length ≤ n →
      s.gens = #[] → s.os = s₁.os →
      Fr s₁.heap s₁.heap.objs.size s.heap (bindL (envOfC d.name d.scope s₁.heap.objs.size fa cd).kindOf [(x, .ref a)] fun _ => none) →
      Cl s₁.heap.objs.size (cellsFrom (s₁.heap.objs.size + 1) d.scope.names []) s.heap (bindC (envOfC d.name d.scope s₁.heap.objs.size fa cd).kindOf [(x, .ref a)] fun _ => none) →
      wpAny (model l.prog w) (callerA.deeper (envOfC d.name d.scope s₁.heap.objs.size fa cd)) (execs d.body (envOfC d.name d.scope s₁.heap.objs.size fa cd))
        (fun f s' => f = .ret (.bool true) ∧ (∀ b o, s₁.heap.get? b = some o → s'.heap.get? b = some o) ∧ s'.os = s₁.os ∧ s'.gens = #[]) (fun _ _ => False) s) :
    WalkN q loose XP YP l.row.toRowW d [] (fun f vs => PySem.call f vs) := by
  intro w s₀ s₁ mg mb G Y fa o pm cd doc dV kV ho hd hcd hD hmg hg args vals as hpre hlay hrd hwl hlo
  obtain rfl : dV = .none := Dflts.none hD hdf
  obtain rfl : kV = .none := Dflts.noKw hD
  obtain ⟨a, vs, ns, rfl, rfl, hobj, hints, hlen⟩ := script_of hn hpre hwl
  refine enter_callW ?_
  refine call_cells_ret (o := o) (by rw [depth_caller]; decide) ho (fd_plain hd) G.T.nolimit hcd (hbind pm cd doc (.ref a)) (fun y hy => ?_) (fun h₁ tk F X => ?_) hco hgen hk
  · obtain rfl : y = (x, Value.ref a) := List.mem_singleton.mp hy
    rcases hx with e | e
    · exact .inl e
    · exact .inr ⟨e, cellsFrom_some _ _ _ (.inl e)⟩
  · refine wpAny_mono (body w s₀ s₁ { s₁ with heap := h₁, toks := tk } mg mb fa o pm cd doc a vs ns G Y ho (fd_plain hd) hcd hmg hobj hints hlen hg rfl F X) (fun f s' hq => ?_) (fun _ _ hq => hq)
    obtain ⟨rfl, h2, h3, h4⟩ := hq
    exact ⟨.inl ⟨.bool true, .bool true, [], rfl, fun _ => rfl, .bool true, post_true l _, fun _ => ⟨List.Pairwise.nil, fun _ hm => (nomatch hm)⟩⟩, h2, h3, h4⟩

/-! ### rules over ANY heap (no ledger) from facts about the written part K: the library's own take a ledger (News) for what they write -/
section
variable {prog : Program} {w : World} {A : Around} {E : Value → Shared → Prop} {s : Shared} {K : Frag}

/-- a def of the module, or a method (qual 'C.m'), entered: the frame is the next address; cells behind it -/
theorem call_fn {R : Result → Shared → Prop} {name qual : Str} {params : Arguments} {body : List Stmt} {scope : Scope} {dV kV doc pm cdv ct oc : Value} {an od : Option Addr} {osl : Array (Option Value)} {f : Addr} {args : Args} {binds : List (Str × Value)}
    (X : K.In s.heap) (hlim : s.heap.NoLimit) (ho : K.lookup f = some ⟨oc, od, .func (fnOf name qual params body scope dV kV doc pm an cdv ct), osl⟩) (hcd : codeIn K cdv qual = true) (hroom : A.depth < recursionLimit)
    (hbind : BindsTo s (fnOf name qual params body scope dV kV doc pm an cdv ct) args binds)
    (hkind : (binds.all fun y => scope.names.lookup y.1 == some .local || scope.names.lookup y.1 == some .cell) = true)
    (h : ∀ s₁, InCallC s s.heap.objs.size (bindL (envOfC qual scope s.heap.objs.size f cdv).kindOf binds fun _ => none) (cellsFrom (s.heap.objs.size + 1) scope.names [])
        (bindC (envOfC qual scope s.heap.objs.size f cdv).kindOf binds fun _ => none) s₁ →
      wpAny (model prog w) (A.deeper (envOfC qual scope s.heap.objs.size f cdv)) (execs body (envOfC qual scope s.heap.objs.size f cdv))
        (fun fl s' => R (.ok (.ret (match fl with | .ret v => v | _ => .none))) s')
        (fun e s' => wpAny (model prog w) (A.deeper (envOfC qual scope s.heap.objs.size f cdv)) (leaving (envOfC qual scope s.heap.objs.size f cdv) e) (fun _ s'' => R (.error e) s'') (fun e' s'' => R (.error e') s'') s') s₁)
    (hco : scope.isCoroutine = false) (hgen : scope.isGenerator = false) (hk : scope.kind = .function) : codeAny (model prog w) A (.call (.ref f) args) R s := by
  refine codeAny_call_function hroom (X _ _ ho) rfl hco hgen rfl (codeRec_of X hcd) (hbind _ _ _ _ ?_)
  refine wpAny_newFunctionEnv_cells hk (kindsX hkind _) fun env he s₁ x => ?_
  subst he
  exact ⟨hlim.keeps x.toInCall.keep, codeAny_func (h s₁ x)⟩

/-- C(..): dict at size, instance at size + 1, then __init__ -/
theorem make_obj {R : Result → Shared → Prop} {C fI : Addr} {rest : List Value} {kw : List (Str × Value)}
    (X : K.In s.heap) (hm : makesIn K C = true) (hi : findIn K (.ref C) "__init__" = some (some (.ref fI))) (hf : isFn K (.ref fI) = true)
    (h : codeAny (model prog w) (A.under (.builtin "type.__call__" ⟨.ref C :: rest, kw⟩)) (.call (.ref fI) ⟨.ref (s.heap.objs.size + 1) :: rest, kw⟩) (InitBack (s.heap.objs.size + 1) R)
      { s with heap := (s.heap.push emptyDict).push (instObj C s.heap.objs.size) }) : codeAny (model prog w) A (.call (.ref C) ⟨rest, kw⟩) R s := by
  obtain ⟨hh, g, d, t, os⟩ := s
  exact make_core (makes_of X hm) (looks_findIn X hi) (fun self => bind_fn X self (beq_iff_eq.mp hf)) (.inl rfl) h

/-- x.name where the instance's dict holds the name and the class does not -/
theorem get_field {x C : Addr} {ox : Obj} {es : List DictEntry} {n : Nat} {name : Str} {expr : Bool} {v : Value} {Q : Value → Shared → Prop}
    (X : K.In s.heap) (I : PySem.W.InstAt s.heap x ox C (some (dictOf es n))) (hg : plainGet K C name = true) (hh : hasDictIn K C = true) (ha : findIn K (.ref C) name = some none)
    (hl : getL name es = some (some v)) (hv : handedIn v = true) (h : Q v { s with toks := s.toks + 1 }) : wpAny (model prog w) A (getAttr (.ref x) name expr) Q E s :=
  get_value X I (plainGet_of hg).1 (findObj_own hh ha rfl hl) hv h

/-- x.m(..): the method found in the class -/
theorem get_method {x C f : Addr} {ox : Obj} {es : List DictEntry} {n : Nat} {name : Str} {pl : Sem Bool} {Q : Value × List Value → Shared → Prop}
    (X : K.In s.heap) (I : PySem.W.InstAt s.heap x ox C (some (dictOf es n))) (hg : plainGet K C name = true) (hf : findIn K (.ref C) name = some (some (.ref f))) (ht : isFn K (.ref f) = true)
    (hl : getL name es = some none) (h : Q (.ref f, [.ref x]) s) : wpAny (model prog w) A (getMethod (.ref x) name pl) Q E s :=
  method_fn X I (plainGet_of hg).1 (plainGet_of hg).2 hf (beq_iff_eq.mp ht) (by show (lookIn name (dictOf es n)).map _ = _; rw [lookIn_dict, hl]; rfl) h

/-! the whole heap as the ledger: makes every rule that writes through a ledger a rule over any heap -/
def noObjs (h : Heap) : Heap := { h with objs := #[] }
theorem noObjs_get (h : Heap) (b : Addr) : (noObjs h).get? b = none := by
  cases e : (noObjs h).get? b with
  | none => rfl
  | some o => exact absurd (Heap.lt_size e) (Nat.not_lt_zero _)
def ledger (h : Heap) (L d : Addr) : List (Addr × Obj) := (List.range h.objs.size).filterMap fun a => if a = L ∨ a = d then none else (h.get? a).map fun o => (a, o)
theorem mem_ledger {h : Heap} {L d a : Addr} {o : Obj} : (a, o) ∈ ledger h L d ↔ a ≠ L ∧ a ≠ d ∧ h.get? a = some o := by
  unfold ledger
  rw [List.mem_filterMap]
  constructor
  · rintro ⟨b, _, e⟩
    split at e
    · cases e
    · rename_i hb
      obtain ⟨o', ho, e'⟩ := Option.map_eq_some_iff.mp e
      cases e'
      exact ⟨fun q => hb (.inl q), fun q => hb (.inr q), ho⟩
  · rintro ⟨n1, n2, ho⟩
    refine ⟨a, List.mem_range.mpr (Heap.lt_size ho), ?_⟩
    rw [if_neg (show ¬ (a = L ∨ a = d) from fun q => q.elim n1 n2), ho] <;> rfl
theorem news_ledger {h : Heap} {L d : Addr} {od : Obj} (hne : d ≠ L) (ho : h.get? d = some od) : News (noObjs h) L h ([] ++ (d, od) :: ledger h L d) := by
  rintro ⟨a, o⟩ hp
  rcases List.mem_cons.mp hp with e | hp
  · cases e
    exact ⟨ho, hne, noObjs_get _ _⟩
  · obtain ⟨n1, n2, e⟩ := mem_ledger.mp hp
    exact ⟨e, n1, noObjs_get _ _⟩
theorem fr_all {h : Heap} {L : Addr} {m : Str → Option Value} (n : h.Ns L m) : Fr (noObjs h) L h m :=
  ⟨n, fun b o e => (by rw [noObjs_get] at e; cases e), Nat.zero_le _⟩
/-- Upd of the head entry (for append_K, setItem_K ..) -/
theorem upd_ledger {h : Heap} {L d : Addr} {o o' : Obj} : Upd d o o' ((d, o) :: ledger h L d) ((d, o') :: ledger h L d) :=
  .head fun ⟨_, _⟩ hp => (mem_ledger.mp hp).2.1

/-- x.name = v over any heap: L is any namespace of the heap (the frame's, say): its map stays, its object is not told; all else but the dict stays -/
theorem set_field {x C dx L : Addr} {ox : Obj} {m : Str → Option Value} {es es' : List DictEntry} {n n' : Nat} {name : Str} {v : Value} {Q : Unit → Shared → Prop}
    (X : K.In s.heap) (I : PySem.W.InstAt s.heap x ox C (some (dictOf es n))) (hd : ox.dict = some dx) (hL : s.heap.Ns L m) (hne : dx ≠ L)
    (hs : findIn K (.ref C) "__setattr__" = some (some (.builtin "object.__setattr__"))) (hp : plainOver K C = true) (ht : takerIn K C name = some none) (hh : hasDictIn K C = true) (hl : (getL name es).isSome = true)
    (e : (putL name (PyData.keyHash w.params name) (.str name (s.toks + 1)) v es, putN name es n) = (es', n')) (hz : es'.length ≤ 1000)
    (h : ∀ h' : Heap, h'.Ns L m → h'.get? dx = some (dictOf es' n') → (∀ b o, b ≠ dx → b ≠ L → s.heap.get? b = some o → h'.get? b = some o) → Q () { s with heap := h', toks := s.toks + 2 }) :
    wpAny (model prog w) A (setAttr (.ref x) name v) Q E s := by
  obtain ⟨e1, e2⟩ := Prod.mk.inj e
  have hdx : s.heap.get? dx = some (dictOf es n) := by
    have := I.dict
    rw [hd] at this
    exact this
  refine set_plain X I hs (osa_dict (s := { s with toks := s.toks + 1 }) (h₀ := noObjs s.heap) (L := L) (m := m) (od := dictOf es n) (od' := dictOf es' n') (es := es') (n := n') (pre := []) (post := ledger s.heap L dx)
    (fr_all hL) (news_ledger hne hdx) X I hd hp ht hh hl (fun _ q => nomatch q) (fun ⟨_, _⟩ q => (mem_ledger.mp q).2.1) (by rw [putName_dict, e1, e2]) rfl hz fun h' F' N' => ?_)
  exact h h' F'.ns (N'.get (List.Mem.head _)) fun b o n1 n2 ho => N'.get (List.Mem.tail _ (mem_ledger.mpr ⟨n2, n1, ho⟩))
end
end Att

namespace L2
open PySem PySem.Spec PyProof.Rows

theorem vals_ints : ∀ {vs : List Value} {ns : List Int}, IntsAre vs ns → Vals (ns.map V.int) vs
  | _, _, .nil => .nil
  | _, _, .cons n t h => .cons ⟨t, rfl⟩ (vals_ints h)

/-- nothing is tracked but the script, known to the object (or it is an object of the module) -/
def Only (H : Hp) : Prop := ∀ b, H b = none ∨ ∃ o xs, H b = some (.frz o (.lst xs))

/-- THE HEAD: the law's promise, at the heap behind the top. F, the promise of the law's def, may use that base is part of the heap (so K.In base, base.Ns mainGlobals mg stand in Mod) -/
theorem law_call {P : Program} {w : World} {K : PySem.W.Frag} {mg mb : Str → Option Value} {CX : CXT} {k : Nat} {fa a : Addr} {fd : FuncData} {x : Str} {sp : Sp} {s₁ : Shared} {vs : List Value} {ns : List Int}
    (KX : K.In s₁.heap) (hns : s₁.heap.Ns mainGlobals mg) (hb : s₁.heap.Ns builtinsNs mb) (hbb : ∀ x : Str, x ≠ "__name__" → mb x = bootBuiltins x) (hlim : s₁.heap.NoLimit) (hg : s₁.gens = #[])
    (ha : s₁.heap.get? a = some { cls := .type "list", data := .seq vs.toArray }) (hi : IntsAre vs ns) (hl : ns.length ≤ sizeLine) (hr : Room k callerA)
    (F : ∀ base : Heap, K.In base → base.Ns mainGlobals mg → FnOk P w K mg base CX k fa fd [x] sp) (hbind : ∀ (s : Shared) (u : Value), BindsTo s fd ⟨[u], []⟩ [(x, u)])
    (hsp : ∀ H : Hp, Only H → SqL K H a (ns.map V.int) → sp [.ref a] H (fun v _ => v = .bl true) fun _ _ _ => False)
    (hCX : ∀ H e s', CX [] H s₁ (fun _ _ _ => False) e s' → False) :
    codeAny (model P w) callerA (.call (.ref fa) ⟨[.ref a], []⟩) (fun r s' => r = .ok (.ret (.bool true)) ∧ OldK s₁.heap s'.heap ∧ s'.os = s₁.os ∧ AllBare s'.gens) s₁ := by
  have rv := vals_ints hi
  have lenV := hi.length
  -- from an abstract heap in which nothing but the script may be tracked
  have core : ∀ H : Hp, Only H → SqL K H a (ns.map V.int) → HOk P w H s₁.heap → (∀ b, H b ≠ none → b = a) → (H a ≠ none → K.lookup a = none) →
      codeAny (model P w) callerA (.call (.ref fa) ⟨[.ref a], []⟩) (fun r s' => r = .ok (.ret (.bool true)) ∧ OldK s₁.heap s'.heap ∧ s'.os = s₁.os ∧ AllBare s'.gens) s₁ := by
    intro H hO hS hok hA hK
    have base_of : ∀ {b : Addr} {o : Obj}, s₁.heap.get? b = some o → H b = none → (hidT s₁.heap H).get? b = some o := fun e n => hidT_get e n
    have noA : ∀ {b : Addr} {o : Obj} {es : Array DictEntry} {ep : Nat}, s₁.heap.get? b = some o → o.data = .dict es ep → H b = none := fun {b o es ep} e d => by
      cases q : H b with
      | none => rfl
      | some u =>
        have e' : b = a := hA b (by rw [q]; simp)
        subst e'
        rw [ha] at e; cases e
        have d' : Data.seq vs.toArray _ = Data.dict es ep := d
        cases d'
    have nsK : ∀ {b : Addr} {m : Str → Option Value}, s₁.heap.Ns b m → (hidT s₁.heap H).Ns b m := fun {b m} ⟨o, es, ep, e, d, r⟩ => ⟨o, es, ep, base_of e (noA e d), d, r⟩
    have hKb : K.In (hidT s₁.heap H) := fun b o e => base_of (KX b o e) (by
      cases q : H b with
      | none => rfl
      | some u =>
        have e' : b = a := hA b (by rw [q]; simp)
        subst e'
        rw [hK (by rw [q]; simp)] at e; cases e)
    have hM : Mod K mg (hidT s₁.heap H) := ⟨hKb, nsK hns, ⟨mb, nsK hb, hbb⟩, let ⟨mc, h1, h2⟩ := hlim; ⟨mc, nsK h1, h2⟩⟩
    have e0 : Env0 P w K mg (hidT s₁.heap H) callerA [] s₁ H := ⟨rfl, hM, fun b o e => of_hidT e, Nat.le_of_eq (hidT_size _ _), trivial, fun b hb => absurd (show b ∈ ([] : List Addr) from hb) (by simp), hok, .of_eq hg⟩
    refine codeAny_mono ((F _ hKb (nsK hns)).run callerA [] s₁ H ⟨[.ref a], []⟩ [.ref a] [.ref a] _ _ hr e0 (hbind s₁ (.ref a)) (.cons rfl .nil) (hsp H hO hS)) fun r s' h => ?_
    cases r with
    | error e => exact (hCX H e s' h).elim
    | ok fl =>
      cases fl with
      | next => exact False.elim h
      | brk => exact False.elim h
      | cont => exact False.elim h
      | ret u =>
        obtain ⟨v, H', os, bare, un, hok', r', q⟩ := h
        have q' : v = .bl true := q
        subst q'
        obtain rfl : u = Value.bool true := r'
        refine ⟨rfl, OldK.of_keep fun b o e => ?_, os, bare⟩
        cases q : H b with
        | none => exact un.keep b o e q (by intro z; exact absurd (show b ∈ ([] : List Addr) from z) (by simp)) (by simp)
        | some u =>
          rcases hO b with z | ⟨ob, xs, z⟩
          · rw [q] at z; cases z
          · have z2 := un.frzs b ob _ z
            obtain ⟨e1, _⟩ := hok b _ z
            obtain ⟨e2, _⟩ := hok' b _ z2
            rw [e] at e1; cases e1
            exact e2
  cases hk : K.lookup a with
  | some o =>
    -- the script is one of the module's own objects
    have e := KX a o hk
    rw [ha] at e
    cases e
    refine core (fun _ => none) (fun _ => .inl rfl) (.inr ⟨_, vs.toArray, _, hk, rfl, rfl, rfl, by rw [List.size_toArray, lenV]; exact hl, by simpa using rv⟩) (fun b u z => by have z' : (none : Option HO) = some u := z; cases z') (fun b z => absurd rfl z) fun z => absurd rfl z
  | none =>
    refine core (fun b => if b = a then some (.frz { cls := .type "list", data := .seq vs.toArray } (.lst (ns.map V.int))) else none) (fun b => ?_) (.inl (.inr ⟨{ cls := .type "list", data := .seq vs.toArray }, if_pos rfl⟩)) (fun b u z => ?_) (fun b z => ?_) fun _ => hk
    · by_cases hb : b = a
      · exact .inr ⟨_, _, if_pos hb⟩
      · exact .inl (if_neg hb)
    · by_cases hb : b = a
      · have z' := (if_pos hb).symm.trans z
        cases z'
        subst hb
        exact ⟨ha, by rw [List.length_map]; exact hl, vs, _, rv, ha⟩
      · have z' := (if_neg hb).symm.trans z
        cases z'
    · by_cases hb : b = a
      · exact hb
      · exact absurd (if_neg hb) z
end L2

namespace L2
open PySem PySem.Spec PyProof.Rows

abbrev KOf {K : PySem.W.Frag} {h : Heap} (_ : K.In h) : PySem.W.Frag := K

/-- the goal that k_head leaves (case hc), from the law's promise. F gives the function object fd (K's own) once, then the promise over every base -/
theorem walk_of {l : PySem.W.OpenLaw} {n k : Nat} {q : Program} {loose : List Str} {XP : (Str → Option Value) → Heap → Prop} {YP : World → Heap → Prop} {d : DefRec} {K : Params → PySem.W.Frag} {CX : World → CXT} {sp : World → Sp} {x : Str}
    (hn : l.most = some n) (hn2 : n ≤ sizeLine) (hdf : d.params.defaults = []) (hr : Room k callerA)
    (hY : ∀ (w : World) (h : Heap), YP w h → (K w.params).In h)
    (F : ∀ (w : World) (mg : Str → Option Value) (fa : Addr) (h : Heap), (K w.params).In h → h.Ns mainGlobals mg → mg d.name = some (.ref fa) →
      ∃ fd : FuncData, (∀ (s : Shared) (u : Value), BindsTo s fd ⟨[u], []⟩ [(x, u)]) ∧
        ∀ base : Heap, (K w.params).In base → base.Ns mainGlobals mg → FnOk l.prog w (K w.params) mg base (CX w) k fa fd [x] (sp w))
    (hsp : ∀ (w : World) (H : Hp) (a : Addr) (ns : List Int), ns.length ≤ n → Only H → SqL (K w.params) H a (ns.map V.int) → sp w [.ref a] H (fun v _ => v = .bl true) fun _ _ _ => False)
    (hCX : ∀ (w : World) (H : Hp) (s : Shared) (e : Value) (s' : Shared), CX w [] H s (fun _ _ _ => False) e s' → False) :
    PySem.W.WalkO q loose XP YP l.row.toRowW d [] (fun f vs => PySem.call f vs) := by
  refine Att.attach_call hn hdf fun w s₀ s₁ mg mb fa o pm cd doc a vs ns G Y ho hd hcd hmg hobj hints hlen hg => ?_
  have KX := hY w _ Y
  obtain ⟨fd, hb, hF⟩ := F w mg fa _ KX G.T.g hmg
  exact law_call KX G.T.g G.T.b G.T.builtins G.T.nolimit hg hobj hints (Nat.le_trans hlen hn2) hr hF hb (fun H hO hS => hsp w H a ns hlen hO hS) fun H e s' => hCX w H s₁ e s'
/-- the same where the promise hangs on the written part alone: (sp := My.sp_law), no hole under a binder -/
theorem walk_ofK {l : PySem.W.OpenLaw} {n k : Nat} {q : Program} {loose : List Str} {XP : (Str → Option Value) → Heap → Prop} {YP : World → Heap → Prop} {d : DefRec} {K : Params → PySem.W.Frag} {CX : CXT} {sp : PySem.W.Frag → Sp} {x : Str}
    (hn : l.most = some n) (hn2 : n ≤ sizeLine) (hdf : d.params.defaults = []) (hr : Room k callerA)
    (hY : ∀ (w : World) (h : Heap), YP w h → (K w.params).In h)
    (F : ∀ (w : World) (mg : Str → Option Value) (fa : Addr) (h : Heap), (K w.params).In h → h.Ns mainGlobals mg → mg d.name = some (.ref fa) →
      ∃ fd : FuncData, (∀ (s : Shared) (u : Value), BindsTo s fd ⟨[u], []⟩ [(x, u)]) ∧
        ∀ base : Heap, (K w.params).In base → base.Ns mainGlobals mg → FnOk l.prog w (K w.params) mg base CX k fa fd [x] (sp (K w.params)))
    (hsp : ∀ (K : PySem.W.Frag) (H : Hp) (a : Addr) (ns : List Int), ns.length ≤ n → Only H → SqL K H a (ns.map V.int) → sp K [.ref a] H (fun v _ => v = .bl true) fun _ _ _ => False)
    (hCX : ∀ (H : Hp) (s : Shared) (e : Value) (s' : Shared), CX [] H s (fun _ _ _ => False) e s' → False) :
    PySem.W.WalkO q loose XP YP l.row.toRowW d [] (fun f vs => PySem.call f vs) :=
  walk_of (K := K) (CX := fun _ => CX) (sp := fun w => sp (K w.params)) hn hn2 hdf hr hY F (fun w H a ns h1 h2 h3 => hsp (K w.params) H a ns h1 h2 h3) fun _ H s e s' => hCX H s e s'
end L2

/- THE LAST THEOREM (shape; LID, My.* are yours):
   My.Adr: a structure of the addresses that your layer names (classes, functions); My.Txt K t: a structure (Prop) of the equations over K;
   My.txt_mk : {K} {implicit addresses ..} (e1 : nsIn K mainGlobals "law" = some (some (.ref f))) (e2 : K.lookup f = some ⟨oc, od, .func (fnOf "law" "law" params body scope dV kV doc pm an cdv ct), sl⟩) (e3 : codeIn K cdv "law" = true) .. : ∃ t, My.Txt K t

set_option maxRecDepth 100000 in
set_option maxHeartbeats 0 in
theorem PySem.Challenge.cw_LID_holds : PySem.Challenge.rw_LID.Holds := by
  w_on; o_law; k_head; (case hw => w_witness2)
  k_fill
  refine L2.walk_of (l := PySem.Challenge.rw_LID) (n := 63) (k := 40) (x := "script") (CX := fun w => ..) (sp := fun _ => My.sp_law) rfl (by decide) rfl ⟨rfl, by decide, by decide⟩ (fun w h Y => PySem.W.kIn_of Y) ?F ?S ?C
  case F =>
    intro w mg fa h KX G hmg
    have T : ∃ t, My.Txt (L2.KOf KX) t := by
      dsimp only [L2.KOf]                          -- K must stand as «<heap const> w.params» for k_is
      refine' My.txt_mk ?e1 ?e2 ?e3 ..
      (case e1 => PySem.W.k_is)                    -- in the order: a name -> its address -> its object -> its parts
      (case e2 => PySem.W.k_is)
      ..
    obtain ⟨t, T⟩ := T
    have e0 := hmg.symm.trans (PySem.W.mg_of KX G T.law)
    cases e0                                       -- fa is the law's own address
    exact ⟨_, fun s u => .of_eq rfl, fun base kb nb => My.law_fn T kb nb⟩     -- if «.of_eq rfl» comes too early: refine' ⟨_, ?b, fun base kb nb => My.law_fn T kb nb⟩; exact fun s u => .of_eq rfl
  case S => exact fun w H a ns hl hO hS => ..
  case C => exact ..
(the tactic k_is has no namespace: write k_is) -/

/-! SHORT WORDS over the layer: a def of the text, its body, what a loop and a test want. -/
namespace L2
open PySem PySem.Spec PyProof.Rows

/-! ### the text by places -/
/-- the j-th statement of a class's body -/
def inClass (s : Stmt) (j : Nat) : Stmt := match s with
  | .ClassDef _ _ _ body _ _ _ _ _ _ _ => body.getD j (.Pass ⟨0, 0, 0, 0⟩)
  | _ => .Pass ⟨0, 0, 0, 0⟩
def defArgs (s : Stmt) : Arguments := match s with
  | .FunctionDef _ a _ _ _ _ _ _ _ _ => a
  | _ => { posonlyargs := [], args := [], vararg := none, kwonlyargs := [], kw_defaults := [], kwarg := none, defaults := [] }
def defBody (s : Stmt) : List Stmt := match s with
  | .FunctionDef _ _ b _ _ _ _ _ _ _ => b
  | _ => []
def defScope (s : Stmt) : Scope := match s with
  | .FunctionDef _ _ _ _ _ _ sc _ _ _ => sc
  | _ => { kind := .function, names := [], isGenerator := false, isCoroutine := false }

/-! ### no exception leaves a def -/
abbrev CX0 : CXT := fun _ _ _ _ _ _ => False
abbrev E0 : XK := fun _ _ _ => False
theorem pass0 {X : Cx} : Passes CX0 X E0 := fun _ _ _ _ _ _ _ h => h.elim

/-! ### a def (or method) of the text as it stands behind the top -/
structure Fun (K : PySem.W.Frag) (x qual : Str) (st : Stmt) (f : Addr) (fd : FuncData) : Prop where
  ex : ∃ (oc : Value) (od : Option Addr) (kV doc pm : Value) (an : Option Addr) (cdv ct : Value) (osl : Array (Option Value)),
    fd = PySem.W.fnOf x qual (defArgs st) (defBody st) (defScope st) .none kV doc pm an cdv ct ∧ K.lookup f = some ⟨oc, od, .func fd, osl⟩ ∧ PySem.W.codeIn K cdv qual = true
  kp : PySem.W.keepIn K (.ref f) = true
section
variable {P : Program} {w : World} {K : PySem.W.Frag} {mg : Str → Option Value} {base : Heap}
/-- THE RULE for a def: its body as a term of rules, and the reading of that term -/
theorem Fun.ok {x qual : Str} {st : Stmt} {f : Addr} {fd : FuncData} {N ps : List Str} {k : Nat} {sp : Sp} (F : Fun K x qual st f fd) (S : FnScope N ps (defScope st)) (len : ∀ vs H Q E, sp vs H Q E → vs.length = ps.length)
    (hbody : ∀ (cdv : Value) (A : Around) (outer : List Env) (s : Shared) (H : Hp) (vs : List V) (Q : VK) (E : XK), Room k (A.deeper (envOfC qual (defScope st) s.heap.objs.size f cdv)) → sp vs H Q E →
      ∃ t, PSs (cxOf CX0 P w K mg base N qual (defScope st) f cdv A outer s H E).nox (defBody st) t ∧ t { nx := fun _ H' => Q .non H', rt := Q } (start N vs) H) : FnOk P w K mg base CX0 (k + 1) f fd ps sp := by
  obtain ⟨oc, od, kV, doc, pm, an, cdv, ct, osl, rfl, lk, hcd⟩ := F.ex
  refine fn_of lk hcd S len fun A outer s H vs Q E hr hsp => ?_
  obtain ⟨t, h, q⟩ := hbody cdv A outer s H vs Q E hr hsp
  exact ⟨t, h.nox, q⟩
/-- how its arguments bind (no defaults): h is «fun _ _ _ _ _ _ us hl => match us, hl with | [_, _], _ => rfl», one _ a parameter -/
theorem Fun.binds {x qual : Str} {st : Stmt} {f : Addr} {fd : FuncData} {ps : List Str} (F : Fun K x qual st f fd)
    (h : ∀ (kV doc pm : Value) (an : Option Addr) (cdv ct : Value) (us : List Value), us.length = ps.length → bindArgs (PySem.W.fnOf x qual (defArgs st) (defBody st) (defScope st) .none kV doc pm an cdv ct) ⟨us, []⟩ = pure (ps.zip us)) : Binds K fd ps [] := by
  obtain ⟨oc, od, kV, doc, pm, an, cdv, ct, osl, rfl, lk, hcd⟩ := F.ex
  exact .all (h kV doc pm an cdv ct)
theorem fun_mk {x qual : Str} {st : Stmt} {f : Addr} {oc : Value} {od an : Option Addr} {osl : Array (Option Value)} {kV doc pm cdv ct : Value} (l : K.lookup f = some ⟨oc, od, .func (PySem.W.fnOf x qual (defArgs st) (defBody st) (defScope st) .none kV doc pm an cdv ct), osl⟩)
    (c : PySem.W.codeIn K cdv qual = true) (k : PySem.W.keepIn K (.ref f) = true) : Fun K x qual st f (PySem.W.fnOf x qual (defArgs st) (defBody st) (defScope st) .none kV doc pm an cdv ct) := ⟨⟨oc, od, kV, doc, pm, an, cdv, ct, osl, rfl, l, c⟩, k⟩
end
theorem hu_of {A : Around} {k : Nat} (hr : Room k A) : A.units + 1 < cLine := Nat.lt_of_le_of_lt (Nat.add_le_add_left (by decide : 1 ≤ 64) _) hr.units
theorem small1000 {n : Nat} (h : n ≤ 1000) : n < sizeLine := Nat.lt_of_le_of_lt h (by decide)

/-! ### expressions in short: the name that stands in the i-th slot -/
section
variable {X : Cx}
theorem pv (i : Nat) {x : Str} {pos : Pos} (hN : X.N[i]? = some x := by rfl) (hv : Vis X.env.scope x := by first | exact Or.inl rfl | exact Or.inr (Or.inl rfl) | exact Or.inr (Or.inr rfl)) (hd : (x == ("__debug__" : Str)) = false := by decide)
    (hcd : (x == ("__classdict__" : Str)) = false := by decide) : PE X (.Name x pos) (tVar i) := pe_var hN hv hd hcd
end

/-! ### tests -/
theorem iteF {A B : Prop} (h : B) : if false = true then A else B := by
  rw [if_neg Bool.false_ne_true]
  exact h
theorem iteT {A B : Prop} (h : A) : if true = true then A else B := by
  rw [if_pos rfl]
  exact h
theorem ite2 {c A B : Prop} [Decidable c] (h1 : c → A) (h2 : ¬ c → B) : if c then A else B := by
  by_cases h : c
  · rw [if_pos h]
    exact h1 h
  · rw [if_neg h]
    exact h2 h
theorem iteNS {c A B : Prop} [Decidable c] (hc : c) (h : B) : if (!decide c) = true then A else B := by
  rw [decide_eq_true hc]
  exact iteF h

/-! ### heaps -/
/-- all that was tracked is as it was -/
def Same (H H' : Hp) : Prop := ∀ b o, H b = some o → H' b = some o
theorem Same.refl (H : Hp) : Same H H := fun _ _ h => h
theorem Same.trans {H H1 H2 : Hp} (a : Same H H1) (b : Same H1 H2) : Same H H2 := fun c o h => b c o (a c o h)
theorem Same.free {H H' : Hp} (e : Same H H') {l : Addr} (h : H' l = Option.none) : H l = Option.none := by
  cases q : H l with
  | none => rfl
  | some o =>
    rw [e l o q] at h
    cases h
theorem Same.seq {K : PySem.W.Frag} {H H' : Hp} {a : Addr} {xs : List V} (e : Same H H') (h : SqL K H a xs) : SqL K H' a xs := by
  rcases h with (h | ⟨o, h⟩) | h
  · exact .inl (.inl (e _ _ h))
  · exact .inl (.inr ⟨o, e _ _ h⟩)
  · exact .inr h

end L2

namespace L2
open PySem PySem.Spec PyProof.Rows

/-! ### lists of pairs as tables -/
section
variable {κ : Type} [DecidableEq κ]
def valV (kvs : List (κ × V)) (k : κ) : Option V := (kvs.find? fun kv => decide (kv.1 = k)).map (·.2)
/-- in its place, or at the end -/
def putK (kvs : List (κ × V)) (k : κ) (v : V) : List (κ × V) :=
  if (kvs.any fun kv => decide (kv.1 = k)) = true then kvs.map (fun kv => if kv.1 = k then (kv.1, v) else kv) else kvs ++ [(k, v)]
def dropK (kvs : List (κ × V)) (k : κ) : List (κ × V) := kvs.filter fun kv => decide (kv.1 ≠ k)

theorem valV_nil {k : κ} : valV ([] : List (κ × V)) k = none := rfl
theorem valV_pos {p : κ × V} {r : List (κ × V)} {k : κ} (e : p.1 = k) : valV (p :: r) k = some p.2 := by simp [valV, List.find?_cons, e]
theorem valV_neg {p : κ × V} {r : List (κ × V)} {k : κ} (e : ¬ p.1 = k) : valV (p :: r) k = valV r k := by simp [valV, List.find?_cons, e]
theorem valV_any (k : κ) : ∀ kvs : List (κ × V), (kvs.any fun kv => decide (kv.1 = k)) = (valV kvs k).isSome
  | [] => rfl
  | p :: r => by
    rw [List.any_cons]
    by_cases e : p.1 = k
    · simp only [valV_pos e, decide_eq_true e, Bool.true_or, Option.isSome_some]
    · rw [valV_neg e, decide_eq_false e, Bool.false_or]; exact valV_any k r
theorem valV_map (k j : κ) (y : V) : ∀ kvs : List (κ × V), valV (kvs.map fun kv => if kv.1 = k then (kv.1, y) else kv) j = (valV kvs j).map fun x => if j = k then y else x
  | [] => rfl
  | p :: r => by
    have ih := valV_map k j y r
    rw [List.map_cons]
    by_cases h : p.1 = k
    · rw [if_pos h]
      by_cases e : p.1 = j
      · rw [valV_pos (p := (p.1, y)) e, valV_pos e, Option.map_some, if_pos (e.symm.trans h)]
      · rw [valV_neg (p := (p.1, y)) e, valV_neg e, ih]
    · rw [if_neg h]
      by_cases e : p.1 = j
      · rw [valV_pos (p := p) e, valV_pos e, Option.map_some, if_neg (fun z => h (e.trans z))]
      · rw [valV_neg (p := p) e, valV_neg e, ih]
theorem valV_snoc (k j : κ) (y : V) : ∀ kvs : List (κ × V), valV kvs k = none → valV (kvs ++ [(k, y)]) j = if j = k then some y else valV kvs j
  | [], _ => by
    by_cases e : k = j
    · rw [if_pos e.symm]; exact valV_pos (p := (k, y)) e
    · rw [if_neg (fun z => e z.symm)]; exact valV_neg (p := (k, y)) e
  | p :: r, hn => by
    rw [List.cons_append]
    have hk : ¬ p.1 = k := fun z => by rw [valV_pos z] at hn; cases hn
    rw [valV_neg hk] at hn
    have ih := valV_snoc k j y r hn
    by_cases e : p.1 = j
    · rw [valV_pos e, valV_pos e, if_neg (fun z => hk (e.trans z))]
    · rw [valV_neg e, valV_neg e, ih]
theorem valV_put (kvs : List (κ × V)) (k j : κ) (y : V) : valV (putK kvs k y) j = if j = k then some y else valV kvs j := by
  unfold putK
  by_cases a : (kvs.any fun kv => decide (kv.1 = k)) = true
  · rw [if_pos a, valV_map]
    rw [valV_any] at a
    by_cases e : j = k
    · obtain ⟨x, hx⟩ := Option.isSome_iff_exists.mp a
      rw [if_pos e, e, hx, Option.map_some, if_pos rfl]
    · rw [if_neg e]
      cases valV kvs j with
      | none => rfl
      | some x => rw [Option.map_some, if_neg e]
  · rw [if_neg a]
    refine valV_snoc k j y kvs ?_
    rw [valV_any] at a
    cases q : valV kvs k with
    | none => rfl
    | some x => rw [q] at a; exact (a rfl).elim
theorem length_putK (kvs : List (κ × V)) (k : κ) (v : V) : (putK kvs k v).length ≤ kvs.length + 1 := by
  unfold putK
  split
  · rw [List.length_map]; omega
  · rw [List.length_append, List.length_cons, List.length_nil]; omega
theorem putK_new {kvs : List (κ × V)} {k : κ} (v : V) (h : valV kvs k = none) : putK kvs k v = kvs ++ [(k, v)] := by
  unfold putK
  rw [valV_any, h]
  exact if_neg (by decide)

theorem RelO.isSome_eq {o : Option V} {u : Option Value} (r : RelO o u) : o.isSome = u.isSome := by
  cases o with
  | none => cases u with
    | none => rfl
    | some _ => exact (show False from r).elim
  | some _ => cases u with
    | none => exact (show False from r).elim
    | some _ => rfl
theorem RelO.getD {o : Option V} {u : Option Value} {d : V} {d' : Value} (r : RelO o u) (rd : RelV d d') : RelV (o.getD d) (u.getD d') := by
  cases o with
  | none => cases u with
    | none => exact rd
    | some _ => exact (show False from r).elim
  | some _ => cases u with
    | none => exact (show False from r).elim
    | some _ => exact r

/-- raw tables of the same keys -/
theorem KV.val {kvs : List (κ × V)} {vs : List (κ × Value)} (r : KV kvs vs) (k : κ) : RelO (valV kvs k) (valueAt vs k) := by
  unfold KV at r
  induction r with
  | nil => exact True.intro
  | @cons p q ps qs h t ih =>
    obtain ⟨h1, h2⟩ := h
    by_cases e : p.1 = k
    · have e' : q.1 = k := h1.symm.trans e
      have b : valueAt (q :: qs) k = some q.2 := by simp [valueAt, List.find?_cons, e']
      rw [valV_pos e, b]; exact h2
    · have e' : ¬ q.1 = k := fun z => e (h1.trans z)
      have b : valueAt (q :: qs) k = valueAt qs k := by simp [valueAt, List.find?_cons, e']
      rw [valV_neg e, b]; exact ih
theorem KV.any {kvs : List (κ × V)} {vs : List (κ × Value)} (r : KV kvs vs) (k : κ) : (kvs.any fun kv => decide (kv.1 = k)) = vs.any fun kv => decide (kv.1 = k) := by
  unfold KV at r
  induction r with
  | nil => rfl
  | cons h t ih => rw [List.any_cons, List.any_cons, ih, h.1]
theorem KV.repl {kvs : List (κ × V)} {vs : List (κ × Value)} (r : KV kvs vs) (k : κ) {y : V} {u : Value} (ry : RelV y u) :
    KV (kvs.map fun kv => if kv.1 = k then (kv.1, y) else kv) (vs.map fun kv => if kv.1 = k then (kv.1, u) else kv) := by
  unfold KV at r ⊢
  induction r with
  | nil => exact .nil
  | @cons p q ps qs h t ih =>
    rw [List.map_cons, List.map_cons]
    refine .cons ?_ ih
    obtain ⟨h1, h2⟩ := h
    by_cases e : p.1 = k
    · rw [if_pos e, if_pos (h1.symm.trans e)]; exact ⟨h1, ry⟩
    · rw [if_neg e, if_neg (fun z => e (h1.trans z))]; exact ⟨h1, h2⟩
theorem KV.put {kvs : List (κ × V)} {vs : List (κ × Value)} (r : KV kvs vs) (k : κ) {y : V} {u : Value} (ry : RelV y u) : KV (putK kvs k y) (stored vs k u) := by
  unfold putK stored
  rw [r.any k]
  by_cases e : (vs.any fun kv => decide (kv.1 = k)) = true
  · rw [if_pos e, if_pos e]; exact r.repl k ry
  · rw [if_neg e, if_neg e]; exact Paired.snoc r ⟨rfl, ry⟩
theorem KV.drop {kvs : List (κ × V)} {vs : List (κ × Value)} (r : KV kvs vs) (k : κ) : KV (dropK kvs k) (without vs k) := by
  unfold KV at r ⊢
  unfold dropK without
  induction r with
  | nil => exact .nil
  | @cons p q ps qs h t ih =>
    obtain ⟨h1, h2⟩ := h
    rw [List.filter_cons, List.filter_cons]
    by_cases e : p.1 = k
    · have a : ¬ decide (p.1 ≠ k) = true := by simp [e]
      have b : ¬ decide (q.1 ≠ k) = true := by simp [h1.symm.trans e]
      rw [if_neg a, if_neg b]; exact ih
    · have e' : ¬ q.1 = k := fun z => e (h1.trans z)
      have a : decide (p.1 ≠ k) = true := by simp [e]
      have b : decide (q.1 ≠ k) = true := by simp [e']
      rw [if_pos a, if_pos b]; exact .cons ⟨h1, h2⟩ ih
theorem KV.keys {kvs : List (κ × V)} {vs : List (κ × Value)} (r : KV kvs vs) : kvs.map (·.1) = vs.map (·.1) := by
  unfold KV at r
  induction r with
  | nil => rfl
  | cons h t ih => rw [List.map_cons, List.map_cons, ih, h.1]
theorem KV.length {kvs : List (κ × V)} {vs : List (κ × Value)} (r : KV kvs vs) : kvs.length = vs.length := Paired.length r
theorem dropK_le (kvs : List (κ × V)) (k : κ) : (dropK kvs k).length ≤ kvs.length := List.length_filter_le _ _
end


/-! ### a tracked dict, its keys ints and texts or tuples of these -/
theorem kV_is {P : Program} {w : World} {k : Key} {u : Value} (r : RelV (kV k) u) : (mixKind P w).is k u = true := by
  cases k with
  | inl i => obtain ⟨t, e⟩ := (show ∃ t, u = Value.int i t from r); subst e; exact mixKind_int P w i t
  | inr x => obtain ⟨t, e⟩ := (show ∃ t, u = Value.str x t from r); subst e; exact mixKind_str P w x t
theorem kV_inj {a b : Key} (e : kV a = kV b) : a = b := by
  cases a with
  | inl i => cases b with
    | inl j => have e' : V.int i = V.int j := e; injection e' with e'; rw [e']
    | inr y => exact nomatch (show V.int i = V.str y from e)
  | inr x => cases b with
    | inl j => exact nomatch (show V.str x = V.int j from e)
    | inr y => have e' : V.str x = V.str y := e; injection e' with e'; rw [e']
theorem kVs_inj : ∀ {a b : List Key}, a.map kV = b.map kV → a = b
  | [], [], _ => rfl
  | [], _ :: _, e => by simp at e
  | _ :: _, [], e => by simp at e
  | x :: xs, y :: ys, e => by
    rw [List.map_cons, List.map_cons] at e
    injection e with e1 e2
    rw [kV_inj e1, kVs_inj e2]
theorem items_are {P : Program} {w : World} : ∀ {ks : List Key} {us : List Value}, Vals (ks.map kV) us → ItemsAre (mixKind P w) ks us
  | [], _, r => by rw [List.map_nil] at r; cases r; exact .nil
  | k :: ks, _, r => by
    rw [List.map_cons] at r
    cases r with
    | cons h t => exact .cons (kV_is h) (items_are t)

/-- raw entries of a dict with tuple keys -/
abbrev KT (H : Hp) : List (List Key × V) → List (List Key × Addr × Value) → Prop := Paired fun p q => p.1 = q.1 ∧ H q.2.1 = some (.tup (p.1.map kV)) ∧ RelV p.2 q.2.2
theorem KT.val {H : Hp} {kvs : List (List Key × V)} {xs : List (List Key × Addr × Value)} (r : KT H kvs xs) (k : List Key) : RelO (valV kvs k) ((atKey xs k).map (·.2)) := by
  induction r with
  | nil => exact True.intro
  | @cons p q ps qs h t ih =>
    obtain ⟨h1, _, h2⟩ := h
    by_cases e : p.1 = k
    · have e' : q.1 = k := h1.symm.trans e
      have b : atKey (q :: qs) k = some q.2 := by simp [atKey, List.find?_cons, e']
      rw [valV_pos e, b]; exact h2
    · have e' : ¬ q.1 = k := fun z => e (h1.trans z)
      have b : atKey (q :: qs) k = atKey qs k := by simp [atKey, List.find?_cons, e']
      rw [valV_neg e, b]; exact ih
theorem KT.repl {H : Hp} {kvs : List (List Key × V)} {xs : List (List Key × Addr × Value)} (r : KT H kvs xs) (k : List Key) {y : V} {u : Value} (ry : RelV y u) :
    KT H (kvs.map fun kv => if kv.1 = k then (kv.1, y) else kv) (xs.map (putAt k u)) := by
  induction r with
  | nil => exact .nil
  | @cons p q ps qs h t ih =>
    rw [List.map_cons, List.map_cons]
    refine .cons ?_ ih
    obtain ⟨h1, h2, h3⟩ := h
    unfold putAt
    by_cases e : p.1 = k
    · rw [if_pos e, if_pos (h1.symm.trans e)]; exact ⟨h1, h2, ry⟩
    · rw [if_neg e, if_neg (fun z => e (h1.trans z))]; exact ⟨h1, h2, h3⟩
theorem KT.put {H : Hp} {kvs : List (List Key × V)} {xs : List (List Key × Addr × Value)} (r : KT H kvs xs) (k : List Key) {b : Addr} {y : V} {u : Value} (hb : H b = some (.tup (k.map kV))) (ry : RelV y u) :
    KT H (putK kvs k y) (storedH xs k b u) := by
  have e : (kvs.any fun kv => decide (kv.1 = k)) = (atKey xs k).isSome := by
    rw [valV_any, (r.val k).isSome_eq, Option.isSome_map]
  unfold putK storedH
  rw [e]
  by_cases q : (atKey xs k).isSome = true
  · rw [if_pos q, if_pos q]; exact r.repl k ry
  · rw [if_neg q, if_neg q]; exact Paired.snoc r ⟨rfl, hb, ry⟩
theorem KT.keeps {H H' : Hp} {kvs : List (List Key × V)} {xs : List (List Key × Addr × Value)} (r : KT H kvs xs) (ht : ∀ b ys, H b = some (.tup ys) → H' b = some (.tup ys)) : KT H' kvs xs :=
  Paired.mapP r fun _ _ z => ⟨z.1, ht _ _ z.2.1, z.2.2⟩

section
variable {P : Program} {w : World} {H : Hp} {h : Heap} {a : Addr}
theorem rd_of {u : HO} (ok : HOk P w H h) (e : Rd H a u) : ObjOk P w H h a u := e.ok ok
theorem dk_rd {kvs : List (Key × V)} (ok : HOk P w H h) (e : Rd H a (.dK kvs)) : kvs.length ≤ sizeLine ∧ (a == sysModules) = false ∧ ∃ vs, KV kvs vs ∧ h.DictOf (mixKind P w) a vs :=
  show ObjOk P w H h a (.dK kvs) from rd_of ok e
theorem dk_of {kvs : List (Key × V)} (ok : HOk P w H h) (e : H a = some (.dK kvs)) : kvs.length ≤ sizeLine ∧ (a == sysModules) = false ∧ ∃ vs, KV kvs vs ∧ h.DictOf (mixKind P w) a vs := dk_rd ok (.inl e)
/-- a tracked tuple of ints and texts is a key -/
theorem key_of {ks : List Key} (ok : HOk P w H h) (e : H a = some (.tup (ks.map kV))) : (tupleKind (mixKind P w)).is h ks a := by
  obtain ⟨_, its, r, o, h1, h2, n, h3⟩ := (show ObjOk P w H h a (.tup (ks.map kV)) from ok a _ e)
  exact ⟨o, its.toArray, n, h1, h2, h3, by simpa using items_are r⟩
theorem dt_rd {kvs : List (List Key × V)} (ok : HOk P w H h) (e : Rd H a (.dT kvs)) : kvs.length ≤ sizeLine ∧ (a == sysModules) = false ∧
    ∃ xs, KT H kvs xs ∧ h.DictOfH (tupleKind (mixKind P w)) a xs := by
  obtain ⟨z, y, xs, r, o, es, ep, h1, h2, h3, h4, h5⟩ := (show ObjOk P w H h a (.dT kvs) from rd_of ok e)
  refine ⟨z, y, xs, r, o, es, ep, h1, h2, h3, h4, fun x hx => ?_, h5⟩
  have all : ∀ {l : List (List Key × V)} {m : List (List Key × Addr × Value)}, KT H l m → ∀ x ∈ m, (tupleKind (mixKind P w)).is h x.1 x.2.1 := by
    intro l m q
    induction q with
    | nil => intro x hx; exact nomatch hx
    | @cons p q ps qs hq t ih =>
      intro x hx
      rcases List.mem_cons.mp hx with e | hx
      · subst e
        exact key_of ok (by rw [← hq.1]; exact hq.2.1)
      · exact ih x hx
  exact all r x hx
theorem dt_of {kvs : List (List Key × V)} (ok : HOk P w H h) (e : H a = some (.dT kvs)) : kvs.length ≤ sizeLine ∧ (a == sysModules) = false ∧
    ∃ xs, KT H kvs xs ∧ h.DictOfH (tupleKind (mixKind P w)) a xs := dt_rd ok (.inl e)
end

/-- what the dict at a holds at the key y -/
def DGet (H : Hp) (a : Addr) (y : V) (r : Option V) : Prop :=
  (∃ kvs k, Rd H a (.dK kvs) ∧ y = kV k ∧ r = valV kvs k) ∨ ∃ kvs k b, Rd H a (.dT kvs) ∧ y = .ref b ∧ H b = some (.tup (k.map kV)) ∧ r = valV kvs k
/-- the heap behind a[y] = v -/
def DPut (H : Hp) (a : Addr) (y v : V) (H' : Hp) : Prop :=
  (∃ kvs k, H a = some (.dK kvs) ∧ y = kV k ∧ kvs.length < sizeLine ∧ H' = upd H a (.dK (putK kvs k v))) ∨
  ∃ kvs k b, H a = some (.dT kvs) ∧ y = .ref b ∧ H b = some (.tup (k.map kV)) ∧ kvs.length < sizeLine ∧ H' = upd H a (.dT (putK kvs k v))
theorem DGet.k {H : Hp} {a : Addr} {kvs : List (Key × V)} {k : Key} (e : H a = some (.dK kvs)) : DGet H a (kV k) (valV kvs k) := .inl ⟨kvs, k, .inl e, rfl, rfl⟩
theorem DGet.t {H : Hp} {a b : Addr} {kvs : List (List Key × V)} {k : List Key} (e : H a = some (.dT kvs)) (eb : H b = some (.tup (k.map kV))) : DGet H a (.ref b) (valV kvs k) := .inr ⟨kvs, k, b, .inl e, rfl, eb, rfl⟩
theorem DPut.k {H : Hp} {a : Addr} {kvs : List (Key × V)} {k : Key} {v : V} (e : H a = some (.dK kvs)) (hl : kvs.length < sizeLine) : DPut H a (kV k) v (upd H a (.dK (putK kvs k v))) := .inl ⟨kvs, k, e, rfl, hl, rfl⟩
theorem DPut.t {H : Hp} {a b : Addr} {kvs : List (List Key × V)} {k : List Key} {v : V} (e : H a = some (.dT kvs)) (eb : H b = some (.tup (k.map kV))) (hl : kvs.length < sizeLine) :
    DPut H a (.ref b) v (upd H a (.dT (putK kvs k v))) := .inr ⟨kvs, k, b, e, rfl, eb, hl, rfl⟩


section
variable {X : Cx} {pins : List (Addr × Obj)} {σ : St} {H : Hp} {s : Shared} {a : Addr} {y v : V} {u r : Value} {o : Option V} {A : Around} {E : Value → Shared → Prop}

theorem Inv.big (I : Inv X pins σ H s) : sysModules < s.heap.objs.size := by
  have h : mainGlobals < s.heap.objs.size := (I.mod.glob.keeps I.bk).lt
  exact Nat.lt_trans (by decide) h

/-- d[y], there -/
theorem d_getItem {Q : Value → Shared → Prop} (hu : A.units + 1 < cLine) (I : Inv X pins σ H s) (g : DGet H a y (some v)) (ry : RelV y u) (h : ∀ w' s', Inv X pins σ H s' → RelV v w' → Q w' s') :
    wpAny (model X.prog X.w) A (getItem (.ref a) u) Q E s := by
  rcases g with ⟨kvs, k, e, ey, l⟩ | ⟨kvs, k, b, e, ey, eb, l⟩
  · subst ey
    obtain ⟨z, hd, vs, rel, dd⟩ := dk_rd I.hok e
    obtain ⟨w', hw, rw'⟩ := RelO.some_of (v := v) (o := valueAt vs k) (by rw [l]; exact rel.val k)
    exact wpAny_getItem_of (kV_is ry) dd.mapOf hw (h w' _ (I.tok _) rw')
  · subst ey
    cases (show u = Value.ref b from ry)
    obtain ⟨z, hd, xs, rel, dd⟩ := dt_rd I.hok e
    obtain ⟨w', hw, rw'⟩ := RelO.some_of (v := v) (o := (atKey xs k).map (·.2)) (by rw [l]; exact rel.val k)
    obtain ⟨p, hp, hp2⟩ := Option.map_eq_some_iff.mp hw
    refine wpAny_getItem_heap (tupleKind_room_in1 hu) (key_of I.hok eb) dd hp ?_
    rw [hp2]
    exact h w' _ (I.tok _) rw'
/-- y in d -/
theorem d_in {Q : Value → Shared → Prop} (hu : A.units + 1 < cLine) (I : Inv X pins σ H s) (g : DGet H a y o) (ry : RelV y u) (h : ∀ s', Inv X pins σ H s' → Q (.bool o.isSome) s') :
    wpAny (model X.prog X.w) A (compareOp .In u (.ref a)) Q E s := by
  rcases g with ⟨kvs, k, e, ey, l⟩ | ⟨kvs, k, b, e, ey, eb, l⟩
  · subst ey
    obtain ⟨z, hd, vs, rel, dd⟩ := dk_rd I.hok e
    refine wpAny_in_of (kV_is ry) hd dd.mapOf ?_
    rw [← (rel.val k).isSome_eq, ← l]
    exact h _ (I.tok _)
  · subst ey
    cases (show u = Value.ref b from ry)
    obtain ⟨z, hd, xs, rel, dd⟩ := dt_rd I.hok e
    refine wpAny_in_heap (tupleKind_room_in1 hu) (key_of I.hok eb) hd dd ?_
    have q := (rel.val k).isSome_eq
    rw [Option.isSome_map] at q
    rw [← q, ← l]
    exact h _ (I.tok _)
theorem d_notIn {Q : Value → Shared → Prop} (hu : A.units + 1 < cLine) (I : Inv X pins σ H s) (g : DGet H a y o) (ry : RelV y u) (h : ∀ s', Inv X pins σ H s' → Q (.bool (!o.isSome)) s') :
    wpAny (model X.prog X.w) A (compareOp .NotIn u (.ref a)) Q E s := by
  rcases g with ⟨kvs, k, e, ey, l⟩ | ⟨kvs, k, b, e, ey, eb, l⟩
  · subst ey
    obtain ⟨z, hd, vs, rel, dd⟩ := dk_rd I.hok e
    refine wpAny_notIn_of (kV_is ry) hd dd.mapOf ?_
    rw [← (rel.val k).isSome_eq, ← l]
    exact h _ (I.tok _)
  · subst ey
    cases (show u = Value.ref b from ry)
    obtain ⟨z, hd, xs, rel, dd⟩ := dt_rd I.hok e
    refine wpAny_notIn_heap (tupleKind_room_in1 hu) (key_of I.hok eb) hd dd ?_
    have q := (rel.val k).isSome_eq
    rw [Option.isSome_map] at q
    rw [← q, ← l]
    exact h _ (I.tok _)
/-- a dict's object is replaced -/
theorem d_write {h' : Heap} {t' : Nat} {ob : HO} (I : Inv X pins σ H s) (mu : Mut (H a)) (hs : Heap.SameBut a s.heap h') (he : ∃ q, h'.get? a = some q) (new : ObjOk X.prog X.w (upd H a ob) h' a ob) :
    Inv X pins σ (upd H a ob) { s with heap := h', toks := t' } :=
  I.write (x := a) (e := a) mu (.inl rfl) (fun b q hb z => (hs.2 b hb).trans z) he new
theorem dk_new {P : Program} {w : World} {H' : Hp} {h' : Heap} {kvs : List (Key × V)} {vs : List (Key × Value)} (z : kvs.length ≤ sizeLine) (hd : (a == sysModules) = false) (rel : KV kvs vs) (dd : h'.DictOf (mixKind P w) a vs) :
    ObjOk P w H' h' a (.dK kvs) := ⟨z, hd, vs, rel, dd⟩
/-- d[y] = v -/
theorem d_setItem {H' : Hp} {Q : Unit → Shared → Prop} (hu : A.units + 1 < cLine) (I : Inv X pins σ H s) (g : DPut H a y v H') (ry : RelV y u) (rv : RelV v r) (h : ∀ s', Inv X pins σ H' s' → Q () s') :
    wpAny (model X.prog X.w) A (setItem (.ref a) u r) Q E s := by
  rcases g with ⟨kvs, k, e, ey, l, eH⟩ | ⟨kvs, k, b, e, ey, eb, l, eH⟩
  · subst ey eH
    obtain ⟨z, hd, vs, rel, dd⟩ := dk_of I.hok e
    have hz : vs.length ≤ sizeLine := by rw [← rel.length]; exact z
    have hl : (putK kvs k v).length ≤ sizeLine := by have := length_putK kvs k v; omega
    refine wpAny_setItem_pairs (hsz := hz) (kV_is ry) dd fun h' dd' hs => h _ ?_
    have he : ∃ q, h'.get? a = some q := let ⟨q, _, _, hq, _⟩ := dd'; ⟨q, hq⟩
    exact d_write I (by rw [e]; exact True.intro) hs he (dk_new hl hd (rel.put k rv) dd')
  · subst ey eH
    cases (show u = Value.ref b from ry)
    obtain ⟨z, hd, xs, rel, dd⟩ := dt_of I.hok e
    have hz : xs.length ≤ sizeLine := by rw [← Paired.length rel]; exact z
    have hl : (putK kvs k v).length ≤ sizeLine := by have := length_putK kvs k v; omega
    refine wpAny_setItem_heap (hsz := hz) (tupleKind_room_in1 hu) (key_of I.hok eb) dd fun h' dd' hs => h _ ?_
    obtain ⟨q, es, ep, hq, h2, h3, h4, _, h5⟩ := dd'
    refine d_write I (by rw [e]; exact True.intro) hs ⟨q, hq⟩ ⟨hl, hd, _, (rel.put k eb rv).keeps fun c ys ec => ?_, q, es, ep, hq, h2, h3, h4, h5⟩
    rw [upd_ne (ne_of ec e (fun z => nomatch z))]
    exact ec
end

section
variable {X : Cx} {pins : List (Addr × Obj)} {σ : St} {H : Hp} {s : Shared} {a : Addr} {kvs : List (Key × V)} {k : Key} {u : Value} {A : Around} {E : Value → Shared → Prop}
/-- del d[k] -/
theorem d_delItem {Q : Unit → Shared → Prop} (I : Inv X pins σ H s) (e : H a = some (.dK kvs)) (ry : RelV (kV k) u) (l : (valV kvs k).isSome = true) (h : ∀ s', Inv X pins σ (upd H a (.dK (dropK kvs k))) s' → Q () s') :
    wpAny (model X.prog X.w) A (delItem (.ref a) u) Q E s := by
  obtain ⟨z, hd, vs, rel, dd⟩ := dk_of I.hok e
  refine wpAny_delItem_slot dd.typeIs (by decide) PySem.F.slot_dict_delitem
    (call_meetsIn PySem.F.slot_dict_delitem dd.typeIs PySem.F.entry_dict_delitem (PySem.F.args_dict_delitem_2 _ _) (meets_dict_delitem_pairs (mixKind X.prog X.w) a (kV_is ry)) ⟨vs, dd, by rw [← rel.length]; exact z, by rw [← (rel.val k).isSome_eq]; exact l, fun h' dd' hs => h _ ?_⟩)
  have he : ∃ q, h'.get? a = some q := let ⟨q, _, _, hq, _⟩ := dd'; ⟨q, hq⟩
  exact d_write I (by rw [e]; exact True.intro) hs he (dk_new (Nat.le_trans (dropK_le kvs k) z) hd (rel.drop k) dd')
/-- d.pop(k[, x]), there -/
theorem d_pop {v : V} {more : List Value} {Q : Value → Shared → Prop} (I : Inv X pins σ H s) (e : H a = some (.dK kvs)) (ry : RelV (kV k) u) (l : valV kvs k = some v) (hm : more = [] ∨ ∃ x, more = [x])
    (h : ∀ w' s', Inv X pins σ (upd H a (.dK (dropK kvs k))) s' → RelV v w' → Q w' s') : wpAny (model X.prog X.w) A (call (.builtin "dict.pop") (.ref a :: u :: more)) Q E s := by
  obtain ⟨z, hd, vs, rel, dd⟩ := dk_of I.hok e
  obtain ⟨w', hw, rw'⟩ := RelO.some_of (v := v) (o := valueAt vs k) (by rw [← l]; exact rel.val k)
  have hp : (keyPart u).isSome = true := by
    cases k with
    | inl i => obtain ⟨t, q⟩ := (show ∃ t, u = Value.int i t from ry); subst q; rfl
    | inr x => obtain ⟨t, q⟩ := (show ∃ t, u = Value.str x t from ry); subst q; rfl
  have ha : argsOk "dict.pop" ⟨.ref a :: u :: more, []⟩ := by
    rcases hm with q | ⟨x, q⟩
    · subst q; exact PySem.F.args_dict_pop_2 _ _
    · subst q; exact PySem.F.args_dict_pop_3 _ _ _
  refine call_meetsIn PySem.F.slot_dict_pop dd.typeIs PySem.F.entry_dict_pop ha (meets_dict_pop_there (mixKind X.prog X.w) a (kV_is ry) more hm hp)
    ⟨vs, w', dd, by rw [← rel.length]; exact z, hw, fun h' dd' hs => h w' _ ?_ rw'⟩
  have he : ∃ q, h'.get? a = some q := let ⟨q, _, _, hq, _⟩ := dd'; ⟨q, hq⟩
  exact d_write I (by rw [e]; exact True.intro) hs he (dk_new (Nat.le_trans (dropK_le kvs k) z) hd (rel.drop k) dd')
/-- d.pop(k, x), not there -/
theorem d_popD {r : Value} {Q : Value → Shared → Prop} (I : Inv X pins σ H s) (e : H a = some (.dK kvs)) (ry : RelV (kV k) u) (l : valV kvs k = none) (h : ∀ s', Inv X pins σ H s' → Q r s') :
    wpAny (model X.prog X.w) A (call (.builtin "dict.pop") [.ref a, u, r]) Q E s := by
  obtain ⟨z, hd, vs, rel, dd⟩ := dk_of I.hok e
  have hn : valueAt vs k = none := RelO.none_of (by rw [← l]; exact rel.val k)
  have hp : (keyPart u).isSome = true := by
    cases k with
    | inl i => obtain ⟨t, q⟩ := (show ∃ t, u = Value.int i t from ry); subst q; rfl
    | inr x => obtain ⟨t, q⟩ := (show ∃ t, u = Value.str x t from ry); subst q; rfl
  exact call_meetsIn PySem.F.slot_dict_pop dd.typeIs PySem.F.entry_dict_pop (PySem.F.args_dict_pop_3 _ _ _) (meets_dict_pop_default (mixKind X.prog X.w) a (kV_is ry) hd hp r) ⟨vs, dd, hn, h _ (I.tok _)⟩
/-- d.clear() -/
theorem d_clear {Q : Value → Shared → Prop} (I : Inv X pins σ H s) (e : H a = some (.dK kvs)) (h : ∀ s', Inv X pins σ (upd H a (.dK [])) s' → Q .none s') : wpAny (model X.prog X.w) A (call (.builtin "dict.clear") [.ref a]) Q E s := by
  obtain ⟨z, hd, vs, rel, dd⟩ := dk_of I.hok e
  refine call_meetsIn PySem.F.slot_dict_clear dd.typeIs PySem.F.entry_dict_clear (PySem.F.args_dict_clear_1 _) (meets_dict_clear (mixKind X.prog X.w) a) ⟨vs, dd, by rw [← rel.length]; exact z, fun h' dd' hs => h _ ?_⟩
  have he : ∃ q, h'.get? a = some q := let ⟨q, _, _, hq, _⟩ := dd'; ⟨q, hq⟩
  exact d_write (t' := s.toks) I (by rw [e]; exact True.intro) hs he (dk_new (Nat.zero_le _) hd .nil dd')
/-- len(d) -/
theorem d_len {Q : Value → Shared → Prop} (I : Inv X pins σ H s) (e : Rd H a (.dK kvs)) (h : ∀ t s', Inv X pins σ H s' → Q (.int kvs.length t) s') : wpAny (model X.prog X.w) A (call (.builtin "len") [.ref a]) Q E s := by
  obtain ⟨z, hd, vs, rel, dd⟩ := dk_rd I.hok e
  refine call_len_dict hd dd (by rw [← rel.length]; rw [sizeLine_eq] at z; omega) ?_
  rw [← rel.length]
  exact h _ _ (I.tok _)
/-- if d -/
theorem d_truth {Q : Bool → Shared → Prop} (I : Inv X pins σ H s) (e : Rd H a (.dK kvs)) (h : ∀ s', Inv X pins σ H s' → Q (!kvs.isEmpty) s') : wpAny (model X.prog X.w) A (truthy (.ref a)) Q E s := by
  obtain ⟨z, hd, vs, rel, dd⟩ := dk_rd I.hok e
  refine wpAny_truthy_dict hd dd (by rw [← rel.length]; rw [sizeLine_eq] at z; omega) ?_
  have q : kvs.isEmpty = vs.isEmpty := by cases rel <;> rfl
  rw [← q]
  exact h _ (I.tok _)
end


/-! ### readings and rules -/
/-- the element of a subscription, not a slice -/
def NoSl (i : Expr) : Prop := ∀ ov iv, subscripted i false ov iv = operate [ov, iv] (getItem ov iv)
theorem subD_of {prog : Program} {w : World} {A : Around} {E : Value → Shared → Prop} {s : Shared} {env : Env} {value slice : Expr} {pos : Pos} {T id : String} {Q : Value → Shared → Prop}
    (hl : typeLookup (.type T) "__getitem__" = pure (some (.builtin id))) (hs : NoSl slice)
    (h : wpAny (model prog w) A (eval value env) (fun o s₁ => wpAny (model prog w) A (eval slice env) (fun i s₂ => s₂.TypeIs o T ∧ wpAny (model prog w) A (getItem o i) Q E s₂) E s₁) E s) :
    wpAny (model prog w) A (eval (.Subscript value slice pos) env) Q E s := by
  refine Subscript_ (wpAny_mono h (fun o s₁ h₁ => wpAny_mono h₁ (fun i s₂ h₂ => ?_) fun _ _ x => x) fun _ _ x => x)
  obtain ⟨hT, h₂⟩ := h₂
  unfold subscriptTail
  refine wpAny_bind ?_
  rw [getitemInPython_of_ne hT.not_modules]
  refine wpAny_bind (wpAny_specialOf hT hl ?_)
  have fin : wpAny (model prog w) A (subscripted slice false o i) (fun r s₃ => wpAny (model prog w) A (letTemporaryGo value o r >>= fun _ => pure r) Q E s₃) E s₂ := by
    rw [hs o i]
    exact wpAny_operating (wpAny_mono h₂ (fun r s₃ h₃ => wpAny_bind (wpAny_letTemporaryGo (wpAny_pure h₃))) fun _ _ x => x)
  first
    | exact wpAny_pure (wpAny_bind fin)
    | exact wpAny_bind (wpAny_pure (wpAny_bind fin))
    | exact wpAny_bind fin

theorem dict_typeIs {X : Cx} {pins : List (Addr × Obj)} {σ : St} {H : Hp} {s : Shared} {a : Addr} {y : V} {o : Option V} (I : Inv X pins σ H s) (g : DGet H a y o) : s.TypeIs (.ref a) "dict" := by
  rcases g with ⟨kvs, k, e, _, _⟩ | ⟨kvs, k, b, e, _, _, _⟩
  · obtain ⟨_, _, vs, _, dd⟩ := dk_rd I.hok e
    exact dd.typeIs
  · obtain ⟨_, _, xs, _, dd⟩ := dt_rd I.hok e
    exact dd.typeIs
theorem dict_noDict {X : Cx} {pins : List (Addr × Obj)} {σ : St} {H : Hp} {s : Shared} {a : Addr} {y : V} {o : Option V} (I : Inv X pins σ H s) (g : DGet H a y o) :
    ∀ b, Value.ref a = .ref b → ∃ ob, s.heap.get? b = some ob ∧ ob.dict = none := fun b q => by
  cases q
  rcases g with ⟨kvs, k, e, _, _⟩ | ⟨kvs, k, b, e, _, _, _⟩
  · obtain ⟨_, _, vs, _, ob, _, _, h1, h2, _⟩ := dk_rd I.hok e
    exact ⟨ob, h1, h2.2.1⟩
  · obtain ⟨_, _, xs, _, ob, _, _, h1, h2, _⟩ := dt_rd I.hok e
    exact ⟨ob, h1, h2.2.1⟩

/-- d[y] -/
def tDGet (td ty : TE) : TE := fun σ H Q => td σ H fun x H1 => ty σ H1 fun y H2 => ∃ a v, x = .ref a ∧ DGet H2 a y (some v) ∧ Q v H2
/-- y in d, y not in d -/
def tDIn (ty td : TE) : TE := fun σ H Q => ty σ H fun y H1 => td σ H1 fun x H2 => ∃ a o, x = .ref a ∧ DGet H2 a y o ∧ Q (.bl o.isSome) H2
def tDNotIn (ty td : TE) : TE := fun σ H Q => ty σ H fun y H1 => td σ H1 fun x H2 => ∃ a o, x = .ref a ∧ DGet H2 a y o ∧ Q (.bl (!o.isSome)) H2
/-- d[y] = v -/
def sDPut (td ty tv : TE) : TS := fun D σ H => tv σ H fun v H1 => td σ H1 fun x H2 => ty σ H2 fun y H3 => ∃ a H4, x = .ref a ∧ DPut H3 a y v H4 ∧ D.nx σ H4
/-- d[y] op= v -/
def sDAug (td ty tv : TE) (rd : V → V → Hp → VK → Prop) : TS := fun D σ H => td σ H fun x H1 => ty σ H1 fun y H2 => ∃ a v, x = .ref a ∧ DGet H2 a y (some v) ∧
  tv σ H2 fun y2 H3 => rd v y2 H3 fun z H4 => ∃ H5, DPut H4 a y z H5 ∧ D.nx σ H5
/-- del d[y] -/
def sDDel (td ty : TE) : TS := fun D σ H => td σ H fun x H1 => ty σ H1 fun y H2 => ∃ a kvs k, x = .ref a ∧ H2 a = some (.dK kvs) ∧ y = kV k ∧ (valV kvs k).isSome = true ∧ D.nx σ (upd H2 a (.dK (dropK kvs k)))

section
variable {X : Cx} {o i e value : Expr} {pos pos' tpos : Pos} {td ty tv : TE}
theorem pe_dget (hu : X.A.units + 1 < cLine) (ho : PE X o td) (hi : PE X i ty) (hs : NoSl i) : PE X (.Subscript o i pos) (tDGet td ty) := by
  intro pins s σ H Q I h
  refine subD_of PySem.F.slot_dict_getitem.lookup hs (thn (ho pins s σ H _ I h) fun u s1 ⟨x, H1, I1, rx, q1⟩ => thn (hi pins s1 σ H1 _ I1 q1) fun iv s2 ⟨y, H2, I2, ry, a, v, ex, g, q2⟩ => ?_)
  subst ex
  obtain rfl : u = Value.ref a := rx
  exact ⟨dict_typeIs I2 g, d_getItem hu I2 g ry fun w' s3 I3 rw' => ⟨v, H2, I3, rw', q2⟩⟩
theorem pc_din (hu : X.A.units + 1 < cLine) (hi : PE X i ty) (ho : PE X o td) : PC X .In i o (tDIn ty td) := by
  intro pins s σ H Q I h
  refine thn (hi pins s σ H _ I h) fun iv s1 ⟨y, H1, I1, ry, q1⟩ => thn (ho pins s1 σ H1 _ I1 q1) fun u s2 ⟨x, H2, I2, rx, a, ov, ex, g, q2⟩ => ?_
  subst ex
  obtain rfl : u = Value.ref a := rx
  exact d_in hu I2 g ry fun s3 I3 => ⟨.bl ov.isSome, H2, I3, rfl, q2⟩
theorem pc_dnotin (hu : X.A.units + 1 < cLine) (hi : PE X i ty) (ho : PE X o td) : PC X .NotIn i o (tDNotIn ty td) := by
  intro pins s σ H Q I h
  refine thn (hi pins s σ H _ I h) fun iv s1 ⟨y, H1, I1, ry, q1⟩ => thn (ho pins s1 σ H1 _ I1 q1) fun u s2 ⟨x, H2, I2, rx, a, ov, ex, g, q2⟩ => ?_
  subst ex
  obtain rfl : u = Value.ref a := rx
  exact d_notIn hu I2 g ry fun s3 I3 => ⟨.bl (!ov.isSome), H2, I3, rfl, q2⟩
theorem ps_dput (hu : X.A.units + 1 < cLine) (ho : PE X o td) (hi : PE X i ty) (hv : PE X value tv) (hs : swapsWith value (some (.Subscript o i pos')) pos.line X.env = pure false) :
    PS X (.Assign [.Subscript o i pos'] value pos) (sDPut td ty tv) := by
  intro pins s σ H D I h
  refine wpAny_Assign_Subscript (thn (hv pins s σ H _ I h) fun r s1 ⟨v, H1, I1, rv, q1⟩ => thn (ho pins s1 σ H1 _ I1 q1) fun u s2 ⟨x, H2, I2, rx, q2⟩ => thn (hi pins s2 σ H2 _ I2 q2) fun iv s3 ⟨y, H3, I3, ry, a, H4, ex, g, q3⟩ => ?_) hs
  subst ex
  obtain rfl : u = Value.ref a := rx
  exact d_setItem hu I3 g ry rv fun s4 I4 => ⟨σ, H4, I4, q3⟩
theorem ps_daug {op : Operator} {rd : V → V → Hp → VK → Prop} (hu : X.A.units + 1 < cLine) (ho : PE X o td) (hi : PE X i ty) (hv : PE X value tv) (hop : InOp X op rd)
    (ha : ∀ ov iv new, augStore i ov iv new = (do holding [new, ov, iv] (setItem ov iv new); release [new, ov, iv] []; pure .next)) : PS X (.AugAssign (.Subscript o i tpos) op value pos) (sDAug td ty tv rd) := by
  intro pins s σ H D I h
  refine wpAny_AugAssign_SubscriptAny (thn (ho pins s σ H _ I h) fun u s1 ⟨x, H1, I1, rx, q1⟩ => thn (hi pins s1 σ H1 _ I1 q1) fun iv s2 ⟨y, H2, I2, ry, a, v, ex, g, q2⟩ => ?_) ha
  subst ex
  obtain rfl : u = Value.ref a := rx
  refine d_getItem hu I2 g ry fun w' s3 I3 rw' => thn (hv pins s3 σ H2 _ I3 q2) fun w2 s4 ⟨y2, H3, I4, ry2, q3⟩ => thn (hop pins s4 σ H3 v y2 w' w2 _ I4 rw' ry2 q3) fun w3 s5 ⟨z, H4, I5, rz, H5, g5, q4⟩ => ?_
  exact d_setItem hu I5 g5 ry rz fun s6 I6 => ⟨σ, H5, I6, q4⟩
theorem ps_ddel (ho : PE X o td) (hi : PE X i ty) : PS X (.Delete [.Subscript o i tpos] pos) (sDDel td ty) := by
  intro pins s σ H D I h
  refine wpAny_Delete (wpAny_deleteEach_cons (wpAny_delete_Subscript (thn (ho pins s σ H _ I h) fun u s1 ⟨x, H1, I1, rx, q1⟩ => thn (hi pins s1 σ H1 _ I1 q1) fun iv s2 ⟨y, H2, I2, ry, a, kvs, k, ex, e, ey, l, q2⟩ => ?_)))
  subst ex ey
  obtain rfl : u = Value.ref a := rx
  exact d_delItem I2 e ry l fun s3 I3 => wpAny_deleteEach_nil ⟨σ, _, I3, q2⟩
end


/-! ### displays -/
theorem dk_empty {P : Program} {w : World} {H : Hp} (h : Heap) (hb : sysModules < h.objs.size) : ObjOk P w H (h.push { cls := .type "dict", data := .dict #[] }) h.objs.size (.dK []) :=
  ⟨Nat.zero_le _, beq_eq_false_iff_ne.mpr (Ne.symm (Nat.ne_of_lt hb)), [], .nil, Heap.DictOf.new h⟩
theorem dt_empty {P : Program} {w : World} {H : Hp} (h : Heap) (hb : sysModules < h.objs.size) : ObjOk P w H (h.push { cls := .type "dict", data := .dict #[] }) h.objs.size (.dT []) :=
  ⟨Nat.zero_le _, beq_eq_false_iff_ne.mpr (Ne.symm (Nat.ne_of_lt hb)), [], .nil, _, #[], 0, Heap.get?_push_size _ rfl, ⟨rfl, rfl, rfl⟩, rfl, rfl, List.nodup_nil⟩
/-- {}, to be a dict of the kind that is wanted -/
def tDNewK : TE := fun _ H Q => ∀ p, H p = none → Q (.ref p) (upd H p (.dK []))
def tDNewT : TE := fun _ H Q => ∀ p, H p = none → Q (.ref p) (upd H p (.dT []))
section
variable {X : Cx} {pos : Pos}
theorem pe_dnewK : PE X (.Dict [] [] pos) tDNewK := fun pins s σ H Q I h =>
  wpAny_Dict_empty ⟨.ref s.heap.objs.size, _, I.laid (a := s.heap.objs.size) (o := .dK []) (t' := s.toks) (fun _ _ q => Heap.get?_push_of_some _ q) (Nat.le_refl _) (dk_empty s.heap I.big), rfl, h _ (I.hok.fresh (Nat.le_refl _))⟩
theorem pe_dnewT : PE X (.Dict [] [] pos) tDNewT := fun pins s σ H Q I h =>
  wpAny_Dict_empty ⟨.ref s.heap.objs.size, _, I.laid (a := s.heap.objs.size) (o := .dT []) (t' := s.toks) (fun _ _ q => Heap.get?_push_of_some _ q) (Nat.le_refl _) (dt_empty s.heap I.big), rfl, h _ (I.hok.fresh (Nat.le_refl _))⟩
end

/-- the pairs of a display, from the left -/
def tPairs : List (TE × TE) → St → Hp → (List (V × V) → Hp → Prop) → Prop
  | [], _, H, Q => Q [] H
  | (tk, tv) :: r, σ, H, Q => tk σ H fun x H1 => tv σ H1 fun y H2 => tPairs r σ H2 fun ps H3 => Q ((x, y) :: ps) H3
abbrev VV : List (V × V) → List (Value × Value) → Prop := Paired fun p q => RelV p.1 q.1 ∧ RelV p.2 q.2
def PPs (X : Cx) (pos : Pos) (keys : List (Option Expr)) (values : List Expr) (trs : List (TE × TE)) : Prop :=
  ∀ (pins : List (Addr × Obj)) (s : Shared) (σ : St) (H : Hp) (Q : List (V × V) → Hp → Prop), Inv X pins σ H s → tPairs trs σ H Q →
    wpAny (model X.prog X.w) X.A (evalPairs (pairTrees keys values X.env pos)) (fun vs s' => ∃ ps H', Inv X pins σ H' s' ∧ VV ps vs ∧ Q ps H') X.xe s
theorem pps_nil {X : Cx} {pos : Pos} : PPs X pos [] [] [] := fun pins s σ H Q I h => pairTrees_nil_walk ⟨[], H, I, .nil, h⟩
theorem pps_cons {X : Cx} {pos : Pos} {k v : Expr} {ks : List (Option Expr)} {vs : List Expr} {tk tv : TE} {trs : List (TE × TE)} (hk : PE X k tk) (hv : PE X v tv) (hr : PPs X pos ks vs trs) :
    PPs X pos (some k :: ks) (v :: vs) ((tk, tv) :: trs) := fun pins s σ H Q I h =>
  pairTrees_cons_walk (thn (hk pins s σ H _ I h) fun u s1 ⟨x, H1, I1, rx, q1⟩ => thn (hv pins s1 σ H1 _ I1 q1) fun w2 s2 ⟨y, H2, I2, ry, q2⟩ =>
    thn (hr pins s2 σ H2 _ I2 q2) fun ws s3 ⟨ps, H3, I3, rel, q3⟩ => ⟨(x, y) :: ps, H3, I3, .cons ⟨rx, ry⟩ rel, q3⟩)

def mergeK (kvs more : List (Key × V)) : List (Key × V) := more.foldl (fun acc kv => putK acc kv.1 kv.2) kvs
theorem KV.merge : ∀ {more : List (Key × V)} {rs : List (Key × Value)} {kvs : List (Key × V)} {vs : List (Key × Value)}, KV more rs → KV kvs vs → KV (mergeK kvs more) (merged vs rs) := by
  intro more rs kvs vs r
  unfold KV at r
  induction r generalizing kvs vs with
  | nil => intro q; exact q
  | @cons p q ps qs h t ih =>
    intro r0
    have e : KV (putK kvs p.1 p.2) (stored vs q.1 q.2) := by
      have := r0.put p.1 h.2
      rw [← h.1]; exact this
    exact ih e
theorem length_mergeK : ∀ (more kvs : List (Key × V)), (mergeK kvs more).length ≤ kvs.length + more.length
  | [], kvs => by show kvs.length ≤ kvs.length + 0; omega
  | p :: r, kvs => by
    have h1 := length_mergeK r (putK kvs p.1 p.2)
    have h2 := length_putK kvs p.1 p.2
    show (mergeK (putK kvs p.1 p.2) r).length ≤ _
    rw [List.length_cons]; omega
theorem carries_of {P : Program} {w : World} : ∀ {kvs : List (Key × V)} {ws : List (Value × Value)}, VV (kvs.map fun kv => (kV kv.1, kv.2)) ws → ∃ rs, Carries (mixKind P w) ws rs ∧ KV kvs rs
  | [], _, r => by rw [List.map_nil] at r; cases r; exact ⟨[], True.intro, .nil⟩
  | p :: kvs, _, r => by
    rw [List.map_cons] at r
    cases r with
    | @cons a b as bs h t =>
      obtain ⟨rs, c, q⟩ := carries_of (P := P) (w := w) t
      obtain ⟨b1, b2⟩ := b
      exact ⟨(p.1, b2) :: rs, ⟨kV_is h.1, rfl, c⟩, .cons ⟨rfl, h.2⟩ q⟩
/-- {k: v, ..} with keys ints and texts; the new dict stands empty while the pairs are made -/
def tDisp (trs : List (TE × TE)) : TE := fun σ H Q => ∀ p, H p = none → tPairs trs σ (upd H p (.dK [])) fun ps H2 => H2 p = some (.dK []) ∧ ∃ kvs : List (Key × V), ps = kvs.map (fun kv => (kV kv.1, kv.2)) ∧ kvs.length ≤ 15 ∧ Q (.ref p) (upd H2 p (.dK (mergeK [] kvs)))
theorem pe_disp {X : Cx} {pos : Pos} {keys : List (Option Expr)} {values : List Expr} {trs : List (TE × TE)} (h : PPs X pos keys values trs) (hall : keys.all (·.isSome) = true) (hl : keys.length = values.length) (h0 : keys ≠ [])
    (h15 : keys.length ≤ 15) : PE X (.Dict keys values pos) (tDisp trs) := by
  intro pins s σ H Q I q
  have hn := I.hok.fresh (Nat.le_refl s.heap.objs.size)
  have I1 := I.laid (a := s.heap.objs.size) (o := .dK []) (h' := s.heap.push { cls := .type "dict", data := .dict #[] }) (t' := s.toks) (fun _ _ q => Heap.get?_push_of_some _ q) (Nat.le_refl _) (dk_empty s.heap I.big)
  refine wpAny_Dict_walk (knd := mixKind X.prog X.w) hall hl h0 h15 (thn (h pins _ σ _ _ I1 (q _ hn)) fun ws s2 ⟨ps, H2, I2, rel, e, kvs, ep, lk, q2⟩ => ?_)
  subst ep
  obtain ⟨rs, c, rk⟩ := carries_of (P := X.prog) (w := X.w) rel
  obtain ⟨z, hd, vs0, r0, dd⟩ := dk_of I2.hok e
  cases r0
  refine ⟨rs, c, dd, fun h' dd' hs => ⟨.ref s.heap.objs.size, _, ?_, rfl, q2⟩⟩
  have hz : (mergeK [] kvs).length ≤ sizeLine := by
    have h1 := length_mergeK kvs []
    rw [List.length_nil] at h1
    rw [sizeLine_eq]; omega
  have he : ∃ q, h'.get? s.heap.objs.size = some q := let ⟨q, _, _, hq, _⟩ := dd'; ⟨q, hq⟩
  exact d_write I2 (by rw [e]; exact True.intro) hs he (dk_new hz hd (rk.merge .nil) dd')


/-! ### methods -/
/-- a method call o.m(e) of a built-in, with one argument: what must be seen of the text -/
structure M1 (X : Cx) (o : Expr) (m : Str) (apos : Pos) (e : Expr) (cpos : Pos) : Prop where
  base : attributeBase o m X.env (eval o X.env) = eval o X.env
  few : ((backTo cpos (starEach [e] X.env)).all (fun x => !x.1) && (backToKw cpos (keywordEach [] X.env)).all (fun x => x.1.isSome)
    && decide (([e] : List Expr).length + ([] : List Keyword).length + (if ([] : List Keyword).isEmpty then 0 else 1) < 30)) = true
  line : (apos.endLine == cpos.line) = true
  trees : backTo cpos (starEach [e] X.env) = [(false, eval e X.env)]
structure M2 (X : Cx) (o : Expr) (m : Str) (apos : Pos) (e f : Expr) (cpos : Pos) : Prop where
  base : attributeBase o m X.env (eval o X.env) = eval o X.env
  few : ((backTo cpos (starEach [e, f] X.env)).all (fun x => !x.1) && (backToKw cpos (keywordEach [] X.env)).all (fun x => x.1.isSome)
    && decide (([e, f] : List Expr).length + ([] : List Keyword).length + (if ([] : List Keyword).isEmpty then 0 else 1) < 30)) = true
  line : (apos.endLine == cpos.line) = true
  trees : backTo cpos (starEach [e, f] X.env) = [(false, eval e X.env), (false, eval f X.env)]

/-- a is a dict, whatever its keys -/
def IsD (H : Hp) (a : Addr) : Prop := (∃ kvs, Rd H a (.dK kvs)) ∨ ∃ kvs, Rd H a (.dT kvs)
theorem isD_at {X : Cx} {pins : List (Addr × Obj)} {σ : St} {H : Hp} {s : Shared} {a : Addr} (I : Inv X pins σ H s) (d : IsD H a) :
    s.TypeIs (.ref a) "dict" ∧ (∀ b, Value.ref a = .ref b → ∃ ob, s.heap.get? b = some ob ∧ ob.dict = none) ∧ (a == sysModules) = false := by
  rcases d with ⟨kvs, e⟩ | ⟨kvs, e⟩
  · obtain ⟨_, hd, vs, _, dd⟩ := dk_rd I.hok e
    refine ⟨dd.typeIs, fun b q => ?_, hd⟩
    cases q
    obtain ⟨ob, _, _, h1, h2, _⟩ := dd
    exact ⟨ob, h1, h2.2.1⟩
  · obtain ⟨_, hd, xs, _, dd⟩ := dt_rd I.hok e
    refine ⟨dd.typeIs, fun b q => ?_, hd⟩
    cases q
    obtain ⟨ob, _, _, h1, h2, _⟩ := dd
    exact ⟨ob, h1, h2.2.1⟩

section
variable {X : Cx} {pins : List (Addr × Obj)} {σ : St} {H : Hp} {s : Shared} {a : Addr} {y d : V} {u r : Value} {o : Option V} {A : Around} {E : Value → Shared → Prop}
/-- d.get(y) -/
theorem d_get1 {Q : Value → Shared → Prop} (hu : A.units + 1 < cLine) (I : Inv X pins σ H s) (g : DGet H a y o) (ry : RelV y u) (h : ∀ w' s', Inv X pins σ H s' → RelV (o.getD .non) w' → Q w' s') :
    wpAny (model X.prog X.w) A (call (.builtin "dict.get") [.ref a, u]) Q E s := by
  rcases g with ⟨kvs, k, e, ey, l⟩ | ⟨kvs, k, b, e, ey, eb, l⟩
  · subst ey
    obtain ⟨z, hd, vs, rel, dd⟩ := dk_rd I.hok e
    refine call_meetsIn PySem.F.slot_dict_get dd.typeIs PySem.F.entry_dict_get (PySem.F.args_dict_get_2 _ _) (meets_dict_get (mixKind X.prog X.w) a (kV_is ry) hd) ⟨_, dd.mapOf, h _ _ (I.tok _) ?_⟩
    rw [l]
    exact (rel.val k).getD rfl
  · subst ey
    cases (show u = Value.ref b from ry)
    obtain ⟨z, hd, xs, rel, dd⟩ := dt_rd I.hok e
    refine call_meetsIn PySem.F.slot_dict_get dd.typeIs PySem.F.entry_dict_get (PySem.F.args_dict_get_2 _ _) (meetsH_dict_get (tupleKind (mixKind X.prog X.w)) a b hd) ⟨tupleKind_room_in1 hu, k, xs, key_of I.hok eb, dd, h _ _ (I.tok _) ?_⟩
    rw [l]
    exact (rel.val k).getD rfl
/-- d.get(y, x) -/
theorem d_get2 {Q : Value → Shared → Prop} (hu : A.units + 1 < cLine) (I : Inv X pins σ H s) (g : DGet H a y o) (ry : RelV y u) (rd : RelV d r) (h : ∀ w' s', Inv X pins σ H s' → RelV (o.getD d) w' → Q w' s') :
    wpAny (model X.prog X.w) A (call (.builtin "dict.get") [.ref a, u, r]) Q E s := by
  rcases g with ⟨kvs, k, e, ey, l⟩ | ⟨kvs, k, b, e, ey, eb, l⟩
  · subst ey
    obtain ⟨z, hd, vs, rel, dd⟩ := dk_rd I.hok e
    refine call_meetsIn PySem.F.slot_dict_get dd.typeIs PySem.F.entry_dict_get (PySem.F.args_dict_get_3 _ _ _) (meets_dict_get_default (mixKind X.prog X.w) a (kV_is ry) hd r) ⟨_, dd.mapOf, h _ _ (I.tok _) ?_⟩
    rw [l]
    exact (rel.val k).getD rd
  · subst ey
    cases (show u = Value.ref b from ry)
    obtain ⟨z, hd, xs, rel, dd⟩ := dt_rd I.hok e
    refine call_meetsIn PySem.F.slot_dict_get dd.typeIs PySem.F.entry_dict_get (PySem.F.args_dict_get_3 _ _ _) (meetsH_dict_get_default (tupleKind (mixKind X.prog X.w)) a b hd r) ⟨tupleKind_room_in1 hu, k, xs, key_of I.hok eb, dd, h _ _ (I.tok _) ?_⟩
    rw [l]
    exact (rel.val k).getD rd
end

def tDGet1 (td ty : TE) : TE := fun σ H Q => td σ H fun x H1 => ∃ a, x = .ref a ∧ IsD H1 a ∧ ty σ H1 fun y H2 => ∃ o, DGet H2 a y o ∧ Q (o.getD .non) H2
def tDGet2 (td ty tx : TE) : TE := fun σ H Q => td σ H fun x H1 => ∃ a, x = .ref a ∧ IsD H1 a ∧ ty σ H1 fun y H2 => tx σ H2 fun z H3 => ∃ o, DGet H3 a y o ∧ Q (o.getD z) H3
/-- d.pop(k): there; d.pop(k, x): there or not -/
def tDPop1 (td ty : TE) : TE := fun σ H Q => td σ H fun x H1 => ∃ a, x = .ref a ∧ IsD H1 a ∧ ty σ H1 fun y H2 => ∃ kvs k v, H2 a = some (.dK kvs) ∧ y = kV k ∧ valV kvs k = some v ∧ Q v (upd H2 a (.dK (dropK kvs k)))
def tDPop2 (td ty tx : TE) : TE := fun σ H Q => td σ H fun x H1 => ∃ a, x = .ref a ∧ IsD H1 a ∧ ty σ H1 fun y H2 => tx σ H2 fun z H3 => ∃ kvs k, H3 a = some (.dK kvs) ∧ y = kV k ∧
  (∀ v, valV kvs k = some v → Q v (upd H3 a (.dK (dropK kvs k)))) ∧ (valV kvs k = none → Q z H3)
section
variable {X : Cx} {o e f : Expr} {apos cpos : Pos} {td ty tx : TE}
theorem pe_dget1 (hu : X.A.units + 1 < cLine) (ho : PE X o td) (he : PE X e ty) (m : M1 X o "get" apos e cpos) : PE X (.Call (.Attribute o "get" apos) [e] [] cpos) (tDGet1 td ty) := by
  intro pins s σ H Q I h
  refine wpAny_Call_method m.base m.few m.line PySem.F.plainAttrs_dict PySem.F.slot_dict_get PySem.F.type_dict_get (thn (ho pins s σ H _ I h) fun u s1 ⟨x, H1, I1, rx, a, ex, d, q1⟩ => ?_)
  subst ex
  obtain rfl : u = Value.ref a := rx
  obtain ⟨t1, t2, _⟩ := isD_at I1 d
  refine ⟨t1, t2, ?_⟩
  rw [m.trees]
  refine Calls.callWith_builtin rfl (Calls.evalArgs_plain (Calls.spliced_cons (thn (he pins s1 σ H1 _ I1 q1) fun iv s2 ⟨y, H2, I2, ry, ov, g, q2⟩ => Calls.spliced_nil ?_)))
  exact d_get1 hu I2 g ry fun w' s3 I3 rw' => ⟨_, H2, I3, rw', q2⟩
theorem pe_dget2 (hu : X.A.units + 1 < cLine) (ho : PE X o td) (he : PE X e ty) (hf : PE X f tx) (m : M2 X o "get" apos e f cpos) : PE X (.Call (.Attribute o "get" apos) [e, f] [] cpos) (tDGet2 td ty tx) := by
  intro pins s σ H Q I h
  refine wpAny_Call_method m.base m.few m.line PySem.F.plainAttrs_dict PySem.F.slot_dict_get PySem.F.type_dict_get (thn (ho pins s σ H _ I h) fun u s1 ⟨x, H1, I1, rx, a, ex, d, q1⟩ => ?_)
  subst ex
  obtain rfl : u = Value.ref a := rx
  obtain ⟨t1, t2, _⟩ := isD_at I1 d
  refine ⟨t1, t2, ?_⟩
  rw [m.trees]
  refine Calls.callWith_builtin rfl (Calls.evalArgs_plain (Calls.spliced_cons (thn (he pins s1 σ H1 _ I1 q1) fun iv s2 ⟨y, H2, I2, ry, q2⟩ =>
    Calls.spliced_cons (thn (hf pins s2 σ H2 _ I2 q2) fun fv s3 ⟨z, H3, I3, rz, ov, g, q3⟩ => Calls.spliced_nil ?_))))
  exact d_get2 hu I3 g ry rz fun w' s4 I4 rw' => ⟨_, H3, I4, rw', q3⟩
theorem pe_dpop1 (ho : PE X o td) (he : PE X e ty) (m : M1 X o "pop" apos e cpos) : PE X (.Call (.Attribute o "pop" apos) [e] [] cpos) (tDPop1 td ty) := by
  intro pins s σ H Q I h
  refine wpAny_Call_method m.base m.few m.line PySem.F.plainAttrs_dict PySem.F.slot_dict_pop PySem.F.type_dict_pop (thn (ho pins s σ H _ I h) fun u s1 ⟨x, H1, I1, rx, a, ex, d, q1⟩ => ?_)
  subst ex
  obtain rfl : u = Value.ref a := rx
  obtain ⟨t1, t2, _⟩ := isD_at I1 d
  refine ⟨t1, t2, ?_⟩
  rw [m.trees]
  refine Calls.callWith_builtin rfl (Calls.evalArgs_plain (Calls.spliced_cons (thn (he pins s1 σ H1 _ I1 q1) fun iv s2 ⟨y, H2, I2, ry, kvs, k, v, ea, ey, l, q2⟩ => Calls.spliced_nil ?_)))
  subst ey
  exact d_pop I2 ea ry l (.inl rfl) fun w' s3 I3 rw' => ⟨v, _, I3, rw', q2⟩
theorem pe_dpop2 (ho : PE X o td) (he : PE X e ty) (hf : PE X f tx) (m : M2 X o "pop" apos e f cpos) : PE X (.Call (.Attribute o "pop" apos) [e, f] [] cpos) (tDPop2 td ty tx) := by
  intro pins s σ H Q I h
  refine wpAny_Call_method m.base m.few m.line PySem.F.plainAttrs_dict PySem.F.slot_dict_pop PySem.F.type_dict_pop (thn (ho pins s σ H _ I h) fun u s1 ⟨x, H1, I1, rx, a, ex, d, q1⟩ => ?_)
  subst ex
  obtain rfl : u = Value.ref a := rx
  obtain ⟨t1, t2, _⟩ := isD_at I1 d
  refine ⟨t1, t2, ?_⟩
  rw [m.trees]
  refine Calls.callWith_builtin rfl (Calls.evalArgs_plain (Calls.spliced_cons (thn (he pins s1 σ H1 _ I1 q1) fun iv s2 ⟨y, H2, I2, ry, q2⟩ =>
    Calls.spliced_cons (thn (hf pins s2 σ H2 _ I2 q2) fun fv s3 ⟨z, H3, I3, rz, kvs, k, ea, ey, q3, q4⟩ => Calls.spliced_nil ?_))))
  subst ey
  cases l : valV kvs k with
  | some v => exact d_pop I3 ea ry l (.inr ⟨fv, rfl⟩) fun w' s4 I4 rw' => ⟨v, _, I4, rw', q3 v l⟩
  | none => exact d_popD I3 ea ry l fun s4 I4 => ⟨z, H3, I4, rz, q4 l⟩
end

/-! ### dict(d): a copy -/
section
variable {X : Cx} {pins : List (Addr × Obj)} {σ : St} {H : Hp} {s : Shared} {a : Addr} {kvs : List (Key × V)} {A : Around} {E : Value → Shared → Prop}
theorem d_copyOf {Q : Value → Shared → Prop} (I : Inv X pins σ H s) (e : Rd H a (.dK kvs)) (h : ∀ p s', H p = none → Inv X pins σ (upd H p (.dK kvs)) s' → Q (.ref p) s') : wpAny (model X.prog X.w) A (call (.type "dict") [.ref a]) Q E s := by
  obtain ⟨z, hd, vs, rel, dd⟩ := dk_rd I.hok e
  refine kt_call_dict hd dd (by rw [← rel.length]; exact z) fun h' dd' hs => ?_
  refine h _ _ (I.hok.fresh (Nat.le_refl _)) (I.laid (a := s.heap.objs.size) (o := .dK kvs) (t' := s.toks) (fun b q hq => ?_) (Nat.le_refl _) (dk_new z (beq_eq_false_iff_ne.mpr (Ne.symm (Nat.ne_of_lt I.big))) rel dd'))
  exact (hs.2 b (Nat.ne_of_lt (Heap.lt_size hq))).trans (Heap.get?_push_of_some _ hq)
end


section
variable {X : Cx} {pins : List (Addr × Obj)} {σ : St} {H : Hp} {s : Shared} {a : Addr} {y : V} {u : Value} {A : Around} {E : Value → Shared → Prop}
/-- d[y], not there: a KeyError -/
theorem d_missing {Q : Value → Shared → Prop} (hu : A.units + 1 < cLine) (hh : A.handled = none) (I : Inv X pins σ H s) (g : DGet H a y none) (ry : RelV y u)
    (h : ∀ h' e t', Heap.NewExc s.heap h' e "KeyError" → E (.ref e) { s with heap := h', toks := t' }) : wpAny (model X.prog X.w) A (getItem (.ref a) u) Q E s := by
  rcases g with ⟨kvs, k, e, ey, l⟩ | ⟨kvs, k, b, e, ey, eb, l⟩
  · subst ey
    obtain ⟨z, hd, vs, rel, dd⟩ := dk_rd I.hok e
    have hn : valueAt vs k = none := RelO.none_of (by rw [l]; exact rel.val k)
    exact wpAny_getItem_missing_of (kV_is ry) hd hh dd.mapOf hn fun h' ex ne => h h' ex _ ne
  · subst ey
    cases (show u = Value.ref b from ry)
    obtain ⟨z, hd, xs, rel, dd⟩ := dt_rd I.hok e
    have hn : (atKey xs k).map (·.2) = none := RelO.none_of (by rw [l]; exact rel.val k)
    exact wpAny_getItem_missing_heap (tupleKind_room_in1 hu) (key_of I.hok eb) hd hh dd (Option.map_eq_none_iff.mp hn) fun h' ex ne => h h' ex _ ne
end
end L2

namespace L2
open PySem PySem.Spec PyProof.Rows
section
variable {X : Cx}
/-- len of a dict -/
theorem call_lenD : CallR X (.builtin "len") (fun xs H Q => ∃ a kvs, xs = [V.ref a] ∧ H a = some (.dK kvs) ∧ Q (.int kvs.length) H) := by
  intro pins s σ H xs us Q I r h
  obtain ⟨a, kvs, rfl, ha, q⟩ := h
  obtain ⟨u, rfl, ru⟩ := vals1 r
  cases ru
  exact d_len I (.inl ha) fun t s' I' => ⟨.int kvs.length, H, I', ⟨t, rfl⟩, q⟩
end
end L2
namespace L2
open PySem PySem.Spec PyProof.Rows
/-! ### a dict's pairs: keys that differ -/
section
variable {κ : Type} [DecidableEq κ]
theorem valV_not {kvs : List (κ × V)} {k : κ} (h : valV kvs k = none) : ¬ k ∈ kvs.map (·.1) := by
  intro m
  obtain ⟨p, hp, e⟩ := List.mem_map.mp m
  have q : (kvs.any fun kv => decide (kv.1 = k)) = true := List.any_eq_true.mpr ⟨p, hp, decide_eq_true e⟩
  rw [valV_any, h] at q
  exact absurd q (by simp)
theorem valV_in {kvs : List (κ × V)} {k : κ} {v : V} (h : valV kvs k = some v) : k ∈ kvs.map (·.1) := by
  have q : (kvs.any fun kv => decide (kv.1 = k)) = true := by
    rw [valV_any, h]
    all_goals rfl
  obtain ⟨p, hp, e⟩ := List.any_eq_true.mp q
  exact List.mem_map.mpr ⟨p, hp, of_decide_eq_true e⟩
theorem nd_snoc : ∀ {l : List κ} {k : κ}, l.Nodup → ¬ k ∈ l → (l ++ [k]).Nodup
  | [], k, _, _ => by simp
  | a :: r, k, h, hk => by
    obtain ⟨h1, h2⟩ := List.nodup_cons.mp h
    show (a :: (r ++ [k])).Nodup
    refine List.nodup_cons.mpr ⟨fun m => ?_, nd_snoc h2 fun m => hk (List.mem_cons.mpr (Or.inr m))⟩
    rcases List.mem_append.mp m with q | q
    · exact h1 q
    · exact hk (List.mem_cons.mpr (Or.inl (List.mem_singleton.mp q).symm))
theorem nd_putK {kvs : List (κ × V)} {k : κ} (v : V) (hn : (kvs.map (·.1)).Nodup) (h : valV kvs k = none) : ((putK kvs k v).map (·.1)).Nodup := by
  rw [putK_new v h, List.map_append]
  exact nd_snoc hn (valV_not h)
theorem dropK_pos {p : κ × V} {r : List (κ × V)} {k : κ} (e : p.1 = k) : dropK (p :: r) k = dropK r k := by
  unfold dropK
  rw [List.filter_cons, if_neg (by simp [e])]
theorem dropK_neg {p : κ × V} {r : List (κ × V)} {k : κ} (e : ¬ p.1 = k) : dropK (p :: r) k = p :: dropK r k := by
  unfold dropK
  rw [List.filter_cons, if_pos (by simp [e])]
theorem dropK_no : ∀ {kvs : List (κ × V)} {k : κ}, ¬ k ∈ kvs.map (·.1) → dropK kvs k = kvs
  | [], _, _ => rfl
  | p :: r, k, h => by
    have h' : ¬ k ∈ r.map (·.1) := fun m => by
      obtain ⟨q, hq, e⟩ := List.mem_map.mp m
      exact h (List.mem_map.mpr ⟨q, List.mem_cons.mpr (Or.inr hq), e⟩)
    rw [dropK_neg fun e => h (List.mem_map.mpr ⟨p, List.mem_cons.mpr (Or.inl rfl), e⟩), dropK_no h']
theorem dropK_mem {kvs : List (κ × V)} {k : κ} {p : κ × V} (h : p ∈ dropK kvs k) : p ∈ kvs := (List.mem_filter.mp h).1
theorem nd_dropK : ∀ {kvs : List (κ × V)} {k : κ}, (kvs.map (·.1)).Nodup → ((dropK kvs k).map (·.1)).Nodup
  | [], _, _ => List.nodup_nil
  | p :: r, k, h => by
    have h : (p.1 :: r.map (·.1)).Nodup := h
    obtain ⟨h1, h2⟩ := List.nodup_cons.mp h
    by_cases e : p.1 = k
    · rw [dropK_pos e]
      exact nd_dropK h2
    · rw [dropK_neg e]
      show (p.1 :: (dropK r k).map (·.1)).Nodup
      refine List.nodup_cons.mpr ⟨fun m => h1 ?_, nd_dropK h2⟩
      obtain ⟨q, hq, eq⟩ := List.mem_map.mp m
      exact List.mem_map.mpr ⟨q, dropK_mem hq, eq⟩
theorem dropK_len : ∀ {kvs : List (κ × V)} {k : κ}, (kvs.map (·.1)).Nodup → k ∈ kvs.map (·.1) → (dropK kvs k).length + 1 = kvs.length
  | [], _, _, m => by simp at m
  | p :: r, k, h, m => by
    have h : (p.1 :: r.map (·.1)).Nodup := h
    have m : k = p.1 ∨ k ∈ r.map (·.1) := List.mem_cons.mp m
    obtain ⟨h1, h2⟩ := List.nodup_cons.mp h
    by_cases e : p.1 = k
    · subst e
      rw [dropK_pos rfl, dropK_no h1]
      all_goals rfl
    · have m' : k ∈ r.map (·.1) := m.resolve_left fun z => e z.symm
      have q := dropK_len h2 m'
      rw [dropK_neg e, List.length_cons, List.length_cons]
      omega
end
end L2

set_option Elab.async false
set_option linter.all false
set_option maxRecDepth 100000
set_option maxHeartbeats 4000000
namespace L2
open PySem PySem.Spec PyProof.Rows

/-! ### a comprehension -/
/-- what a block closes over: every free name has its cell -/
theorem closure_go {env : Env} : ∀ (names : List (Str × NameKind)) (cs : List (Str × Addr)), (∀ n, (n, NameKind.free) ∈ names → ∃ c, env.cells.lookup n = some c) → (∀ n c, cs.lookup n = some c → env.cells.lookup n = some c) →
    ∃ cl, (forIn names cs (fun x r => match x with | (name, kind) => if (kind == NameKind.free) = true then do
      let c ← cellOf env name
      pure (ForInStep.yield ((name, c) :: r)) else pure (ForInStep.yield r)) : Sem (List (Str × Addr))) = pure cl ∧ (∀ n c, cl.lookup n = some c → env.cells.lookup n = some c) ∧ (∀ n, (n, NameKind.free) ∈ names → ∃ c, cl.lookup n = some c) ∧ (∀ n c, cs.lookup n = some c → ∃ c', cl.lookup n = some c')
  | [], cs, _, h2 => ⟨cs, rfl, h2, fun _ h => by simp at h, fun n c h => ⟨c, h⟩⟩
  | (name, kind) :: rest, cs, h1, h2 => by
    have h1' : ∀ n, (n, NameKind.free) ∈ rest → ∃ c, env.cells.lookup n = some c := fun n h => h1 n (List.mem_cons_of_mem _ h)
    rw [List.forIn_cons]
    by_cases hk : kind = NameKind.free
    · subst hk
      obtain ⟨c, hc⟩ := h1 name List.mem_cons_self
      have h2' : ∀ n c', ((name, c) :: cs).lookup n = some c' → env.cells.lookup n = some c' := fun n c' h => by
        rw [List.lookup_cons] at h
        cases hb : n == name with
        | true =>
          rw [hb] at h
          have e : n = name := eq_of_beq hb
          subst e
          have e2 : c = c' := by simpa using h
          subst e2
          exact hc
        | false =>
          rw [hb] at h
          exact h2 n c' h
      obtain ⟨cl, e, a, b, d⟩ := closure_go rest ((name, c) :: cs) h1' h2'
      refine ⟨cl, ?_, a, fun n hn => ?_, fun n c' h => ?_⟩
      · have hcell : cellOf env name = pure c := by unfold cellOf; rw [hc]
        simp only [beq_self_eq_true, if_true, hcell, pure_bind]
        exact e
      · rcases List.mem_cons.mp hn with hn | hn
        · have e3 : n = name := (Prod.mk.inj hn).1
          subst e3
          exact d n c (by simp [List.lookup_cons])
        · exact b n hn
      · cases hb : n == name with
        | true => exact d n c (by rw [List.lookup_cons, hb])
        | false => exact d n c' (by rw [List.lookup_cons, hb]; exact h)
    · have hb : (kind == NameKind.free) = false := by simpa using hk
      obtain ⟨cl, e, a, b, d⟩ := closure_go rest cs h1' h2
      refine ⟨cl, ?_, a, fun n hn => ?_, d⟩
      · simp only [hb, Bool.false_eq_true, if_false, pure_bind]
        exact e
      · rcases List.mem_cons.mp hn with hn | hn
        · exact absurd (Prod.mk.inj hn).2.symm hk
        · exact b n hn
theorem closure_of {scope : Scope} {env : Env} (h : ∀ n, (n, NameKind.free) ∈ scope.names → ∃ c, env.cells.lookup n = some c) :
    ∃ cl, closureFor scope env = pure cl ∧ (∀ n c, cl.lookup n = some c → env.cells.lookup n = some c) ∧ (∀ n, (n, NameKind.free) ∈ scope.names → ∃ c, cl.lookup n = some c) := by
  obtain ⟨cl, e, a, b, _⟩ := closure_go (env := env) scope.names [] h (fun n c h => by simp at h)
  refine ⟨cl, ?_, a, b⟩
  unfold closureFor
  have e' := congrArg (fun (m : Sem (List (Str × Addr))) => m >>= fun cs => pure cs) e
  simp only [pure_bind] at e'
  exact e'

/-- the context of a comprehension's block -/
abbrev Cx.blk (X : Cx) (scope : Scope) (cl : List (Str × Addr)) (C : Addr) (M : List Str) (s : Shared) (H : Hp) (ex : List Addr) : Cx :=
  { X with N := M, s₀ := s, H₀ := H, env := compEnvC scope cl C X.env, outer := X.stack, stack := X.stack, ex := ex, fn := fun _ => false, pn := [], xe := fun _ _ => False }
/-- the block's names: its own ones, then those of the def that it reads, by their slots fr -/
structure Blk (X : Cx) (scope : Scope) (M : List Str) (own : Nat) (fr : List Nat) : Prop where
  kind : scope.kind = .function
  nocell : ∀ y ∈ scope.names, y.2 ≠ .cell
  names : ∀ y ∈ scope.names, y.2 = .local → scope.names.lookup y.1 = some .local
  free : ∀ y ∈ scope.names, y.2 = .free → X.env.kindOf y.1 = some .cell ∨ X.env.kindOf y.1 = some .free
  nd : M.Nodup
  len : M.length = own + fr.length
  at' : ∀ i j, fr[i]? = some j → M[own + i]? = X.N[j]? ∧ ∃ n, X.N[j]? = some n ∧ scope.names.lookup n = some .free ∧ (X.env.kindOf n = some .cell ∨ X.env.kindOf n = some .free)
/-- what the block sees at the start of a turn -/
def seen (own : Nat) (fr : List Nat) (σ : St) : St := List.replicate own none ++ fr.map fun j => (σ[j]?).join

theorem lookup_map {g : Str × NameKind → Str × NameKind} (hg : ∀ p, (g p).1 = p.1) : ∀ (names : List (Str × NameKind)) (n : Str), (names.map g).lookup n = (names.lookup n).map fun k => (g (n, k)).2
  | [], _ => rfl
  | (m, k) :: r, n => by
    have e : g (m, k) = (m, (g (m, k)).2) := Prod.ext (hg (m, k)) rfl
    rw [List.map_cons, e]
    by_cases hx : n = m
    · subst hx
      simp [List.lookup_cons]
    · have hb : (n == m) = false := by simpa using hx
      simp only [List.lookup_cons, hb]
      exact lookup_map hg r n
theorem relabel_names (scope : Scope) (env : Env) : ∃ g : Str × NameKind → Str × NameKind, (relabel scope env).names = scope.names.map g ∧ (∀ p, (g p).1 = p.1) ∧ ∀ n k, (g (n, k)).2 = k ∨ (k = .free ∧ (g (n, k)).2 = .cell) := by
  refine ⟨_, rfl, fun p => ?_, fun n k => ?_⟩
  · obtain ⟨n, k⟩ := p
    dsimp only
    split <;> rfl
  · dsimp only
    by_cases hc : (k == NameKind.free && env.scope.kind == ScopeKind.function && env.kindOf n == some NameKind.cell) = true
    · rw [if_pos hc]
      refine .inr ⟨?_, rfl⟩
      simp only [Bool.and_eq_true] at hc
      exact eq_of_beq hc.1.1
    · rw [if_neg hc]
      exact .inl rfl
theorem relabel_free {scope : Scope} {env : Env} {n : Str} (h : scope.names.lookup n = some .free) : (relabel scope env).names.lookup n = some .free ∨ (relabel scope env).names.lookup n = some .cell := by
  obtain ⟨g, e, h1, h2⟩ := relabel_names scope env
  rw [e, lookup_map h1, h]
  rcases h2 n .free with q | ⟨_, q⟩
  · exact .inl (by show some (g (n, .free)).2 = _; rw [q])
  · exact .inr (by show some (g (n, .free)).2 = _; rw [q])
/-- a name that the block closes over or has as a cell is one of the def's cells -/
theorem relabel_cell {scope : Scope} {env : Env} (nocell : ∀ y ∈ scope.names, y.2 ≠ .cell) {n : Str} (h : (relabel scope env).names.lookup n = some .cell ∨ (relabel scope env).names.lookup n = some .free) : (n, NameKind.free) ∈ scope.names := by
  obtain ⟨g, e, h1, h2⟩ := relabel_names scope env
  rw [e, lookup_map h1] at h
  cases hk : scope.names.lookup n with
  | none => rw [hk] at h; rcases h with h | h <;> cases h
  | some k =>
    have hm := PySem.mem_of_lookup hk
    rw [hk] at h
    have h' : (g (n, k)).2 = .cell ∨ (g (n, k)).2 = .free := by
      rcases h with h | h
      · exact .inl (Option.some.inj h)
      · exact .inr (Option.some.inj h)
    rcases h2 n k with q | ⟨q, _⟩
    · rcases h' with z | z
      · exact absurd (q.symm.trans z) (nocell _ hm)
      · rw [q.symm.trans z] at hm; exact hm
    · rw [q] at hm; exact hm

/-- a comprehension's tests -/
def PF (X : Cx) (ifs : List Expr) (t : TT) : Prop :=
  ∀ (pins : List (Addr × Obj)) (s : Shared) (σ : St) (H : Hp) (Q : Bool → Hp → Prop), Inv X pins σ H s → t σ H Q →
    wpAny (model X.prog X.w) X.A (forIn ifs true fun c r => if r = true then do let ok ← isTrue c X.env (eval c X.env); pure (ForInStep.yield ok) else pure (ForInStep.yield r)) (TP X pins σ Q) X.xe s
def tAll : TT := fun _ H Q => Q true H
theorem pf_nil {X : Cx} : PF X [] tAll := fun _ _ _ H _ I h => wpAny_tests_nil ⟨H, I, h⟩
theorem pf_one {X : Cx} {c : Expr} {t : TT} (h : PT X c t) : PF X [c] t := fun pins s σ H Q I hq => wpAny_tests_one (h pins s σ H Q I hq)

section
variable {prog : Program} {w : World} {A : Around} {R : Result → Shared → Prop} {s : Shared}
/-- a comprehension's loop, whatever its target -/
theorem compLoop_any {elt target iter : Expr} {ifs : List Expr} {scope : Scope} {pos : Pos} {it acc : Value} {env : Env} (I : Nat → Shared → Prop)
    (turn : ∀ n s, I n s → wpAny (model prog w) A (pyNext it) (fun r s1 => match r with
      | none => R (.ok .next) s1
      | some v => wpAny (model prog w) A (letOwnedTupleGo target it v) (fun _ s1' => wpAny (model prog w) A (assign target env v) (fun _ s2 =>
          wpAny (model prog w) A (forIn ifs true fun c r => if r = true then do let ok ← isTrue c env (eval c env); pure (ForInStep.yield ok) else pure (ForInStep.yield r)) (fun ok s3 =>
            if ok = true then wpAny (model prog w) A (eval elt env) (fun x s4 =>
              wpAny (model prog w) A (call (.builtin "list.append") [acc, x]) (fun _ s5 => ∃ m, m < n ∧ I m s5) (fun _ _ => False) s4) (fun _ _ => False) s3
            else ∃ m, m < n ∧ I m s3) (fun _ _ => False) s2) (fun _ _ => False) s1') (fun _ _ => False) s1) (fun _ _ => False) s)
    (n : Nat) (h : I n s) :
    codeAny (model prog w) A (.compLoop (.ListComp elt [⟨target, iter, ifs, 0⟩] scope pos) 0 it acc env) R s := by
  refine codeAny_loop rfl I (fun n s hI => ?_) n h
  show wpAny _ A ((compTurn (.ListComp elt [⟨target, iter, ifs, 0⟩] scope pos) 0 it acc env).onRaise (fun x => do noteFrame x env; theTreesLotGoes x)) _ _ s
  refine wpAny_noted ?_
  rw [compTurn_list]
  refine wpAny_bind (wpAny_standAt (wpAny_bind (wpAny_mono (turn n s hI) (fun r s1 h1 => ?_) fun _ _ h' => h'.elim)))
  cases r with
  | none => exact wpAny_pure h1
  | some v =>
    refine wpAny_bind (wpAny_mono h1 (fun _ s1' h1' => ?_) fun _ _ h' => h'.elim)
    refine wpAny_bind (wpAny_mono h1' (fun _ s2 h2 => wpAny_bind (wpAny_mono h2 (fun ok s3 h3 => ?_) fun _ _ h' => h'.elim)) fun _ _ h' => h'.elim)
    cases ok with
    | false => exact wpAny_pure ⟨rfl, h3⟩
    | true =>
      exact wpAny_bind (wpAny_bind (wpAny_mono h3 (fun x s4 h4 => wpAny_bind (wpAny_mono h4 (fun _ s5 h5 => wpAny_pure (wpAny_pure ⟨rfl, h5⟩)) fun _ _ h' => h'.elim)) fun _ _ h' => h'.elim))
end

/-- a target that stores the block's own names alone -/
def GKeeps (own : Nat) (fr : List Nat) (g : TG) : Prop := ∀ x σ H R, g x (seen own fr σ) H R → g x (seen own fr σ) H fun σ2 H3 => (∀ (i : Nat) v, (seen own fr σ)[i]? = some (some v) → σ2[i]? = some (some v)) ∧ R σ2 H3
/-- the turns of a comprehension, from the iterator on -/
def CompGo (J : It) (g : TG) (tf : TT) (te : TE) (own : Nat) (fr : List Nat) (σ : St) (Q : VK) (H1 : Hp) : Prop :=
  ∃ W : Nat → Nat → List V → Hp → Prop, (∃ m, W 0 m [] H1) ∧ ∀ i m ys H2, W i m ys H2 →
    (J.stop i H2 ∧ ∀ p, H2 p = none → Q (.ref p) (upd H2 p (.lst ys))) ∨
    (J.go i H2 ∧ ys.length < sizeLine ∧ ∃ N : List V → Hp → Prop, (∀ ys' H', N ys' H' → ∃ m', m' < m ∧ W (i + 1) m' ys' H') ∧
      ∀ x H', J.yld i H2 x H' → g x (seen own fr σ) H' fun σ2 H3 => tf σ2 H3 fun c H4 => if c = true then te σ2 H4 fun y H5 => N (ys ++ [y]) H5 else N ys H4)
/-- the reading of a comprehension -/
def tComp (wi : TI) (g : TG) (tf : TT) (te : TE) (own : Nat) (fr : List Nat) : TE := fun σ H Q => wi σ H fun J H1 => CompGo J g tf te own fr σ Q H1

section
variable {X : Cx} {pins : List (Addr × Obj)} {σ : St} {H H2 : Hp} {s s2 : Shared}

theorem seen_get {own : Nat} {fr : List Nat} {σ : St} {i : Nat} {v : V} (h : (seen own fr σ)[i]? = some (some v)) : ∃ k j, i = own + k ∧ fr[k]? = some j ∧ σ[j]? = some (some v) := by
  unfold seen at h
  by_cases hi : i < own
  · rw [List.getElem?_append_left (by simpa using hi), List.getElem?_replicate, if_pos hi] at h
    cases h
  · rw [List.getElem?_append_right (by simpa using hi)] at h
    simp only [List.length_replicate, List.getElem?_map] at h
    cases e : fr[i - own]? with
    | none => rw [e] at h; cases h
    | some j =>
      rw [e] at h
      simp only [Option.map_some, Option.some.injEq] at h
      refine ⟨i - own, j, by omega, e, ?_⟩
      cases q : σ[j]? with
      | none => rw [q] at h; cases h
      | some o =>
        rw [q] at h
        have h' : o = some v := h
        rw [h']
theorem seen_length (own : Nat) (fr : List Nat) (σ : St) : (seen own fr σ).length = own + fr.length := by
  unfold seen
  rw [List.length_append, List.length_replicate, List.length_map]

theorem gk_name {own : Nat} {fr : List Nat} {i : Nat} (hi : i < own) : GKeeps own fr (gName i) := fun x σ H R h => ⟨fun k v e => by
  obtain ⟨j, _, rfl, _⟩ := seen_get e
  rw [List.getElem?_set_ne (by omega)]
  exact e, h⟩
/-- the block begins -/
theorem Inv.block {scope : Scope} {M : List Str} {own : Nat} {fr : List Nat} {cl : List (Str × Addr)} {h1 : Heap} {fp : List Addr} {t1 : Nat} (B : Blk X scope M own fr) (I : Inv X pins σ H2 s2)
    (cl1 : ∀ n c, cl.lookup n = some c → X.env.cells.lookup n = some c) (cl2 : ∀ n, (n, NameKind.free) ∈ scope.names → ∃ c, cl.lookup n = some c)
    (hfp : ∀ b ∈ fp, FpOk X pins H2 b ∧ b < s2.heap.objs.size)
    (hns : h1.Ns (s2.heap.objs.size + 1) fun _ => none) (hsb : ∀ b o, b < s2.heap.objs.size + 1 → (s2.heap.push { cls := .type "list", data := .seq ([] : List Value).toArray }).get? b = some o → h1.get? b = some o) :
    Inv (X.blk scope cl (s2.heap.objs.size + 1) M { s2 with heap := s2.heap.push { cls := .type "list", data := .seq ([] : List Value).toArray } } H2 (s2.heap.objs.size :: fp))
      [(s2.heap.objs.size, { cls := .type "list", data := .seq ([] : List Value).toArray })] (seen own fr σ) H2 { s2 with heap := h1, toks := t1 } := by
  have hpush : ∀ b o, s2.heap.get? b = some o → (s2.heap.push { cls := .type "list", data := .seq ([] : List Value).toArray }).get? b = some o := fun b o e => Heap.get?_push_of_some _ e
  have old : ∀ b o, s2.heap.get? b = some o → h1.get? b = some o := fun b o e => hsb b o (Nat.lt_succ_of_lt (Heap.lt_size e)) (hpush b o e)
  have hD : h1.get? s2.heap.objs.size = some { cls := .type "list", data := .seq ([] : List Value).toArray } := hsb _ _ (Nat.lt_succ_self _) (Heap.get?_push_size _ rfl)
  have hHD : H2 s2.heap.objs.size = none := I.hok.fresh (Nat.le_refl _)
  have hHC : H2 (s2.heap.objs.size + 1) = none := I.hok.fresh (Nat.le_succ _)
  have cellLt : ∀ x c, X.env.cells.lookup x = some c → c < s2.heap.objs.size := fun x c e => by
    obtain ⟨v, q⟩ := I.cell x c e
    exact q.lt
  have szp : (s2.heap.push { cls := .type "list", data := .seq ([] : List Value).toArray }).objs.size = s2.heap.objs.size + 1 := Heap.size_push _ _
  have Ok : (X.blk scope cl (s2.heap.objs.size + 1) M { s2 with heap := s2.heap.push { cls := .type "list", data := .seq ([] : List Value).toArray } } H2 (s2.heap.objs.size :: fp)).Ok := by
    refine ⟨I.ok.mod, B.kind, I.ok.glob, I.ok.blt, ?_, ?_, ?_, ?_, I.ok.hd, I.ok.frames, .inl rfl, ?_, ?_, ?_, ?_, ?_, ?_, ?_⟩
    · show (s2.heap.push _).objs.size ≤ s2.heap.objs.size + 1
      rw [szp]
      exact Nat.le_refl _
    · intro x y c e1 e2
      exact I.ok.inj x y c (cl1 _ _ e1) (cl1 _ _ e2)
    · intro x hx
      exact cl2 x (relabel_cell B.nocell hx)
    · intro x c hx _
      exact absurd (show false = true from hx) Bool.false_ne_true
    · intro b hb
      rcases List.mem_cons.mp hb with rfl | hb
      · exact ⟨Nat.ne_of_lt (Nat.lt_succ_self _), fun x c e => Nat.ne_of_lt (cellLt x c (cl1 _ _ e))⟩
      · exact ⟨Nat.ne_of_lt (Nat.lt_succ_of_lt (hfp b hb).2), fun x c e => (hfp b hb).1.2.2.2.2.1 x c (cl1 _ _ e)⟩
    · intro b o e
      exact ⟨hpush b o (I.bs b o e).1, (I.bs b o e).2⟩
    · show X.base.objs.size ≤ (s2.heap.push _).objs.size
      rw [szp]
      exact Nat.le_succ_of_le (Nat.le_trans I.ok.bsz I.sz)
    · intro b o e hb
      rcases List.mem_cons.mp hb with rfl | hb
      · exact absurd (Heap.lt_size (I.bs _ _ e).1) (Nat.lt_irrefl _)
      · have q := (hfp b hb).1.2.2.2.1
        rcases q with q | q
        · exact I.ok.noex b o e q
        · exact absurd (Nat.lt_of_lt_of_le (Heap.lt_size (I.ok.bs b o e).1) q) (Nat.lt_irrefl _)
    · intro b hb hf
      have hf' : b ∈ frs X.stack := hf
      rcases List.mem_cons.mp hb with rfl | hb
      · rcases List.mem_cons.mp (I.stkSub _ hf') with e | e
        · exact absurd I.lt (by rw [← e]; exact Nat.lt_irrefl _)
        · exact I.nofs (Nat.le_refl _) e
      · rcases List.mem_cons.mp (I.stkSub _ hf') with e | e
        · exact (hfp b hb).1.2.1 e
        · exact (hfp b hb).1.2.2.1 e
    · have q := I.stack
      have all : ∀ (l : List Env), s2.heap.FunFrames X.base l → (s2.heap.push { cls := .type "list", data := .seq ([] : List Value).toArray }).FunFrames X.base l := by
        intro l
        induction l with
        | nil => intro _; trivial
        | cons env r ih =>
          intro hl
          obtain ⟨hk, ⟨L, o, hf, hn, ho, hd⟩, hr⟩ := hl
          exact ⟨hk, ⟨L, o, hf, hn, hpush L o ho, hd⟩, ih hr⟩
      exact all _ q
    · intro b hb
      exact I.stkFree b hb
  refine ⟨Ok, rfl, I.bare, ?_, ?_, ?_, hHC, ?_, ?_, I.hok.kept old, ?_⟩
  · refine Un.kept fun b u e => ?_
    exact hsb b u (by have := Heap.lt_size e; rw [szp] at this; exact this) e
  · refine ⟨_, hns, fun i x v e1 e2 e3 => ?_⟩
    obtain ⟨k, j, rfl, hk, hv⟩ := seen_get e2
    obtain ⟨e4, n, e5, hfree, hcell⟩ := B.at' k j hk
    have ex : x = n := by
      have e1' : M[own + k]? = some x := e1
      rw [e4, e5] at e1'
      exact (Option.some.inj e1').symm
    subst ex
    obtain ⟨m, _, hl⟩ := I.loc
    have hvis : Vis X.env.scope x := by
      rcases hcell with h | h
      · exact .inr (.inl h)
      · exact .inr (.inr h)
    obtain ⟨u, ru, lk⟩ := hl j x v e5 hv hvis
    refine ⟨u, ru, .inr ⟨?_, ?_⟩⟩
    · have q := relabel_free (scope := scope) (env := X.env) hfree
      exact q.symm
    · have hcell' : ∃ c, X.env.cells.lookup x = some c ∧ s2.heap.IsCell c (some u) := by
        rcases lk with ⟨q, _⟩ | ⟨_, q⟩
        · rcases hcell with h | h
          · rw [h] at q; cases q
          · rw [h] at q; cases q
        · exact q
      obtain ⟨c, e6, e7⟩ := hcell'
      obtain ⟨c', e8⟩ := cl2 x (PySem.mem_of_lookup hfree)
      have e9 := cl1 x c' e8
      rw [e6] at e9
      cases e9
      obtain ⟨o, ho, hd⟩ := e7
      exact ⟨c, e8, o, old c o ho, hd⟩
  · intro x c e
    obtain ⟨v, o, ho, hd⟩ := I.cell x c (cl1 _ _ e)
    exact ⟨v, o, old c o ho, hd⟩
  · intro x c e
    exact I.freeC x c (cl1 _ _ e)
  · intro p hp
    have e : p = (s2.heap.objs.size, { cls := .type "list", data := .seq ([] : List Value).toArray }) := List.mem_singleton.mp hp
    subst e
    refine ⟨hD, hHD, Nat.ne_of_lt (Nat.lt_succ_self _), fun hf => ?_, fun v z => ?_⟩
    · rcases List.mem_cons.mp (I.stkSub _ hf) with e | e
      · exact absurd I.lt (by rw [← e]; exact Nat.lt_irrefl _)
      · exact I.nofs (Nat.le_refl _) e
    · have z' : Data.seq ([] : List Value).toArray _ = Data.cell v := z
      cases z'
  · rw [seen_length]
    exact B.len.symm

/-- the block ends: the list is the def's -/
theorem Inv.blockEnd {scope : Scope} {M : List Str} {cl : List (Str × Addr)} {fp : List Addr} {τ : St} {H' : Hp} {s' : Shared} {h' : Heap} {ys : List V} {its : List Value} {n : Nat} (I : Inv X pins σ H2 s2)
    (hfp : ∀ b ∈ fp, FpOk X pins H2 b)
    (J : Inv (X.blk scope cl (s2.heap.objs.size + 1) M { s2 with heap := s2.heap.push { cls := .type "list", data := .seq ([] : List Value).toArray } } H2 (s2.heap.objs.size :: fp))
      [(s2.heap.objs.size, { cls := .type "list", data := .seq its.toArray n })] τ H' s')
    (hv : Vals ys its) (hz : ys.length ≤ sizeLine) (hs : Heap.SameBut (s2.heap.objs.size + 1) s'.heap h') : Inv X pins σ (upd H' s2.heap.objs.size (.lst ys)) { s' with heap := h' } := by
  obtain ⟨eD, nD, _, _, _⟩ := J.pin _ (List.mem_append_right _ (List.mem_singleton.mpr rfl))
  have nC : H' (s2.heap.objs.size + 1) = none := J.free
  have kp : ∀ b o, b ≠ s2.heap.objs.size + 1 → s'.heap.get? b = some o → h'.get? b = some o := fun b o hb e => (hs.2 b hb).trans e
  have hpush : ∀ b o, s2.heap.get? b = some o → (s2.heap.push { cls := .type "list", data := .seq ([] : List Value).toArray }).get? b = some o := fun b o e => Heap.get?_push_of_some _ e
  have neD : ∀ b o, s2.heap.get? b = some o → b ≠ s2.heap.objs.size := fun b o e => Nat.ne_of_lt (Heap.lt_size e)
  have neC : ∀ b o, s2.heap.get? b = some o → b ≠ s2.heap.objs.size + 1 := fun b o e => Nat.ne_of_lt (Nat.lt_succ_of_lt (Heap.lt_size e))
  have hex : ∀ b o, s2.heap.get? b = some o → b ∉ fp → b ∉ s2.heap.objs.size :: fp := fun b o e h z => (List.mem_cons.mp z).elim (neD b o e) h
  have neT : ∀ b u, H' b = some u → b ≠ s2.heap.objs.size := fun b u e z => by rw [z, nD] at e; cases e
  have neTC : ∀ b u, H' b = some u → b ≠ s2.heap.objs.size + 1 := fun b u e z => by rw [z, nC] at e; cases e
  refine I.call' (s' := { s' with heap := h' }) (ch := fp) J.os ?_ ?_ J.bare fun b hb => ?_
  · refine ⟨fun b o e n hb hx => ?_, fun b o e n hb hx => ?_, fun b o e n hx => ?_, fun b o e hx => ?_, fun b xs e => ?_, fun b o xs e => ?_, fun b ps e => ?_⟩
    · exact kp b o (neC b o e) (J.base.keep b o (hpush b o e) n hb (hex b o e hx))
    · obtain ⟨sl, q⟩ := J.base.slot b o (hpush b o e) n hb (hex b o e hx)
      exact ⟨sl, kp b _ (neC b o e) q⟩
    · rw [upd_ne (neD b o e)]
      exact J.base.free b o (hpush b o e) n (hex b o e hx)
    · obtain ⟨o', q⟩ := J.base.there b o (hpush b o e) (hex b o e hx)
      exact ⟨o', kp b _ (neC b o e) q⟩
    · have q := J.base.tups b xs e
      rw [upd_ne (neT b _ q)]
      exact q
    · have q := J.base.frzs b o xs e
      rw [upd_ne (neT b _ q)]
      exact q
    · obtain ⟨more, q⟩ := J.base.tbls b ps e
      rw [upd_ne (neT b _ q)]
      exact ⟨more, q⟩
  · intro a o e
    by_cases ha : a = s2.heap.objs.size
    · subst ha
      rw [upd_same] at e
      cases e
      exact ⟨hz, its, n, hv, kp _ _ (Nat.ne_of_lt (Nat.lt_succ_self _)) eD⟩
    · rw [upd_ne ha] at e
      refine (J.hok a o e).stay (fun c v hc q => kp c v ?_ q) (fun c q => by rw [upd_ne (neT c _ q)]; exact q) fun c xs q => by rw [upd_ne (neT c _ q)]; exact q
      rcases hc with rfl | hc
      · exact neTC c o e
      · exact neTC c _ hc
  · obtain ⟨f0, f1, f2, f3, f4, f5⟩ := hfp b hb
    exact ⟨f3, f1, f4, f5⟩

/-- one item more -/
theorem append_acc {E : Value → Shared → Prop} {D : Addr} {its : List Value} {n : Nat} {u : Value} {Q : Value → Shared → Prop} {pr : Program} {w : World} {A : Around} (e : s.heap.get? D = some { cls := .type "list", data := .seq its.toArray n }) (hz : its.length ≤ sizeLine)
    (h : ∀ h' n', h'.get? D = some { cls := .type "list", data := .seq (its ++ [u]).toArray n' } → (∀ b o, b ≠ D → s.heap.get? b = some o → h'.get? b = some o) → Q .none { s with heap := h' }) :
    wpAny (model pr w) A (call (.builtin "list.append") [.ref D, u]) Q E s := by
  refine call_meets F.slot_list_append ⟨_, e, rfl⟩ F.entry_list_append (F.args_list_append_2 _ _) (PySem.list_append D its.toArray n u (by rw [List.size_toArray]; omega)) ⟨e, ?_⟩
  have q := PySem.IsL.update e (fun xs => xs.push u)
  have ea : its.toArray.push u = (its ++ [u]).toArray := by simp
  have q' : (s.heap.update D (Obj.mapSeq fun xs => xs.push u)).get? D = some { cls := .type "list", data := .seq (its ++ [u]).toArray (if (its.toArray.push u).size == its.toArray.size then n else n + 1) } := by
    rw [← ea]
    exact q
  exact h _ _ q' fun b o hb eb => (Heap.get?_update_other s.heap _ (Ne.symm hb)).trans eb

variable {scope : Scope} {M : List Str} {own : Nat} {fr : List Nat} {tg iter elt : Expr} {ifs : List Expr} {pos : Pos} {wi : TI} {g : TG} {tf : TT} {te : TE}

/-- the block's run, whatever is done with the list behind it -/
theorem comp_run {use : Option (Value → Sem Unit)} {Q' : Value → Shared → Prop} {Q : VK} (B : Blk X scope M own fr) (hc : X.calm = true) (hi : PI X tg iter wi)
    (hg : ∀ cl C s H ex, PG (X.blk scope cl C M s H ex) tg g) (hk : GKeeps own fr g) (hf : ∀ cl C s H ex, PF (X.blk scope cl C M s H ex) ifs tf) (he : ∀ cl C s H ex, PE (X.blk scope cl C M s H ex) elt te)
    (hs : ∀ x, foldedSetIterable iter X.env x = pure x) (I : Inv X pins σ H s) (h : tComp wi g tf te own fr σ H Q)
    (fin : ∀ (D C : Addr) (H' : Hp) (s' : Shared), (∃ m, s'.heap.Ns C m) → FpOk X pins H' C → Inv X pins σ H' s' → Q (.ref D) H' → compPost (model X.prog X.w) X.A X.xe use Q' (.ref D) C (.ok .next) s') :
    wpAny (model X.prog X.w) X.A (comprehension (.ListComp elt [⟨tg, iter, ifs, 0⟩] scope pos) scope X.env (firstIterPos [⟨tg, iter, ifs, 0⟩] pos) (newList []) false (eval iter X.env) use) Q' X.xe s := by
  obtain ⟨cl, hclos, cl1, cl2⟩ := closure_of (scope := scope) (env := X.env) fun n hn => I.ok.has n (B.free _ hn rfl)
  refine wpAny_comprehension_free (cl := cl) rfl hs hclos B.kind B.names ?_
  refine thn (hi pins s σ H _ I h) fun v s1 h1 => thn h1 fun itv s2 h2 => ?_
  obtain ⟨it, fp, tn, J, H2, e, I2, T, st2, f2, W, ⟨m0, w0⟩, turn⟩ := h2
  subst e
  refine wpAny_newObj_type (wpAny_newFunctionEnv B.nocell (by intro y hy; simp at hy) (fun h1 hns1 hsb1 => ?_) B.kind)
  dsimp only at hns1 hsb1 ⊢
  have szp : (s2.heap.push { cls := .type "list", dict := none, data := .seq ([] : List Value).toArray }).objs.size = s2.heap.objs.size + 1 := Heap.size_push _ _
  rw [szp] at hns1 hsb1 ⊢
  have hlt : ∀ b ∈ fp, b < s2.heap.objs.size := fun b hb => by
    obtain ⟨o, eo, _⟩ := T.obj _ _ st2 b hb
    exact Heap.lt_size eo
  have hsb2 : ∀ b o, b < s2.heap.objs.size + 1 → (s2.heap.push { cls := .type "list", data := .seq ([] : List Value).toArray }).get? b = some o → h1.get? b = some o := fun b o hb e =>
    hsb1.extBut b o (Nat.ne_of_lt hb) (Heap.get?_push_of_some _ e)
  have hns2 : h1.Ns (s2.heap.objs.size + 1) fun _ => none := hns1
  have J0 := Inv.block (cl := cl) (h1 := h1) (fp := fp) (t1 := s2.toks + ([] : List (Str × Value)).length) B I2 cl1 cl2 (fun b hb => ⟨f2 b hb, hlt b hb⟩) hns2 hsb2
  have st1 : tn 0 h1 := T.keep _ _ _ st2 fun b hb o e => hsb2 b o (Nat.lt_succ_of_lt (hlt b hb)) (Heap.get?_push_of_some _ e)
  -- what stays true of the iterator's objects
  have stat : ∀ {H' : Hp} {o : Obj}, (∀ b ∈ fp, H' b = none) → ∀ b ∈ fp, FpOk (X.blk scope cl (s2.heap.objs.size + 1) M { s2 with heap := s2.heap.push { cls := .type "list", data := .seq ([] : List Value).toArray } } H2 (s2.heap.objs.size :: fp)) [(s2.heap.objs.size, o)] H' b := by
    intro H' o hn b hb
    obtain ⟨f0, f1, ff, f3, f4, f5⟩ := f2 b hb
    refine ⟨hn b hb, Nat.ne_of_lt (Nat.lt_succ_of_lt (hlt b hb)), fun z => ?_, .inl (List.mem_cons_of_mem _ hb), fun x c e => f4 x c (cl1 _ _ e), fun p hp z => ?_⟩
    · rcases List.mem_cons.mp (I2.stkSub b z) with e | e
      · exact f1 e
      · exact ff e
    · have e : p = (s2.heap.objs.size, o) := List.mem_singleton.mp hp
      subst e
      exact absurd (hlt b hb) (by rw [← z]; exact Nat.lt_irrefl _)
  have loop : ∀ s3 : Shared, s3 = { s2 with heap := h1, toks := s2.toks + ([] : List (Str × Value)).length } →
      codeAny (model X.prog X.w) X.A (.compLoop (.ListComp elt [⟨tg, iter, ifs, 0⟩] scope pos) 0 (.ref it) (.ref s2.heap.objs.size) (compEnvC scope cl (s2.heap.objs.size + 1) X.env))
        (compPost (model X.prog X.w) X.A X.xe use Q' (.ref s2.heap.objs.size) (s2.heap.objs.size + 1)) s3 := by
    rintro s3 rfl
    refine compLoop_any (fun n s' => ∃ (i : Nat) (τ : St) (H' : Hp) (ys : List V) (its : List Value) (k : Nat), Inv (X.blk scope cl (s2.heap.objs.size + 1) M { s2 with heap := s2.heap.push { cls := .type "list", data := .seq ([] : List Value).toArray } } H2 (s2.heap.objs.size :: fp)) [(s2.heap.objs.size, { cls := .type "list", data := .seq its.toArray k })] (seen own fr σ) H' s' ∧
      tn i s'.heap ∧ (∀ b ∈ fp, H' b = none) ∧ Vals ys its ∧ ys.length ≤ sizeLine ∧ W i n ys H') ?_ m0 ⟨0, seen own fr σ, H2, [], [], 0, J0, st1, fun b hb => (f2 b hb).1, .nil, Nat.zero_le _, w0⟩
    rintro n s4 ⟨i, τ, H4, ys, its, k, J4, st4, fr4, hv4, hz4, w4⟩
    rcases turn i n ys H4 w4 with ⟨stop, qn⟩ | ⟨go, hz, N, hN, step⟩
    · refine thn (T.done (X.blk scope cl (s2.heap.objs.size + 1) M { s2 with heap := s2.heap.push { cls := .type "list", data := .seq ([] : List Value).toArray } } H2 (s2.heap.objs.size :: fp)) rfl rfl rfl hc i _ s4 _ H4 _ J4 (stat fr4) st4 stop) fun r s5 ⟨hr, J5⟩ => ?_
      subst hr
      obtain ⟨m5, hn5, _⟩ := J5.loc
      have nD : H4 s2.heap.objs.size = none := (J5.pin _ (List.mem_append_right _ (List.mem_singleton.mpr rfl))).2.1
      exact fin s2.heap.objs.size (s2.heap.objs.size + 1) _ s5 ⟨m5, hn5⟩ (I2.fpOk (Nat.le_succ _) (by rw [upd_ne (Nat.ne_of_gt (Nat.lt_succ_self _))]; exact J5.free)) (Inv.blockEnd I2 f2 J5 hv4 hz4 (.refl ..)) (qn _ nD)
    · refine thn (T.item (X.blk scope cl (s2.heap.objs.size + 1) M { s2 with heap := s2.heap.push { cls := .type "list", data := .seq ([] : List Value).toArray } } H2 (s2.heap.objs.size :: fp)) rfl rfl rfl hc i _ s4 _ H4 _ J4 (stat fr4) st4 go) fun r s5 ⟨u, hr, h5⟩ => ?_
      subst hr
      refine thn h5 fun _ s6 ⟨x, H6, J6, r6, y6, st6, fr6⟩ => ?_
      have J6' := J6.pinned (stat fr6) (T.obj _ _ st6)
      refine thn (hg _ _ _ _ _ _ s6 _ H6 x u _ J6' r6 (hk _ _ _ _ (step x H6 y6))) fun _ s7 ⟨σ7, H7, J7, kp7, q7⟩ => ?_
      refine thn (hf _ _ _ _ _ _ s7 σ7 H7 _ J7 q7) fun ok s8 ⟨H8, J8, q8⟩ => ?_
      have tnK : ∀ {τ' : St} {H' : Hp} {s' : Shared}, Inv (X.blk scope cl (s2.heap.objs.size + 1) M { s2 with heap := s2.heap.push { cls := .type "list", data := .seq ([] : List Value).toArray } } H2 (s2.heap.objs.size :: fp)) ([(s2.heap.objs.size, { cls := .type "list", data := .seq its.toArray k })] ++ pinsAt fp s6.heap) τ' H' s' →
          tn (i + 1) s'.heap ∧ (∀ b ∈ fp, H' b = none) := fun {τ' H' s'} K => by
        refine ⟨T.keep _ _ _ st6 fun b hb o e => (K.pin (b, o) (List.mem_append_right _ (List.mem_append_right _ (mem_pinsAt hb e)))).1, fun b hb => ?_⟩
        obtain ⟨o, e, d⟩ := T.obj _ _ st6 b hb
        exact (K.pin (b, o) (List.mem_append_right _ (List.mem_append_right _ (mem_pinsAt hb e)))).2.1
      have back : ∀ {pl : List (Addr × Obj)} {H' : Hp} {s' : Shared}, Inv (X.blk scope cl (s2.heap.objs.size + 1) M { s2 with heap := s2.heap.push { cls := .type "list", data := .seq ([] : List Value).toArray } } H2 (s2.heap.objs.size :: fp)) pl σ7 H' s' → Inv (X.blk scope cl (s2.heap.objs.size + 1) M { s2 with heap := s2.heap.push { cls := .type "list", data := .seq ([] : List Value).toArray } } H2 (s2.heap.objs.size :: fp)) pl (seen own fr σ) H' s' := fun {pl H' s'} K => K.weak (by rw [seen_length, K.len]; exact B.len.symm) kp7
      cases ok with
      | false =>
        obtain ⟨hm', hl⟩ := tnK J8
        obtain ⟨m', hm, w8⟩ := hN ys H8 (by simpa using q8)
        exact ⟨m', hm, i + 1, seen own fr σ, H8, ys, its, k, back J8.unpinned, hm', hl, hv4, hz4, w8⟩
      | true =>
        simp only [if_true] at q8 ⊢
        refine thn (he _ _ _ _ _ _ s8 σ7 H8 _ J8 q8) fun u9 s9 ⟨y, H9, J9, r9, q9⟩ => ?_
        obtain ⟨hm', hl⟩ := tnK J9
        obtain ⟨m', hm, w9⟩ := hN (ys ++ [y]) H9 q9
        obtain ⟨eD, nD, d1, d2, d3⟩ := J9.pin (s2.heap.objs.size, { cls := .type "list", data := .seq its.toArray k }) (List.mem_append_right _ (List.mem_append_left _ (List.mem_singleton.mpr rfl)))
        refine append_acc eD (by rw [← hv4.length]; exact Nat.le_of_lt hz) fun h' n' e' kp => ?_
        have K0 : Inv (X.blk scope cl (s2.heap.objs.size + 1) M { s2 with heap := s2.heap.push { cls := .type "list", data := .seq ([] : List Value).toArray } } H2 (s2.heap.objs.size :: fp)) [] σ7 H9 s9 := J9.pins_of fun p hp => absurd hp (by simp)
        have K1 := K0.turned (t' := s9.toks) (h' := h') (it := s2.heap.objs.size) kp nD d1 (.inl List.mem_cons_self) (fun x c e => (J9.ok.exf _ List.mem_cons_self).2 x c e) (fun p hp => absurd (show p ∈ ([] : List (Addr × Obj)) from hp) (by simp))
        have K2 := K1.pins_of (pins' := [(s2.heap.objs.size, { cls := .type "list", data := .seq (its ++ [u9]).toArray n' })]) fun p hp => by
          have e : p = _ := List.mem_singleton.mp hp
          subst e
          exact ⟨e', nD, d1, d2, fun v z => by
            have z' : Data.seq (its ++ [u9]).toArray _ = Data.cell v := z
            cases z'⟩
        refine ⟨m', hm, i + 1, seen own fr σ, H9, ys ++ [y], its ++ [u9], n', back K2, T.keep _ _ _ hm' fun b hb o e => kp b o (Nat.ne_of_lt (hlt b hb)) e, hl, hv4.append (.cons r9 .nil), by rw [List.length_append, List.length_singleton]; exact hz, w9⟩
  exact codeAny_compStart_list (loop _ rfl) (T.self X.A 0 _ _ _ st1 (loop _ rfl))

/-- [elt for tg in iter if ..] -/
theorem pe_lcomp (B : Blk X scope M own fr) (hc : X.calm = true) (hi : PI X tg iter wi)
    (hg : ∀ cl C s H ex, PG (X.blk scope cl C M s H ex) tg g) (hk : GKeeps own fr g) (hf : ∀ cl C s H ex, PF (X.blk scope cl C M s H ex) ifs tf) (he : ∀ cl C s H ex, PE (X.blk scope cl C M s H ex) elt te)
    (hs : ∀ x, foldedSetIterable iter X.env x = pure x := by intro _; rfl) : PE X (.ListComp elt [⟨tg, iter, ifs, 0⟩] scope pos) (tComp wi g tf te own fr) := by
  intro pins s σ H Q I h
  rw [eval_ListComp]
  refine comp_run (use := none) B hc hi hg hk hf he hs I h fun D C H' s' ⟨m, hn⟩ fc I' q => ?_
  obtain ⟨f0, f1, f2, f3, f4, f5⟩ := fc
  exact ⟨m, hn, fun h' hs' => ⟨.ref D, H', I'.turned (t' := s'.toks) (fun b o hb e => (hs'.2 b hb).trans e) f0 f1 f3 f4 f5, rfl, q⟩⟩
/-- y = [elt for tg in iter if ..], on one line -/
theorem ps_setc {i : Nat} {y : Str} {py spos : Pos} (B : Blk X scope M own fr) (hc : X.calm = true) (hN : X.N.Nodup) (hy : X.N[i]? = some y) (hx : X.env.kindOf y = some .local) (hi : PI X tg iter wi)
    (hg : ∀ cl C s H ex, PG (X.blk scope cl C M s H ex) tg g) (hk : GKeeps own fr g) (hf : ∀ cl C s H ex, PF (X.blk scope cl C M s H ex) ifs tf) (he : ∀ cl C s H ex, PE (X.blk scope cl C M s H ex) elt te)
    (hsw : swapsWith (.ListComp elt [⟨tg, iter, ifs, 0⟩] scope pos) (some (.Name y py)) spos.line X.env = pure true := by with_unfolding_all rfl)
    (hs : ∀ x, foldedSetIterable iter X.env x = pure x := by intro _; rfl) : PS X (.Assign [.Name y py] (.ListComp elt [⟨tg, iter, ifs, 0⟩] scope pos) spos) (tAsg (tComp wi g tf te own fr) (gName i)) := by
  intro pins s σ H D I h
  rw [exec_Assign_Name_used _ _ _ _ hsw]
  refine wpAny_bind (wpAny_standAt (wpAny_bind ?_))
  show wpAny _ _ (do let _ ← comprehension (.ListComp elt [⟨tg, iter, ifs, 0⟩] scope pos) scope X.env _ (newList []) false (eval iter X.env) (some (assign (.Name y py) X.env))) _ _ s
  refine wpAny_bind (wpAny_mono (comp_run (use := some (assign (.Name y py) X.env)) (Q' := fun _ s' => SP X pins D .next s') B hc hi hg hk hf he hs I h fun Dl C H' s' ⟨m, hn⟩ fc I' q => ?_) (fun _ s' hq => wpAny_pure (wpAny_pure hq)) fun _ _ e => e)
  obtain ⟨f0, f1, f2, f3, f4, f5⟩ := fc
  show wpAny _ _ (assign (.Name y py) X.env (.ref Dl)) _ _ _
  refine wpAny_assign_Name (store_ok2 I' hN hy (.inl hx) (v := .ref Dl) rfl (fun s2 I2 ⟨a, sb, ha⟩ => ?_) (.inr hx))
  have hCa : C ≠ a := by
    rcases ha with rfl | ha
    · exact f1
    · exact fun z => f4 _ _ ha z.symm
  refine ⟨m, hn.sameBut sb hCa, fun h' hs' => ?_⟩
  exact ⟨_, H', I2.turned (t' := s2.toks) (fun b o hb e => (hs'.2 b hb).trans e) f0 f1 f3 f4 f5, q⟩

/-- the block's names hold no cell; the free ones are these -/
def namesOk (scope : Scope) (fs : List Str) : Bool := scope.names.all fun y => y.2 != .cell && (y.2 != .free || fs.contains y.1) && (y.2 != .local || scope.names.lookup y.1 == some .local)
theorem Blk.mk' {fs : List Str} (kind : scope.kind = .function) (h : namesOk scope fs = true) (nd : M.Nodup) (len : M.length = own + fr.length) (hk : ∀ n ∈ fs, X.env.kindOf n = some .cell ∨ X.env.kindOf n = some .free)
    (at' : ∀ i j, fr[i]? = some j → M[own + i]? = X.N[j]? ∧ ∃ n, X.N[j]? = some n ∧ scope.names.lookup n = some .free ∧ (X.env.kindOf n = some .cell ∨ X.env.kindOf n = some .free)) : Blk X scope M own fr := by
  have h' := List.all_eq_true.mp h
  refine ⟨kind, fun y hy e => ?_, fun y hy e => ?_, fun y hy e => ?_, nd, len, at'⟩
  · have q := h' y hy
    rw [e] at q
    simp at q
  · have q := h' y hy
    simp only [Bool.and_eq_true] at q
    have q2 := q.2
    rw [e] at q2
    simpa using q2
  · have q := h' y hy
    simp only [Bool.and_eq_true] at q
    have q2 := q.1.2
    rw [e] at q2
    exact hk y.1 (by simpa using q2)
/-- a block that closes over nothing -/
theorem blk0 (kind : scope.kind = .function) (h : namesOk scope [] = true) (nd : M.Nodup) : Blk X scope M M.length [] :=
  Blk.mk' (fs := []) kind h nd rfl (fun _ z => by simp at z) fun _ _ z => by simp at z
/-- a block with one name of its own that reads one name of the def: n, which stands in the slot j -/
theorem blk1 {x n : Str} {j : Nat} (kind : scope.kind = .function) (h : namesOk scope [n] = true) (nd : ([x, n] : List Str).Nodup) (hj : X.N[j]? = some n) (hl : scope.names.lookup n = some .free) (hk : X.env.kindOf n = some .cell ∨ X.env.kindOf n = some .free) : Blk X scope [x, n] 1 [j] := by
  refine Blk.mk' (fs := [n]) kind h nd rfl (fun m z => by rw [List.mem_singleton.mp z]; exact hk) fun i k z => ?_
  cases i with
  | zero =>
    have e : j = k := by simpa using z
    subst e
    exact ⟨by rw [hj]; rfl, n, hj, hl, hk⟩
  | succ i => simp at z
/-- .. that reads two -/
theorem blk2 {x n m : Str} {j k : Nat} (kind : scope.kind = .function) (h : namesOk scope [n, m] = true) (nd : ([x, n, m] : List Str).Nodup) (hj : X.N[j]? = some n) (hl : scope.names.lookup n = some .free) (hk : X.env.kindOf n = some .cell ∨ X.env.kindOf n = some .free)
    (hj2 : X.N[k]? = some m) (hl2 : scope.names.lookup m = some .free) (hk2 : X.env.kindOf m = some .cell ∨ X.env.kindOf m = some .free) : Blk X scope [x, n, m] 1 [j, k] := by
  refine Blk.mk' (fs := [n, m]) kind h nd rfl (fun r z => ?_) fun i l z => ?_
  · rcases List.mem_cons.mp z with rfl | z
    · exact hk
    · rw [List.mem_singleton.mp z]; exact hk2
  · match i, z with
    | 0, z =>
      have e : j = l := by simpa using z
      subst e
      exact ⟨by rw [hj]; rfl, n, hj, hl, hk⟩
    | 1, z =>
      have e : k = l := by simpa using z
      subst e
      exact ⟨by rw [hj2]; rfl, m, hj2, hl2, hk2⟩
    | i + 2, z => simp at z
/-- [elt for x in iter if ..], x a name -/
theorem pe_c1 {x : Str} {px : Pos} {M' : List Str} (B : Blk X scope (x :: M') 1 fr) (hi : PI X (.Name x px) iter wi) (hf : ∀ cl C s H ex, PF (X.blk scope cl C (x :: M') s H ex) ifs tf) (he : ∀ cl C s H ex, PE (X.blk scope cl C (x :: M') s H ex) elt te)
    (hc : X.calm = true := by rfl) (hx : scope.names.lookup x = some .local := by rfl) (hs : ∀ x, foldedSetIterable iter X.env x = pure x := by intro _; rfl) : PE X (.ListComp elt [⟨.Name x px, iter, ifs, 0⟩] scope pos) (tComp wi (gName 0) tf te 1 fr) :=
  pe_lcomp B hc hi (fun _ _ _ _ _ => pg_name B.nd rfl (.inl (lookup_relabel_local hx)) (.inr (lookup_relabel_local hx))) (gk_name (by decide)) hf he hs
/-- y = [elt for x in iter if ..], on one line -/
theorem ps_c1 {i : Nat} {y : Str} {py spos : Pos} {x : Str} {px : Pos} {M' : List Str} (B : Blk X scope (x :: M') 1 fr) (hN : X.N.Nodup) (hi : PI X (.Name x px) iter wi) (hf : ∀ cl C s H ex, PF (X.blk scope cl C (x :: M') s H ex) ifs tf) (he : ∀ cl C s H ex, PE (X.blk scope cl C (x :: M') s H ex) elt te)
    (hy : X.N[i]? = some y := by rfl) (hly : X.env.kindOf y = some .local := by rfl) (hc : X.calm = true := by rfl) (hx : scope.names.lookup x = some .local := by rfl)
    (hsw : swapsWith (.ListComp elt [⟨.Name x px, iter, ifs, 0⟩] scope pos) (some (.Name y py)) spos.line X.env = pure true := by with_unfolding_all rfl)
    (hs : ∀ x, foldedSetIterable iter X.env x = pure x := by intro _; rfl) : PS X (.Assign [.Name y py] (.ListComp elt [⟨.Name x px, iter, ifs, 0⟩] scope pos) spos) (tAsg (tComp wi (gName 0) tf te 1 fr) (gName i)) :=
  ps_setc B hc hN hy hly hi (fun _ _ _ _ _ => pg_name B.nd rfl (.inl (lookup_relabel_local hx)) (.inr (lookup_relabel_local hx))) (gk_name (by decide)) hf he hsw hs
end
end L2

set_option Elab.async false
set_option linter.all false
set_option maxRecDepth 100000
set_option maxHeartbeats 4000000
namespace L2
open PySem PySem.Spec PyProof.Rows

/-! ### a text as its codes -/
abbrev tx (cs : List Nat) : Str := ⟨cs.toArray⟩
theorem tx_cps (x : Str) : tx x.cps.toList = x := by cases x; rfl
theorem tx_inj {a b : List Nat} : tx a = tx b ↔ a = b := by
  constructor
  · intro h
    have e : a.toArray = b.toArray := congrArg Str.cps h
    simpa using e
  · rintro rfl; rfl
theorem tx_len (a : List Nat) : (tx a).length = a.length := by show a.toArray.size = a.length; simp
theorem tx_app (a b : List Nat) : tx a ++ tx b = tx (a ++ b) := by
  show Str.mk (a.toArray ++ b.toArray) = Str.mk (a ++ b).toArray
  congr 1
  simp

/-! ### the signs of a text, walked -/
def Its (x : Str) : It := ⟨fun i _ => i < x.cps.size, fun i H v H' => H' = H ∧ ∃ c, x.cps[i]? = some c ∧ v = .str ⟨#[c]⟩, fun i _ => x.cps.size ≤ i⟩
theorem turn_strA {P : Program} {w : World} {K : PySem.W.Frag} {tg : Expr} (x : Str) (t : Tok) (it : Addr) : Turn P w K tg (Its x) [it] it (fun i h => h.IsStrIter it "str_ascii_iterator" x t i) where
  mem := by simp
  obj := fun i h st b hb => by
    have e : b = it := by simpa using hb
    subst e
    obtain ⟨o, e, c, d⟩ := st
    exact ⟨o, e, fun v z => by rw [d] at z; cases z⟩
  keep := fun i h h' st k => let ⟨o, ho, r⟩ := st; ⟨o, k it (by simp) o ho, r⟩
  item := by
    intro X hP hw hK hc i pins s σ H E I hf st hg
    subst hP hw hK
    obtain ⟨f0, f1, f2, f3, f4, f5⟩ := hf it (by simp)
    have hg' : i < x.cps.size := hg
    refine wpAny_pyNext_ascii_item st (c := x.cps[i]) (by simp [hg']) fun h' st' sb => ?_
    have I1 : Inv X pins σ H { s with heap := h', toks := s.toks + 1 } := I.turned (fun b o hb e => (sb.2 b hb).trans e) f0 f1 f3 f4 f5
    obtain ⟨o, e, c, d⟩ := id st'
    exact ⟨_, rfl, go_of (s := { s with heap := h', toks := s.toks + 1 }) e c d (by decide) ⟨.str ⟨#[x.cps[i]]⟩, H, I1, ⟨_, rfl⟩, ⟨rfl, _, by simp [hg'], rfl⟩, st', fun b hb => (hf b hb).1⟩⟩
  done := by
    intro X hP hw hK hc i pins s σ H E I hf st hg
    subst hP hw hK
    obtain ⟨f0, f1, f2, f3, f4, f5⟩ := hf it (by simp)
    have hg' : x.cps.size ≤ i := hg
    exact wpAny_pyNext_ascii_end (I.ok.hd hc) st (by simp [hg']) fun h' eb => ⟨rfl, I.turned (t' := s.toks) (fun b o hb e => eb b o hb e) f0 f1 f3 f4 f5⟩
  self := fun _ _ _ _ _ st h => wpAny_pyIter_striter_ascii st h
theorem turn_strW {P : Program} {w : World} {K : PySem.W.Frag} {tg : Expr} (x : Str) (t : Tok) (it : Addr) : Turn P w K tg (Its x) [it] it (fun i h => h.IsStrIter it "str_iterator" x t i) where
  mem := by simp
  obj := fun i h st b hb => by
    have e : b = it := by simpa using hb
    subst e
    obtain ⟨o, e, c, d⟩ := st
    exact ⟨o, e, fun v z => by rw [d] at z; cases z⟩
  keep := fun i h h' st k => let ⟨o, ho, r⟩ := st; ⟨o, k it (by simp) o ho, r⟩
  item := by
    intro X hP hw hK hc i pins s σ H E I hf st hg
    subst hP hw hK
    obtain ⟨f0, f1, f2, f3, f4, f5⟩ := hf it (by simp)
    have hg' : i < x.cps.size := hg
    refine wpAny_pyNext_wide_item st (c := x.cps[i]) (by simp [hg']) fun h' st' sb => ?_
    have I1 : Inv X pins σ H { s with heap := h', toks := s.toks + 1 } := I.turned (fun b o hb e => (sb.2 b hb).trans e) f0 f1 f3 f4 f5
    obtain ⟨o, e, c, d⟩ := id st'
    exact ⟨_, rfl, go_of (s := { s with heap := h', toks := s.toks + 1 }) e c d (by decide) ⟨.str ⟨#[x.cps[i]]⟩, H, I1, ⟨_, rfl⟩, ⟨rfl, _, by simp [hg'], rfl⟩, st', fun b hb => (hf b hb).1⟩⟩
  done := by
    intro X hP hw hK hc i pins s σ H E I hf st hg
    subst hP hw hK
    obtain ⟨f0, f1, f2, f3, f4, f5⟩ := hf it (by simp)
    have hg' : x.cps.size ≤ i := hg
    exact wpAny_pyNext_wide_end (I.ok.hd hc) st (by simp [hg']) fun h' eb => ⟨rfl, I.turned (t' := s.toks) (fun b o hb e => eb b o hb e) f0 f1 f3 f4 f5⟩
  self := fun _ _ _ _ _ st h => wpAny_pyIter_striter_wide st h
section
variable {X : Cx} {tg : Expr}
def iStr (tl : TE) : TI := fun σ H R => tl σ H fun v H1 => ∃ x, v = .str x ∧ R (Its x) H1
theorem pi_str {l : Expr} {tl : TE} (hl : PE X l tl) : PI X tg l (iStr tl) := by
  intro pins s σ H R I h
  refine thn (hl pins s σ H _ I h) fun v s1 ⟨y, H1, I1, r1, x, e, q⟩ => ?_
  subst e
  obtain ⟨t, rfl⟩ := r1
  have fp : ∀ b ∈ [s1.heap.objs.size], FpOk X pins H1 b := fun b hb => by
    have e : b = s1.heap.objs.size := by simpa using hb
    subst e
    exact I1.fpOk (Nat.le_refl _) (I1.hok.fresh (Nat.le_refl _))
  cases ha : x.cps.all (· < 128)
  · exact wpAny_pyIter_wide ha ⟨s1.heap.objs.size, [s1.heap.objs.size], _, Its x, H1, rfl, I1.kept (t' := s1.toks) fun b o e => Heap.get?_push_of_some _ e, turn_strW x t _, ⟨_, Heap.get?_push_size _ rfl, rfl, rfl⟩, fp, q⟩
  · exact wpAny_pyIter_ascii ha ⟨s1.heap.objs.size, [s1.heap.objs.size], _, Its x, H1, rfl, I1.kept (t' := s1.toks) fun b o e => Heap.get?_push_of_some _ e, turn_strA x t _, ⟨_, Heap.get?_push_size _ rfl, rfl, rfl⟩, fp, q⟩
end
/-- for c in text -/
theorem for_str {cs : List Nat} {g : TG} {tb : TS} {D : Ends} {σ : St} {H : Hp} (Pv : Nat → St → Hp → Prop) (h0 : Pv 0 σ H)
    (hs : ∀ i c σ H, cs[i]? = some c → Pv i σ H → g (.str ⟨#[c]⟩) σ H fun σ2 H2 => tb { D with nx := Pv (i + 1), ct := Pv (i + 1), bk := D.nx } σ2 H2) (hd : ∀ σ H, Pv cs.length σ H → D.nx σ H) :
    ∃ W : Nat → Nat → St → Hp → Prop, (∃ m, W 0 m σ H) ∧ ∀ i m σ H, W i m σ H →
      ((Its (tx cs)).stop i H ∧ D.nx σ H) ∨ ((Its (tx cs)).go i H ∧ ∃ N : St → Hp → Prop, (∀ σ' H', N σ' H' → ∃ m', m' < m ∧ W (i + 1) m' σ' H') ∧ ∀ x H', (Its (tx cs)).yld i H x H' → g x σ H' fun σ2 H2 => tb { D with nx := N, ct := N, bk := D.nx } σ2 H2) := by
  refine ⟨fun i m σ H => m = cs.length - i ∧ i ≤ cs.length ∧ Pv i σ H, ⟨cs.length, by simp, Nat.zero_le _, h0⟩, ?_⟩
  rintro i m σ H ⟨rfl, hi, p⟩
  have hz : (tx cs).cps.size = cs.length := by show cs.toArray.size = cs.length; simp
  by_cases hlt : i < cs.length
  · refine .inr ⟨by show i < (tx cs).cps.size; omega, Pv (i + 1), fun σ' H' p' => ⟨cs.length - (i + 1), by omega, rfl, hlt, p'⟩, fun x H' y => ?_⟩
    obtain ⟨e, c, hc, rfl⟩ := y
    subst e
    exact hs i c σ _ (by simpa using hc) p
  · have e : i = cs.length := by omega
    subst e
    exact .inl ⟨by show (tx cs).cps.size ≤ cs.length; omega, hd σ H p⟩

/-- a comprehension by what holds between its turns -/
theorem comp_by {J : It} {n : Nat} {g : TG} {tf : TT} {te : TE} {own : Nat} {fr : List Nat} {σ : St} {H : Hp} {Q : VK} (Pv : Nat → List V → Hp → Prop) (h0 : Pv 0 [] H)
    (hgo : ∀ i ys H, i < n → Pv i ys H → J.go i H ∧ ys.length < sizeLine) (hst : ∀ ys H, Pv n ys H → J.stop n H)
    (hs : ∀ i ys H2 x H', i < n → Pv i ys H2 → J.yld i H2 x H' → g x (seen own fr σ) H' fun σ2 H3 => tf σ2 H3 fun c H4 => if c = true then te σ2 H4 fun y H5 => Pv (i + 1) (ys ++ [y]) H5 else Pv (i + 1) ys H4)
    (hd : ∀ ys H2, Pv n ys H2 → ∀ p, H2 p = none → Q (.ref p) (upd H2 p (.lst ys))) : CompGo J g tf te own fr σ Q H := by
  refine ⟨fun i m ys H => m = n - i ∧ i ≤ n ∧ Pv i ys H, ⟨n, by simp, Nat.zero_le _, h0⟩, ?_⟩
  rintro i m ys H2 ⟨rfl, hi, p⟩
  by_cases hlt : i < n
  · obtain ⟨go, hz⟩ := hgo i ys H2 hlt p
    exact .inr ⟨go, hz, fun ys' H' => Pv (i + 1) ys' H', fun ys' H' p' => ⟨n - (i + 1), by omega, rfl, hlt, p'⟩, fun x H' y => hs i ys H2 x H' hlt p y⟩
  · have e : i = n := by omega
    subst e
    exact .inl ⟨hst ys H2 p, hd ys H2 p⟩
/-- [f(c) for c in text]: nothing is made in a turn -/
theorem comp_str {cs : List Nat} {g : TG} {te : TE} {own : Nat} {fr : List Nat} {σ : St} {H : Hp} {Q : VK} (f : Nat → V) (hz : cs.length < sizeLine)
    (hs : ∀ c, c ∈ cs → ∀ R : V → Hp → Prop, R (f c) H → g (.str ⟨#[c]⟩) (seen own fr σ) H fun σ2 H3 => te σ2 H3 R) (hd : ∀ p, H p = none → Q (.ref p) (upd H p (.lst (cs.map f)))) : CompGo (Its (tx cs)) g tAll te own fr σ Q H := by
  have hsz : (tx cs).cps.size = cs.length := by show cs.toArray.size = cs.length; simp
  refine comp_by (n := cs.length) (fun i ys H2 => H2 = H ∧ ys = (cs.take i).map f) ⟨rfl, by simp⟩ (fun i ys H2 hi ⟨_, e⟩ => ⟨by show i < (tx cs).cps.size; omega, ?_⟩) (fun ys H2 _ => by show (tx cs).cps.size ≤ cs.length; omega) ?_ ?_
  · subst e
    rw [List.length_map, List.length_take]
    omega
  · rintro i ys H2 x H' hi ⟨rfl, rfl⟩ ⟨rfl, c, hc, rfl⟩
    have hc' : cs[i]? = some c := by simpa using hc
    refine hs c (List.mem_of_getElem? hc') _ ?_
    refine ⟨rfl, ?_⟩
    rw [List.take_add_one, hc']
    simp
  · rintro ys H2 ⟨rfl, rfl⟩ p hp
    rw [List.take_length]
    exact hd p hp

/-! ### methods of texts -/
section
variable {X : Cx}
theorem mt_starts : MtR X "str.startswith" (fun x xs H Q => ∃ a b, x = .str a ∧ xs = [.str b] ∧ Q (.bl (Txt.startswith a b)) H) := by
  intro pins s σ H x xs v us Q I rx rs h
  obtain ⟨a, b, rfl, rfl, q⟩ := h
  obtain ⟨t, rfl⟩ := rx
  obtain ⟨u, rfl, t', rfl⟩ := vals1 rs
  exact SC.startswith ⟨.bl _, H, I, rfl, q⟩
theorem mt_find : MtR X "str.find" (fun x xs H Q => ∃ a b, x = .str a ∧ xs = [.str b] ∧ Q (.int (Txt.find a b)) H) := by
  intro pins s σ H x xs v us Q I rx rs h
  obtain ⟨a, b, rfl, rfl, q⟩ := h
  obtain ⟨t, rfl⟩ := rx
  obtain ⟨u, rfl, t', rfl⟩ := vals1 rs
  exact SC.find ⟨.int _, H, I.tok _, ⟨_, rfl⟩, q⟩
theorem call_int_str : CallR X (.type "int") (fun xs H Q => ∃ x n, xs = [.str x] ∧ intText? x = some n ∧ x.length ≤ 640 ∧ Q (.int n) H) := by
  intro pins s σ H xs us Q I r h
  obtain ⟨x, n, rfl, hn, hl, q⟩ := h
  obtain ⟨u, rfl, t, rfl⟩ := vals1 r
  exact PySem.W.KIN.call_text hn hl ⟨.int n, H, I.tok _, ⟨_, rfl⟩, q⟩
theorem op_le_str : OpR X (compareOp .LtE) (fun x y H Q => ∃ i j, x = .str i ∧ y = .str j ∧ Q (.bl (!(decide (j.cps.toList < i.cps.toList)))) H) := by
  intro pins s σ H x y v u Q I rx ry h
  obtain ⟨i, j, rfl, rfl, q⟩ := h
  obtain ⟨t, rfl⟩ := rx
  obtain ⟨t', rfl⟩ := ry
  exact PySem.P.le_str (fin_bl I q rfl)

/-! ### slices of a text -/
def cutN (cs : List Nat) (lo hi : Option Int) : List Nat := (cs.drop (HT.sIx cs.length 0 lo)).take (HT.sIx cs.length cs.length hi - HT.sIx cs.length 0 lo)
theorem indices_eq (lo hi : Option Int) (n : Nat) : Builtin.Str.strSliceIndices lo hi 1 n = (List.range (HT.sIx n n hi - HT.sIx n 0 lo)).map fun k => HT.sIx n 0 lo + k := by
  have clip : ∀ (o : Option Int) (d : Nat) (d' : Int), d' = (d : Int) → (match o with | none => d' | some i => (if (1 : Int) > 0 then max 0 (min (if i < 0 then i + (n : Int) else i) (n : Int)) else max (-1) (min (if i < 0 then i + (n : Int) else i) ((n : Int) - 1)))) = ((HT.sIx n d o : Nat) : Int) := by
    intro o d d' hd
    cases o with
    | none => exact hd
    | some i =>
      show (if (1 : Int) > 0 then max 0 (min (if i < 0 then i + (n : Int) else i) (n : Int)) else _) = (((if i < 0 then (i + (n : Int)).toNat else min i.toNat n) : Nat) : Int)
      rw [if_pos (by decide)]
      by_cases h : i < 0
      · rw [if_pos h, if_pos h]; omega
      · rw [if_neg h, if_neg h]; omega
  unfold Builtin.Str.strSliceIndices
  have e1 := clip lo 0 (if (1 : Int) > 0 then 0 else (n : Int) - 1) (by simp)
  have e2 := clip hi n (if (1 : Int) > 0 then (n : Int) else -1) (by simp)
  refine Eq.trans (b := sliceRange ((HT.sIx n 0 lo : Nat) : Int) ((HT.sIx n n hi : Nat) : Int) 1) ?_ ?_
  · have e3 : ∀ a b a' b' : Int, a = a' → b = b' → sliceRange a b 1 = sliceRange a' b' 1 := fun _ _ _ _ h h' => by rw [h, h']
    exact e3 _ _ _ _ e1 e2
  unfold sliceRange
  have e3 : (if (1 : Int) > 0 then (if ((HT.sIx n 0 lo : Nat) : Int) < ((HT.sIx n n hi : Nat) : Int) then (((HT.sIx n n hi : Nat) : Int) - ((HT.sIx n 0 lo : Nat) : Int) + 1 - 1) / 1 else 0) else (if ((HT.sIx n 0 lo : Nat) : Int) > ((HT.sIx n n hi : Nat) : Int) then (((HT.sIx n 0 lo : Nat) : Int) - ((HT.sIx n n hi : Nat) : Int) - 1 - 1) / (-1) else 0)).toNat = HT.sIx n n hi - HT.sIx n 0 lo := by
    rw [if_pos (by decide)]
    split <;> omega
  simp only [] at e3 ⊢
  rw [e3]
  refine List.map_congr_left fun k _ => ?_
  omega
theorem pickN (cs : List Nat) (i k : Nat) (h : i + k ≤ cs.length) : ((List.range k).map fun m => i + m).filterMap (cs.toArray[·]?) = (cs.drop i).take k := by
  rw [List.filterMap_map]
  refine List.ext_getElem? fun j => ?_
  have key : ∀ (k i : Nat), i + k ≤ cs.length → (List.range k).filterMap (fun m => cs[i + m]?) = (cs.drop i).take k := by
    intro k
    induction k with
    | zero => intro i _; simp
    | succ k ih =>
      intro i hik
      rw [List.range_succ, List.filterMap_append, ih i (by omega)]
      have hlt : i + k < cs.length := by omega
      rw [List.take_add_one, List.getElem?_drop]
      simp [hlt]
  have e : ((fun x => cs.toArray[x]?) ∘ fun m => i + m) = fun m => cs[i + m]? := by
    funext m
    simp
  rw [e, key k i h]
theorem sIx_le' (n d : Nat) (hd : d ≤ n) (o : Option Int) : HT.sIx n d o ≤ n := HT.sIx_le n d hd o
theorem sliceMade_post {cs : List Nat} {t : Tok} {l u : Option (Int × Tok)} {Q : Value → Shared → Prop} {s : Shared} (hz : cs.length ≤ sizeLine) (h : ∀ t' k, Q (.str (tx (cutN cs (l.map (·.1)) (u.map (·.1)))) t') { s with toks := k }) : (sliceMade (tx cs) t l u none).post Q s := by
  have hlen : (tx cs).length = cs.length := tx_len cs
  have ei : slicePicked (tx cs) l u none = (List.range (HT.sIx cs.length cs.length (u.map (·.1)) - HT.sIx cs.length 0 (l.map (·.1)))).map fun k => HT.sIx cs.length 0 (l.map (·.1)) + k := by
    show Builtin.Str.strSliceIndices (l.map (·.1)) (u.map (·.1)) 1 (tx cs).length = _
    rw [hlen, indices_eq]
  have h1 := sIx_le' cs.length 0 (Nat.zero_le _) (l.map (·.1))
  have h2 := sIx_le' cs.length cs.length (Nat.le_refl _) (u.map (·.1))
  unfold sliceMade
  by_cases hc : (((none : Option (Int × Tok)).map (·.1)).getD 1 == 1 && (slicePicked (tx cs) l u none).length == (tx cs).length) = true
  · rw [if_pos hc]
    have hl : HT.sIx cs.length cs.length (u.map (·.1)) - HT.sIx cs.length 0 (l.map (·.1)) = cs.length := by
      rw [Bool.and_eq_true] at hc
      have q := eq_of_beq hc.2
      rw [ei, hlen, List.length_map, List.length_range] at q
      exact q
    have e : cutN cs (l.map (·.1)) (u.map (·.1)) = cs := by
      unfold cutN
      rw [hl]
      by_cases h0 : cs.length = 0
      · have : cs = [] := List.length_eq_zero_iff.mp h0
        subst this
        simp
      · have : HT.sIx cs.length 0 (l.map (·.1)) = 0 := by omega
        rw [this]
        simp
    have q := h t s.toks
    rw [e] at q
    exact q
  · rw [if_neg hc]
    have e : (slicePicked (tx cs) l u none).filterMap ((tx cs).cps[·]?) = cutN cs (l.map (·.1)) (u.map (·.1)) := by
      rw [ei]
      by_cases hh : HT.sIx cs.length 0 (l.map (·.1)) ≤ HT.sIx cs.length cs.length (u.map (·.1))
      · exact pickN cs _ _ (by omega)
      · have z : HT.sIx cs.length cs.length (u.map (·.1)) - HT.sIx cs.length 0 (l.map (·.1)) = 0 := by omega
        unfold cutN
        rw [z]
        simp
    rw [e]
    refine ⟨?_, h _ _⟩
    show (cutN cs (l.map (·.1)) (u.map (·.1))).toArray.size ≤ sizeLine
    unfold cutN
    rw [List.size_toArray, List.length_take, List.length_drop]
    omega
theorem sl_str : SlR X (fun x lo hi H Q => ∃ cs : List Nat, x = .str (tx cs) ∧ cs.length ≤ 1000000 ∧ Q (.str (tx (cutN cs lo hi))) H) := by
  intro pins s σ H x v vl vu lo hi sl Q I rx hs pl pu h
  obtain ⟨cs, rfl, hz, q⟩ := h
  obtain ⟨t, rfl⟩ := rx
  refine ⟨"str", _, F.slot_str_getitem.lookup, typeIs_str s (tx cs) t, ?_⟩
  obtain ⟨o, ho, hc, hd⟩ := hs
  have key : ∀ (l u : Option (Int × Tok)), vl = partValue l → vu = partValue u → l.map (·.1) = lo → u.map (·.1) = hi → wpAny (model X.prog X.w) X.A (getItem (.str (tx cs) t) (.ref sl)) (EP X pins σ Q) X.xe s := by
    intro l u e1 e2 e3 e4
    subst e1 e2
    refine wpAny_getItem_str_slice (l := l) (u := u) (st := none) ⟨o, ho, hc, hd⟩ rfl (sliceMade_post (by rw [sizeLine_eq]; omega) fun t' k => ?_)
    rw [e3, e4]
    exact ⟨.str _, H, I.tok k, ⟨_, rfl⟩, q⟩
  cases pl with
  | none =>
    cases pu with
    | none => exact key none none rfl rfl rfl rfl
    | int j tj => exact key none (some (j, tj)) rfl rfl rfl rfl
  | int i ti =>
    cases pu with
    | none => exact key (some (i, ti)) none rfl rfl rfl rfl
    | int j tj => exact key (some (i, ti)) (some (j, tj)) rfl rfl rfl rfl
theorem cut_from (cs : List Nat) (k : Nat) : cutN cs (some (k : Int)) none = cs.drop k := by
  unfold cutN
  rw [HT.sIx_nat, HT.sIx_none]
  by_cases h : k ≤ cs.length
  · rw [Nat.min_eq_left h, List.take_of_length_le (by simp)]
  · rw [Nat.min_eq_right (by omega), Nat.sub_self, List.take_zero, List.drop_eq_nil_of_le (by omega)]
theorem cut_to (cs : List Nat) (k : Nat) : cutN cs none (some (k : Int)) = cs.take k := by
  unfold cutN
  rw [HT.sIx_nat, HT.sIx_none, List.drop_zero, Nat.sub_zero]
  by_cases h : k ≤ cs.length
  · rw [Nat.min_eq_left h]
  · rw [Nat.min_eq_right (by omega), List.take_of_length_le (Nat.le_refl _), List.take_of_length_le (by omega)]

/-! ### all, any of a list of truths -/
theorem all_range (bs : List Bool) : (List.range bs.length).all (fun i => bs.getD i false) = bs.all id := by
  have key : ∀ (bs pre : List Bool), (List.range' pre.length bs.length).all (fun i => (pre ++ bs).getD i false) = bs.all id := by
    intro bs
    induction bs with
    | nil => intro pre; rfl
    | cons b r ih =>
      intro pre
      have q := ih (pre ++ [b])
      rw [List.length_cons, List.range'_succ, List.all_cons, List.all_cons]
      have e : (pre ++ b :: r).getD pre.length false = b := by simp
      have e2 : pre ++ b :: r = (pre ++ [b]) ++ r := by simp
      rw [e, e2]
      have e3 : (pre ++ [b]).length = pre.length + 1 := by simp
      rw [e3] at q
      rw [q]
      rfl
  have q := key bs []
  simpa [List.range_eq_range'] using q
theorem any_range (bs : List Bool) : (List.range bs.length).any (fun i => bs.getD i false) = bs.any id := by
  have key : ∀ (bs pre : List Bool), (List.range' pre.length bs.length).any (fun i => (pre ++ bs).getD i false) = bs.any id := by
    intro bs
    induction bs with
    | nil => intro pre; rfl
    | cons b r ih =>
      intro pre
      have q := ih (pre ++ [b])
      rw [List.length_cons, List.range'_succ, List.any_cons, List.any_cons]
      have e : (pre ++ b :: r).getD pre.length false = b := by simp
      have e2 : pre ++ b :: r = (pre ++ [b]) ++ r := by simp
      rw [e, e2]
      have e3 : (pre ++ [b]).length = pre.length + 1 := by simp
      rw [e3] at q
      rw [q]
      rfl
  have q := key bs []
  simpa [List.range_eq_range'] using q
theorem bools_get {bs : List Bool} {its : List Value} {i : Nat} {v : Value} (r : Vals (bs.map V.bl) its) (h : its[i]? = some v) : v = .bool (bs.getD i false) := by
  have hi : i < its.length := (List.getElem?_eq_some_iff.mp h).1
  have hl := r.length
  rw [List.length_map] at hl
  have hb : i < bs.length := by omega
  obtain ⟨u, hu, ru⟩ := r.get (i := i) (x := V.bl bs[i]) (by simp [hb])
  rw [h] at hu
  cases hu
  have e : bs.getD i false = bs[i] := by simp [hb]
  rw [e]
  exact ru
theorem call_all (hc : X.calm = true) : CallR X (.builtin "all") (fun xs H Q => ∃ (p : Addr) (bs : List Bool), xs = [.ref p] ∧ SqL X.K H p (bs.map V.bl) ∧ Q (.bl (bs.all id)) H) := by
  intro pins s σ H xs us Q I r h
  obtain ⟨p, bs, rfl, hq, q⟩ := h
  obtain ⟨u, rfl, rx⟩ := vals1 r
  cases rx
  obtain ⟨its, rv, pl, hz⟩ := I.list hq
  have hlen : its.toArray.size = bs.length := by
    rw [List.size_toArray, ← rv.length, List.length_map]
  have hp : p < s.heap.objs.size := by
    obtain ⟨o, ho, _⟩ := pl.isList
    exact Heap.lt_size ho
  refine call_all_walk (wpAny_pyIter_list pl.isList ?_)
  refine ⟨s.heap.objs.size, _, _, its.toArray.size, _, _, fun i => bs.getD i false, rfl, Walks.list (A := X.A.in1) (I.ok.hd hc) s.heap.objs.size p (Nat.ne_of_lt hp) its.toArray, And.intro ⟨_, Heap.get?_push_size _ rfl, rfl, rfl⟩ (pl.isList.at fun o e => Heap.get?_push_of_some _ e), fun i v s1 Q1 E1 hv hQ => ?_, fun h' tk hk => ?_⟩
  · have ev : v = .bool (bs.getD i false) := bools_get rv (by simpa using hv)
    subst ev
    exact wpAny_truthy_bool hQ
  · rw [hlen, all_range]
    refine ⟨.bl _, H, I.kept (t' := tk) fun b o e => hk b o (fun z => ?_) (Heap.get?_push_of_some _ e), rfl, q⟩
    have e2 : b = s.heap.objs.size := by simpa using z
    subst e2
    exact absurd (Heap.lt_size e) (Nat.lt_irrefl _)
theorem call_any (hc : X.calm = true) : CallR X (.builtin "any") (fun xs H Q => ∃ (p : Addr) (bs : List Bool), xs = [.ref p] ∧ SqL X.K H p (bs.map V.bl) ∧ Q (.bl (bs.any id)) H) := by
  intro pins s σ H xs us Q I r h
  obtain ⟨p, bs, rfl, hq, q⟩ := h
  obtain ⟨u, rfl, rx⟩ := vals1 r
  cases rx
  obtain ⟨its, rv, pl, hz⟩ := I.list hq
  have hlen : its.toArray.size = bs.length := by
    rw [List.size_toArray, ← rv.length, List.length_map]
  have hp : p < s.heap.objs.size := by
    obtain ⟨o, ho, _⟩ := pl.isList
    exact Heap.lt_size ho
  refine call_any_walk (wpAny_pyIter_list pl.isList ?_)
  refine ⟨s.heap.objs.size, _, _, its.toArray.size, _, _, fun i => bs.getD i false, rfl, Walks.list (A := X.A.in1) (I.ok.hd hc) s.heap.objs.size p (Nat.ne_of_lt hp) its.toArray, And.intro ⟨_, Heap.get?_push_size _ rfl, rfl, rfl⟩ (pl.isList.at fun o e => Heap.get?_push_of_some _ e), fun i v s1 Q1 E1 hv hQ => ?_, fun h' tk hk => ?_⟩
  · have ev : v = .bool (bs.getD i false) := bools_get rv (by simpa using hv)
    subst ev
    exact wpAny_truthy_bool hQ
  · rw [hlen, any_range]
    refine ⟨.bl _, H, I.kept (t' := tk) fun b o e => hk b o (fun z => ?_) (Heap.get?_push_of_some _ e), rfl, q⟩
    have e2 : b = s.heap.objs.size := by simpa using z
    subst e2
    exact absurd (Heap.lt_size e) (Nat.lt_irrefl _)
/-- isinstance(x, T) -/
theorem call_isi : CallR X (.builtin "isinstance") (fun xs H Q => ∃ x T t b, xs = [x, .ty T] ∧ TyOf X.K H x t ∧ PySem.W.kitOne X.K t (.type T) = some b ∧ Q (.bl b) H) := by
  intro pins s σ H xs us Q I r h
  obtain ⟨x, T, t, b, rfl, ty, e, q⟩ := h
  obtain ⟨u, w', rfl, ru, rw'⟩ := vals2 r
  cases rw'
  exact isinst_ok I ru ty e fun tk => ⟨.bl b, H, I.tok tk, rfl, q⟩
end
end L2

set_option Elab.async false
set_option linter.all false
set_option maxRecDepth 100000
set_option maxHeartbeats 4000000
namespace L2
open PySem PySem.Spec PyProof.Rows

/-! ### a block cut at a place: what holds there -/
section
variable {X : Cx} {st : Stmt} {rest : List Stmt} {t u : TS}
def tCut (t u : TS) : TS := fun D σ H => ∃ M : St → Hp → Prop, t { D with nx := M } σ H ∧ ∀ σ' H', M σ' H' → u D σ' H'
theorem pss_cut (h1 : PS X st t) (h2 : PSs X rest u) : PSs X (st :: rest) (tCut t u) := by
  intro pins s σ H D I h
  obtain ⟨M, h, hM⟩ := h
  refine wpAny_execs_cons (thn (h1 pins s σ H { D with nx := M } I h) fun f s1 q => ?_)
  cases f with
  | next =>
    obtain ⟨σ', H', I', q⟩ := q
    exact h2 pins s1 σ' H' D I' (hM σ' H' q)
  | brk => exact q
  | cont => exact q
  | ret v => exact q
end

/-! ### the defs of a text, by their names -/
/-- a def of the text's top -/
def Def (K : PySem.W.Frag) (mg : Str → Option Value) (x : Str) (st : Stmt) (ps : List Str) : Prop :=
  ∃ (f : Addr) (fd : FuncData), Fun K x x st f fd ∧ (∀ us : List Value, us.length = ps.length → bindArgs fd ⟨us, []⟩ = pure (ps.zip us)) ∧ mg x = some (.ref f)
theorem def_mk {K : PySem.W.Frag} {h : Heap} {mg : Str → Option Value} {x : Str} {st : Stmt} {ps : List Str} {f : Addr} {od an : Option Addr} {sl : Array (Option Value)} {oc kV dc pm cd ct : Value} (X : K.In h) (G : h.Ns mainGlobals mg)
    (a : PySem.W.nsIn K mainGlobals x = some (some (.ref f))) (l : K.lookup f = some ⟨oc, od, .func (PySem.W.fnOf x x (defArgs st) (defBody st) (defScope st) .none kV dc pm an cd ct), sl⟩) (c : PySem.W.codeIn K cd x = true) (k : PySem.W.keepIn K (.ref f) = true)
    (b : ∀ (kV doc pm : Value) (an : Option Addr) (cdv ct : Value) (us : List Value), us.length = ps.length → bindArgs (PySem.W.fnOf x x (defArgs st) (defBody st) (defScope st) .none kV doc pm an cdv ct) ⟨us, []⟩ = pure (ps.zip us)) : Def K mg x st ps :=
  ⟨f, _, fun_mk (st := st) l c k, fun us hl => b kV dc pm an cd ct us hl, PySem.W.mg_of X G a⟩
/-- a def that keeps its promise, as it is called by its name -/
def Has (P : Program) (w : World) (K : PySem.W.Frag) (mg : Str → Option Value) (base : Heap) (k : Nat) (x : Str) (ps : List Str) (sp : Sp) : Prop :=
  ∃ (f : Addr) (fd : FuncData), FnOk P w K mg base CX0 k f fd ps sp ∧ Binds K fd ps [] ∧ mg x = some (.ref f) ∧ PySem.W.keepIn K (.ref f) = true
theorem Def.has {P : Program} {w : World} {K : PySem.W.Frag} {mg : Str → Option Value} {base : Heap} {k : Nat} {x : Str} {st : Stmt} {ps : List Str} {sp : Sp} (D : Def K mg x st ps) (h : ∀ f fd, Fun K x x st f fd → FnOk P w K mg base CX0 k f fd ps sp) : Has P w K mg base k x ps sp := by
  obtain ⟨f, fd, F, b, m⟩ := D
  exact ⟨f, fd, h f fd F, Binds.all b, m, F.kp⟩
theorem Has.mono {P : Program} {w : World} {K : PySem.W.Frag} {mg : Str → Option Value} {base : Heap} {j k : Nat} {x : Str} {ps : List Str} {sp : Sp} (h : Has P w K mg base j x ps sp) (hk : j ≤ k) : Has P w K mg base k x ps sp := by
  obtain ⟨f, fd, F, b, m, kp⟩ := h
  exact ⟨f, fd, F.mono hk, b, m, kp⟩
/-- a constant of the text's top -/
def Cst (mg : Str → Option Value) (x : Str) (v : V) : Prop := ∃ u, mg x = some u ∧ RelV v u
theorem con_mk {K : PySem.W.Frag} {h : Heap} {mg : Str → Option Value} {x : Str} {u : Value} {v : V} (X : K.In h) (G : h.Ns mainGlobals mg) (a : PySem.W.nsIn K mainGlobals x = some (some u)) (r : RelV v u) : Cst mg x v := ⟨u, PySem.W.mg_of X G a, r⟩
section
variable {X : Cx} {k : Nat} {x : Str} {ps : List Str} {sp : Sp} {e : Expr} {es : List Expr} {t : TA} {p pos : Pos}
/-- f(e, ..) -/
theorem pcall (h : Has X.prog X.w X.K X.mg X.base k x ps sp) (hr : Room k X.A) (ha : PA X (e :: es) t) (hg : Gl X x := by rfl) (hdb : (x == ("__debug__" : Str)) = false := by decide)
    (he : starEach (e :: es) X.env = (false, eval e X.env) :: starEach es X.env := by rfl) (hpl : (backTo pos (starEach es X.env)).any (·.1) = false := by rfl) : PE X (.Call (.Name x p) (e :: es) [] pos) (tCall sp [] E0 t) := by
  obtain ⟨f, fd, F, b, m, kp⟩ := h
  exact pe_call F hr hg m kp b .nil pass0 ha hdb he hpl
theorem pcon {v : V} (h : Cst X.mg x v) (hg : Gl X x := by rfl) (hd : (x == ("__debug__" : Str)) = false := by decide) : PE X (.Name x pos) (tC v) := by
  obtain ⟨u, m, r⟩ := h
  exact pe_glob hg m r hd
/-- a built-in type as a value -/
theorem pty {n : String} (hm : X.mg x = none) (hv : bootBuiltins x = some (.type n)) (hg : Gl X x := by rfl) (hn : x ≠ "__name__" := by decide) (hd : (x == ("__debug__" : Str)) = false := by decide) : PE X (.Name x pos) (tC (.ty n)) := pe_bltn hg hm hv rfl hn hd
end
theorem same_new {H : Hp} {p : Addr} (h : H p = none) (o : HO) : Same H (upd H p o) := fun b u q => by rw [upd_ne (ne_of_none q h)]; exact q
theorem Same.tup {K : PySem.W.Frag} {H H' : Hp} {a : Addr} {xs : List V} (e : Same H H') (h : SqT K H a xs) : SqT K H' a xs := by
  rcases h with (h | ⟨o, h⟩) | h
  · exact .inl (.inl (e _ _ h))
  · exact .inl (.inr ⟨o, e _ _ h⟩)
  · exact .inr h
/-- the law's own promise -/
def spLaw (K : PySem.W.Frag) : Sp := fun vs H Q _ => ∃ (a : Addr) (ns : List Int), vs = [.ref a] ∧ SqL K H a (ns.map V.int) ∧ ns.length ≤ 63 ∧ ∀ H', Q (.bl true) H'
theorem walk_law {l : PySem.W.OpenLaw} {k : Nat} {q : Program} {loose : List Str} {XP : (Str → Option Value) → Heap → Prop} {YP : World → Heap → Prop} {d : DefRec} {K : Params → PySem.W.Frag} {x : Str} (hn : l.most = some 63) (hdf : d.params.defaults = []) (hr : Room k callerA)
    (hY : ∀ (w : World) (h : Heap), YP w h → (K w.params).In h)
    (F : ∀ (w : World) (mg : Str → Option Value) (fa : Addr) (h : Heap), (K w.params).In h → h.Ns mainGlobals mg → mg d.name = some (.ref fa) →
      ∃ fd : FuncData, (∀ (s : Shared) (u : Value), BindsTo s fd ⟨[u], []⟩ [(x, u)]) ∧ ∀ base : Heap, (K w.params).In base → base.Ns mainGlobals mg → FnOk l.prog w (K w.params) mg base CX0 k fa fd [x] (spLaw (K w.params))) :
    PySem.W.WalkO q loose XP YP l.row.toRowW d [] (fun f vs => PySem.call f vs) :=
  L2.walk_of (n := 63) (k := k) (x := x) (CX := fun _ => CX0) (sp := fun w => spLaw (K w.params)) hn (by decide) hdf hr hY F (fun _ _ a ns hl _ hS => ⟨a, ns, rfl, hS, hl, fun _ => rfl⟩) fun _ _ _ _ _ z => z
/-- from the law's def to what walk_law asks -/
theorem law_of {P : Program} {w : World} {K : PySem.W.Frag} {mg : Str → Option Value} {fa : Addr} {k : Nat} {st : Stmt} {x n : Str} {sp : Sp} (D : Def K mg n st [x]) (hfa : mg n = some (.ref fa))
    (h : ∀ f fd, Fun K n n st f fd → ∀ base : Heap, K.In base → base.Ns mainGlobals mg → FnOk P w K mg base CX0 k f fd [x] sp) :
    ∃ fd : FuncData, (∀ (s : Shared) (u : Value), BindsTo s fd ⟨[u], []⟩ [(x, u)]) ∧ ∀ base : Heap, K.In base → base.Ns mainGlobals mg → FnOk P w K mg base CX0 k fa fd [x] sp := by
  obtain ⟨f, fd, F, b, m⟩ := D
  have e : fa = f := by
    have e := Option.some.inj (hfa.symm.trans m)
    injection e
  subst e
  exact ⟨fd, fun s u => .of_eq (b [u] rfl), h fa fd F⟩
/-- an Option Int as Python's None or a whole number -/
def optV : Option Int → V
  | none => .non
  | some n => .int n

/-! ### what the laws draw: their own helpers, as Lean functions -/
def cellV (ns : List Int) (k : Int) : Int := if ns.isEmpty then 0 else ns.getD (k % (ns.length : Int)).toNat 0
def mixV (ns : List Int) (k : Int) : Int :=
  ((cellV ns k + 104729 * (k + 1)) % 4294967291 * 48271 % 4294967279 / 64 * 69621 + (cellV ns k + 104729 * (k + 1)) % 4294967291 * 48271 % 4294967279) % 4294967231
theorem mixV_lo (ns : List Int) (k : Int) : 0 ≤ mixV ns k := Int.emod_nonneg _ (by decide)
theorem mixV_hi (ns : List Int) (k : Int) : mixV ns k < 4294967231 := Int.emod_lt_of_pos _ (by decide)
def spCell (K : PySem.W.Frag) : Sp := fun vs H Q _ => ∃ (a : Addr) (ns : List Int) (k : Int), vs = [.ref a, .int k] ∧ SqL K H a (ns.map V.int) ∧ Q (.int (cellV ns k)) H
def spMix (K : PySem.W.Frag) : Sp := fun vs H Q _ => ∃ (a : Addr) (ns : List Int) (k : Int), vs = [.ref a, .int k] ∧ SqL K H a (ns.map V.int) ∧ Q (.int (mixV ns k)) H
theorem cell_at {ns : List Int} {k : Int} (h : ns ≠ []) : atI (ns.map V.int) (k % ((ns.map V.int).length : Int)) = some (.int (cellV ns k)) := by
  have hl : 0 < ns.length := List.length_pos_iff.mpr h
  have h0 : 0 ≤ k % (ns.length : Int) := Int.emod_nonneg _ (by omega)
  have h1 : k % (ns.length : Int) < ns.length := Int.emod_lt_of_pos _ (by omega)
  rw [List.length_map]
  have e : k % (ns.length : Int) = (((k % (ns.length : Int)).toNat : Nat) : Int) := by omega
  rw [e]
  refine atI_nat ?_
  rw [List.getElem?_map, List.getElem?_eq_getElem (by omega)]
  unfold cellV
  have he : ns.isEmpty = false := by cases ns with
    | nil => exact absurd rfl h
    | cons a r => rfl
  rw [he]
  simp only [Bool.false_eq_true, if_false, Option.map_some, Option.some.injEq, V.int.injEq]
  rw [List.getD_eq_getElem?_getD, List.getElem?_eq_getElem (by omega)]
  rfl
theorem kit_ib (K : PySem.W.Frag) : PySem.W.kitOne K (.type "int") (.type "bool") = some false := by kernel_rfl
/-- whole(n) of a whole number: True -/
def spWhole : Sp := fun vs H Q _ => ∃ n : Int, vs = [.int n] ∧ Q (.bl true) H
end L2

set_option Elab.async false
set_option linter.all false
set_option maxRecDepth 100000
set_option maxHeartbeats 4000000
namespace L2
open PySem PySem.Spec PyProof.Rows

/-! ### two values with the same data -/
/-- None, a truth, a whole number, a text -/
def flat1 : V → Bool
  | .non => true
  | .bl _ => true
  | .int _ => true
  | .str _ => true
  | _ => false
inductive EqD (K : PySem.W.Frag) (H : Hp) : Nat → V → V → Prop
  | sc {n : Nat} {x : V} (h : flat1 x = true) : EqD K H n x x
  | tup {n : Nat} {a b : Addr} {xs ys : List V} (hx : SqT K H a xs) (hy : SqT K H b ys) (hl : xs.length = ys.length) (h : ∀ (j : Nat) x y, xs[j]? = some x → ys[j]? = some y → EqD K H n x y) : EqD K H (n + 1) (.ref a) (.ref b)
  | lst {n : Nat} {a b : Addr} {xs ys : List V} (hx : SqL K H a xs) (hy : SqL K H b ys) (hl : xs.length = ys.length) (h : ∀ (j : Nat) x y, xs[j]? = some x → ys[j]? = some y → EqD K H n x y) : EqD K H (n + 1) (.ref a) (.ref b)
section
variable {X : Cx} {pins : List (Addr × Obj)} {σ : St} {H : Hp} {s : Shared}
theorem eqsc_at {A : Around} {x : V} {v u : Value} (h : flat1 x = true) (r : RelV x v) (q : RelV x u) : SeqAt.EqAt A s v u true := by
  cases x with
  | non => cases r; cases q; exact SeqAt.EqAt.same _
  | bl b => cases r; cases q; exact SeqAt.EqAt.same _
  | int i =>
    obtain ⟨t, rfl⟩ := r
    obtain ⟨t', rfl⟩ := q
    have e := SeqAt.EqAt.int_int (A := A) (s := s) i t i t'
    rw [beq_self_eq_true] at e
    exact e
  | str z =>
    obtain ⟨t, rfl⟩ := r
    obtain ⟨t', rfl⟩ := q
    have e := SeqAt.EqAt.str_str (A := A) (s := s) z t z t'
    rw [beq_self_eq_true] at e
    exact e
  | _ => exact absurd (show false = true from h) Bool.false_ne_true
theorem all_true (n : Nat) : (List.range n).all (fun _ => true) = true := by simp
theorem eqd_at {n : Nat} {x y : V} (h : EqD X.K H n x y) (I : Inv X pins σ H s) : ∀ {A : Around} {v u : Value}, RelV x v → RelV y u → A.units + n < cLine → SeqAt.EqAt A s v u true := by
  induction h with
  | sc hs => intro A v u r q _; exact eqsc_at hs r q
  | @tup n a b xs ys hx hy hl _ ih =>
    intro A v u r q hu
    cases r
    cases q
    by_cases e : a = b
    · subst e; exact SeqAt.EqAt.same _
    · obtain ⟨its, rv, p, _⟩ := I.tuple hx
      obtain ⟨its2, rv2, p2, _⟩ := I.tuple hy
      have l1 := rv.length
      have l2 := rv2.length
      have z : its.toArray.size = its2.toArray.size := by simp only [List.size_toArray]; omega
      have key := SeqAt.RcAt.tuples (e := fun _ => true) (A := A) p p2 (by omega) fun j h1 h2 => by
        have h1' : j < xs.length := by simpa [← l1] using h1
        have h2' : j < ys.length := by omega
        obtain ⟨v1, e1, r1⟩ := rv.get (i := j) (x := xs[j]) (by simp [h1'])
        obtain ⟨v2, e2, r2⟩ := rv2.get (i := j) (x := ys[j]) (by simp [h2'])
        have f1 : its.toArray[j] = v1 := by
          have := (List.getElem?_eq_some_iff.mp e1).2
          simpa using this
        have f2 : its2.toArray[j] = v2 := by
          have := (List.getElem?_eq_some_iff.mp e2).2
          simpa using this
        rw [f1, f2]
        exact ih j _ _ (by simp [h1']) (by simp [h2']) r1 r2 (by show A.units + 1 + n < _; omega)
      rw [all_true, z, beq_self_eq_true, Bool.and_true] at key
      exact SeqAt.EqAt.of_refs e key
  | @lst n a b xs ys hx hy hl _ ih =>
    intro A v u r q hu
    cases r
    cases q
    by_cases e : a = b
    · subst e; exact SeqAt.EqAt.same _
    · obtain ⟨its, rv, p, _⟩ := I.list hx
      obtain ⟨its2, rv2, p2, _⟩ := I.list hy
      have l1 := rv.length
      have l2 := rv2.length
      have z : its.toArray.size = its2.toArray.size := by simp only [List.size_toArray]; omega
      have key := SeqAt.RcAt.lists (e := fun _ => true) (A := A) p.isList p2.isList z (by omega) fun j h1 h2 => by
        have h1' : j < xs.length := by simpa [← l1] using h1
        have h2' : j < ys.length := by omega
        obtain ⟨v1, e1, r1⟩ := rv.get (i := j) (x := xs[j]) (by simp [h1'])
        obtain ⟨v2, e2, r2⟩ := rv2.get (i := j) (x := ys[j]) (by simp [h2'])
        have f1 : its.toArray[j] = v1 := by
          have := (List.getElem?_eq_some_iff.mp e1).2
          simpa using this
        have f2 : its2.toArray[j] = v2 := by
          have := (List.getElem?_eq_some_iff.mp e2).2
          simpa using this
        rw [f1, f2]
        exact ih j _ _ (by simp [h1']) (by simp [h2']) r1 r2 (by show A.units + 1 + n < _; omega)
      rw [all_true] at key
      exact SeqAt.EqAt.of_refs e key
/-- what two sequences of the same data answer to == and != -/
theorem eqd_rc {n : Nat} {a b : Addr} (h : EqD X.K H n (.ref a) (.ref b)) (I : Inv X pins σ H s) {A : Around} (hu : A.units + n < cLine) : SeqAt.RcAt A s (.ref a) (.ref b) true ∧ SeqAt.RcNeAt A s (.ref a) (.ref b) false := by
  cases h with
  | sc hs => exact absurd (show false = true from hs) Bool.false_ne_true
  | @tup n _ _ xs ys hx hy hl ih =>
    obtain ⟨its, rv, p, _⟩ := I.tuple hx
    obtain ⟨its2, rv2, p2, _⟩ := I.tuple hy
    have l1 := rv.length
    have l2 := rv2.length
    have z : its.toArray.size = its2.toArray.size := by simp only [List.size_toArray]; omega
    have he : ∀ j (h1 : j < its.toArray.size) (h2 : j < its2.toArray.size), SeqAt.EqAt A.in1 s its.toArray[j] its2.toArray[j] true := fun j h1 h2 => by
      have h1' : j < xs.length := by simpa [← l1] using h1
      have h2' : j < ys.length := by omega
      obtain ⟨v1, e1, r1⟩ := rv.get (i := j) (x := xs[j]) (by simp [h1'])
      obtain ⟨v2, e2, r2⟩ := rv2.get (i := j) (x := ys[j]) (by simp [h2'])
      have f1 : its.toArray[j] = v1 := by
        have := (List.getElem?_eq_some_iff.mp e1).2
        simpa using this
      have f2 : its2.toArray[j] = v2 := by
        have := (List.getElem?_eq_some_iff.mp e2).2
        simpa using this
      rw [f1, f2]
      exact eqd_at (ih j _ _ (by simp [h1']) (by simp [h2'])) I r1 r2 (by show A.units + 1 + n < _; omega)
    have k1 := SeqAt.RcAt.tuples (e := fun _ => true) (A := A) p p2 (by omega) he
    have k2 := SeqAt.RcNeAt.tuples (e := fun _ => true) (A := A) p p2 (by omega) he
    rw [all_true, z, beq_self_eq_true, Bool.and_true] at k1 k2
    exact ⟨k1, k2⟩
  | @lst n _ _ xs ys hx hy hl ih =>
    obtain ⟨its, rv, p, _⟩ := I.list hx
    obtain ⟨its2, rv2, p2, _⟩ := I.list hy
    have l1 := rv.length
    have l2 := rv2.length
    have z : its.toArray.size = its2.toArray.size := by simp only [List.size_toArray]; omega
    have he : ∀ j (h1 : j < its.toArray.size) (h2 : j < its2.toArray.size), SeqAt.EqAt A.in1 s its.toArray[j] its2.toArray[j] true := fun j h1 h2 => by
      have h1' : j < xs.length := by simpa [← l1] using h1
      have h2' : j < ys.length := by omega
      obtain ⟨v1, e1, r1⟩ := rv.get (i := j) (x := xs[j]) (by simp [h1'])
      obtain ⟨v2, e2, r2⟩ := rv2.get (i := j) (x := ys[j]) (by simp [h2'])
      have f1 : its.toArray[j] = v1 := by
        have := (List.getElem?_eq_some_iff.mp e1).2
        simpa using this
      have f2 : its2.toArray[j] = v2 := by
        have := (List.getElem?_eq_some_iff.mp e2).2
        simpa using this
      rw [f1, f2]
      exact eqd_at (ih j _ _ (by simp [h1']) (by simp [h2'])) I r1 r2 (by show A.units + 1 + n < _; omega)
    have k1 := SeqAt.RcAt.lists (e := fun _ => true) (A := A) p.isList p2.isList z (by omega) he
    have k2 := SeqAt.RcNeAt.lists (e := fun _ => true) (A := A) p.isList p2.isList z (by omega) he
    rw [all_true] at k1 k2
    exact ⟨k1, k2⟩
end
section
variable {X : Cx}
theorem op_eqD (hu : X.A.units + 8 < cLine) : OpR X (compareOp .Eq) (fun x y H Q => ∃ a b, x = .ref a ∧ y = .ref b ∧ EqD X.K H 8 x y ∧ Q (.bl true) H) := by
  intro pins s σ H x y v u Q I rx ry h
  obtain ⟨a, b, rfl, rfl, e, q⟩ := h
  cases rx
  cases ry
  exact (eqd_rc e I hu).1 _ _ _ _ (fin_bl I q rfl)
theorem op_neD (hu : X.A.units + 8 < cLine) : OpR X (compareOp .NotEq) (fun x y H Q => ∃ a b, x = .ref a ∧ y = .ref b ∧ EqD X.K H 8 x y ∧ Q (.bl false) H) := by
  intro pins s σ H x y v u Q I rx ry h
  obtain ⟨a, b, rfl, rfl, e, q⟩ := h
  cases rx
  cases ry
  exact (eqd_rc e I hu).2 _ _ _ _ (fin_bl I q rfl)
/-! ### dicts: a copy, the keys as a list, two with the same pairs -/
theorem call_dict_of : CallR X (.type "dict") (fun xs H Q => ∃ a kvs, xs = [.ref a] ∧ H a = some (.dK kvs) ∧ ∀ p, H p = none → Q (.ref p) (upd H p (.dK kvs))) := by
  intro pins s σ H xs us Q I r h
  obtain ⟨a, kvs, rfl, hH, q⟩ := h
  obtain ⟨u, rfl, rx⟩ := vals1 r
  cases rx
  exact d_copyOf I (.inl hH) fun p s' hp I' => ⟨.ref p, _, I', rfl, q p hp⟩
theorem call_list_dict (hc : X.calm = true) : CallR X (.type "list") (fun xs H Q => ∃ a kvs, xs = [.ref a] ∧ H a = some (.dK kvs) ∧ ∀ p, H p = none → Q (.ref p) (upd H p (.lst (kvs.map fun kv => kV kv.1)))) := by
  intro pins s σ H xs us Q I r h
  obtain ⟨a, kvs, rfl, hH, q⟩ := h
  obtain ⟨u, rfl, rx⟩ := vals1 r
  cases rx
  obtain ⟨z, hS, vs, rel, dd⟩ := dk_rd I.hok (.inl hH)
  obtain ⟨ep, hat⟩ := dd.dictAt
  have hlen := rel.length
  refine PySem.W.kdl_call (PySem.W.kdl_dict (knd := mixKind X.prog X.w) (kvs := vs) (ep := ep) hS) (I.ok.hd hc) hat (by omega) fun h' tk acc c kp e items => ?_
  refine ⟨.ref s.heap.objs.size, _, I.laid (a := s.heap.objs.size) (o := .lst (kvs.map fun kv => kV kv.1)) (t' := tk) kp (Nat.le_refl _) ?_, rfl, q _ I.fresh⟩
  refine ⟨by rw [List.length_map]; exact z, acc.toList, c, ?_, by simpa using e⟩
  have al : acc.toList.length = vs.length := by rw [Array.length_toList]; exact items.1
  have key : ∀ (ks : List (Key × V)) (us : List (Key × Value)) (ws : List Value), KV ks us → ws.length = us.length → (∀ (j : Nat) v, ws[j]? = some v → ∃ k x, us[j]? = some (k, x) ∧ (mixKind X.prog X.w).is k v = true) → Vals (ks.map fun kv => kV kv.1) ws := by
    intro ks us ws rr
    unfold KV at rr
    induction rr generalizing ws with
    | nil =>
      intro hl _
      have : ws = [] := List.length_eq_zero_iff.mp hl
      subst this
      exact .nil
    | @cons p q ps qs hpq _ ih =>
      intro hl hw
      cases ws with
      | nil => simp at hl
      | cons v r =>
        obtain ⟨k, x, e1, e2⟩ := hw 0 v rfl
        have e3 : q = (k, x) := Option.some.inj e1
        refine .cons ?_ (ih r (by simpa using hl) fun j v' hv' => hw (j + 1) v' hv')
        have e4 : p.1 = k := by rw [hpq.1, e3]
        show RelV (kV p.1) v
        rw [e4]
        have e5 : keyIs k v = true := e2
        rcases keyIs_shape e5 with ⟨i, t, rfl, rfl⟩ | ⟨y, t, rfl, rfl⟩
        · exact ⟨t, rfl⟩
        · exact ⟨t, rfl⟩
  exact key kvs vs acc.toList rel al fun j v hv => items.2 j v (by rw [← Array.getElem?_toList]; exact hv)
theorem valV_mem {kvs : List (Key × V)} {p : Key × V} (hnd : (kvs.map (·.1)).Nodup) (hp : p ∈ kvs) : valV kvs p.1 = some p.2 := by
  induction kvs with
  | nil => simp at hp
  | cons c r ihc =>
    have hnd' : (c.1 :: r.map (·.1)).Nodup := hnd
    obtain ⟨n1, n2⟩ := List.nodup_cons.mp hnd'
    rcases List.mem_cons.mp hp with rfl | hp
    · exact valV_pos rfl
    · rw [valV_neg (fun e => n1 (by rw [e]; exact List.mem_map.mpr ⟨p, hp, rfl⟩))]
      exact ihc n2 hp
theorem op_neDict (hu : X.A.units + 8 < cLine) : OpR X (compareOp .NotEq) (fun x y H Q => ∃ a b kvs, x = .ref a ∧ y = .ref b ∧ H a = some (.dK kvs) ∧ H b = some (.dK kvs) ∧ (∀ kv ∈ kvs, flat1 kv.2 = true) ∧ Q (.bl false) H) := by
  intro pins s σ H x y v u Q I rx ry h
  obtain ⟨a, b, kvs, rfl, rfl, ha, hb, hsc, q⟩ := h
  cases rx
  cases ry
  obtain ⟨z, hS, vs, rel, dd⟩ := dk_rd I.hok (.inl ha)
  obtain ⟨z2, hS2, vs2, rel2, dd2⟩ := dk_rd I.hok (.inl hb)
  have nd : (vs2.map (·.1)).Nodup := by
    obtain ⟨_, _, _, _, _, _, _, _, n⟩ := dd2
    exact n
  have hits : ∀ (ks : List (Key × V)) (us : List (Key × Value)), KV ks us → (∀ kv ∈ ks, kv ∈ kvs) → PySem.W.KeqHits X.A.in1 s vs2 us true := by
    intro ks us rr
    unfold KV at rr
    induction rr with
    | nil => intro _; exact .nil
    | @cons p q' ps qs hpq _ ih =>
      intro hm
      have hp : p ∈ kvs := hm p List.mem_cons_self
      have hv : ∃ y, valueAt vs2 q'.1 = some y ∧ RelV p.2 y := by
        have hnd : (kvs.map (·.1)).Nodup := by rw [rel2.keys]; exact nd
        have e1 : valV kvs p.1 = some p.2 := by
          exact valV_mem hnd hp
        have e2 := rel2.val p.1
        rw [e1] at e2
        obtain ⟨y, e3, e4⟩ := RelO.some_of e2
        exact ⟨y, by rw [← hpq.1]; exact e3, e4⟩
      obtain ⟨y, e5, e6⟩ := hv
      exact .hit (e := true) (b := true) e5 (eqsc_at (hsc p hp) hpq.2 e6) (ih fun kv hkv => hm kv (List.mem_cons_of_mem _ hkv))
  refine PySem.W.keq_ne hS hS2 dd dd2 (by omega) (fun _ => hits kvs vs rel fun _ hk => hk) ?_
  have e : (!(vs.length == vs2.length && true)) = false := by
    rw [← rel.length, ← rel2.length]
    simp
  rw [e]
  exact fin_bl I q rfl
end
end L2

set_option Elab.async false
set_option linter.all false
set_option maxRecDepth 100000
set_option maxHeartbeats 4000000
namespace Wd
open PySem
theorem signs_of (s : String) : (Str.ofString s).cps.toList = s.toList.map Char.toNat := PyProof.Rows.signs_ofString s
/-! ### words that write numbers: the program's look and the law's -/
def isDig (c : Nat) : Bool := decide (48 ≤ c) && decide (c ≤ 57)
def areFig (cs : List Nat) : Bool := (decide (1 ≤ cs.length) && !decide (cs.head? = some 48) && decide (cs.length ≤ 9)) && cs.all isDig
def val (cs : List Nat) : Nat := cs.foldl (fun acc c => acc * 10 + (c - 48)) 0
def numIn (cs : List Nat) : Option Int :=
  if cs = [48] then some 0
  else if cs.head? = some 45 then (if areFig (cs.drop 1) then some (-((val (cs.drop 1) : Nat) : Int)) else none)
  else (if areFig cs then some ((val cs : Nat) : Int) else none)
/-- the law's own look -/
def due (cs : List Nat) : Option Int :=
  let f := if cs.head? = some 45 then cs.drop 1 else cs
  if f.length < 1 ∨ 9 < f.length then none
  else if f.all isDig = false then none
  else if f.head? = some 48 ∧ ¬ cs = [48] then none
  else some (if cs.head? = some 45 then -((val f : Nat) : Int) else ((val f : Nat) : Int))
theorem due_eq (cs : List Nat) : due cs = numIn cs := by
  unfold due numIn
  by_cases h0 : cs = [48]
  · subst h0
    decide
  · rw [if_neg h0]
    have key : ∀ (f : List Nat) (z : Nat → Int), (if f.length < 1 ∨ 9 < f.length then none else if f.all isDig = false then none else if f.head? = some 48 ∧ ¬ cs = [48] then none else some (z (val f))) = (if areFig f then some (z (val f)) else none) := by
      intro f z
      unfold areFig
      by_cases h1 : f.length < 1 ∨ 9 < f.length
      · rw [if_pos h1]
        have e : (decide (1 ≤ f.length) && !decide (f.head? = some 48) && decide (f.length ≤ 9)) = false := by
          rcases h1 with h1 | h1
          · have : decide (1 ≤ f.length) = false := decide_eq_false (by omega)
            simp [this]
          · have : decide (f.length ≤ 9) = false := decide_eq_false (by omega)
            simp [this]
        rw [e]
        simp
      · rw [if_neg h1]
        have a : decide (1 ≤ f.length) = true := decide_eq_true (by omega)
        have b : decide (f.length ≤ 9) = true := decide_eq_true (by omega)
        rw [a, b]
        cases h2 : f.all isDig with
        | false => simp
        | true =>
          by_cases h3 : f.head? = some 48
          · simp [h3, h0]
          · simp [h3]
    by_cases h4 : cs.head? = some 45
    · simp only [if_pos h4]
      exact key (cs.drop 1) (fun n => -((n : Nat) : Int))
    · simp only [if_neg h4]
      exact key cs (fun n => ((n : Nat) : Int))
theorem val_digits (cs : List Nat) : NumText.digitsVal cs = val cs := rfl
theorem all_digits {cs : List Nat} (h : cs.all isDig = true) : NumText.AllDigits cs := fun c hc => by
  have q := List.all_eq_true.mp h c hc
  unfold isDig at q
  simp only [Bool.and_eq_true, decide_eq_true_eq] at q
  exact q
theorem fig_parts {cs : List Nat} (h : areFig cs = true) : 1 ≤ cs.length ∧ cs.length ≤ 9 ∧ cs.head? ≠ some 48 ∧ cs.all isDig = true := by
  unfold areFig at h
  simp only [Bool.and_eq_true, decide_eq_true_eq, Bool.not_eq_true', decide_eq_false_iff_not] at h
  exact ⟨h.1.1.1, h.1.2, h.1.1.2, h.2⟩
/-- int(word), where the look says that it writes a number -/
theorem int_pos {cs : List Nat} (h : areFig cs = true) : intText? ⟨cs.toArray⟩ = some ((val cs : Nat) : Int) := by
  obtain ⟨h1, h2, _, h4⟩ := fig_parts h
  have e : (⟨cs.toArray⟩ : Str).cps.toList = cs := by simp
  have q := intText_digits (x := ⟨cs.toArray⟩) (by rw [e]; exact all_digits h4) (by rw [e]; intro z; rw [z] at h1; simp at h1) (by show cs.toArray.size ≤ 4300; simp; omega)
  rw [e] at q
  exact q
theorem int_neg {cs : List Nat} (h : cs.head? = some 45) (hf : areFig (cs.drop 1) = true) : intText? ⟨cs.toArray⟩ = some (-((val (cs.drop 1) : Nat) : Int)) := by
  obtain ⟨h1, h2, _, h4⟩ := fig_parts hf
  obtain ⟨r, rfl⟩ : ∃ r, cs = 45 :: r := by
    cases cs with
    | nil => cases h
    | cons c r =>
      have e : c = 45 := by simpa using h
      exact ⟨r, by rw [e]⟩
  have e0 : (45 :: r).drop 1 = r := rfl
  rw [e0] at h1 h2 h4 ⊢
  have e : (⟨(45 :: r).toArray⟩ : Str).cps.toList = 45 :: r := by simp
  exact intText_neg (x := ⟨(45 :: r).toArray⟩) e (all_digits h4) (by intro z; rw [z] at h1; simp at h1) (by show (45 :: r).toArray.size ≤ 4300; simp; omega)
/-! ### a sign among the figures -/
def FIG : Str := "0123456789"
theorem fig_eq : FIG = ⟨#[48, 49, 50, 51, 52, 53, 54, 55, 56, 57]⟩ := by decide +kernel
theorem sub_fig (c i : Nat) (h : i + 1 ≤ 10) : Builtin.Str.subAt FIG ⟨#[c]⟩ i = true ↔ c = 48 + i := by
  rw [fig_eq]
  unfold Builtin.Str.subAt
  have e : (⟨#[c]⟩ : Str).length = 1 := rfl
  rw [e]
  have hi : i = 0 ∨ i = 1 ∨ i = 2 ∨ i = 3 ∨ i = 4 ∨ i = 5 ∨ i = 6 ∨ i = 7 ∨ i = 8 ∨ i = 9 := by omega
  rcases hi with rfl | rfl | rfl | rfl | rfl | rfl | rfl | rfl | rfl | rfl <;> (simp; omega)
theorem len_fig : FIG.length = 10 := by decide +kernel
theorem in_fig (c : Nat) : (!(Builtin.Str.occurrences FIG ⟨#[c]⟩ 0 FIG.length 1).isEmpty) = isDig c := by
  rw [Bool.eq_iff_iff, StrLaws.found_iff]
  have e : (⟨#[c]⟩ : Str).length = 1 := rfl
  rw [e, len_fig]
  unfold isDig
  simp only [Bool.and_eq_true, decide_eq_true_eq]
  constructor
  · rintro ⟨i, h1, h2⟩
    have := (sub_fig c i h1).mp h2
    omega
  · rintro ⟨h1, h2⟩
    exact ⟨c - 48, by omega, (sub_fig c (c - 48) (by omega)).mpr (by omega)⟩
theorem find_fig {c : Nat} (h : isDig c = true) : Txt.find FIG ⟨#[c]⟩ = ((c - 48 : Nat) : Int) := by
  unfold isDig at h
  simp only [Bool.and_eq_true, decide_eq_true_eq] at h
  have e : (⟨#[c]⟩ : Str).length = 1 := rfl
  unfold Txt.find
  rcases StrLaws.occ_head FIG ⟨#[c]⟩ 1 (Nat.le_refl _) with ⟨h0, hn⟩ | ⟨i, r, h0, ha, hn⟩
  · exact absurd ⟨by rw [e, len_fig]; omega, (sub_fig c (c - 48) (by omega)).mpr (by omega)⟩ (hn (c - 48))
  · rw [h0]
    have h1 := ha.1
    rw [e, len_fig] at h1
    have := (sub_fig c i h1).mp ha.2
    show (i : Int) = _
    omega
theorem le_one (a b : Nat) : (!(decide ((⟨#[b]⟩ : Str).cps.toList < (⟨#[a]⟩ : Str).cps.toList))) = decide (a ≤ b) := by
  show (!(decide ([b] < [a]))) = decide (a ≤ b)
  have e : ([b] < [a]) ↔ b < a := by
    constructor
    · intro h
      rcases List.cons_lt_cons_iff.mp h with h | ⟨_, h⟩
      · exact h
      · exact absurd h (List.not_lt_nil _)
    · intro h
      exact List.cons_lt_cons_iff.mpr (.inl h)
  by_cases h : b < a
  · rw [decide_eq_true (e.mpr h), decide_eq_false (by omega)]; rfl
  · rw [decide_eq_false (fun z => h (e.mp z)), decide_eq_true (by omega)]; rfl
theorem starts_one (cs : List Nat) (c : Nat) : Txt.startswith ⟨cs.toArray⟩ ⟨#[c]⟩ = decide (cs.head? = some c) := by
  unfold Txt.startswith Builtin.Str.subAt
  have e : (⟨#[c]⟩ : Str).length = 1 := rfl
  have e2 : (⟨cs.toArray⟩ : Str).length = cs.length := by show cs.toArray.size = _; simp
  rw [e, e2]
  cases cs with
  | nil => simp
  | cons a r =>
    rw [Bool.eq_iff_iff]
    simp
/-! ### str(n) -/
def decN (m : Nat) : List Nat := (Nat.toDigits 10 m).map Char.toNat
def txtN (n : Int) : List Nat := if n < 0 then 45 :: decN n.natAbs else decN n.natAbs
theorem decN_len {m k : Nat} (h : 0 < k) (hm : m < 10 ^ k) : (decN m).length ≤ k := by
  unfold decN
  rw [List.length_map]
  exact (Nat.length_toDigits_le_iff (by decide) h).mpr hm
theorem decN_pos (m : Nat) : 1 ≤ (decN m).length := by
  unfold decN
  rw [List.length_map]
  exact Nat.length_toDigits_pos
theorem str_int (n : Int) : Str.ofString (toString n) = ⟨(txtN n).toArray⟩ := by
  have e : ∀ s : String, Str.ofString s = ⟨(s.toList.map Char.toNat).toArray⟩ := fun s => by
    have q := signs_of s
    cases h : Str.ofString s with
    | mk a =>
      rw [h] at q
      have q' : a.toList = s.toList.map Char.toNat := q
      rw [← q']
  rw [e]
  congr 2
  cases n with
  | ofNat m =>
    show (Nat.repr m).toList.map Char.toNat = _
    rw [Nat.toList_repr]
    unfold txtN decN
    rw [if_neg (by simp)]
    rfl
  | negSucc m =>
    have e1 : toString (Int.negSucc m) = "-" ++ Nat.repr (m + 1) := rfl
    rw [e1, String.toList_append, List.map_append, Nat.toList_repr]
    unfold txtN decN
    rw [if_pos (Int.negSucc_lt_zero m)]
    rfl
theorem txtN_len {n : Int} {k : Nat} (hk : 0 < k) (h : n.natAbs < 10 ^ k) : (txtN n).length ≤ k + 1 := by
  unfold txtN
  have := decN_len hk h
  split
  · rw [List.length_cons]; omega
  · omega
end Wd

set_option Elab.async false
set_option linter.all false
set_option maxRecDepth 100000
set_option maxHeartbeats 4000000
namespace Wd
open PySem Builtin Builtin.Str
/-! ### a text cut at a sign; pieces joined -/
def splitC (c : Nat) : List Nat → List (List Nat)
  | [] => [[]]
  | a :: r => if a = c then [] :: splitC c r else match splitC c r with
    | [] => [[a]]
    | p :: ps => (a :: p) :: ps
theorem splitC_ne (c : Nat) (cs : List Nat) : ∃ p ps, splitC c cs = p :: ps := by
  cases cs with
  | nil => exact ⟨_, _, rfl⟩
  | cons a r =>
    unfold splitC
    split
    · exact ⟨_, _, rfl⟩
    · split <;> exact ⟨_, _, rfl⟩
def cutsFrom (c : Nat) : Nat → List Nat → List Nat
  | _, [] => []
  | k, a :: r => if a = c then k :: cutsFrom c (k + 1) r else cutsFrom c (k + 1) r
theorem sub_one (cs : List Nat) (c i : Nat) : subAt ⟨cs.toArray⟩ ⟨#[c]⟩ i = decide (cs[i]? = some c) := by
  unfold subAt
  have e : (⟨#[c]⟩ : Str).length = 1 := rfl
  rw [e, Bool.eq_iff_iff]
  simp only [beq_iff_eq, decide_eq_true_eq]
  have h1 : (cs.toArray.extract i (i + 1)).toList = (cs.drop i).take 1 := by simp
  constructor
  · intro h
    rw [h] at h1
    have h2 : [c] = (cs.drop i).take 1 := h1
    rw [← List.head?_drop]
    cases hd : cs.drop i with
    | nil => rw [hd] at h2; simp at h2
    | cons a r => rw [hd] at h2; simp at h2; simp [h2]
  · intro h
    have h2 : (cs.drop i).head? = some c := by rw [List.head?_drop]; exact h
    have h3 : (cs.drop i).take 1 = [c] := by
      cases hd : cs.drop i with
      | nil => rw [hd] at h2; simp at h2
      | cons a r => rw [hd] at h2; simp at h2; simp [h2]
    rw [h3] at h1
    exact Array.toList_inj.mp (by rw [h1])
theorem occ_go (c : Nat) (cs : List Nat) (limit : Nat) (hl : cs.length < limit) : ∀ (n k : Nat) (arr : Array Nat) (free : Nat), k + n = cs.length + 1 → arr.size ≤ k → free ≤ k →
    (forIn (List.range' k n) (arr, free) (StrLaws.occBody ⟨cs.toArray⟩ ⟨#[c]⟩ cs.length limit)).run.fst.toList = arr.toList ++ cutsFrom c k (cs.drop k)
  | 0, k, arr, free, h1, _, _ => by
    rw [List.drop_eq_nil_of_le (by omega)]
    show arr.toList = arr.toList ++ []
    simp
  | n + 1, k, arr, free, h1, h2, h3 => by
    rw [List.range'_succ, List.forIn_cons]
    unfold StrLaws.occBody
    have e : (⟨#[c]⟩ : Str).length = 1 := rfl
    by_cases hk : k < cs.length
    · have hd : cs.drop k = cs[k] :: cs.drop (k + 1) := List.drop_eq_getElem_cons hk
      have hs : subAt ⟨cs.toArray⟩ ⟨#[c]⟩ k = decide (cs[k] = c) := by
        rw [sub_one]
        simp [hk]
      by_cases hc : cs[k] = c
      · rw [if_pos ⟨⟨⟨by simp only []; omega, h3⟩, by rw [e]; omega⟩, by rw [hs]; exact decide_eq_true hc⟩]
        have ih := occ_go c cs limit hl n (k + 1) (arr.push k) (k + (⟨#[c]⟩ : Str).length) (by omega) (by rw [Array.size_push]; omega) (by rw [e]; exact Nat.le_refl _)
        refine Eq.trans ih ?_
        rw [hd]
        show (arr.push k).toList ++ _ = arr.toList ++ (if cs[k] = c then _ else _)
        rw [if_pos hc]
        simp
      · rw [if_neg (fun z => by rw [hs] at z; exact hc (of_decide_eq_true z.2))]
        have ih := occ_go c cs limit hl n (k + 1) arr free (by omega) (by omega) (by omega)
        refine Eq.trans ih ?_
        rw [hd]
        show _ = arr.toList ++ (if cs[k] = c then _ else _)
        rw [if_neg hc]
    · rw [if_neg (fun z => by have := z.1.2; rw [e] at this; omega)]
      have ih := occ_go c cs limit hl n (k + 1) arr free (by omega) (by omega) (by omega)
      refine Eq.trans ih ?_
      rw [List.drop_eq_nil_of_le (by omega), List.drop_eq_nil_of_le (by omega)]
      rfl
theorem occ_one (c : Nat) (cs : List Nat) : occurrences ⟨cs.toArray⟩ ⟨#[c]⟩ 0 cs.length (cs.length + 1) = cutsFrom c 0 cs := by
  rw [StrLaws.occ_eq]
  have q := occ_go c cs (cs.length + 1) (Nat.lt_succ_self _) (cs.length + 1) 0 #[] 0 (by omega) (by simp) (Nat.le_refl _)
  simpa using q
theorem parts_go (c : Nat) : ∀ (rest pre : List Nat) (s : Nat), s ≤ pre.length →
    ((s :: (cutsFrom c pre.length rest).map (· + 1)).zip (cutsFrom c pre.length rest ++ [pre.length + rest.length])).map (fun x => ((pre ++ rest).drop x.1).take (x.2 - x.1)) =
      (match splitC c rest with | p :: ps => (pre.drop s ++ p) :: ps | [] => [])
  | [], pre, s, hs => by
    show [((pre ++ []).drop s).take (pre.length + 0 - s)] = [pre.drop s ++ []]
    rw [List.append_nil, List.append_nil, List.take_of_length_le (by simp)]
  | a :: r, pre, s, hs => by
    have e : pre ++ a :: r = (pre ++ [a]) ++ r := by simp
    have el : (pre ++ [a]).length = pre.length + 1 := by simp
    have elr : pre.length + (a :: r).length = (pre ++ [a]).length + r.length := by simp; omega
    by_cases hc : a = c
    · have q := parts_go c r (pre ++ [a]) (pre.length + 1) (by rw [el]; exact Nat.le_refl _)
      obtain ⟨p, ps, hp⟩ := splitC_ne c r
      have e1 : cutsFrom c pre.length (a :: r) = pre.length :: cutsFrom c (pre.length + 1) r := by show (if a = c then _ else _) = _; rw [if_pos hc]
      have e2 : splitC c (a :: r) = [] :: splitC c r := by show (if a = c then _ else _) = _; rw [if_pos hc]
      rw [e1, e2, elr]
      rw [el] at q
      rw [hp] at q ⊢
      rw [List.map_cons, List.cons_append, List.zip_cons_cons, List.map_cons, e, el]
      have e3 : (pre ++ [a]).drop (pre.length + 1) = [] := by rw [List.drop_eq_nil_of_le (by rw [el]; exact Nat.le_refl _)]
      rw [e3] at q
      rw [q]
      have e4 : (((pre ++ [a]) ++ r).drop s).take (pre.length - s) = pre.drop s := by
        rw [← e, List.drop_append_of_le_length hs, List.take_append_of_le_length (by simp), List.take_of_length_le (by simp)]
      rw [← e] at e4
      simp [e4]
    · have q := parts_go c r (pre ++ [a]) s (by rw [el]; omega)
      obtain ⟨p, ps, hp⟩ := splitC_ne c r
      have e1 : cutsFrom c pre.length (a :: r) = cutsFrom c (pre.length + 1) r := by show (if a = c then _ else _) = _; rw [if_neg hc]
      have e2 : splitC c (a :: r) = (a :: p) :: ps := by show (if a = c then _ else _) = _; rw [if_neg hc, hp]
      rw [e1, e2, elr, e]
      rw [el] at q ⊢
      rw [hp] at q
      rw [q, List.drop_append_of_le_length hs]
      simp
theorem cuts_nil {c : Nat} : ∀ {cs : List Nat} {k : Nat}, cutsFrom c k cs = [] → splitC c cs = [cs]
  | [], _, _ => rfl
  | a :: r, k, h => by
    have hc : ¬ a = c := fun z => by
      have h' : (if a = c then k :: cutsFrom c (k + 1) r else cutsFrom c (k + 1) r) = [] := h
      rw [if_pos z] at h'
      cases h'
    have h' : (if a = c then k :: cutsFrom c (k + 1) r else cutsFrom c (k + 1) r) = [] := h
    rw [if_neg hc] at h'
    have q := cuts_nil h'
    show (if a = c then _ else _) = _
    rw [if_neg hc, q]
theorem split_eq {c : Nat} (hc : c < 128) (cs : List Nat) : Txt.split ⟨cs.toArray⟩ ⟨#[c]⟩ = (splitC c cs).map fun p => (⟨p.toArray⟩ : Str) := by
  have e : (⟨#[c]⟩ : Str).length = 1 := rfl
  have e2 : (⟨cs.toArray⟩ : Str).length = cs.length := by show cs.toArray.size = _; simp
  have hk : Builtin.Str.strKind (⟨#[c]⟩ : Str) = 1 := by
    unfold Builtin.Str.strKind
    rw [if_pos]
    simp
    omega
  have hk2 : decide (Builtin.Str.strKind (⟨cs.toArray⟩ : Str) < Builtin.Str.strKind (⟨#[c]⟩ : Str)) = false := by
    rw [hk]
    refine decide_eq_false ?_
    unfold Builtin.Str.strKind
    split
    · omega
    · split <;> omega
  unfold Txt.split
  rw [hk2, Bool.or_false, e, e2, occ_one]
  by_cases h0 : cs.length < 1
  · rw [if_pos (decide_eq_true h0)]
    have : cs = [] := List.length_eq_zero_iff.mp (by omega)
    subst this
    rfl
  · rw [if_neg (by rw [decide_eq_true_eq]; exact h0)]
    by_cases h1 : (cutsFrom c 0 cs).isEmpty = true
    · rw [if_pos h1, cuts_nil (List.isEmpty_iff.mp h1)]
      rfl
    · rw [if_neg h1]
      have q := parts_go c cs [] 0 (Nat.le_refl _)
      obtain ⟨p, ps, hp⟩ := splitC_ne c cs
      rw [hp] at q ⊢
      unfold partsBetween
      simp only [] at q ⊢
      have q2 := congrArg (List.map fun p => (⟨p.toArray⟩ : Str)) q
      rw [List.map_map] at q2
      simp only [List.length_nil, Nat.zero_add, List.nil_append, List.drop_nil] at q2
      refine Eq.trans ?_ q2
      rw [e2]
      refine List.map_congr_left fun x _ => ?_
      show strSub _ x.1 x.2 = (⟨((cs.drop x.1).take (x.2 - x.1)).toArray⟩ : Str)
      unfold strSub
      congr 1
      refine Array.toList_inj.mp ?_
      simp
/-- pieces with a sign between -/
def joinC (sep : List Nat) : List (List Nat) → List Nat
  | [] => []
  | p :: ps => p ++ (ps.map fun q => sep ++ q).flatten
theorem glued_eq (sep : List Nat) (ps : List (List Nat)) : Txt.join ⟨sep.toArray⟩ (ps.map fun p => (⟨p.toArray⟩ : Str)) = ⟨(joinC sep ps).toArray⟩ := by
  unfold Txt.join glued
  congr 1
  have key : ∀ (qs : List (List Nat)) (acc : List Nat), ((qs.map fun p => (⟨p.toArray⟩ : Str)).foldl (fun acc p => acc ++ (⟨sep.toArray⟩ : Str).cps ++ p.cps) acc.toArray) = (acc ++ (qs.map fun q => sep ++ q).flatten).toArray := by
    intro qs
    induction qs with
    | nil => intro acc; simp
    | cons q r ih =>
      intro acc
      rw [List.map_cons, List.foldl_cons]
      have e : acc.toArray ++ (⟨sep.toArray⟩ : Str).cps ++ (⟨q.toArray⟩ : Str).cps = (acc ++ (sep ++ q)).toArray := by simp
      rw [e, ih]
      simp
  cases ps with
  | nil => rfl
  | cons p r =>
    rw [List.map_cons, List.drop_one, List.tail_cons]
    show List.foldl _ p.toArray _ = _
    rw [key]
    rfl
theorem splitC_piece {c : Nat} : ∀ {p : List Nat}, (∀ x ∈ p, x ≠ c) → splitC c p = [p]
  | [], _ => rfl
  | a :: r, h => by
    show (if a = c then _ else _) = _
    rw [if_neg (h a List.mem_cons_self), splitC_piece fun x hx => h x (List.mem_cons_of_mem _ hx)]
theorem splitC_app {c : Nat} : ∀ {p : List Nat} (r : List Nat), (∀ x ∈ p, x ≠ c) → splitC c (p ++ c :: r) = p :: splitC c r
  | [], r, _ => by
    show (if c = c then _ else _) = _
    rw [if_pos rfl]
  | a :: q, r, h => by
    show (if a = c then _ else match splitC c (q ++ c :: r) with | [] => [[a]] | p :: ps => (a :: p) :: ps) = _
    rw [if_neg (h a List.mem_cons_self), splitC_app r fun x hx => h x (List.mem_cons_of_mem _ hx)]
/-- what is joined by a sign that is in no piece is cut there again -/
theorem split_join {c : Nat} : ∀ {ps : List (List Nat)}, ps ≠ [] → (∀ p ∈ ps, ∀ x ∈ p, x ≠ c) → splitC c (joinC [c] ps) = ps
  | [], h, _ => absurd rfl h
  | [p], _, h => by
    show splitC c (p ++ []) = [p]
    rw [List.append_nil]
    exact splitC_piece (h p List.mem_cons_self)
  | p :: q :: r, _, h => by
    have e : joinC [c] (p :: q :: r) = p ++ c :: joinC [c] (q :: r) := by
      show p ++ (([c] ++ q) ++ (r.map fun q => [c] ++ q).flatten) = p ++ c :: (q ++ (r.map fun q => [c] ++ q).flatten)
      simp
    rw [e, splitC_app _ (h p List.mem_cons_self), split_join (by simp) fun x hx => h x (List.mem_cons_of_mem _ hx)]
theorem splitC_len (c : Nat) : ∀ cs : List Nat, (splitC c cs).length ≤ cs.length + 1
  | [] => Nat.le_refl _
  | a :: r => by
    have ih := splitC_len c r
    obtain ⟨p, ps, hp⟩ := splitC_ne c r
    show (if a = c then [] :: splitC c r else match splitC c r with | [] => [[a]] | p :: ps => (a :: p) :: ps).length ≤ _
    split
    · rw [List.length_cons, List.length_cons]; omega
    · rw [hp] at ih ⊢
      simp only [List.length_cons] at ih ⊢
      omega
end Wd

set_option Elab.async false
set_option linter.all false
set_option maxRecDepth 100000
set_option maxHeartbeats 4000000
namespace L2
open PySem PySem.Spec PyProof.Rows

/-! ### f-strings -/
section
variable {X : Cx} {e : Expr} {es : List Expr} {te : TE} {pos : Pos}
theorem pe_fint (h : PE X e te) : PE X (.FormattedValue e (-1) none pos) (fun σ H Q => te σ H fun v H1 => ∃ i : Int, v = .int i ∧ i.natAbs.log2 < 1920 ∧ Q (.str (Str.ofString (toString i))) H1) := by
  intro pins s σ H Q I hq
  refine PyProof.Rows.FormattedValue_plain (thn (h pins s σ H _ I hq) fun u s1 ⟨v, H1, I1, r, i, ev, hl, q⟩ => ?_)
  subst ev
  obtain ⟨t, rfl⟩ := r
  exact PyProof.Rows.formatField_int_small hl ⟨.str _, H1, I1.tok _, ⟨_, rfl⟩, q⟩
theorem pe_fstr (h : PE X e te) : PE X (.FormattedValue e (-1) none pos) (fun σ H Q => te σ H fun v H1 => ∃ x : Str, v = .str x ∧ x.length ≤ sizeLine ∧ Q (.str x) H1) := by
  intro pins s σ H Q I hq
  refine PyProof.Rows.FormattedValue_plain (thn (h pins s σ H _ I hq) fun u s1 ⟨v, H1, I1, r, x, ev, hl, q⟩ => ?_)
  subst ev
  obtain ⟨t, rfl⟩ := r
  exact PyProof.Rows.formatField_str (fun t' tk => ⟨.str x, H1, I1.tok _, ⟨_, rfl⟩, q⟩) hl
abbrev TJ := St → Hp → Str → VK → Prop
/-- the parts of an f-string from here on, out being what stands ahead -/
def PJ (X : Cx) (es : List Expr) (t : TJ) : Prop :=
  ∀ (pins : List (Addr × Obj)) (s : Shared) (σ : St) (H : Hp) (out : Str) (Q : VK), Inv X pins σ H s → t σ H out Q → wpAny (model X.prog X.w) X.A (joinParts out (evalEach es X.env)) (EP X pins σ Q) X.xe s
def jNil : TJ := fun _ H out Q => out.length ≤ sizeLine ∧ Q (.str out) H
def jCons (te : TE) (t : TJ) : TJ := fun σ H out Q => te σ H fun v H1 => ∃ y : Str, v = .str y ∧ (out ++ y).length ≤ sizeLine ∧ t σ H1 (out ++ y) Q
theorem pj_nil : PJ X [] jNil := by
  intro pins s σ H out Q I h
  exact PyProof.Rows.joinParts_nil ⟨.str out, H, I.tok _, ⟨_, rfl⟩, h.2⟩ h.1
theorem pj_cons {t : TJ} (he : PE X e te) (hr : PJ X es t) (hs : evalEach (e :: es) X.env = eval e X.env :: evalEach es X.env := by rfl) : PJ X (e :: es) (jCons te t) := by
  intro pins s σ H out Q I h
  rw [hs]
  refine PyProof.Rows.joinParts_cons (thn (he pins s σ H _ I h) fun u s1 ⟨v, H1, I1, r, y, ev, hl, q⟩ => ?_)
  subst ev
  obtain ⟨t', rfl⟩ := r
  exact ⟨hl, hr pins s1 σ H1 _ Q I1 q⟩
/-- an f-string of two parts or more -/
theorem pe_joined {v1 v2 : Expr} {t : TJ} (h : PJ X (v1 :: v2 :: es) t) (hs : evalEach (v1 :: v2 :: es) X.env = eval v1 X.env :: eval v2 X.env :: evalEach es X.env := by rfl) : PE X (.JoinedStr (v1 :: v2 :: es) pos) (fun σ H Q => t σ H Str.empty Q) := by
  intro pins s σ H Q I hq
  have q := h pins s σ H Str.empty Q I hq
  rw [hs] at q
  exact PyProof.Rows.JoinedStr_many q
end

/-! ### join, split -/
theorem strs_of {ys : List Str} : ∀ {us : List Value}, Vals (ys.map V.str) us → StrsAre us ys := by
  induction ys with
  | nil => intro us r; rw [List.map_nil] at r; cases r; exact .nil
  | cons n ns ih =>
    intro us r
    rw [List.map_cons] at r
    cases r with
    | cons r1 r2 =>
      obtain ⟨t, e⟩ := r1
      subst e
      exact .cons n t (ih r2)
theorem vals_strs : ∀ (l : List (Str × Tok)), Vals ((l.map (·.1)).map V.str) (strValues l)
  | [] => .nil
  | p :: r => .cons ⟨_, rfl⟩ (vals_strs r)
section
variable {X : Cx}
theorem mt_join : MtR X "str.join" (fun x xs H Q => ∃ (sep : List Nat) (p : Addr) (ps : List (List Nat)), x = .str (tx sep) ∧ xs = [.ref p] ∧ SqL X.K H p (ps.map fun q => V.str (tx q)) ∧ (ps.map List.length).sum + ps.length * sep.length ≤ 16777216 ∧ Q (.str (tx (Wd.joinC sep ps))) H) := by
  intro pins s σ H x xs v us Q I rx rs h
  obtain ⟨sep, p, ps, rfl, rfl, hq, hz, q⟩ := h
  obtain ⟨t, rfl⟩ := rx
  obtain ⟨u, rfl, ru⟩ := vals1 rs
  cases ru
  obtain ⟨its, rv, pl, _⟩ := I.list hq
  have e1 : (ps.map fun q => V.str (tx q)) = (ps.map fun q => tx q).map V.str := by rw [List.map_map]; rfl
  rw [e1] at rv
  have e2 : ((ps.map fun q => tx q).map (·.length)) = ps.map List.length := by
    rw [List.map_map]
    exact List.map_congr_left fun a _ => tx_len a
  refine PyProof.Rows.join_list pl.isList (by simpa using strs_of rv) (by rw [e2, List.length_map, tx_len]; exact hz) fun t' k => ?_
  rw [Wd.glued_eq]
  exact ⟨.str _, H, I.tok k, ⟨_, rfl⟩, q⟩
theorem mt_split : MtR X "str.split" (fun x xs H Q => ∃ (cs : List Nat) (c : Nat), x = .str (tx cs) ∧ xs = [.str (tx [c])] ∧ c < 128 ∧ cs.length < 1000000 ∧ ∀ p, H p = none → Q (.ref p) (upd H p (.lst ((Wd.splitC c cs).map fun q => V.str (tx q))))) := by
  intro pins s σ H x xs v us Q I rx rs h
  obtain ⟨cs, c, rfl, rfl, hc, hz, q⟩ := h
  obtain ⟨t, rfl⟩ := rx
  obtain ⟨u, rfl, t', rfl⟩ := vals1 rs
  have hsp := Wd.split_eq hc cs
  have hl : ((Wd.splitC c cs).map fun q => V.str (tx q)).length ≤ sizeLine := by
    rw [List.length_map, sizeLine_eq]
    have := Wd.splitC_len c cs
    omega
  -- whatever way it goes, a new list with these texts lies at the heap's end
  have fin : ∀ (l : List (Str × Tok)) (k : Nat), l.map (·.1) = Txt.split (tx cs) (tx [c]) → EP X pins σ Q (.ref s.heap.objs.size) { s with heap := s.heap.push { cls := .type "list", data := .seq (strValues l).toArray }, toks := k } := by
    intro l k e
    have rv := vals_strs l
    rw [e, hsp, List.map_map] at rv
    exact ⟨.ref s.heap.objs.size, _, I.lnew (t' := k) (ys := (Wd.splitC c cs).map fun q => V.str (tx q)) rv hl, rfl, q _ I.fresh⟩
  have hy : ((tx [c]).length == 0) = false := rfl
  have hx : (tx cs).length ≤ sizeLine := by rw [tx_len, sizeLine_eq]; omega
  cases h1 : (decide ((tx cs).length < (tx [c]).length) || decide (Builtin.Str.strKind (tx cs) < Builtin.Str.strKind (tx [c]))) with
  | true =>
    refine call_meets PySem.F.slot_str_split (typeIs_str _ _ _) PySem.F.entry_str_split (PySem.F.args_str_split_2 _ _) (meets_str_split_cannot_occur (tx cs) (tx [c]) t t' h1) ?_
    exact fin [(tx cs, t)] s.toks (if_pos h1).symm
  | false =>
    cases hf : (Builtin.Str.occurrences (tx cs) (tx [c]) 0 (tx cs).length ((tx cs).length + 1)).isEmpty with
    | true =>
      refine call_meets PySem.F.slot_str_split (typeIs_str _ _ _) PySem.F.entry_str_split (PySem.F.args_str_split_2 _ _) (meets_str_split_not_found (tx cs) (tx [c]) t t' h1 hy hf) ?_
      exact fin [(tx cs, t)] s.toks ((if_neg (by rw [h1]; exact Bool.false_ne_true)).trans (if_pos hf)).symm
    | false =>
      have es : Txt.split (tx cs) (tx [c]) = Builtin.Str.partsBetween (tx cs) (Builtin.Str.occurrences (tx cs) (tx [c]) 0 (tx cs).length ((tx cs).length + 1)) (tx [c]).length :=
        (if_neg (by rw [h1]; exact Bool.false_ne_true)).trans (if_neg (by rw [hf]; exact Bool.false_ne_true))
      have hn : (Builtin.Str.partsBetween (tx cs) (Builtin.Str.occurrences (tx cs) (tx [c]) 0 (tx cs).length ((tx cs).length + 1)) (tx [c]).length).length ≤ sizeLine := by
        rw [← es, hsp, List.length_map]
        rw [List.length_map] at hl
        exact hl
      refine call_meets PySem.F.slot_str_split (typeIs_str _ _ _) PySem.F.entry_str_split (PySem.F.args_str_split_2 _ _) (meets_str_split_sep (tx cs) (tx [c]) t t' h1 hy hf hx hn) ?_
      have r := fin (numbered s.toks (Builtin.Str.partsBetween (tx cs) (Builtin.Str.occurrences (tx cs) (tx [c]) 0 (tx cs).length ((tx cs).length + 1)) (tx [c]).length)) (s.toks + (Builtin.Str.partsBetween (tx cs) (Builtin.Str.occurrences (tx cs) (tx [c]) 0 (tx cs).length ((tx cs).length + 1)) (tx [c]).length).length) ((numbered_texts _ _).trans es.symm)
      rw [← strsFrom_eq] at r
      exact r
end
end L2

set_option Elab.async false
set_option linter.all false
set_option maxRecDepth 100000
set_option maxHeartbeats 4000000
namespace L2
open PySem PySem.Spec PyProof.Rows

/-- [f(x) for x in xs] over a list: what a turn makes stays, all else is as it was -/
theorem comp_list {K : PySem.W.Frag} {a : Addr} {xs : List V} {g : TG} {te : TE} {own : Nat} {fr : List Nat} {σ : St} {H : Hp} {Q : VK} (f : V → V) (hS : SqL K H a xs) (hz : xs.length < sizeLine)
    (hs : ∀ x, x ∈ xs → ∀ H2, Same H H2 → ∀ R : VK, (∀ H3, Same H2 H3 → R (f x) H3) → g x (seen own fr σ) H2 fun σ2 H3 => te σ2 H3 R) (hd : ∀ H2, Same H H2 → ∀ p, H2 p = none → Q (.ref p) (upd H2 p (.lst (xs.map f)))) : CompGo (Itl K a) g tAll te own fr σ Q H := by
  refine comp_by (n := xs.length) (fun i ys H2 => Same H H2 ∧ ys = (xs.take i).map f) ⟨Same.refl H, by simp⟩ (fun i ys H2 hi ⟨s2, e⟩ => ⟨⟨xs, xs[i], s2.seq hS, by simp [hi]⟩, ?_⟩) (fun ys H2 ⟨s2, _⟩ => ⟨xs, s2.seq hS, Nat.le_refl _⟩) ?_ ?_
  · subst e
    rw [List.length_map, List.length_take]
    omega
  · rintro i ys H2 x H' hi ⟨s2, rfl⟩ ⟨rfl, hx⟩
    have hx' := hx xs (s2.seq hS)
    refine hs x (List.mem_of_getElem? hx') _ s2 _ fun H3 s3 => ⟨s2.trans s3, ?_⟩
    rw [List.take_add_one, hx']
    simp
  · rintro ys H2 ⟨s2, rfl⟩ p hp
    rw [List.take_length]
    exact hd H2 s2 p hp
theorem comp_tup {K : PySem.W.Frag} {a : Addr} {xs : List V} {g : TG} {te : TE} {own : Nat} {fr : List Nat} {σ : St} {H : Hp} {Q : VK} (f : V → V) (hS : SqT K H a xs) (hz : xs.length < sizeLine)
    (hs : ∀ x, x ∈ xs → ∀ H2, Same H H2 → ∀ R : VK, (∀ H3, Same H2 H3 → R (f x) H3) → g x (seen own fr σ) H2 fun σ2 H3 => te σ2 H3 R) (hd : ∀ H2, Same H H2 → ∀ p, H2 p = none → Q (.ref p) (upd H2 p (.lst (xs.map f)))) : CompGo (Itt K a) g tAll te own fr σ Q H := by
  refine comp_by (n := xs.length) (fun i ys H2 => Same H H2 ∧ ys = (xs.take i).map f) ⟨Same.refl H, by simp⟩ (fun i ys H2 hi ⟨s2, e⟩ => ⟨⟨xs, xs[i], s2.tup hS, by simp [hi]⟩, ?_⟩) (fun ys H2 ⟨s2, _⟩ => ⟨xs, s2.tup hS, Nat.le_refl _⟩) ?_ ?_
  · subst e
    rw [List.length_map, List.length_take]
    omega
  · rintro i ys H2 x H' hi ⟨s2, rfl⟩ ⟨rfl, hx⟩
    have hx' := hx xs (s2.tup hS)
    refine hs x (List.mem_of_getElem? hx') _ s2 _ fun H3 s3 => ⟨s2.trans s3, ?_⟩
    rw [List.take_add_one, hx']
    simp
  · rintro ys H2 ⟨s2, rfl⟩ p hp
    rw [List.take_length]
    exact hd H2 s2 p hp

/-- [.. for x in xs] over a list, the answers being ws -/
theorem comp_listW {K : PySem.W.Frag} {a : Addr} {xs : List V} {g : TG} {te : TE} {own : Nat} {fr : List Nat} {σ : St} {H : Hp} {Q : VK} (ws : List V) (hw : ws.length = xs.length) (hS : SqL K H a xs) (hz : xs.length < sizeLine)
    (hs : ∀ (i : Nat) x y, xs[i]? = some x → ws[i]? = some y → ∀ H2, Same H H2 → ∀ R : VK, (∀ H3, Same H2 H3 → R y H3) → g x (seen own fr σ) H2 fun σ2 H3 => te σ2 H3 R) (hd : ∀ H2, Same H H2 → ∀ p, H2 p = none → Q (.ref p) (upd H2 p (.lst ws))) :
    CompGo (Itl K a) g tAll te own fr σ Q H := by
  refine comp_by (n := xs.length) (fun i ys H2 => Same H H2 ∧ ys = ws.take i) ⟨Same.refl H, by simp⟩ (fun i ys H2 hi ⟨s2, e⟩ => ⟨⟨xs, xs[i], s2.seq hS, by simp [hi]⟩, ?_⟩) (fun ys H2 ⟨s2, _⟩ => ⟨xs, s2.seq hS, Nat.le_refl _⟩) ?_ ?_
  · subst e
    rw [List.length_take]
    omega
  · rintro i ys H2 x H' hi ⟨s2, rfl⟩ ⟨rfl, hx⟩
    have hx' := hx xs (s2.seq hS)
    have hiw : i < ws.length := by omega
    have hy : ws[i]? = some ws[i] := by simp [hiw]
    refine hs i x ws[i] hx' hy _ s2 _ fun H3 s3 => ⟨s2.trans s3, ?_⟩
    rw [List.take_add_one, hy]
    rfl
  · rintro ys H2 ⟨s2, rfl⟩ p hp
    rw [List.take_of_length_le (by omega)]
    exact hd H2 s2 p hp

/-! ### rules that speak of the text's own objects, inside a comprehension -/
section
variable {X : Cx} {K : PySem.W.Frag}
theorem call_isiK (hK : X.K = K) : CallR X (.builtin "isinstance") (fun xs H Q => ∃ x T t b, xs = [x, .ty T] ∧ TyOf K H x t ∧ PySem.W.kitOne K t (.type T) = some b ∧ Q (.bl b) H) := by subst hK; exact call_isi
theorem call_lenK (hK : X.K = K) : CallR X (.builtin "len") (fun xs H Q => ∃ p ys, xs = [.ref p] ∧ (SqL K H p ys ∨ SqT K H p ys) ∧ Q (.int ys.length) H) := by subst hK; exact call_len_seq
theorem ix_listK (hK : X.K = K) : IxR X (rIxL K) := by subst hK; exact ix_list
theorem ix_tupK (hK : X.K = K) : IxR X (rIxT K) := by subst hK; exact ix_tup
theorem call_allK (hK : X.K = K) (hc : X.calm = true) : CallR X (.builtin "all") (fun xs H Q => ∃ (p : Addr) (bs : List Bool), xs = [.ref p] ∧ SqL K H p (bs.map V.bl) ∧ Q (.bl (bs.all id)) H) := by subst hK; exact call_all hc
theorem call_anyK (hK : X.K = K) (hc : X.calm = true) : CallR X (.builtin "any") (fun xs H Q => ∃ (p : Addr) (bs : List Bool), xs = [.ref p] ∧ SqL K H p (bs.map V.bl) ∧ Q (.bl (bs.any id)) H) := by subst hK; exact call_any hc
theorem op_inK (hK : X.K = K) : OpR X (compareOp .In) (rIn K false) := by subst hK; exact op_in_seq
theorem op_notInK (hK : X.K = K) : OpR X (compareOp .NotIn) (rIn K true) := by subst hK; exact op_notIn_seq
theorem pi_listK {tg l : Expr} {tl : TE} (hK : X.K = K) (hl : PE X l tl) : PI X tg l (iList K tl) := by subst hK; exact pi_list hl
theorem pi_tupK {tg l : Expr} {tl : TE} (hK : X.K = K) (hl : PE X l tl) : PI X tg l (iTup K tl) := by subst hK; exact pi_tup hl
end

/-! ### a list of clauses: a list of tuples of whole numbers -/
def TupsAt (H : Hp) : List V → List (List Int) → Prop := Paired fun v c => ∃ b, v = V.ref b ∧ H b = some (.tup (c.map V.int))
def ClsAt (K : PySem.W.Frag) (H : Hp) (a : Addr) (cs : List (List Int)) : Prop := ∃ vs, SqL K H a vs ∧ TupsAt H vs cs
theorem TupsAt.same {H H' : Hp} (s : Same H H') : ∀ {vs : List V} {cs : List (List Int)}, TupsAt H vs cs → TupsAt H' vs cs
  | _, _, .nil => .nil
  | _, _, .cons ⟨b, e, h⟩ t => .cons ⟨b, e, s b _ h⟩ (TupsAt.same s t)
theorem ClsAt.same {K : PySem.W.Frag} {H H' : Hp} {a : Addr} {cs : List (List Int)} (s : Same H H') (h : ClsAt K H a cs) : ClsAt K H' a cs := by
  obtain ⟨vs, h1, h2⟩ := h
  exact ⟨vs, s.seq h1, h2.same s⟩
theorem TupsAt.snoc {H : Hp} {vs : List V} {cs : List (List Int)} {b : Addr} {c : List Int} (h : TupsAt H vs cs) (hb : H b = some (.tup (c.map V.int))) : TupsAt H (vs ++ [.ref b]) (cs ++ [c]) := Paired.snoc h ⟨b, rfl, hb⟩
theorem TupsAt.getX {H : Hp} : ∀ {vs : List V} {cs : List (List Int)} {i : Nat} {v : V}, TupsAt H vs cs → vs[i]? = some v → ∃ c b, cs[i]? = some c ∧ v = .ref b ∧ H b = some (.tup (c.map V.int))
  | _, _, _, _, .nil, h => by simp at h
  | _, _, 0, _, .cons ⟨b, e, h⟩ _, hi => by
    simp at hi
    subst hi
    exact ⟨_, b, rfl, e, h⟩
  | _, _, i + 1, v, .cons _ t, hi => by
    obtain ⟨c, b, h1, h2, h3⟩ := TupsAt.getX (i := i) t (by simpa using hi)
    exact ⟨c, b, by simpa using h1, h2, h3⟩
theorem TupsAt.get {K : PySem.W.Frag} {H : Hp} {vs : List V} {cs : List (List Int)} {i : Nat} {v : V} (h : TupsAt H vs cs) (hv : vs[i]? = some v) : ∃ c b, cs[i]? = some c ∧ v = .ref b ∧ SqT K H b (c.map V.int) := by
  obtain ⟨c, b, h1, h2, h3⟩ := h.getX hv
  exact ⟨c, b, h1, h2, SqT.of h3⟩
theorem SqT.upd_lst {K : PySem.W.Frag} {H : Hp} {a b : Addr} {xs : List V} {ys : List V} {o : HO} (h : SqT K H b xs) (ha : H a = some (.lst ys)) : SqT K (upd H a o) b xs := by
  rcases h with (h | ⟨ob, h⟩) | h
  · exact .inl (.inl (by rw [upd_ne (ne_of h ha (by intro z; cases z))]; exact h))
  · exact .inl (.inr ⟨ob, by rw [upd_ne (ne_of h ha (by intro z; cases z))]; exact h⟩)
  · exact .inr h
theorem TupsAt.upd_lst {H : Hp} {a : Addr} {ys : List V} {o : HO} (ha : H a = some (.lst ys)) : ∀ {vs : List V} {cs : List (List Int)}, TupsAt H vs cs → TupsAt (upd H a o) vs cs
  | _, _, .nil => .nil
  | _, _, .cons ⟨b, e, h⟩ t => .cons ⟨b, e, by rw [upd_ne (ne_of h ha (by intro z; cases z))]; exact h⟩ (TupsAt.upd_lst ha t)
/-- what was not there at first may be written -/
theorem Same.upd {H H' : Hp} {a : Addr} {o : HO} (s : Same H H') (h : H a = none) : Same H (L2.upd H' a o) := fun b u q => by
  rw [upd_ne (ne_of_none q h)]
  exact s b u q
theorem TupsAt.len {H : Hp} {vs : List V} {cs : List (List Int)} (h : TupsAt H vs cs) : vs.length = cs.length := Paired.length h
/-- two lists of the same clauses -/
theorem cls_eq {K : PySem.W.Frag} {H : Hp} {a b : Addr} {cs : List (List Int)} (ha : ClsAt K H a cs) (hb : ClsAt K H b cs) (n : Nat) : EqD K H (n + 2) (.ref a) (.ref b) := by
  obtain ⟨vs, h1, h2⟩ := ha
  obtain ⟨ws, h3, h4⟩ := hb
  refine .lst h1 h3 (by rw [h2.len, h4.len]) fun j x y hx hy => ?_
  obtain ⟨c, b1, e1, rfl, t1⟩ := h2.get hx
  obtain ⟨c', b2, e2, rfl, t2⟩ := h4.get hy
  rw [e1] at e2
  cases e2
  refine .tup t1 t2 rfl fun k x y hx hy => ?_
  rw [hx] at hy
  cases hy
  rw [List.getElem?_map] at hx
  cases hk : c[k]? with
  | none => rw [hk] at hx; cases hx
  | some i => rw [hk] at hx; cases hx; exact .sc rfl
end L2

set_option Elab.async false
set_option linter.all false
set_option maxRecDepth 100000
set_option maxHeartbeats 4000000
namespace L3
open PySem PySem.Spec PyProof.Rows L2

abbrev St := L2.St
/-! ### data: values without addresses -/
inductive D where
  | non | bl (b : Bool) | int (i : Int) | str (cs : List Nat) | ty (n : String)
  | tup (xs : List D) | lst (xs : List D) | dct (kvs : List (Key × D))
instance : Inhabited D := ⟨.non⟩

/-- the frozen heap G bears the datum at v -/
inductive Rep (K : PySem.W.Frag) (G : Hp) : V → D → Prop
  | non : Rep K G .non .non
  | bl (b : Bool) : Rep K G (.bl b) (.bl b)
  | int (i : Int) : Rep K G (.int i) (.int i)
  | str (cs : List Nat) : Rep K G (.str (tx cs)) (.str cs)
  | ty (n : String) : Rep K G (.ty n) (.ty n)
  | tup {a : Addr} {xs : List V} {ds : List D} (h : SqT K G a xs) (hl : xs.length = ds.length) (hr : ∀ (j : Nat) x d, xs[j]? = some x → ds[j]? = some d → Rep K G x d) : Rep K G (.ref a) (.tup ds)
  | lst {a : Addr} {xs : List V} {ds : List D} (h : SqL K G a xs) (hl : xs.length = ds.length) (hr : ∀ (j : Nat) x d, xs[j]? = some x → ds[j]? = some d → Rep K G x d) : Rep K G (.ref a) (.lst ds)
  | dct {a : Addr} {kvs : List (Key × V)} {es : List (Key × D)} (h : G a = some (.dK kvs)) (hk : kvs.map (·.1) = es.map (·.1)) (hr : ∀ (j : Nat) p e, kvs[j]? = some p → es[j]? = some e → Rep K G p.2 e.2) : Rep K G (.ref a) (.dct es)
theorem Rd.same {G G' : Hp} {a : Addr} {u : HO} (s : Same G G') (h : Rd G a u) : Rd G' a u := by
  rcases h with h | ⟨o, h⟩
  · exact .inl (s _ _ h)
  · exact .inr ⟨o, s _ _ h⟩
theorem Rep.same {K : PySem.W.Frag} {G G' : Hp} (s : Same G G') {v : V} {d : D} (h : Rep K G v d) : Rep K G' v d := by
  induction h with
  | non => exact .non
  | bl b => exact .bl b
  | int i => exact .int i
  | str cs => exact .str cs
  | ty n => exact .ty n
  | tup h hl _ ih => exact .tup (s.tup h) hl ih
  | lst h hl _ ih => exact .lst (s.seq h) hl ih
  | dct h hk _ ih => exact .dct (s _ _ h) hk ih
structure RepL (K : PySem.W.Frag) (G : Hp) (xs : List V) (ds : List D) : Prop where
  len : xs.length = ds.length
  get : ∀ (j : Nat) x d, xs[j]? = some x → ds[j]? = some d → Rep K G x d
structure RepKV (K : PySem.W.Frag) (G : Hp) (kvs : List (Key × V)) (es : List (Key × D)) : Prop where
  keys : kvs.map (·.1) = es.map (·.1)
  get : ∀ (j : Nat) p e, kvs[j]? = some p → es[j]? = some e → Rep K G p.2 e.2
section
variable {K : PySem.W.Frag} {G G' H : Hp}
theorem RepL.same (s : Same G G') {xs : List V} {ds : List D} (h : RepL K G xs ds) : RepL K G' xs ds := ⟨h.len, fun j x d a b => (h.get j x d a b).same s⟩
theorem RepKV.same (s : Same G G') {kvs : List (Key × V)} {es : List (Key × D)} (h : RepKV K G kvs es) : RepKV K G' kvs es := ⟨h.keys, fun j x d a b => (h.get j x d a b).same s⟩
theorem RepL.nil : RepL K G [] [] := ⟨rfl, fun j x d h => by simp at h⟩
theorem RepL.cons {x : V} {d : D} {xs : List V} {ds : List D} (h : Rep K G x d) (r : RepL K G xs ds) : RepL K G (x :: xs) (d :: ds) := by
  refine ⟨by simp [r.len], fun j y e a b => ?_⟩
  cases j with
  | zero => simp at a b; subst a b; exact h
  | succ j => exact r.get j y e (by simpa using a) (by simpa using b)
theorem RepL.head {x : V} {d : D} {xs : List V} {ds : List D} (r : RepL K G (x :: xs) (d :: ds)) : Rep K G x d := r.get 0 x d rfl rfl
theorem RepL.tail {x : V} {d : D} {xs : List V} {ds : List D} (r : RepL K G (x :: xs) (d :: ds)) : RepL K G xs ds := ⟨by have := r.len; simpa using this, fun j y e a b => r.get (j + 1) y e (by simpa using a) (by simpa using b)⟩
theorem RepL.append {xs ys : List V} {ds es : List D} (h : RepL K G xs ds) (r : RepL K G ys es) : RepL K G (xs ++ ys) (ds ++ es) := by
  refine ⟨by simp [h.len, r.len], fun j x d a b => ?_⟩
  by_cases hj : j < xs.length
  · rw [List.getElem?_append_left hj] at a
    rw [List.getElem?_append_left (by rw [← h.len]; exact hj)] at b
    exact h.get j x d a b
  · rw [List.getElem?_append_right (by omega)] at a
    rw [List.getElem?_append_right (by rw [← h.len]; omega), ← h.len] at b
    exact r.get _ x d a b
theorem RepL.one {x : V} {d : D} (h : Rep K G x d) : RepL K G [x] [d] := .cons h .nil
theorem RepL.at {xs : List V} {ds : List D} (h : RepL K G xs ds) {j : Nat} {d : D} (e : ds[j]? = some d) : ∃ x, xs[j]? = some x ∧ Rep K G x d := by
  have hj : j < xs.length := by rw [h.len]; exact (List.getElem?_eq_some_iff.mp e).1
  exact ⟨xs[j], by simp [hj], h.get j _ d (by simp [hj]) e⟩
theorem RepL.atV {xs : List V} {ds : List D} (h : RepL K G xs ds) {j : Nat} {x : V} (e : xs[j]? = some x) : ∃ d, ds[j]? = some d ∧ Rep K G x d := by
  have hj : j < ds.length := by rw [← h.len]; exact (List.getElem?_eq_some_iff.mp e).1
  exact ⟨ds[j], by simp [hj], h.get j x _ e (by simp [hj])⟩
theorem RepL.take {xs : List V} {ds : List D} (h : RepL K G xs ds) (n : Nat) : RepL K G (xs.take n) (ds.take n) := by
  refine ⟨by simp [h.len], fun j x d a b => ?_⟩
  rw [List.getElem?_take] at a b
  by_cases hj : j < n
  · rw [if_pos hj] at a b; exact h.get j x d a b
  · rw [if_neg hj] at a; cases a
theorem RepL.drop {xs : List V} {ds : List D} (h : RepL K G xs ds) (n : Nat) : RepL K G (xs.drop n) (ds.drop n) := by
  refine ⟨by simp [h.len], fun j x d a b => ?_⟩
  rw [List.getElem?_drop] at a b
  exact h.get _ x d a b
theorem RepL.set {xs : List V} {ds : List D} {x : V} {d : D} (h : RepL K G xs ds) (hx : Rep K G x d) (n : Nat) : RepL K G (xs.set n x) (ds.set n d) := by
  refine ⟨by simp [h.len], fun j y e a b => ?_⟩
  by_cases hj : n = j
  · subst hj
    rw [List.getElem?_set_self' ] at a b
    cases hx1 : xs[n]? with
    | none => rw [hx1] at a; simp at a
    | some _ =>
      cases hd1 : ds[n]? with
      | none => rw [hd1] at b; simp at b
      | some _ =>
        rw [hx1] at a; rw [hd1] at b
        simp at a b
        subst a b
        exact hx
  · rw [List.getElem?_set_ne hj] at a b
    exact h.get j y e a b
theorem RepL.map_int (ns : List Int) : RepL K G (ns.map V.int) (ns.map D.int) := by
  refine ⟨by simp, fun j x d a b => ?_⟩
  rw [List.getElem?_map] at a b
  cases h : ns[j]? with
  | none => rw [h] at a; cases a
  | some n => rw [h] at a b; cases a; cases b; exact .int n
theorem RepL.map_bl (ns : List Bool) : RepL K G (ns.map V.bl) (ns.map D.bl) := by
  refine ⟨by simp, fun j x d a b => ?_⟩
  rw [List.getElem?_map] at a b
  cases h : ns[j]? with
  | none => rw [h] at a; cases a
  | some n => rw [h] at a b; cases a; cases b; exact .bl n
theorem RepL.map_str (ns : List (List Nat)) : RepL K G (ns.map fun q => V.str (tx q)) (ns.map D.str) := by
  refine ⟨by simp, fun j x d a b => ?_⟩
  rw [List.getElem?_map] at a b
  cases h : ns[j]? with
  | none => rw [h] at a; cases a
  | some n => rw [h] at a b; cases a; cases b; exact .str n
end

/-! ### what a frame knows of its names -/
/-- the datum of a name: shared, or the name's own (l: lent by the caller) -/
inductive C where
  | sh (d : D) | ow (l : Bool) (d : D)
abbrev Env' := List (Option C)
/-- a value on its way: shared, that of a slot, or one of its own -/
inductive W where
  | val (d : D) | slot (i : Nat) | own (d : D)
/-- the entry: its heap, what of it is kept (all but what is lent), what of it is frozen -/
structure Bs where
  K : PySem.W.Frag
  H0 : Hp
  HK : Hp
  G0 : Hp
  L : Nat → Option Addr
/-- where a slot's own object comes from: it was lent, or it is new -/
def Lnt (B : Bs) (i : Nat) : Bool → Addr → Prop
  | true, p => B.L i = some p
  | false, p => B.H0 p = none
def OwnAt (K : PySem.W.Frag) (G H : Hp) (p : Addr) : D → Prop
  | .lst ds => ∃ xs, H p = some (.lst xs) ∧ RepL K G xs ds
  | .dct es => ∃ kvs, H p = some (.dK kvs) ∧ RepKV K G kvs es
  | _ => False
theorem OwnAt.some {K : PySem.W.Frag} {G H : Hp} {p : Addr} {d : D} (h : OwnAt K G H p d) : ∃ o, H p = some o := by
  cases d with
  | lst ds => obtain ⟨xs, e, _⟩ := h; exact ⟨_, e⟩
  | dct es => obtain ⟨xs, e, _⟩ := h; exact ⟨_, e⟩
  | _ => exact (show False from h).elim
theorem OwnAt.same {K : PySem.W.Frag} {G G' H H' : Hp} {p : Addr} {d : D} (s : Same G G') (e : H' p = H p) (h : OwnAt K G H p d) : OwnAt K G' H' p d := by
  cases d with
  | lst ds => obtain ⟨xs, q, r⟩ := h; exact ⟨xs, by rw [e]; exact q, r.same s⟩
  | dct es => obtain ⟨xs, q, r⟩ := h; exact ⟨xs, by rw [e]; exact q, r.same s⟩
  | _ => exact (show False from h).elim
structure RS (B : Bs) (G H : Hp) (σ : St) (ρ : Env') : Prop where
  hk : Same B.HK B.H0
  keep : Same B.HK H
  g0 : Same B.G0 G
  gH : Same G H
  gnew : ∀ p o, G p = some o → B.G0 p = some o ∨ B.H0 p = none
  dom : ∀ p, H p = none → B.H0 p = none
  len : σ.length = ρ.length
  sh : ∀ (i : Nat) d, ρ[i]? = some (some (.sh d)) → ∃ v, σ[i]? = some (some v) ∧ Rep B.K G v d
  ow : ∀ (i : Nat) l d, ρ[i]? = some (some (.ow l d)) → ∃ p, σ[i]? = some (some (.ref p)) ∧ G p = none ∧ B.HK p = none ∧ Lnt B i l p ∧ OwnAt B.K G H p d
  inj : ∀ (i j : Nat) l d k e p, ρ[i]? = some (some (.ow l d)) → ρ[j]? = some (some (.ow k e)) → σ[i]? = some (some (.ref p)) → σ[j]? = some (some (.ref p)) → i = j
def RepW (B : Bs) (G H : Hp) (σ : St) (ρ : Env') (v : V) : W → Prop
  | .val d => Rep B.K G v d
  | .slot i => σ[i]? = some (some v)
  | .own d => ∃ p, v = .ref p ∧ G p = none ∧ B.H0 p = none ∧ OwnAt B.K G H p d ∧ ∀ (i : Nat) l e, ρ[i]? = some (some (.ow l e)) → σ[i]? ≠ some (some (.ref p))
/-- a value as it can be read now -/
def RepT (K : PySem.W.Frag) (G H : Hp) (v : V) (d : D) : Prop := Rep K G v d ∨ ∃ p, v = .ref p ∧ OwnAt K G H p d
section
variable {K : PySem.W.Frag} {G H : Hp} {v : V}
theorem RepT.int {i : Int} (h : RepT K G H v (.int i)) : v = .int i := by
  rcases h with h | ⟨p, _, h⟩
  · cases h; rfl
  · exact (show False from h).elim
theorem RepT.bl {b : Bool} (h : RepT K G H v (.bl b)) : v = .bl b := by
  rcases h with h | ⟨p, _, h⟩
  · cases h; rfl
  · exact (show False from h).elim
theorem RepT.non (h : RepT K G H v .non) : v = .non := by
  rcases h with h | ⟨p, _, h⟩
  · cases h; rfl
  · exact (show False from h).elim
theorem RepT.ty {n : String} (h : RepT K G H v (.ty n)) : v = .ty n := by
  rcases h with h | ⟨p, _, h⟩
  · cases h; rfl
  · exact (show False from h).elim
theorem RepT.str {cs : List Nat} (h : RepT K G H v (.str cs)) : v = .str (tx cs) := by
  rcases h with h | ⟨p, _, h⟩
  · cases h; rfl
  · exact (show False from h).elim
theorem RepT.tup {ds : List D} (g : Same G H) (h : RepT K G H v (.tup ds)) : ∃ a xs, v = .ref a ∧ SqT K H a xs ∧ RepL K G xs ds := by
  rcases h with h | ⟨p, _, h⟩
  · cases h with
    | tup h hl hr => exact ⟨_, _, rfl, g.tup h, hl, hr⟩
  · exact (show False from h).elim
theorem RepT.lst {ds : List D} (g : Same G H) (h : RepT K G H v (.lst ds)) : ∃ a xs, v = .ref a ∧ SqL K H a xs ∧ RepL K G xs ds := by
  rcases h with h | ⟨p, rfl, xs, e, r⟩
  · cases h with
    | lst h hl hr => exact ⟨_, _, rfl, g.seq h, hl, hr⟩
  · exact ⟨p, xs, rfl, SqL.of e, r⟩
theorem RepT.dct {es : List (Key × D)} (g : Same G H) (h : RepT K G H v (.dct es)) : ∃ a kvs, v = .ref a ∧ H a = some (.dK kvs) ∧ RepKV K G kvs es := by
  rcases h with h | ⟨p, rfl, xs, e, r⟩
  · cases h with
    | dct h hk hr => exact ⟨_, _, rfl, g _ _ h, hk, hr⟩
  · exact ⟨p, xs, rfl, e, r⟩
end
def getD (w : W) (ρ : Env') : Option D := match w with
  | .val d => some d
  | .own d => some d
  | .slot i => match ρ[i]? with
    | some (some (.sh d)) => some d
    | some (some (.ow _ d)) => some d
    | _ => none
section
variable {B : Bs} {G G' H H' : Hp} {σ : St} {ρ : Env'} {v : V} {w : W} {d : D}
theorem RepW.get (R : RS B G H σ ρ) (h : RepW B G H σ ρ v w) (e : getD w ρ = some d) : RepT B.K G H v d := by
  cases w with
  | val d' => cases e; exact .inl h
  | own d' =>
    cases e
    obtain ⟨p, rfl, _, _, o, _⟩ := h
    exact .inr ⟨p, rfl, o⟩
  | slot i =>
    have h' : σ[i]? = some (some v) := h
    unfold getD at e
    simp only [] at e
    split at e
    · rename_i d' q
      cases e
      obtain ⟨v', q1, r⟩ := R.sh i _ q
      rw [h'] at q1
      cases q1
      exact .inl r
    · rename_i l d' q
      cases e
      obtain ⟨p, q1, _, _, _, o⟩ := R.ow i _ _ q
      rw [h'] at q1
      cases q1
      exact .inr ⟨p, rfl, o⟩
    · cases e
/-- what is on its way stays, but one's own -/
theorem RepW.same {ρ' : Env'} (s : Same G G') (h : RepW B G H σ ρ v w) (hw : ∀ d, w ≠ .own d) : RepW B G' H' σ ρ' v w := by
  cases w with
  | val d => exact Rep.same s h
  | slot i => exact h
  | own d => exact absurd rfl (hw d)
/-- one's own becomes shared -/
theorem RS.frz {p : Addr} {d : D} (R : RS B G H σ ρ) (g : G p = none) (h0 : B.H0 p = none) (o : OwnAt B.K G H p d) (ne : ∀ (i : Nat) l e, ρ[i]? = some (some (.ow l e)) → σ[i]? ≠ some (some (.ref p))) :
    ∃ G', Same G G' ∧ RS B G' H σ ρ ∧ Rep B.K G' (.ref p) d := by
  obtain ⟨ob, hob⟩ := o.some
  have s : Same G (upd G p ob) := same_new g ob
  refine ⟨upd G p ob, s, ⟨R.hk, R.keep, R.g0.trans s, ?_, ?_, R.dom, R.len, ?_, ?_, R.inj⟩, ?_⟩
  · intro b u q
    by_cases e : b = p
    · subst e; rw [upd_same] at q; cases q; exact hob
    · rw [upd_ne e] at q; exact R.gH b u q
  · intro b u q
    by_cases e : b = p
    · subst e; exact .inr h0
    · rw [upd_ne e] at q; exact R.gnew b u q
  · intro i d' q
    obtain ⟨v, q1, r⟩ := R.sh i d' q
    exact ⟨v, q1, r.same s⟩
  · intro i l d' q
    obtain ⟨p', q1, q2, q3, q4, q5⟩ := R.ow i l d' q
    have e : p' ≠ p := fun z => ne i l d' q (by rw [q1, z])
    exact ⟨p', q1, by rw [upd_ne e]; exact q2, q3, q4, q5.same s rfl⟩
  · cases d with
    | lst ds =>
      obtain ⟨xs, e, r⟩ := o
      rw [e] at hob
      cases hob
      have r' := r.same s
      exact .lst (SqL.of upd_same) r'.len r'.get
    | dct es =>
      obtain ⟨xs, e, r⟩ := o
      rw [e] at hob
      cases hob
      have r' := r.same s
      exact .dct upd_same r'.keys r'.get
    | _ => exact (show False from o).elim
end

/-! ### the order of steps: a state, an end or an exception -/
structure Exn where
  cls : Str
  fs : List (Str × D)
inductive R' (α : Type) where
  | ok (a : α) (ρ : Env') | ex (x : Exn) (ρ : Env')
abbrev M (α : Type) := Env' → Option (R' α)
def M.pure {α : Type} (a : α) : M α := fun ρ => some (.ok a ρ)
def M.bind {α β : Type} (m : M α) (f : α → M β) : M β := fun ρ => match m ρ with
  | none => none
  | some (.ex x ρ') => some (.ex x ρ')
  | some (.ok a ρ') => f a ρ'
theorem M.bind_ok {α β : Type} {m : M α} {f : α → M β} {ρ ρ' : Env'} {a : α} (h : m ρ = some (.ok a ρ')) : M.bind m f ρ = f a ρ' := by unfold M.bind; rw [h]
theorem M.bind_ex {α β : Type} {m : M α} {f : α → M β} {ρ ρ' : Env'} {x : Exn} (h : m ρ = some (.ex x ρ')) : M.bind m f ρ = some (.ex x ρ') := by unfold M.bind; rw [h]
theorem M.bind_none {α β : Type} {m : M α} {f : α → M β} {ρ : Env'} (h : m ρ = none) : M.bind m f ρ = none := by unfold M.bind; rw [h]
/-- a slot's own datum becomes shared -/
def leak (w : W) : M D := fun ρ => match w with
  | .val d => some (.ok d ρ)
  | .own d => some (.ok d ρ)
  | .slot i => match ρ[i]? with
    | some (some (.sh d)) => some (.ok d ρ)
    | some (some (.ow false d)) => some (.ok d (ρ.set i (some (.sh d))))
    | _ => none
theorem leak_ok {w : W} {ρ : Env'} {r : R' D} (h : leak w ρ = some r) : ∃ d ρ', r = .ok d ρ' := by
  unfold leak at h
  cases w with
  | val d => cases h; exact ⟨_, _, rfl⟩
  | own d => cases h; exact ⟨_, _, rfl⟩
  | slot i =>
    simp only [] at h
    split at h
    · cases h; exact ⟨_, _, rfl⟩
    · cases h; exact ⟨_, _, rfl⟩
    · cases h
section
variable {B : Bs} {G G' H H' : Hp} {σ : St} {ρ ρ' : Env'} {v : V} {w : W} {d : D}
theorem RepW.leak (R : RS B G H σ ρ) (h : RepW B G H σ ρ v w) (e : L3.leak w ρ = some (.ok d ρ')) : ∃ G', Same G G' ∧ RS B G' H σ ρ' ∧ Rep B.K G' v d := by
  unfold L3.leak at e
  cases w with
  | val d' => cases e; exact ⟨G, Same.refl G, R, h⟩
  | own d' =>
    cases e
    obtain ⟨p, rfl, g, h0, o, ne⟩ := h
    exact R.frz g h0 o ne
  | slot i =>
    have h' : σ[i]? = some (some v) := h
    simp only [] at e
    split at e
    · rename_i d' q
      cases e
      obtain ⟨v', q1, r⟩ := R.sh i _ q
      rw [h'] at q1
      cases q1
      exact ⟨G, Same.refl G, R, r⟩
    · rename_i d' q
      cases e
      obtain ⟨p, q1, q2, q3, q4, o⟩ := R.ow i _ _ q
      have hi : i < ρ.length := (List.getElem?_eq_some_iff.mp q).1
      rw [h'] at q1
      cases q1
      -- first the slot is forgotten, then its object frozen, then the slot is told again
      have R0 : RS B G H σ (ρ.set i none) := by
        refine ⟨R.hk, R.keep, R.g0, R.gH, R.gnew, R.dom, by simp [R.len], fun j d' q' => ?_, fun j l d' q' => ?_, fun j k l d' l' e' p' a b => ?_⟩
        · by_cases z : i = j
          · subst z; rw [List.getElem?_set_self hi] at q'; cases q'
          · rw [List.getElem?_set_ne z] at q'; exact R.sh j d' q'
        · by_cases z : i = j
          · subst z; rw [List.getElem?_set_self hi] at q'; cases q'
          · rw [List.getElem?_set_ne z] at q'; exact R.ow j l d' q'
        · by_cases z : i = j
          · subst z; rw [List.getElem?_set_self hi] at a; cases a
          · by_cases z' : i = k
            · subst z'; rw [List.getElem?_set_self hi] at b; cases b
            · rw [List.getElem?_set_ne z] at a
              rw [List.getElem?_set_ne z'] at b
              exact R.inj j k l d' l' e' p' a b
      obtain ⟨G', s, R', r⟩ := R0.frz q2 q4 o fun j l e' q' z => by
        by_cases zz : i = j
        · subst zz; rw [List.getElem?_set_self hi] at q'; cases q'
        · rw [List.getElem?_set_ne zz] at q'
          exact zz (R.inj i j _ _ _ _ p q q' h' z)
      refine ⟨G', s, ⟨R'.hk, R'.keep, R'.g0, R'.gH, R'.gnew, R'.dom, by simp [R.len], fun j d' q' => ?_, fun j l d' q' => ?_, fun j k l d' l' e' p' a b => ?_⟩, r⟩
      · by_cases z : i = j
        · subst z
          rw [List.getElem?_set_self hi] at q'
          cases q'
          exact ⟨_, h', r⟩
        · rw [List.getElem?_set_ne z] at q'
          exact R'.sh j d' (by rw [List.getElem?_set_ne z]; exact q')
      · by_cases z : i = j
        · subst z; rw [List.getElem?_set_self hi] at q'; cases q'
        · rw [List.getElem?_set_ne z] at q'
          exact R'.ow j l d' (by rw [List.getElem?_set_ne z]; exact q')
      · by_cases z : i = j
        · subst z; rw [List.getElem?_set_self hi] at a; cases a
        · by_cases z' : i = k
          · subst z'; rw [List.getElem?_set_self hi] at b; cases b
          · rw [List.getElem?_set_ne z] at a
            rw [List.getElem?_set_ne z'] at b
            exact R.inj j k l d' l' e' p' a b
    · cases e
/-- a new tuple -/
theorem RS.newTup {p : Addr} {xs : List V} {ds : List D} (R : RS B G H σ ρ) (hp : H p = none) (r : RepL B.K G xs ds) : ∃ G', Same G G' ∧ RS B G' (upd H p (.tup xs)) σ ρ ∧ Rep B.K G' (.ref p) (.tup ds) := by
  have g : G p = none := R.gH.free hp
  have s : Same G (upd G p (.tup xs)) := same_new g _
  have sH : Same H (upd H p (.tup xs)) := same_new hp _
  refine ⟨upd G p (.tup xs), s, ⟨R.hk, R.keep.trans sH, R.g0.trans s, ?_, ?_, ?_, R.len, ?_, ?_, R.inj⟩, .tup (SqT.of upd_same) r.len fun j x d a b => (r.get j x d a b).same s⟩
  · intro b u q
    by_cases e : b = p
    · subst e; rw [upd_same] at q ⊢; exact q
    · rw [upd_ne e] at q ⊢; exact R.gH b u q
  · intro b u q
    by_cases e : b = p
    · subst e; exact .inr (R.dom _ hp)
    · rw [upd_ne e] at q; exact R.gnew b u q
  · intro b q
    by_cases e : b = p
    · subst e; exact R.dom _ hp
    · rw [upd_ne e] at q; exact R.dom b q
  · intro i d' q
    obtain ⟨v, q1, q2⟩ := R.sh i d' q
    exact ⟨v, q1, q2.same s⟩
  · intro i l d' q
    obtain ⟨p', q1, q2, q3, q4, q5⟩ := R.ow i l d' q
    obtain ⟨ob, hob⟩ := q5.some
    have e : p' ≠ p := ne_of_none hob hp
    exact ⟨p', q1, by rw [upd_ne e]; exact q2, q3, q4, q5.same s (upd_ne e)⟩
theorem RS.heap {p : Addr} {o : HO} (R : RS B G H σ ρ) (hp : H p = none) : RS B G (upd H p o) σ ρ := by
  have sH : Same H (upd H p o) := same_new hp _
  refine ⟨R.hk, R.keep.trans sH, R.g0, R.gH.trans sH, R.gnew, ?_, R.len, R.sh, ?_, R.inj⟩
  · intro b q
    by_cases e : b = p
    · subst e; exact R.dom _ hp
    · rw [upd_ne e] at q; exact R.dom b q
  · intro i l d' q
    obtain ⟨p', q1, q2, q3, q4, q5⟩ := R.ow i l d' q
    obtain ⟨ob, hob⟩ := q5.some
    have e : p' ≠ p := ne_of_none hob hp
    exact ⟨p', q1, q2, q3, q4, q5.same (Same.refl G) (upd_ne e)⟩
theorem RS.newOwn {p : Addr} {o : HO} (R : RS B G H σ ρ) (hp : H p = none) (h : OwnAt B.K G (upd H p o) p d) : RS B G (upd H p o) σ ρ ∧ RepW B G (upd H p o) σ ρ (.ref p) (.own d) := by
  refine ⟨R.heap hp, p, rfl, R.gH.free hp, R.dom _ hp, h, fun i l e q z => ?_⟩
  obtain ⟨p', q1, q2, q3, q4, q5⟩ := R.ow i l e q
  obtain ⟨ob, hob⟩ := q5.some
  rw [q1] at z
  cases z
  rw [hp] at hob
  cases hob
theorem RS.newLst {p : Addr} {xs : List V} {ds : List D} (R : RS B G H σ ρ) (hp : H p = none) (r : RepL B.K G xs ds) : RS B G (upd H p (.lst xs)) σ ρ ∧ RepW B G (upd H p (.lst xs)) σ ρ (.ref p) (.own (.lst ds)) :=
  R.newOwn hp ⟨xs, upd_same, r⟩
theorem RS.newDct {p : Addr} {kvs : List (Key × V)} {es : List (Key × D)} (R : RS B G H σ ρ) (hp : H p = none) (r : RepKV B.K G kvs es) : RS B G (upd H p (.dK kvs)) σ ρ ∧ RepW B G (upd H p (.dK kvs)) σ ρ (.ref p) (.own (.dct es)) :=
  R.newOwn hp ⟨kvs, upd_same, r⟩
/-- a slot's own object is changed -/
theorem RS.write {i : Nat} {l : Bool} {p : Addr} {d' : D} {o : HO} (R : RS B G H σ ρ) (hi : ρ[i]? = some (some (.ow l d))) (hs : σ[i]? = some (some (.ref p))) (h : OwnAt B.K G (upd H p o) p d') :
    RS B G (upd H p o) σ (ρ.set i (some (.ow l d'))) := by
  obtain ⟨p0, q1, q2, q3, q4, q5⟩ := R.ow i l d hi
  rw [hs] at q1
  cases q1
  have hil : i < ρ.length := (List.getElem?_eq_some_iff.mp hi).1
  refine ⟨R.hk, fun b u q => ?_, R.g0, fun b u q => ?_, R.gnew, fun b q => ?_, by simp [R.len], fun j e q => ?_, fun j k e q => ?_, fun j k a b c e p' x y => ?_⟩
  · rw [upd_ne (ne_of_none q q3)]; exact R.keep b u q
  · rw [upd_ne (ne_of_none q q2)]; exact R.gH b u q
  · by_cases z : b = p
    · subst z; rw [upd_same] at q; cases q
    · rw [upd_ne z] at q; exact R.dom b q
  · by_cases z : i = j
    · subst z; rw [List.getElem?_set_self hil] at q; cases q
    · rw [List.getElem?_set_ne z] at q; exact R.sh j e q
  · by_cases z : i = j
    · subst z
      rw [List.getElem?_set_self hil] at q
      cases q
      exact ⟨p, hs, q2, q3, q4, h⟩
    · rw [List.getElem?_set_ne z] at q
      obtain ⟨p', a1, a2, a3, a4, a5⟩ := R.ow j k e q
      have e' : p' ≠ p := fun zz => z (R.inj i j _ _ _ _ p hi q hs (by rw [a1, zz]))
      exact ⟨p', a1, a2, a3, a4, a5.same (Same.refl G) (upd_ne e')⟩
  · by_cases z : i = j
    · by_cases z' : i = k
      · intro _ _; omega
      · subst z
        rw [List.getElem?_set_ne z'] at y
        intro a1 a2
        exact R.inj i k l d c e p' hi y a1 a2
    · by_cases z' : i = k
      · subst z'
        rw [List.getElem?_set_ne z] at x
        intro a1 a2
        exact R.inj j i a b l d p' x hi a1 a2
      · rw [List.getElem?_set_ne z] at x
        rw [List.getElem?_set_ne z'] at y
        exact R.inj j k a b c e p' x y
end
end L3

set_option Elab.async false
set_option linter.all false
set_option maxRecDepth 100000
set_option maxHeartbeats 4000000
namespace L3
open PySem PySem.Spec PyProof.Rows L2

/-! ### the judgements over data -/
abbrev XP := Exn → St → Hp → Prop
/-- an exception of the program's own, as it lies (told in a later part) -/
def ExcAt (X : Cx) (x : Exn) (e : Value) (H : Hp) (s : Shared) : Prop := False
def XE (X : Cx) (ξ : XP) : Value → Shared → Prop := fun e s' => ∃ x pins σ H, Inv X pins σ H s' ∧ ExcAt X x e H s' ∧ ξ x σ H
abbrev rz (X : Cx) (ξ : XP) : Cx := X.wish (XE X ξ)
abbrev Rel (α β : Type) := Bs → Hp → Hp → St → Env' → β → α → Prop
def relW : Rel W V := fun B G H σ ρ v w => RepW B G H σ ρ v w
def relB : Rel Bool Bool := fun _ _ _ _ _ v b => v = b
def stb : W → Bool
  | .own _ => false
  | _ => true
def relWs : Rel (List W) (List V) := fun B G H σ ρ vs ws => Paired (fun v w => RepW B G H σ ρ v w ∧ stb w = true) vs ws
section
variable {α β α' β' : Type} {rel : Rel α β} {rel' : Rel α' β'} {B : Bs} {ξ : XP} {G H : Hp} {σ : St} {ρ : Env'}
def Post (rel : Rel α β) (B : Bs) (ξ : XP) (G : Hp) (σ : St) (Q : β → Hp → Prop) : R' α → Prop
  | .ok w ρ' => ∀ v G' H', Same G G' → RS B G' H' σ ρ' → rel B G' H' σ ρ' v w → Q v H'
  | .ex x ρ' => ∀ G' H', Same G G' → RS B G' H' σ ρ' → ξ x σ H'
def TDat (rel : Rel α β) (B : Bs) (ξ : XP) (G : Hp) (ρ : Env') (m : M α) (σ : St) (Q : β → Hp → Prop) : Prop := ∃ r, m ρ = some r ∧ Post rel B ξ G σ Q r
def TD (rel : Rel α β) (B : Bs) (ξ : XP) (m : M α) : St → Hp → (β → Hp → Prop) → Prop := fun σ H Q => ∃ G ρ, RS B G H σ ρ ∧ TDat rel B ξ G ρ m σ Q
theorem Post.same {Q : β → Hp → Prop} {r : R' α} {G' : Hp} (s : Same G G') (h : Post rel B ξ G σ Q r) : Post rel B ξ G' σ Q r := by
  cases r with
  | ok w ρ' => exact fun v G2 H2 s2 => h v G2 H2 (s.trans s2)
  | ex x ρ' => exact fun G2 H2 s2 => h G2 H2 (s.trans s2)
theorem TDat.mono {m : M α} {Q Q' : β → Hp → Prop} (h : ∀ v H, Q v H → Q' v H) (t : TDat rel B ξ G ρ m σ Q) : TDat rel B ξ G ρ m σ Q' := by
  obtain ⟨r, e, p⟩ := t
  refine ⟨r, e, ?_⟩
  cases r with
  | ok w ρ' => exact fun v G' H' s R q => h v H' (p v G' H' s R q)
  | ex x ρ' => exact p
theorem TD.mono {m : M α} {Q Q' : β → Hp → Prop} (h : ∀ v H, Q v H → Q' v H) (t : TD rel B ξ m σ H Q) : TD rel B ξ m σ H Q' := by
  obtain ⟨G, ρ, R, t⟩ := t
  exact ⟨G, ρ, R, t.mono h⟩
/-- first m, then what comes of its answer -/
theorem TD.bind {m : M α} {f : α → M α'} {Q : β' → Hp → Prop} (R : RS B G H σ ρ) (t : TDat rel' B ξ G ρ (M.bind m f) σ Q) :
    TD rel B ξ m σ H (fun v H1 => ∃ G1 ρ1 a, Same G G1 ∧ RS B G1 H1 σ ρ1 ∧ rel B G1 H1 σ ρ1 v a ∧ TDat rel' B ξ G1 ρ1 (f a) σ Q) := by
  obtain ⟨r, e, p⟩ := t
  cases hm : m ρ with
  | none => rw [M.bind_none hm] at e; cases e
  | some r1 =>
    cases r1 with
    | ex x ρ1 =>
      rw [M.bind_ex hm] at e
      cases e
      exact ⟨G, ρ, R, _, hm, p⟩
    | ok a ρ1 =>
      rw [M.bind_ok hm] at e
      exact ⟨G, ρ, R, _, hm, fun v G1 H1 s R1 q => ⟨G1, ρ1, a, s, R1, q, r, e, p.same s⟩⟩
/-- the same, with the run told -/
theorem TD.bindE {m : M α} {f : α → M α'} {Q : β' → Hp → Prop} (R : RS B G H σ ρ) (t : TDat rel' B ξ G ρ (M.bind m f) σ Q) :
    TD rel B ξ m σ H (fun v H1 => ∃ G1 ρ1 a, m ρ = some (.ok a ρ1) ∧ Same G G1 ∧ RS B G1 H1 σ ρ1 ∧ rel B G1 H1 σ ρ1 v a ∧ TDat rel' B ξ G1 ρ1 (f a) σ Q) := by
  obtain ⟨r, e, p⟩ := t
  cases hm : m ρ with
  | none => rw [M.bind_none hm] at e; cases e
  | some r1 =>
    cases r1 with
    | ex x ρ1 =>
      rw [M.bind_ex hm] at e
      cases e
      exact ⟨G, ρ, R, _, hm, p⟩
    | ok a ρ1 =>
      rw [M.bind_ok hm] at e
      exact ⟨G, ρ, R, _, hm, fun v G1 H1 s R1 q => ⟨G1, ρ1, a, rfl, s, R1, q, r, e, p.same s⟩⟩
/-- a step that does nothing to the world -/
theorem TDat.step {m : M α} {f : α → M α'} {Q : β' → Hp → Prop} (t : TDat rel' B ξ G ρ (M.bind m f) σ Q) (hm : ∀ r, m ρ = some r → ∃ a ρ', r = .ok a ρ') : ∃ a ρ', m ρ = some (.ok a ρ') ∧ TDat rel' B ξ G ρ' (f a) σ Q := by
  obtain ⟨r, e, p⟩ := t
  cases hr : m ρ with
  | none => rw [M.bind_none hr] at e; cases e
  | some r1 =>
    obtain ⟨a, ρ', rfl⟩ := hm r1 hr
    rw [M.bind_ok hr] at e
    exact ⟨a, ρ', rfl, r, e, p⟩
end
theorem _root_.L2.PE.imp {X : Cx} {e : Expr} {t t' : TE} (h : PE X e t) (i : ∀ σ H Q, t' σ H Q → t σ H Q) : PE X e t' := fun pins s σ H Q I q => h pins s σ H Q I (i σ H Q q)
theorem _root_.L2.PT.imp {X : Cx} {e : Expr} {t t' : TT} (h : PT X e t) (i : ∀ σ H Q, t' σ H Q → t σ H Q) : PT X e t' := fun pins s σ H Q I q => h pins s σ H Q I (i σ H Q q)
theorem _root_.L2.PW.imp {X : Cx} {e : Expr} {t t' : TT} (h : PW X e t) (i : ∀ σ H Q, t' σ H Q → t σ H Q) : PW X e t' := fun wh pins s σ H Q I q => h wh pins s σ H Q I (i σ H Q q)
theorem _root_.L2.PA.imp {X : Cx} {e : List Expr} {t t' : TA} (h : PA X e t) (i : ∀ σ H Q, t' σ H Q → t σ H Q) : PA X e t' := fun pos pins s σ H Q I q => h pos pins s σ H Q I (i σ H Q q)
theorem _root_.L2.PS.imp {X : Cx} {e : Stmt} {t t' : TS} (h : PS X e t) (i : ∀ D σ H, t' D σ H → t D σ H) : PS X e t' := fun pins s σ H D I q => h pins s σ H D I (i D σ H q)
theorem _root_.L2.PSs.imp {X : Cx} {e : List Stmt} {t t' : TS} (h : PSs X e t) (i : ∀ D σ H, t' D σ H → t D σ H) : PSs X e t' := fun pins s σ H D I q => h pins s σ H D I (i D σ H q)
structure PD (X : Cx) (B : Bs) (e : Expr) (m : M W) : Prop where
  ap : ∀ ξ, PE (rz X ξ) e (TD relW B ξ m)
structure PDT (X : Cx) (B : Bs) (e : Expr) (m : M Bool) : Prop where
  ap : ∀ ξ, PT (rz X ξ) e (TD relB B ξ m)
structure PDW (X : Cx) (B : Bs) (e : Expr) (m : M Bool) : Prop where
  ap : ∀ ξ, PW (rz X ξ) e (TD relB B ξ m)
structure PDA (X : Cx) (B : Bs) (es : List Expr) (m : M (List W)) : Prop where
  ap : ∀ ξ, PA (rz X ξ) es (TD relWs B ξ m)
theorem PDW.pt {X : Cx} {B : Bs} {e : Expr} {m : M Bool} (h : PDW X B e m) : PDT X B e m := .mk fun ξ => (h.ap ξ).pt

/-! ### small steps -/
/-- one's own, once it is put aside, is shared -/
def stab (m : M W) : M W := M.bind m fun w => match w with
  | .own d => M.pure (.val d)
  | w => M.pure w
theorem stab_own {m : M W} {ρ ρ' : Env'} {d : D} (h : m ρ = some (.ok (.own d) ρ')) : stab m ρ = some (.ok (.val d) ρ') := by unfold stab; rw [M.bind_ok h]; rfl
theorem stab_val {m : M W} {ρ ρ' : Env'} {d : D} (h : m ρ = some (.ok (.val d) ρ')) : stab m ρ = some (.ok (.val d) ρ') := by unfold stab; rw [M.bind_ok h]; rfl
theorem stab_slot {m : M W} {ρ ρ' : Env'} {i : Nat} (h : m ρ = some (.ok (.slot i) ρ')) : stab m ρ = some (.ok (.slot i) ρ') := by unfold stab; rw [M.bind_ok h]; rfl
def relS : Rel W V := fun B G H σ ρ v w => RepW B G H σ ρ v w ∧ stb w = true
section
variable {X : Cx} {B : Bs} {e a b c : Expr} {ma mb mc : M W} {pos : Pos}
theorem TD.stab {ξ : XP} {m : M W} {σ : St} {H : Hp} {Q : VK} (t : TD relS B ξ (stab m) σ H Q) : TD relW B ξ m σ H Q := by
  obtain ⟨G, ρ, R, t⟩ := t
  have t2 := TD.bind (rel := relW) R t
  refine t2.mono fun v H1 ⟨G1, ρ1, w, s, R1, q, t3⟩ => ?_
  obtain ⟨r, er, p⟩ := t3
  cases w with
  | val d => cases er; exact p v G1 H1 (Same.refl _) R1 ⟨q, rfl⟩
  | slot i => cases er; exact p v G1 H1 (Same.refl _) R1 ⟨q, rfl⟩
  | own d =>
    cases er
    obtain ⟨pp, rfl, g, h0, o, ne⟩ := q
    obtain ⟨G', s', R', rr⟩ := R1.frz g h0 o ne
    exact p _ G' H1 s' R' ⟨rr, rfl⟩
theorem RepW.keep {G G' H H' : Hp} {σ : St} {ρ ρ' : Env'} {v : V} {w : W} (s : Same G G') (h : RepW B G H σ ρ v w) (hw : stb w = true) : RepW B G' H' σ ρ' v w :=
  h.same s fun d z => by rw [z] at hw; cases hw
/-- two values, then an operation -/
def op2 (f : D → D → Option W) (a b : W) : M W := fun ρ => match getD a ρ, getD b ρ with
  | some x, some y => (f x y).map (R'.ok · ρ)
  | _, _ => none
def op1 (f : D → Option W) (a : W) : M W := fun ρ => match getD a ρ with
  | some x => (f x).map (R'.ok · ρ)
  | _ => none
def mBin (f : D → D → Option W) (ma mb : M W) : M W := M.bind (stab ma) fun x => M.bind mb fun y => op2 f x y
def mUn (f : D → Option W) (ma : M W) : M W := M.bind ma fun x => op1 f x
def Imp2 (B : Bs) (r : R2) (f : D → D → Option W) : Prop := ∀ {G H : Hp} {σ : St} {ρ : Env'} {x y : V} {dx dy : D} {w : W} {Q : VK}, RS B G H σ ρ → RepT B.K G H x dx → RepT B.K G H y dy → f dx dy = some w →
  (∀ v G' H', Same G G' → RS B G' H' σ ρ → RepW B G' H' σ ρ v w → Q v H') → r x y H Q
def Imp1 (B : Bs) (r : V → Hp → VK → Prop) (f : D → Option W) : Prop := ∀ {G H : Hp} {σ : St} {ρ : Env'} {x : V} {dx : D} {w : W} {Q : VK}, RS B G H σ ρ → RepT B.K G H x dx → f dx = some w →
  (∀ v G' H', Same G G' → RS B G' H' σ ρ → RepW B G' H' σ ρ v w → Q v H') → r x H Q
theorem op2_run {ξ : XP} {f : D → D → Option W} {x y : W} {G : Hp} {ρ : Env'} {σ : St} {Q : VK} (t : TDat relW B ξ G ρ (op2 f x y) σ Q) : ∃ dx dy w, getD x ρ = some dx ∧ getD y ρ = some dy ∧ f dx dy = some w ∧ ∀ v G' H', Same G G' → RS B G' H' σ ρ → RepW B G' H' σ ρ v w → Q v H' := by
  obtain ⟨r, e, p⟩ := t
  unfold op2 at e
  cases hx : getD x ρ with
  | none => rw [hx] at e; cases e
  | some dx =>
    cases hy : getD y ρ with
    | none => rw [hx, hy] at e; cases e
    | some dy =>
      rw [hx, hy] at e
      simp only [] at e
      cases hf : f dx dy with
      | none => rw [hf] at e; cases e
      | some w =>
        rw [hf] at e
        cases e
        exact ⟨dx, dy, w, rfl, rfl, hf, p⟩
theorem op1_run {ξ : XP} {f : D → Option W} {x : W} {G : Hp} {ρ : Env'} {σ : St} {Q : VK} (t : TDat relW B ξ G ρ (op1 f x) σ Q) : ∃ dx w, getD x ρ = some dx ∧ f dx = some w ∧ ∀ v G' H', Same G G' → RS B G' H' σ ρ → RepW B G' H' σ ρ v w → Q v H' := by
  obtain ⟨r, e, p⟩ := t
  unfold op1 at e
  cases hx : getD x ρ with
  | none => rw [hx] at e; cases e
  | some dx =>
    rw [hx] at e
    simp only [] at e
    cases hf : f dx with
    | none => rw [hf] at e; cases e
    | some w =>
      rw [hf] at e
      cases e
      exact ⟨dx, w, rfl, hf, p⟩
/-- the reading of a two-place operation -/
theorem td_op2 {ξ : XP} {r : R2} {f : D → D → Option W} (hi : Imp2 B r f) {σ : St} {H : Hp} {Q : VK} (t : TD relW B ξ (mBin f ma mb) σ H Q) : tOp r (TD relW B ξ ma) (TD relW B ξ mb) σ H Q := by
  obtain ⟨G, ρ, R, t⟩ := t
  have t1 : TD relS B ξ (stab ma) σ H _ := TD.bind (rel := relS) R t
  refine TD.stab (t1.mono fun x H1 ⟨G1, ρ1, wa, s1, R1, ⟨q1, st1⟩, t2⟩ => ?_)
  refine (TD.bind (rel := relW) R1 t2).mono fun y H2 ⟨G2, ρ2, wb, s2, R2, q2, t3⟩ => ?_
  obtain ⟨dx, dy, w, e1, e2, e3, p⟩ := op2_run t3
  exact hi R2 ((q1.keep s2 st1 : RepW B G2 H2 σ ρ2 x wa).get R2 e1) (q2.get R2 e2) e3 p
theorem td_op1 {ξ : XP} {r : V → Hp → VK → Prop} {f : D → Option W} (hi : Imp1 B r f) {σ : St} {H : Hp} {Q : VK} (t : TD relW B ξ (mUn f ma) σ H Q) : tUn r (TD relW B ξ ma) σ H Q := by
  obtain ⟨G, ρ, R, t⟩ := t
  refine (TD.bind (rel := relW) R t).mono fun x H1 ⟨G1, ρ1, wa, s1, R1, q1, t2⟩ => ?_
  obtain ⟨dx, w, e1, e2, p⟩ := op1_run t2
  exact hi R1 (q1.get R1 e1) e2 p
theorem pd_op2 {op : Operator} {r : R2} {f : D → D → Option W} (ho : ∀ ξ, OpR (rz X ξ) (binaryOp op) r) (hi : Imp2 B r f) (ha : PD X B a ma) (hb : PD X B b mb) : PD X B (.BinOp a op b pos) (mBin f ma mb) := .mk fun ξ =>
  (pe_op (ho ξ) (ha.ap ξ) (hb.ap ξ)).imp fun _ _ _ t => td_op2 hi t
theorem pd_un {op : UnaryOp} {r : V → Hp → VK → Prop} {f : D → Option W} (ho : ∀ ξ, UnR (rz X ξ) (unaryOp op) r) (hi : Imp1 B r f) (ha : PD X B a ma) : PD X B (.UnaryOp op a pos) (mUn f ma) := .mk fun ξ =>
  (pe_un (ho ξ) (ha.ap ξ)).imp fun _ _ _ t => td_op1 hi t
theorem pd_cmp {op : CmpOp} {r : R2} {f : D → D → Option W} (ho : ∀ ξ, OpR (rz X ξ) (compareOp op) r) (hi : Imp2 B r f) (ha : PD X B a ma) (hb : PD X B b mb) (hm : behindInMarks op b = false) : PD X B (.Compare a [op] [b] pos) (mBin f ma mb) := .mk fun ξ =>
  (pe_cmpR (ho ξ) (ha.ap ξ) (hb.ap ξ) hm).imp fun _ _ _ t => td_op2 hi t
/-- a truth told as a value -/
def mTst (m : M W) : M Bool := M.bind m fun w => fun ρ => match w with
  | .val (.bl b) => some (.ok b ρ)
  | _ => none
theorem td_tst {ξ : XP} {σ : St} {H : Hp} {Q : Bool → Hp → Prop} {m : M W} (t : TD relB B ξ (mTst m) σ H Q) : TD relW B ξ m σ H fun x H' => ∃ k, x = .bl k ∧ Q k H' := by
  obtain ⟨G, ρ, R, t⟩ := t
  refine (TD.bind (rel := relW) R t).mono fun x H1 ⟨G1, ρ1, w, s1, R1, q1, r, e, p⟩ => ?_
  cases w with
  | val d =>
    cases d with
    | bl k =>
      cases e
      have q2 : Rep B.K G1 x (.bl k) := q1
      cases q2
      exact ⟨k, rfl, p k G1 H1 (Same.refl _) R1 rfl⟩
    | _ => cases e
  | _ => cases e
theorem pdt_cmp {op : CmpOp} {r : R2} {f : D → D → Option W} (ho : ∀ ξ, OpR (rz X ξ) (compareOp op) r) (hi : Imp2 B r f) (ha : PD X B a ma) (hb : PD X B b mb) (hm : behindInMarks op b = false) : PDT X B (.Compare a [op] [b] pos) (mTst (mBin f ma mb)) := .mk fun ξ =>
  (pt_cmpR (ho ξ) (ha.ap ξ) (hb.ap ξ) hm).imp fun _ _ _ t => TD.mono (fun _ _ q => q) (td_op2 hi (td_tst t))
/-- names, constants -/
def mVar (i : Nat) : M W := fun ρ => match ρ[i]? with
  | some (some _) => some (.ok (.slot i) ρ)
  | _ => none
def mC (d : D) : M W := M.pure (.val d)
theorem td_var {ξ : XP} {i : Nat} {σ : St} {H : Hp} {Q : VK} (t : TD relW B ξ (mVar i) σ H Q) : tVar i σ H Q := by
  obtain ⟨G, ρ, R, r, e, p⟩ := t
  unfold mVar at e
  cases h : ρ[i]? with
  | none => rw [h] at e; cases e
  | some o =>
    cases o with
    | none => rw [h] at e; cases e
    | some c =>
      rw [h] at e
      cases e
      have hv : ∃ v, σ[i]? = some (some v) := by
        cases c with
        | sh d => obtain ⟨v, q, _⟩ := R.sh i d h; exact ⟨v, q⟩
        | ow l d => obtain ⟨v, q, _⟩ := R.ow i l d h; exact ⟨_, q⟩
      obtain ⟨v, q⟩ := hv
      exact ⟨v, q, p v G H (Same.refl _) R q⟩
theorem td_C {ξ : XP} {d : D} {v : V} (hv : ∀ G, Rep B.K G v d) {σ : St} {H : Hp} {Q : VK} (t : TD relW B ξ (mC d) σ H Q) : tC v σ H Q := by
  obtain ⟨G, ρ, R, r, e, p⟩ := t
  cases e
  exact p v G H (Same.refl _) R (hv G)
theorem dv (i : Nat) {x : Str} {pos : Pos} (hN : X.N[i]? = some x := by rfl) (hv : Vis X.env.scope x := by first | exact Or.inl rfl | exact Or.inr (Or.inl rfl) | exact Or.inr (Or.inr rfl)) (hd : (x == ("__debug__" : Str)) = false := by decide) (hcd : (x == ("__classdict__" : Str)) = false := by decide) : PD X B (.Name x pos) (mVar i) := .mk fun ξ =>
  (pe_var (X := rz X ξ) hN hv hd hcd).imp fun _ _ _ t => td_var t
theorem d_int {i j pos} : PD X B (.Constant (.int i) j pos) (mC (.int i)) := .mk fun ξ => (pe_int (X := rz X ξ)).imp fun _ _ _ t => td_C (fun _ => .int i) t
theorem d_bl {b j pos} : PD X B (.Constant (.bool b) j pos) (mC (.bl b)) := .mk fun ξ => (pe_bl (X := rz X ξ)).imp fun _ _ _ t => td_C (fun _ => .bl b) t
theorem d_non {j pos} : PD X B (.Constant .none j pos) (mC .non) := .mk fun ξ => (pe_non (X := rz X ξ)).imp fun _ _ _ t => td_C (fun _ => .non) t
theorem rep_str {K : PySem.W.Frag} {G : Hp} (x : Str) : Rep K G (.str x) (.str x.cps.toList) := by
  have e := tx_cps x
  have r := Rep.str (K := K) (G := G) x.cps.toList
  rw [e] at r
  exact r
theorem d_str {x j pos} : PD X B (.Constant (.str x) j pos) (mC (.str x.cps.toList)) := .mk fun ξ => (pe_str (X := rz X ξ)).imp fun _ _ _ t => td_C (fun _ => rep_str x) t
/-- a constant of the module's top -/
theorem d_con {x : Str} {v : V} {d : D} (h : Cst X.mg x v) (hv : ∀ G, Rep B.K G v d) (hg : Gl X x := by rfl) (hd : (x == ("__debug__" : Str)) = false := by decide) : PD X B (.Name x pos) (mC d) := .mk fun ξ =>
  (pcon (X := rz X ξ) h hg hd).imp fun _ _ _ t => td_C hv t
theorem d_ty {x : Str} {n : String} (hm : X.mg x = none) (hv : bootBuiltins x = some (.type n)) (hg : Gl X x := by rfl) (hn : x ≠ "__name__" := by decide) (hd : (x == ("__debug__" : Str)) = false := by decide) : PD X B (.Name x pos) (mC (.ty n)) := .mk fun ξ =>
  (pty (X := rz X ξ) hm hv hg hn hd).imp fun _ _ _ t => td_C (fun _ => .ty n) t
end

/-! ### whole numbers and texts -/
def grd (p : Prop) [Decidable p] {α : Type} (x : Option α) : Option α := if p then x else none
theorem grd_pos {p : Prop} [Decidable p] {α : Type} {x : Option α} (h : p) : grd p x = x := if_pos h
theorem grd_some {p : Prop} [Decidable p] {α : Type} {x : Option α} {a : α} (h : grd p x = some a) : p ∧ x = some a := by
  unfold grd at h
  split at h
  · exact ⟨‹p›, h⟩
  · cases h
def vI (i : Int) : Option W := some (.val (.int i))
def vB (b : Bool) : Option W := some (.val (.bl b))
def small (n : Nat) : Prop := n ≤ 1000000
instance (n : Nat) : Decidable (small n) := inferInstanceAs (Decidable (n ≤ 1000000))
def addD : D → D → Option W
  | .int i, .int j => vI (i + j)
  | .str a, .str b => grd (small (a.length + b.length)) (some (.val (.str (a ++ b))))
  | .lst a, .lst b => grd (small (a.length + b.length)) (some (.own (.lst (a ++ b))))
  | _, _ => none
def subD : D → D → Option W
  | .int i, .int j => vI (i - j)
  | _, _ => none
instance (i j : Int) : Decidable (CMul i j) := by unfold CMul; infer_instance
instance (i j : Int) : Decidable (CDiv i j) := by unfold CDiv; infer_instance
instance (i j : Int) : Decidable (CPow i j) := by unfold CPow; infer_instance
def mulD : D → D → Option W
  | .int i, .int j => grd (CMul i j) (vI (i * j))
  | _, _ => none
def divD : D → D → Option W
  | .int i, .int j => grd (CDiv i j) (vI (i / j))
  | _, _ => none
def modD : D → D → Option W
  | .int i, .int j => grd (0 < j) (vI (i % j))
  | _, _ => none
def powD : D → D → Option W
  | .int i, .int j => grd (CPow i j) (vI (i ^ j.toNat))
  | _, _ => none
def negD : D → Option W
  | .int i => vI (-i)
  | _ => none
def cmpI (f : Int → Int → Bool) : D → D → Option W
  | .int i, .int j => vB (f i j)
  | _, _ => none
/-- list + list, whatever it is that is read -/
theorem op_catL {X : Cx} {K : PySem.W.Frag} (hK : X.K = K) : OpR X (binaryOp .Add) (fun x y H Q => ∃ l b xs zs, x = .ref l ∧ y = .ref b ∧ SqL K H l xs ∧ SqL K H b zs ∧ xs.length + zs.length ≤ sizeLine ∧ ∀ p, H p = none → Q (.ref p) (upd H p (.lst (xs ++ zs)))) := by
  subst hK
  intro pins s σ H x y v u Q I rx ry h
  obtain ⟨l, b, xs, zs, rfl, rfl, hH, hB, hz, q⟩ := h
  cases rx
  cases ry
  obtain ⟨its, r, pl, _⟩ := I.list hH
  obtain ⟨its2, r2, pl2, _⟩ := I.list hB
  obtain ⟨⟨cls, dd, data, sl⟩, n, ho, hc, hdd, hd⟩ := pl
  obtain ⟨⟨cls2, dd2, data2, sl2⟩, n2, ho2, hc2, hdd2, hd2⟩ := pl2
  simp only at hc hd hc2 hd2 hdd hdd2
  subst hc hd hc2 hd2 hdd hdd2
  have e1 := r.length
  have e2 := r2.length
  have e : its.toArray ++ its2.toArray = (its ++ its2).toArray := by simp
  refine concat_meets ⟨_, ho, rfl⟩ ⟨_, ho2, rfl⟩ noFill_list_add seq_list_add PySem.F.slot_list_add PySem.F.entry_list_add (PySem.F.args_list_add_2 _ _) (list_addW l b its.toArray its2.toArray n n2 none none sl sl2 (by rw [List.size_toArray, List.size_toArray]; omega)) ⟨ho, ho2, ?_⟩
  rw [e]
  exact ⟨.ref _, _, I.lnew (t' := s.toks) (r.append r2) (by rw [List.length_append]; omega), rfl, q _ I.fresh⟩
theorem small_line {n : Nat} (h : small n) : n ≤ sizeLine := by unfold small at h; rw [sizeLine_eq]; omega
section
variable {X : Cx} {B : Bs} {e a b c : Expr} {ma mb mc : M W} {pos : Pos}
theorem imp_I {r : Int → Int → V → Hp → VK → Prop} : True := trivial
theorem imp2_I0 {g : Int → Int → Int} {f : D → D → Option W} (hf : ∀ dx dy w, f dx dy = some w → ∃ i j, dx = .int i ∧ dy = .int j ∧ w = .val (.int (g i j))) : Imp2 B (rI0 fun i j => .int (g i j)) f := by
  intro G H σ ρ x y dx dy w Q R hx hy e p
  obtain ⟨i, j, rfl, rfl, rfl⟩ := hf _ _ _ e
  exact ⟨i, j, hx.int, hy.int, p _ G H (Same.refl _) R (.int _)⟩
theorem imp2_I {P : Int → Int → Prop} {g : Int → Int → Int} {f : D → D → Option W} (hf : ∀ dx dy w, f dx dy = some w → ∃ i j, dx = .int i ∧ dy = .int j ∧ P i j ∧ w = .val (.int (g i j))) : Imp2 B (rI P fun i j => .int (g i j)) f := by
  intro G H σ ρ x y dx dy w Q R hx hy e p
  obtain ⟨i, j, rfl, rfl, hp, rfl⟩ := hf _ _ _ e
  exact ⟨i, j, hx.int, hy.int, hp, p _ G H (Same.refl _) R (.int _)⟩
theorem imp2_B0 (g : Int → Int → Bool) : Imp2 B (rI0 fun i j => .bl (g i j)) (cmpI g) := by
  intro G H σ ρ x y dx dy w Q R hx hy e p
  cases dx <;> cases dy <;> first | cases e | skip
  exact ⟨_, _, hx.int, hy.int, p _ G H (Same.refl _) R (.bl _)⟩
theorem imp2_sub : Imp2 B (rI0 fun i j => .int (i - j)) subD := imp2_I0 fun dx dy w e => by
  cases dx <;> cases dy <;> first | cases e | skip
  exact ⟨_, _, rfl, rfl, rfl⟩
theorem imp2_mul : Imp2 B (rI CMul fun i j => .int (i * j)) mulD := imp2_I fun dx dy w e => by
  cases dx <;> cases dy <;> first | cases e | skip
  obtain ⟨h, e⟩ := grd_some e
  cases e
  exact ⟨_, _, rfl, rfl, h, rfl⟩
theorem imp2_div : Imp2 B (rI CDiv fun i j => .int (i / j)) divD := imp2_I fun dx dy w e => by
  cases dx <;> cases dy <;> first | cases e | skip
  obtain ⟨h, e⟩ := grd_some e
  cases e
  exact ⟨_, _, rfl, rfl, h, rfl⟩
theorem imp2_mod : Imp2 B (rI (fun _ j => 0 < j) fun i j => .int (i % j)) modD := imp2_I fun dx dy w e => by
  cases dx <;> cases dy <;> first | cases e | skip
  obtain ⟨h, e⟩ := grd_some e
  cases e
  exact ⟨_, _, rfl, rfl, h, rfl⟩
theorem imp2_pow : Imp2 B (rI CPow fun i j => .int (i ^ j.toNat)) powD := imp2_I fun dx dy w e => by
  cases dx <;> cases dy <;> first | cases e | skip
  obtain ⟨h, e⟩ := grd_some e
  cases e
  exact ⟨_, _, rfl, rfl, h, rfl⟩
theorem imp1_neg : Imp1 B (rU fun i => .int (-i)) negD := by
  intro G H σ ρ x dx w Q R hx e p
  cases dx <;> first | cases e | skip
  exact ⟨_, hx.int, p _ G H (Same.refl _) R (.int _)⟩
theorem d_sub (ha : PD X B a ma) (hb : PD X B b mb) : PD X B (.BinOp a .Sub b pos) (mBin subD ma mb) := pd_op2 (fun _ => op_sub) imp2_sub ha hb
theorem d_mul (ha : PD X B a ma) (hb : PD X B b mb) : PD X B (.BinOp a .Mult b pos) (mBin mulD ma mb) := pd_op2 (fun _ => op_mul) imp2_mul ha hb
theorem d_div (ha : PD X B a ma) (hb : PD X B b mb) : PD X B (.BinOp a .FloorDiv b pos) (mBin divD ma mb) := pd_op2 (fun _ => op_fdiv) imp2_div ha hb
theorem d_mod (ha : PD X B a ma) (hb : PD X B b mb) : PD X B (.BinOp a .Mod b pos) (mBin modD ma mb) := pd_op2 (fun _ => op_mod) imp2_mod ha hb
theorem d_pow (ha : PD X B a ma) (hb : PD X B b mb) : PD X B (.BinOp a .Pow b pos) (mBin powD ma mb) := pd_op2 (fun _ => op_pow) imp2_pow ha hb
theorem d_neg (ha : PD X B a ma) : PD X B (.UnaryOp .USub a pos) (mUn negD ma) := pd_un (fun _ => un_neg) imp1_neg ha
theorem d_add (ha : PD X B a ma) (hb : PD X B b mb) (hK : X.K = B.K := by rfl) : PD X B (.BinOp a .Add b pos) (mBin addD ma mb) := by
  refine pd_op2 (fun ξ => (op_add (X := rz X ξ)).or (op_add_str.or (op_catL (K := B.K) hK))) ?_ ha hb
  intro G H σ ρ x y dx dy w Q R hx hy e p
  cases dx <;> cases dy <;> first | cases e | skip
  · exact .inl ⟨_, _, hx.int, hy.int, p _ G H (Same.refl _) R (.int _)⟩
  · obtain ⟨h, e⟩ := grd_some e
    cases e
    refine .inr (.inl ⟨_, _, hx.str, hy.str, by rw [tx_len, tx_len]; exact small_line h, ?_⟩)
    rw [tx_app]
    exact p _ G H (Same.refl _) R (.str _)
  · obtain ⟨h, e⟩ := grd_some e
    cases e
    obtain ⟨l, xs, rfl, h1, r1⟩ := hx.lst R.gH
    obtain ⟨l2, xs2, rfl, h2, r2⟩ := hy.lst R.gH
    refine .inr (.inr ⟨l, l2, xs, xs2, rfl, rfl, h1, h2, by rw [r1.len, r2.len]; exact small_line h, fun q hq => ?_⟩)
    obtain ⟨R', w'⟩ := R.newLst hq (r1.append r2)
    exact p _ G _ (Same.refl _) R' w'
theorem d_lt (ha : PD X B a ma) (hb : PD X B b mb) : PD X B (.Compare a [.Lt] [b] pos) (mBin (cmpI fun i j => decide (i < j)) ma mb) := pd_cmp (fun _ => op_lt) (imp2_B0 _) ha hb (nomark _)
theorem d_le (ha : PD X B a ma) (hb : PD X B b mb) : PD X B (.Compare a [.LtE] [b] pos) (mBin (cmpI fun i j => decide (i ≤ j)) ma mb) := pd_cmp (fun _ => op_le) (imp2_B0 _) ha hb (nomark _)
theorem d_gt (ha : PD X B a ma) (hb : PD X B b mb) : PD X B (.Compare a [.Gt] [b] pos) (mBin (cmpI fun i j => decide (j < i)) ma mb) := pd_cmp (fun _ => op_gt) (imp2_B0 _) ha hb (nomark _)
theorem d_ge (ha : PD X B a ma) (hb : PD X B b mb) : PD X B (.Compare a [.GtE] [b] pos) (mBin (cmpI fun i j => decide (j ≤ i)) ma mb) := pd_cmp (fun _ => op_ge) (imp2_B0 _) ha hb (nomark _)
theorem t_lt (ha : PD X B a ma) (hb : PD X B b mb) : PDT X B (.Compare a [.Lt] [b] pos) (mTst (mBin (cmpI fun i j => decide (i < j)) ma mb)) := pdt_cmp (fun _ => op_lt) (imp2_B0 _) ha hb (nomark _)
theorem t_le (ha : PD X B a ma) (hb : PD X B b mb) : PDT X B (.Compare a [.LtE] [b] pos) (mTst (mBin (cmpI fun i j => decide (i ≤ j)) ma mb)) := pdt_cmp (fun _ => op_le) (imp2_B0 _) ha hb (nomark _)
theorem t_gt (ha : PD X B a ma) (hb : PD X B b mb) : PDT X B (.Compare a [.Gt] [b] pos) (mTst (mBin (cmpI fun i j => decide (j < i)) ma mb)) := pdt_cmp (fun _ => op_gt) (imp2_B0 _) ha hb (nomark _)
theorem t_ge (ha : PD X B a ma) (hb : PD X B b mb) : PDT X B (.Compare a [.GtE] [b] pos) (mTst (mBin (cmpI fun i j => decide (j ≤ i)) ma mb)) := pdt_cmp (fun _ => op_ge) (imp2_B0 _) ha hb (nomark _)
end
end L3

set_option Elab.async false
set_option linter.all false
set_option maxRecDepth 100000
set_option maxHeartbeats 4000000
namespace L3
open PySem PySem.Spec PyProof.Rows L2

/-! ### equality of data -/
def eqL (f : D → D → Option Bool) : List D → List D → Option Bool
  | [], [] => some true
  | [], _ :: _ => some false
  | _ :: _, [] => some false
  | x :: xs, y :: ys => match f x y, eqL f xs ys with
    | some a, some b => some (a && b)
    | _, _ => none
def eqF : D → D → Option Bool
  | .non, .non => some true
  | .bl a, .bl b => some (a == b)
  | .int a, .int b => some (a == b)
  | .str a, .str b => some (a == b)
  | .non, .bl _ => some false
  | .non, .int _ => some false
  | .non, .str _ => some false
  | .bl _, .non => some false
  | .int _, .non => some false
  | .str _, .non => some false
  | .tup _, .non => some false
  | .lst _, .non => some false
  | _, _ => none
def eqD : Nat → D → D → Option Bool
  | n + 1, .tup a, .tup b => eqL (eqD n) a b
  | n + 1, .lst a, .lst b => eqL (eqD n) a b
  | _, d, e => eqF d e
theorem eqL_len {f : D → D → Option Bool} : ∀ {xs ys : List D} {b : Bool}, eqL f xs ys = some b → xs.length ≠ ys.length → b = false
  | [], [], _, _, h => absurd rfl h
  | [], _ :: _, _, e, _ => by cases e; rfl
  | _ :: _, [], _, e, _ => by cases e; rfl
  | x :: xs, y :: ys, b, e, h => by
    unfold eqL at e
    cases h1 : f x y with
    | none => rw [h1] at e; cases e
    | some p =>
      cases h2 : eqL f xs ys with
      | none => rw [h1, h2] at e; cases e
      | some q =>
        rw [h1, h2] at e
        cases e
        rw [eqL_len h2 (by simpa using h), Bool.and_false]
theorem eqL_all {f : D → D → Option Bool} : ∀ {xs ys : List D} {b : Bool}, eqL f xs ys = some b → ∃ g : Nat → Bool, (∀ (j : Nat) x y, xs[j]? = some x → ys[j]? = some y → f x y = some (g j)) ∧ b = ((List.range (min xs.length ys.length)).all g && (xs.length == ys.length))
  | [], [], _, e => by cases e; exact ⟨fun _ => true, fun j x y h => by simp at h, rfl⟩
  | [], _ :: _, _, e => by cases e; exact ⟨fun _ => true, fun j x y h => by simp at h, by simp⟩
  | _ :: _, [], _, e => by cases e; exact ⟨fun _ => true, fun j x y _ h => by simp at h, by simp⟩
  | x :: xs, y :: ys, b, e => by
    unfold eqL at e
    cases h1 : f x y with
    | none => rw [h1] at e; cases e
    | some p =>
      cases h2 : eqL f xs ys with
      | none => rw [h1, h2] at e; cases e
      | some q =>
        rw [h1, h2] at e
        cases e
        obtain ⟨g, hg, hq⟩ := eqL_all h2
        refine ⟨fun j => if j = 0 then p else g (j - 1), fun j x' y' a c => ?_, ?_⟩
        · cases j with
          | zero => simp at a c; subst a c; simpa using h1
          | succ j => simpa using hg j x' y' (by simpa using a) (by simpa using c)
        · have em : min (x :: xs).length (y :: ys).length = min xs.length ys.length + 1 := by simp only [List.length_cons]; omega
          rw [em, List.range_succ_eq_map, List.all_cons, List.all_map, hq, List.length_cons, List.length_cons]
          simp only [if_pos, Bool.and_assoc]
          congr 2
          simp
theorem eqL_true {f : D → D → Option Bool} {xs ys : List D} {b : Bool} (h : eqL f xs ys = some b) (hl : xs.length = ys.length) : ∃ g : Nat → Bool, (∀ (j : Nat) x y, xs[j]? = some x → ys[j]? = some y → f x y = some (g j)) ∧ b = (List.range xs.length).all g := by
  obtain ⟨g, h1, h2⟩ := eqL_all h
  refine ⟨g, h1, ?_⟩
  rw [h2, hl]
  simp
theorem RepT.rep {K : PySem.W.Frag} {G H : Hp} {v : V} {d : D} (g : Same G H) (h : RepT K G H v d) : Rep K H v d := by
  rcases h with h | ⟨p, rfl, h⟩
  · exact h.same g
  · cases d with
    | lst ds =>
      obtain ⟨xs, e, r⟩ := h
      have r' := r.same g
      exact .lst (SqL.of e) r'.len r'.get
    | dct es =>
      obtain ⟨xs, e, r⟩ := h
      have r' := r.same g
      exact .dct e r'.keys r'.get
    | _ => exact (show False from h).elim
section
variable {X : Cx} {pins : List (Addr × Obj)} {σ : St} {H : Hp} {s : Shared}
theorem str_beq (a b : List Nat) : (tx a == tx b) = (a == b) := by
  rw [Bool.eq_iff_iff, beq_iff_eq, beq_iff_eq]
  exact tx_inj
theorem eq_tups {A : Around} {a b : Addr} {xs ys : List V} {ds es : List D} {g : Nat → Bool} (I : Inv X pins σ H s) (h1 : SqT X.K H a xs) (h2 : SqT X.K H b ys) (l1 : xs.length = ds.length) (l2 : ys.length = es.length) (hu : A.units < cLine)
    (ih : ∀ (j : Nat) x y v u, xs[j]? = some x → ys[j]? = some y → RelV x v → RelV y u → SeqAt.EqAt A.in1 s v u (g j)) :
    SeqAt.RcAt A s (.ref a) (.ref b) ((List.range (min ds.length es.length)).all g && (ds.length == es.length)) ∧ SeqAt.RcNeAt A s (.ref a) (.ref b) (!((List.range (min ds.length es.length)).all g && (ds.length == es.length))) := by
  obtain ⟨its, rv, p, _⟩ := I.tuple h1
  obtain ⟨its2, rv2, p2, _⟩ := I.tuple h2
  have k1 := rv.length
  have k2 := rv2.length
  have he : ∀ j (z1 : j < its.toArray.size) (z2 : j < its2.toArray.size), SeqAt.EqAt A.in1 s its.toArray[j] its2.toArray[j] (g j) := fun j z1 z2 => by
    have h1' : j < xs.length := by simpa [← k1] using z1
    have h2' : j < ys.length := by simpa [← k2] using z2
    obtain ⟨v1, e1, r1⟩ := rv.get (i := j) (x := xs[j]) (by simp [h1'])
    obtain ⟨v2, e2, r2⟩ := rv2.get (i := j) (x := ys[j]) (by simp [h2'])
    have f1 : its.toArray[j] = v1 := by
      have := (List.getElem?_eq_some_iff.mp e1).2
      simpa using this
    have f2 : its2.toArray[j] = v2 := by
      have := (List.getElem?_eq_some_iff.mp e2).2
      simpa using this
    rw [f1, f2]
    exact ih j _ _ _ _ (by simp [h1']) (by simp [h2']) r1 r2
  have q1 := SeqAt.RcAt.tuples (e := g) (A := A) p p2 hu he
  have q2 := SeqAt.RcNeAt.tuples (e := g) (A := A) p p2 hu he
  have e1 : its.toArray.size = ds.length := by rw [List.size_toArray]; omega
  have e2 : its2.toArray.size = es.length := by rw [List.size_toArray]; omega
  rw [e1, e2] at q1 q2
  exact ⟨q1, q2⟩
theorem eq_lsts {A : Around} {a b : Addr} {xs ys : List V} {ds es : List D} {f : D → D → Option Bool} {r : Bool} (I : Inv X pins σ H s) (h1 : SqL X.K H a xs) (h2 : SqL X.K H b ys) (l1 : xs.length = ds.length) (l2 : ys.length = es.length) (hu : A.units < cLine)
    (hr : eqL f ds es = some r) (ih : ∀ (j : Nat) x y d e k v u, xs[j]? = some x → ys[j]? = some y → ds[j]? = some d → es[j]? = some e → f d e = some k → RelV x v → RelV y u → SeqAt.EqAt A.in1 s v u k) :
    SeqAt.RcAt A s (.ref a) (.ref b) r ∧ SeqAt.RcNeAt A s (.ref a) (.ref b) (!r) := by
  obtain ⟨its, rv, p, _⟩ := I.list h1
  obtain ⟨its2, rv2, p2, _⟩ := I.list h2
  have k1 := rv.length
  have k2 := rv2.length
  have e1 : its.toArray.size = ds.length := by rw [List.size_toArray]; omega
  have e2 : its2.toArray.size = es.length := by rw [List.size_toArray]; omega
  by_cases hl : ds.length = es.length
  · obtain ⟨g, hg, hb⟩ := eqL_true hr hl
    have he : ∀ j (z1 : j < its.toArray.size) (z2 : j < its2.toArray.size), SeqAt.EqAt A.in1 s its.toArray[j] its2.toArray[j] (g j) := fun j z1 z2 => by
      have h1' : j < xs.length := by simpa [← k1] using z1
      have h2' : j < ys.length := by simpa [← k2] using z2
      have h3' : j < ds.length := by omega
      have h4' : j < es.length := by omega
      obtain ⟨v1, e1, r1⟩ := rv.get (i := j) (x := xs[j]) (by simp [h1'])
      obtain ⟨v2, e2, r2⟩ := rv2.get (i := j) (x := ys[j]) (by simp [h2'])
      have f1 : its.toArray[j] = v1 := by
        have := (List.getElem?_eq_some_iff.mp e1).2
        simpa using this
      have f2 : its2.toArray[j] = v2 := by
        have := (List.getElem?_eq_some_iff.mp e2).2
        simpa using this
      rw [f1, f2]
      exact ih j _ _ ds[j] es[j] _ _ _ (by simp [h1']) (by simp [h2']) (by simp [h3']) (by simp [h4']) (hg j _ _ (by simp [h3']) (by simp [h4'])) r1 r2
    have q1 := SeqAt.RcAt.lists (e := g) (A := A) p.isList p2.isList (by omega) hu he
    have q2 := SeqAt.RcNeAt.lists (e := g) (A := A) p.isList p2.isList (by omega) hu he
    rw [e1, ← hb] at q1 q2
    exact ⟨q1, q2⟩
  · have hb := eqL_len hr hl
    subst hb
    have hne : (its.toArray.size != its2.toArray.size) = true := by rw [e1, e2]; simpa using hl
    exact ⟨SeqAt.RcAt.lists_lengths p.isList p2.isList hne hu, SeqAt.RcNeAt.lists_lengths p.isList p2.isList hne hu⟩
theorem eqf_all {d e : D} {b : Bool} (h : eqF d e = some b) (I : Inv X pins σ H s) {A : Around} {x y : V} {v u : Value} (hx : Rep X.K H x d) (hy : Rep X.K H y e) (rx : RelV x v) (ry : RelV y u) (hu' : A.units < cLine) :
    SeqAt.EqAt A s v u b ∧ SeqAt.RcAt A s v u b ∧ SeqAt.RcNeAt A s v u (!b) := by
  cases hx with
  | non =>
    cases rx
    cases hy with
    | non => cases h; cases ry; exact ⟨SeqAt.EqAt.same _, SeqAt.RcAt.none_none, SeqAt.RcNeAt.none_none⟩
    | bl _ => cases h; cases ry; exact ⟨SeqAt.EqAt.none_bool _, SeqAt.RcAt.none_bool _, SeqAt.RcNeAt.none_bool _⟩
    | int _ => cases h; obtain ⟨t, rfl⟩ := ry; exact ⟨SeqAt.EqAt.none_int _ _, SeqAt.RcAt.none_int _ _, SeqAt.RcNeAt.none_int _ _⟩
    | str _ => cases h; obtain ⟨t, rfl⟩ := ry; exact ⟨SeqAt.EqAt.none_str _ _, SeqAt.RcAt.none_str _ _, SeqAt.RcNeAt.none_str _ _⟩
    | ty _ => cases h
    | tup _ _ _ => cases h
    | lst _ _ _ => cases h
    | dct _ _ _ => cases h
  | bl _ =>
    cases rx
    cases hy with
    | non => cases h; cases ry; exact ⟨SeqAt.EqAt.bool_none _, SeqAt.RcAt.bool_none _, SeqAt.RcNeAt.bool_none _⟩
    | bl _ => cases h; cases ry; exact ⟨SeqAt.EqAt.bool_bool _ _, SeqAt.RcAt.bool_bool _ _, SeqAt.RcNeAt.bool_bool _ _⟩
    | int _ => cases h
    | str _ => cases h
    | ty _ => cases h
    | tup _ _ _ => cases h
    | lst _ _ _ => cases h
    | dct _ _ _ => cases h
  | int _ =>
    obtain ⟨t, rfl⟩ := rx
    cases hy with
    | non => cases h; cases ry; exact ⟨SeqAt.EqAt.int_none _ _, SeqAt.RcAt.int_none _ _, SeqAt.RcNeAt.int_none _ _⟩
    | int _ => cases h; obtain ⟨t', rfl⟩ := ry; exact ⟨SeqAt.EqAt.int_int _ _ _ _, SeqAt.RcAt.int_int _ _ _ _, SeqAt.RcNeAt.int_int _ _ _ _⟩
    | bl _ => cases h
    | str _ => cases h
    | ty _ => cases h
    | tup _ _ _ => cases h
    | lst _ _ _ => cases h
    | dct _ _ _ => cases h
  | str cs =>
    obtain ⟨t, rfl⟩ := rx
    cases hy with
    | non => cases h; cases ry; exact ⟨SeqAt.EqAt.str_none _ _, SeqAt.RcAt.str_none _ _, SeqAt.RcNeAt.str_none _ _⟩
    | str cs' =>
      have hb : (cs == cs') = b := Option.some.inj h
      rw [← hb, ← str_beq]
      obtain ⟨t', rfl⟩ := ry
      exact ⟨SeqAt.EqAt.str_str _ _ _ _, SeqAt.RcAt.str_str _ _ _ _, SeqAt.RcNeAt.str_str _ _ _ _⟩
    | bl _ => cases h
    | int _ => cases h
    | ty _ => cases h
    | tup _ _ _ => cases h
    | lst _ _ _ => cases h
    | dct _ _ _ => cases h
  | ty _ => cases hy <;> cases h
  | tup h1 _ _ =>
    cases rx
    cases hy with
    | non =>
      cases h
      cases ry
      obtain ⟨its, _, p, _⟩ := I.tuple h1
      exact ⟨SeqAt.EqAt.tuple_none p hu', SeqAt.RcAt.tuple_none p hu', SeqAt.RcNeAt.tuple_none p hu'⟩
    | bl _ => cases h
    | int _ => cases h
    | str _ => cases h
    | ty _ => cases h
    | tup _ _ _ => cases h
    | lst _ _ _ => cases h
    | dct _ _ _ => cases h
  | lst h1 _ _ =>
    cases rx
    cases hy with
    | non =>
      cases h
      cases ry
      obtain ⟨its, _, p, _⟩ := I.list h1
      exact ⟨SeqAt.EqAt.list_none p.isList hu', SeqAt.RcAt.list_none p.isList hu', SeqAt.RcNeAt.list_none p.isList hu'⟩
    | bl _ => cases h
    | int _ => cases h
    | str _ => cases h
    | ty _ => cases h
    | tup _ _ _ => cases h
    | lst _ _ _ => cases h
    | dct _ _ _ => cases h
  | dct _ _ _ => cases hy <;> cases h
theorem eqf_same {d e : D} {b : Bool} (h : eqF d e = some b) {x : V} (hx : Rep X.K H x d) (hy : Rep X.K H x e) : b = true := by
  cases hx <;> cases hy <;> first | (exfalso; cases h; done) | skip
  all_goals first | (cases h; rfl) | (cases h; simp)
theorem all_of {g : Nat → Bool} {n : Nat} (h : ∀ j, j < n → g j = true) : (List.range n).all g = true := by
  rw [List.all_eq_true]
  intro j hj
  exact h j (List.mem_range.mp hj)
theorem eql_same {f : D → D → Option Bool} {ds es : List D} {b : Bool} {xs : List V} (h : eqL f ds es = some b) (l1 : xs.length = ds.length) (l2 : xs.length = es.length) (r1 : ∀ (j : Nat) x d, xs[j]? = some x → ds[j]? = some d → Rep X.K H x d) (r2 : ∀ (j : Nat) x d, xs[j]? = some x → es[j]? = some d → Rep X.K H x d)
    (hf : ∀ d e k x, f d e = some k → Rep X.K H x d → Rep X.K H x e → k = true) : b = true := by
  obtain ⟨g, hg, hb⟩ := eqL_true h (by omega)
  rw [hb]
  refine all_of fun j hj => ?_
  have hj2 : j < es.length := by omega
  have hj3 : j < xs.length := by omega
  exact hf ds[j] es[j] _ xs[j] (hg j _ _ (by simp [hj]) (by simp [hj2])) (r1 j _ _ (by simp [hj3]) (by simp [hj])) (r2 j _ _ (by simp [hj3]) (by simp [hj2]))
theorem eqd_same (I : Inv X pins σ H s) : ∀ (n : Nat) {d e : D} {b : Bool} {x : V}, eqD n d e = some b → Rep X.K H x d → Rep X.K H x e → b = true := by
  intro n
  induction n with
  | zero =>
    intro d e b x h hx hy
    exact eqf_same (by cases d <;> exact h) hx hy
  | succ n ih =>
    intro d e b x h hx hy
    cases hx with
    | tup h1 l1 r1 =>
      cases hy with
      | tup h2 l2 r2 =>
        have e := I.tuple_inj h1 h2
        subst e
        exact eql_same (X := X) (H := H) (show eqL (eqD n) _ _ = some b from h) l1 l2 r1 r2 fun d e k x a b c => ih a b c
      | lst h2 l2 r2 => cases h
      | dct h2 l2 r2 => cases h
    | lst h1 l1 r1 =>
      cases hy with
      | lst h2 l2 r2 =>
        have e := I.list_inj h1 h2
        subst e
        exact eql_same (X := X) (H := H) (show eqL (eqD n) _ _ = some b from h) l1 l2 r1 r2 fun d e k x a b c => ih a b c
      | tup h2 l2 r2 => cases h
      | dct h2 l2 r2 => cases h
    | non => exact eqf_same (X := X) (H := H) (by cases e <;> exact h) .non hy
    | bl k => exact eqf_same (X := X) (H := H) (by cases e <;> exact h) (.bl k) hy
    | int k => exact eqf_same (X := X) (H := H) (by cases e <;> exact h) (.int k) hy
    | str k => exact eqf_same (X := X) (H := H) (by cases e <;> exact h) (.str k) hy
    | ty k => exact eqf_same (X := X) (H := H) (by cases e <;> exact h) (.ty k) hy
    | dct h1 l1 r1 => cases hy <;> cases h
theorem eqd_all (I : Inv X pins σ H s) : ∀ (n : Nat) {d e : D} {b : Bool}, eqD n d e = some b → ∀ {A : Around} {x y : V} {v u : Value}, Rep X.K H x d → Rep X.K H y e → RelV x v → RelV y u → A.units + n < cLine →
    SeqAt.EqAt A s v u b ∧ SeqAt.RcAt A s v u b ∧ SeqAt.RcNeAt A s v u (!b) := by
  intro n
  induction n with
  | zero =>
    intro d e b h A x y v u hx hy rx ry hu
    exact eqf_all (by cases d <;> exact h) I hx hy rx ry (by omega)
  | succ n ih =>
    intro d e b h A x y v u hx hy rx ry hu
    have flat : eqF d e = some b → SeqAt.EqAt A s v u b ∧ SeqAt.RcAt A s v u b ∧ SeqAt.RcNeAt A s v u (!b) := fun h' => eqf_all h' I hx hy rx ry (by omega)
    cases d with
    | tup ds =>
      cases e with
      | tup es =>
        have hsame := fun (hy' : Rep X.K H x (.tup es)) => eqd_same I (n + 1) h hx hy'
        cases hx with
        | @tup a xs _ h1 l1 r1 =>
          cases hy with
          | @tup a2 xs2 _ h2 l2 r2 =>
            cases rx
            cases ry
            obtain ⟨g, hg, hb⟩ := eqL_all (show eqL (eqD n) ds es = some b from h)
            have key := eq_tups (A := A) (g := g) I h1 h2 l1 l2 (by omega) fun j x y v u hx hy rx ry => by
              have hj1 : j < ds.length := by rw [← l1]; exact (List.getElem?_eq_some_iff.mp hx).1
              have hj2 : j < es.length := by rw [← l2]; exact (List.getElem?_eq_some_iff.mp hy).1
              exact (ih (hg j ds[j] es[j] (by simp [hj1]) (by simp [hj2])) (A := A.in1) (r1 j x _ hx (by simp [hj1])) (r2 j y _ hy (by simp [hj2])) rx ry (by show A.units + 1 + n < _; omega)).1
            rw [← hb] at key
            refine ⟨?_, key⟩
            by_cases e : a = a2
            · subst e
              have e2 := hsame (.tup h2 l2 r2)
              subst e2
              exact SeqAt.EqAt.same _
            · exact SeqAt.EqAt.of_refs e key.1
      | _ => exact flat h
    | lst ds =>
      cases e with
      | lst es =>
        have hsame := fun (hy' : Rep X.K H x (.lst es)) => eqd_same I (n + 1) h hx hy'
        cases hx with
        | @lst a xs _ h1 l1 r1 =>
          cases hy with
          | @lst a2 xs2 _ h2 l2 r2 =>
            cases rx
            cases ry
            have key := eq_lsts (A := A) I h1 h2 l1 l2 (by omega) (show eqL (eqD n) ds es = some b from h) fun j x y d e k v u hx hy hd he hk rx ry =>
              (ih hk (A := A.in1) (r1 j x _ hx hd) (r2 j y _ hy he) rx ry (by show A.units + 1 + n < _; omega)).1
            refine ⟨?_, key⟩
            by_cases e : a = a2
            · subst e
              have e2 := hsame (.lst h2 l2 r2)
              subst e2
              exact SeqAt.EqAt.same _
            · exact SeqAt.EqAt.of_refs e key.1
      | _ => exact flat h
    | _ => exact flat (by cases e <;> exact h)
end
def eqDD (d e : D) : Option W := (eqD 8 d e).bind vB
def neDD (d e : D) : Option W := (eqD 8 d e).bind fun b => vB (!b)
theorem op_eqX {X : Cx} {K : PySem.W.Frag} (hK : X.K = K) (hu : X.A.units + 8 < cLine) : OpR X (compareOp .Eq) (fun x y H Q => ∃ d e b, Rep K H x d ∧ Rep K H y e ∧ eqD 8 d e = some b ∧ Q (.bl b) H) := by
  subst hK
  intro pins s σ H x y v u Q I rx ry h
  obtain ⟨d, e, b, hx, hy, hb, q⟩ := h
  exact (eqd_all I 8 hb hx hy rx ry hu).2.1 _ _ _ _ (fin_bl I q rfl)
theorem op_neX {X : Cx} {K : PySem.W.Frag} (hK : X.K = K) (hu : X.A.units + 8 < cLine) : OpR X (compareOp .NotEq) (fun x y H Q => ∃ d e b, Rep K H x d ∧ Rep K H y e ∧ eqD 8 d e = some b ∧ Q (.bl (!b)) H) := by
  subst hK
  intro pins s σ H x y v u Q I rx ry h
  obtain ⟨d, e, b, hx, hy, hb, q⟩ := h
  exact (eqd_all I 8 hb hx hy rx ry hu).2.2 _ _ _ _ (fin_bl I q rfl)
section
variable {X : Cx} {B : Bs} {e a b c : Expr} {ma mb mc : M W} {pos : Pos}
theorem imp2_eq : Imp2 B (fun x y H Q => ∃ d e b, Rep B.K H x d ∧ Rep B.K H y e ∧ eqD 8 d e = some b ∧ Q (.bl b) H) eqDD := by
  intro G H σ ρ x y dx dy w Q R hx hy e p
  unfold eqDD at e
  cases hb : eqD 8 dx dy with
  | none => rw [hb] at e; cases e
  | some b =>
    rw [hb] at e
    cases e
    exact ⟨dx, dy, b, hx.rep R.gH, hy.rep R.gH, hb, p _ G H (Same.refl _) R (.bl _)⟩
theorem imp2_ne : Imp2 B (fun x y H Q => ∃ d e b, Rep B.K H x d ∧ Rep B.K H y e ∧ eqD 8 d e = some b ∧ Q (.bl (!b)) H) neDD := by
  intro G H σ ρ x y dx dy w Q R hx hy e p
  unfold neDD at e
  cases hb : eqD 8 dx dy with
  | none => rw [hb] at e; cases e
  | some b =>
    rw [hb] at e
    cases e
    exact ⟨dx, dy, b, hx.rep R.gH, hy.rep R.gH, hb, p _ G H (Same.refl _) R (.bl _)⟩
theorem d_eq (hu : X.A.units + 8 < cLine) (ha : PD X B a ma) (hb : PD X B b mb) (hK : X.K = B.K := by rfl) : PD X B (.Compare a [.Eq] [b] pos) (mBin eqDD ma mb) := pd_cmp (fun ξ => op_eqX (X := rz X ξ) hK hu) imp2_eq ha hb (nomark _)
theorem d_ne (hu : X.A.units + 8 < cLine) (ha : PD X B a ma) (hb : PD X B b mb) (hK : X.K = B.K := by rfl) : PD X B (.Compare a [.NotEq] [b] pos) (mBin neDD ma mb) := pd_cmp (fun ξ => op_neX (X := rz X ξ) hK hu) imp2_ne ha hb (nomark _)
theorem t_eq (hu : X.A.units + 8 < cLine) (ha : PD X B a ma) (hb : PD X B b mb) (hK : X.K = B.K := by rfl) : PDT X B (.Compare a [.Eq] [b] pos) (mTst (mBin eqDD ma mb)) := pdt_cmp (fun ξ => op_eqX (X := rz X ξ) hK hu) imp2_eq ha hb (nomark _)
theorem t_ne (hu : X.A.units + 8 < cLine) (ha : PD X B a ma) (hb : PD X B b mb) (hK : X.K = B.K := by rfl) : PDT X B (.Compare a [.NotEq] [b] pos) (mTst (mBin neDD ma mb)) := pdt_cmp (fun ξ => op_neX (X := rz X ξ) hK hu) imp2_ne ha hb (nomark _)
end
end L3

set_option Elab.async false
set_option linter.all false
set_option maxRecDepth 100000
set_option maxHeartbeats 4000000
namespace L3
open PySem PySem.Spec PyProof.Rows L2

/-! ### a value bears one datum -/
section
variable {X : Cx} {pins : List (Addr × Obj)} {σ : St} {H : Hp} {s : Shared}
theorem typeIs_one {a : Addr} {T T' : String} (h : s.TypeIs (.ref a) T) (h' : s.TypeIs (.ref a) T') : T = T' := by
  obtain ⟨o, e, c⟩ := h
  obtain ⟨o', e', c'⟩ := h'
  rw [e] at e'
  cases e'
  rw [c] at c'
  injection c'
theorem ext_rep {xs : List V} {ds es : List D} (l1 : xs.length = ds.length) (l2 : xs.length = es.length) (h : ∀ (j : Nat) x d e, xs[j]? = some x → ds[j]? = some d → es[j]? = some e → d = e) : ds = es := by
  refine List.ext_getElem? fun j => ?_
  by_cases hj : j < xs.length
  · have h1 : j < ds.length := by omega
    have h2 : j < es.length := by omega
    have e1 : ds[j]? = some ds[j] := by simp [h1]
    have e2 : es[j]? = some es[j] := by simp [h2]
    rw [e1, e2, h j xs[j] _ _ (by simp [hj]) e1 e2]
  · rw [List.getElem?_eq_none (by omega), List.getElem?_eq_none (by omega)]
theorem Rep.inj (I : Inv X pins σ H s) {x : V} {d : D} (h : Rep X.K H x d) : ∀ {e : D}, Rep X.K H x e → d = e := by
  induction h with
  | non => intro e h2; cases h2; rfl
  | bl b => intro e h2; cases h2; rfl
  | int b => intro e h2; cases h2; rfl
  | ty b => intro e h2; cases h2; rfl
  | str cs =>
    intro e h2
    generalize hx : V.str (tx cs) = x at h2
    cases h2 <;> first | (cases hx; done) | skip
    rename_i cs'
    have q : tx cs = tx cs' := by injection hx
    rw [tx_inj.mp q]
  | @tup a xs ds h1 l1 r1 ih =>
    intro e h2
    cases h2 with
    | tup h2 l2 r2 =>
      have q := I.tuple_inj h1 h2
      subst q
      rw [ext_rep l1 l2 fun j x d e a b c => ih j x d a b (r2 j x e a c)]
    | lst h2 l2 r2 =>
      obtain ⟨_, _, p, _⟩ := I.tuple h1
      obtain ⟨_, _, p2, _⟩ := I.list h2
      exact absurd (typeIs_one p.typeIs p2.isList.typeIs) (by decide)
    | dct h2 l2 r2 =>
      obtain ⟨_, _, p, _⟩ := I.tuple h1
      obtain ⟨_, _, vs, _, dd⟩ := dk_rd I.hok (.inl h2)
      exact absurd (typeIs_one p.typeIs dd.typeIs) (by decide)
  | @lst a xs ds h1 l1 r1 ih =>
    intro e h2
    cases h2 with
    | lst h2 l2 r2 =>
      have q := I.list_inj h1 h2
      subst q
      rw [ext_rep l1 l2 fun j x d e a b c => ih j x d a b (r2 j x e a c)]
    | tup h2 l2 r2 =>
      obtain ⟨_, _, p, _⟩ := I.list h1
      obtain ⟨_, _, p2, _⟩ := I.tuple h2
      exact absurd (typeIs_one p.isList.typeIs p2.typeIs) (by decide)
    | dct h2 l2 r2 =>
      obtain ⟨_, _, p, _⟩ := I.list h1
      obtain ⟨_, _, vs, _, dd⟩ := dk_rd I.hok (.inl h2)
      exact absurd (typeIs_one p.isList.typeIs dd.typeIs) (by decide)
  | @dct a kvs ds h1 l1 r1 ih =>
    intro e h2
    cases h2 with
    | @dct _ kvs2 es h2 l2 r2 =>
      rw [h1] at h2
      cases h2
      congr 1
      have z1 : kvs.length = ds.length := by have := congrArg List.length l1; simpa using this
      have z2 : kvs.length = es.length := by have := congrArg List.length l2; simpa using this
      refine List.ext_getElem? fun j => ?_
      by_cases hj : j < kvs.length
      · have h1 : j < ds.length := by omega
        have h2 : j < es.length := by omega
        have e1 : ds[j]? = some ds[j] := by simp [h1]
        have e2 : es[j]? = some es[j] := by simp [h2]
        have k1 : (kvs.map (·.1))[j]? = (ds.map (·.1))[j]? := by rw [l1]
        have k2 : (kvs.map (·.1))[j]? = (es.map (·.1))[j]? := by rw [l2]
        rw [List.getElem?_map, List.getElem?_map, e1, show kvs[j]? = some kvs[j] by simp [hj]] at k1
        rw [List.getElem?_map, List.getElem?_map, e2, show kvs[j]? = some kvs[j] by simp [hj]] at k2
        have q := ih j kvs[j] ds[j] (by simp [hj]) e1 (r2 j kvs[j] es[j] (by simp [hj]) e2)
        rw [e1, e2]
        congr 1
        refine Prod.ext ?_ q
        simp at k1 k2
        rw [← k1, ← k2]
      · rw [List.getElem?_eq_none (by omega), List.getElem?_eq_none (by omega)]
    | tup h2 l2 r2 =>
      obtain ⟨_, _, vs, _, dd⟩ := dk_rd I.hok (.inl h1)
      obtain ⟨_, _, p2, _⟩ := I.tuple h2
      exact absurd (typeIs_one dd.typeIs p2.typeIs) (by decide)
    | lst h2 l2 r2 =>
      obtain ⟨_, _, vs, _, dd⟩ := dk_rd I.hok (.inl h1)
      obtain ⟨_, _, p2, _⟩ := I.list h2
      exact absurd (typeIs_one dd.typeIs p2.isList.typeIs) (by decide)
end

/-! ### in, not in -/
def inL (d : D) : List D → Option Bool
  | [] => some false
  | y :: ys => match eqD 7 y d, inL d ys with
    | some a, some b => some (a || b)
    | _, _ => none
open Classical in
/-- the items' own answer -/
noncomputable def eqAny (K : PySem.W.Frag) (H : Hp) (d : D) (u : Value) : Bool := decide (∃ y e, RelV y u ∧ Rep K H y e ∧ eqD 7 e d = some true)
section
variable {X : Cx} {pins : List (Addr × Obj)} {σ : St} {H : Hp} {s : Shared}
theorem eqAny_of (I : Inv X pins σ H s) {y : V} {u : Value} {d e : D} {b : Bool} (r : RelV y u) (h : Rep X.K H y e) (he : eqD 7 e d = some b) : eqAny X.K H d u = b := by
  unfold eqAny
  cases b with
  | true => exact @decide_eq_true _ (Classical.propDecidable _) ⟨y, e, r, h, he⟩
  | false =>
    refine @decide_eq_false _ (Classical.propDecidable _) ?_
    rintro ⟨y', e', r', h', he'⟩
    have q := r'.inj r
    subst q
    have q2 := h'.inj I h
    subst q2
    rw [he] at he'
    cases he'
theorem in_any (I : Inv X pins σ H s) {d : D} : ∀ {ds : List D} {xs : List V} {us : List Value} {b : Bool}, inL d ds = some b → RepL X.K H xs ds → Vals xs us → us.any (eqAny X.K H d) = b
  | [], [], us, b, h, _, v => by cases v; cases h; rfl
  | [], _ :: _, _, _, _, r, _ => by have := r.len; simp at this
  | _ :: _, [], _, _, _, r, _ => by have := r.len; simp at this
  | e :: ds, x :: xs, us, b, h, r, v => by
    cases v with
    | cons r1 v =>
      unfold inL at h
      cases h1 : eqD 7 e d with
      | none => rw [h1] at h; cases h
      | some p =>
        cases h2 : inL d ds with
        | none => rw [h1, h2] at h; cases h
        | some q =>
          rw [h1, h2] at h
          cases h
          rw [List.any_cons, eqAny_of I r1 r.head h1, in_any I h2 r.tail v]
theorem in_each (I : Inv X pins σ H s) {d : D} {x' : V} {w' : Value} {A : Around} (hx : Rep X.K H x' d) (rx : RelV x' w') (hu : A.units + 7 < cLine) : ∀ {ds : List D} {xs : List V} {us : List Value} {b : Bool}, inL d ds = some b → RepL X.K H xs ds → Vals xs us → ∀ u ∈ us, SeqAt.EqAt A s u w' (eqAny X.K H d u)
  | [], [], us, b, h, _, v => by cases v; intro u hu; cases hu
  | [], _ :: _, _, _, _, r, _ => by have := r.len; simp at this
  | _ :: _, [], _, _, _, r, _ => by have := r.len; simp at this
  | e :: ds, x :: xs, us, b, h, r, v => by
    cases v with
    | cons r1 v =>
      unfold inL at h
      cases h1 : eqD 7 e d with
      | none => rw [h1] at h; cases h
      | some p =>
        cases h2 : inL d ds with
        | none => rw [h1, h2] at h; cases h
        | some q =>
          intro u hm
          rcases List.mem_cons.mp hm with rfl | hm
          · rw [eqAny_of I r1 r.head h1]
            exact (eqd_all I 7 h1 r.head hx r1 rx hu).1
          · exact in_each I hx rx hu h2 r.tail v u hm
end
theorem op_inX {X : Cx} {K : PySem.W.Frag} (hK : X.K = K) (hu : X.A.units + 8 < cLine) : OpR X (compareOp .In) (fun x y H Q => ∃ d ds b p xs, Rep K H x d ∧ y = .ref p ∧ (SqL K H p xs ∨ SqT K H p xs) ∧ RepL K H xs ds ∧ inL d ds = some b ∧ Q (.bl b) H) := by
  subst hK
  intro pins s σ H x y v u Q I rx ry h
  obtain ⟨d, ds, b, p, xs, hx, rfl, hq, hr, hb, q⟩ := h
  cases ry
  rcases hq with hq | hq
  · obtain ⟨its, r, pl, hz⟩ := I.list hq
    refine SeqAt.in_listAt (eqAny X.K H d) pl.isList (fun w hw => in_each I hx rx (by show X.A.units + 1 + 7 < _; omega) hb hr r w (by simpa using hw)) ⟨.bl _, H, I, rfl, ?_⟩
    rw [show its.toArray.any (eqAny X.K H d) = its.any (eqAny X.K H d) by simp, in_any I hb hr r]
    exact q
  · obtain ⟨its, r, pl, hz⟩ := I.tuple hq
    refine SeqAt.in_tupleAt (eqAny X.K H d) pl (fun w hw => in_each I hx rx (by show X.A.units + 1 + 7 < _; omega) hb hr r w (by simpa using hw)) ⟨.bl _, H, I, rfl, ?_⟩
    rw [show its.toArray.any (eqAny X.K H d) = its.any (eqAny X.K H d) by simp, in_any I hb hr r]
    exact q
theorem op_notInX {X : Cx} {K : PySem.W.Frag} (hK : X.K = K) (hu : X.A.units + 8 < cLine) : OpR X (compareOp .NotIn) (fun x y H Q => ∃ d ds b p xs, Rep K H x d ∧ y = .ref p ∧ (SqL K H p xs ∨ SqT K H p xs) ∧ RepL K H xs ds ∧ inL d ds = some b ∧ Q (.bl (!b)) H) := by
  subst hK
  intro pins s σ H x y v u Q I rx ry h
  obtain ⟨d, ds, b, p, xs, hx, rfl, hq, hr, hb, q⟩ := h
  cases ry
  rcases hq with hq | hq
  · obtain ⟨its, r, pl, hz⟩ := I.list hq
    refine SeqAt.notIn_listAt (eqAny X.K H d) pl.isList (fun w hw => in_each I hx rx (by show X.A.units + 1 + 7 < _; omega) hb hr r w (by simpa using hw)) ⟨.bl _, H, I, rfl, ?_⟩
    rw [show its.toArray.any (eqAny X.K H d) = its.any (eqAny X.K H d) by simp, in_any I hb hr r]
    exact q
  · obtain ⟨its, r, pl, hz⟩ := I.tuple hq
    refine SeqAt.notIn_tupleAt (eqAny X.K H d) pl (fun w hw => in_each I hx rx (by show X.A.units + 1 + 7 < _; omega) hb hr r w (by simpa using hw)) ⟨.bl _, H, I, rfl, ?_⟩
    rw [show its.toArray.any (eqAny X.K H d) = its.any (eqAny X.K H d) by simp, in_any I hb hr r]
    exact q
def keyOf : D → Option Key
  | .int i => some (.inl i)
  | .str cs => some (.inr (tx cs))
  | _ => none
def valD (es : List (Key × D)) (k : Key) : Option D := (es.find? fun kv => decide (kv.1 = k)).map (·.2)
def putD (es : List (Key × D)) (k : Key) (d : D) : List (Key × D) := if (es.any fun kv => decide (kv.1 = k)) = true then es.map fun kv => if kv.1 = k then (kv.1, d) else kv else es ++ [(k, d)]
def dropD (es : List (Key × D)) (k : Key) : List (Key × D) := es.filter fun kv => decide (kv.1 ≠ k)
section
variable {K : PySem.W.Frag} {G : Hp}
theorem RepKV.nil : RepKV K G [] [] := ⟨rfl, fun j p e h => by simp at h⟩
theorem RepKV.cons {p : Key × V} {e : Key × D} {kvs : List (Key × V)} {es : List (Key × D)} (hk : p.1 = e.1) (h : Rep K G p.2 e.2) (r : RepKV K G kvs es) : RepKV K G (p :: kvs) (e :: es) := by
  refine ⟨by rw [List.map_cons, List.map_cons, hk, r.keys], fun j x y a b => ?_⟩
  cases j with
  | zero => simp at a b; subst a b; exact h
  | succ j => exact r.get j x y (by simpa using a) (by simpa using b)
theorem RepKV.inv {p : Key × V} {e : Key × D} {kvs : List (Key × V)} {es : List (Key × D)} (r : RepKV K G (p :: kvs) (e :: es)) : p.1 = e.1 ∧ Rep K G p.2 e.2 ∧ RepKV K G kvs es := by
  have k := r.keys
  rw [List.map_cons, List.map_cons] at k
  exact ⟨(List.cons.inj k).1, r.get 0 p e rfl rfl, (List.cons.inj k).2, fun j x y a b => r.get (j + 1) x y (by simpa using a) (by simpa using b)⟩
theorem RepKV.len {kvs : List (Key × V)} {es : List (Key × D)} (r : RepKV K G kvs es) : kvs.length = es.length := by have := congrArg List.length r.keys; simpa using this
theorem RepKV.ind {P : List (Key × V) → List (Key × D) → Prop} (h0 : P [] []) (h1 : ∀ p e kvs es, p.1 = e.1 → Rep K G p.2 e.2 → RepKV K G kvs es → P kvs es → P (p :: kvs) (e :: es)) : ∀ {kvs : List (Key × V)} {es : List (Key × D)}, RepKV K G kvs es → P kvs es
  | [], [], _ => h0
  | [], _ :: _, r => by have := r.len; simp at this
  | _ :: _, [], r => by have := r.len; simp at this
  | p :: kvs, e :: es, r => by
    obtain ⟨a, b, c⟩ := r.inv
    exact h1 p e kvs es a b c (RepKV.ind h0 h1 c)
theorem RepKV.val {kvs : List (Key × V)} {es : List (Key × D)} (r : RepKV K G kvs es) (k : Key) : (∀ d, valD es k = some d → ∃ v, valV kvs k = some v ∧ Rep K G v d) ∧ (valD es k = none → valV kvs k = none) := by
  refine RepKV.ind (P := fun kvs es => (∀ d, valD es k = some d → ∃ v, valV kvs k = some v ∧ Rep K G v d) ∧ (valD es k = none → valV kvs k = none)) ⟨fun d h => by simp [valD] at h, fun _ => rfl⟩ (fun p e kvs es hk hr _ ih => ?_) r
  by_cases h : p.1 = k
  · have h' : e.1 = k := by rw [← hk]; exact h
    refine ⟨fun d q => ⟨p.2, valV_pos h, ?_⟩, fun q => ?_⟩
    · simp [valD, List.find?_cons, h'] at q
      subst q
      exact hr
    · simp [valD, List.find?_cons, h'] at q
  · have h' : ¬ e.1 = k := by rw [← hk]; exact h
    have e1 : valD (e :: es) k = valD es k := by simp [valD, List.find?_cons, h']
    rw [e1, valV_neg h]
    exact ih
theorem RepKV.append {kvs ks : List (Key × V)} {es fs : List (Key × D)} (r : RepKV K G kvs es) (r2 : RepKV K G ks fs) : RepKV K G (kvs ++ ks) (es ++ fs) :=
  RepKV.ind (P := fun kvs es => RepKV K G (kvs ++ ks) (es ++ fs)) r2 (fun p e kvs es hk hr _ ih => RepKV.cons hk hr ih) r
theorem RepKV.put {kvs : List (Key × V)} {es : List (Key × D)} {v : V} {d : D} (r : RepKV K G kvs es) (k : Key) (h : Rep K G v d) : RepKV K G (putK kvs k v) (putD es k d) := by
  have e1 : (kvs.any fun kv => decide (kv.1 = k)) = (es.any fun kv => decide (kv.1 = k)) := RepKV.ind (P := fun kvs es => (kvs.any fun kv => decide (kv.1 = k)) = (es.any fun kv => decide (kv.1 = k))) rfl (fun p e kvs es hk hr _ ih => by rw [List.any_cons, List.any_cons, hk, ih]) r
  unfold putK putD
  rw [e1]
  split
  · exact RepKV.ind (P := fun kvs es => RepKV K G (kvs.map fun kv => if kv.1 = k then (kv.1, v) else kv) (es.map fun kv => if kv.1 = k then (kv.1, d) else kv)) .nil (fun p e kvs es hk hr _ ih => by
      rw [List.map_cons, List.map_cons]
      by_cases hp : p.1 = k
      · rw [if_pos hp, if_pos (by rw [← hk]; exact hp)]
        exact RepKV.cons hk h ih
      · rw [if_neg hp, if_neg (by rw [← hk]; exact hp)]
        exact RepKV.cons hk hr ih) r
  · exact r.append (RepKV.cons (p := (k, v)) (e := (k, d)) rfl h .nil)
theorem RepKV.drop {kvs : List (Key × V)} {es : List (Key × D)} (r : RepKV K G kvs es) (k : Key) : RepKV K G (dropK kvs k) (dropD es k) := by
  refine RepKV.ind (P := fun kvs es => RepKV K G (dropK kvs k) (dropD es k)) .nil (fun p e kvs es hk hr _ ih => ?_) r
  unfold dropK dropD
  by_cases hp : p.1 = k
  · rw [List.filter_cons_of_neg (by simpa using hp), List.filter_cons_of_neg (by simpa [← hk] using hp)]
    exact ih
  · rw [List.filter_cons_of_pos (by simpa using hp), List.filter_cons_of_pos (by simpa [← hk] using hp)]
    exact RepKV.cons hk hr ih
theorem keyOf_V {K : PySem.W.Frag} {G H : Hp} {v : V} {d : D} {k : Key} (h : RepT K G H v d) (e : keyOf d = some k) : v = kV k := by
  cases d <;> first | (cases e; done) | skip
  · cases e; exact h.int
  · cases e; exact h.str
theorem RepL.atI {xs : List V} {ds : List D} (h : RepL K G xs ds) {i : Int} {d : D} (e : L2.atI ds i = some d) : ∃ x, L2.atI xs i = some x ∧ Rep K G x d := by
  unfold L2.atI at e ⊢
  rw [h.len]
  cases hj : ixN ds.length i with
  | none => rw [hj] at e; cases e
  | some j =>
    rw [hj] at e
    exact h.at e
end
theorem op_inD {X : Cx} (hu : X.A.units + 8 < cLine) : OpR X (compareOp .In) (fun x y H Q => ∃ a o, y = .ref a ∧ DGet H a x o ∧ Q (.bl o.isSome) H) := by
  intro pins s σ H x y v u Q I rx ry h
  obtain ⟨a, o, rfl, g, q⟩ := h
  cases ry
  exact d_in (by omega) I g rx fun s' I' => ⟨.bl _, H, I', rfl, q⟩
theorem op_notInD {X : Cx} (hu : X.A.units + 8 < cLine) : OpR X (compareOp .NotIn) (fun x y H Q => ∃ a o, y = .ref a ∧ DGet H a x o ∧ Q (.bl (!o.isSome)) H) := by
  intro pins s σ H x y v u Q I rx ry h
  obtain ⟨a, o, rfl, g, q⟩ := h
  cases ry
  exact d_notIn (by omega) I g rx fun s' I' => ⟨.bl _, H, I', rfl, q⟩
/-- a text within a text -/
def subT (a b : List Nat) : Bool := !(Builtin.Str.occurrences (tx b) (tx a) 0 (tx b).length 1).isEmpty
def inDD : D → D → Option Bool
  | d, .lst ds => inL d ds
  | d, .tup ds => inL d ds
  | .str a, .str b => some (subT a b)
  | d, .dct es => (keyOf d).map fun k => (valD es k).isSome
  | _, _ => none
def inD (d e : D) : Option W := (inDD d e).bind vB
def notInD (d e : D) : Option W := (inDD d e).bind fun b => vB (!b)
section
variable {X : Cx} {B : Bs} {e a b c : Expr} {ma mb mc : M W} {pos : Pos}
theorem imp_in {G H : Hp} {σ : St} {ρ : Env'} {x y : V} {dx dy : D} {b : Bool} (R : RS B G H σ ρ) (hx : RepT B.K G H x dx) (hy : RepT B.K G H y dy) (e : inDD dx dy = some b) :
    (∃ d ds p xs, Rep B.K H x d ∧ y = .ref p ∧ (SqL B.K H p xs ∨ SqT B.K H p xs) ∧ RepL B.K H xs ds ∧ inL d ds = some b) ∨ (∃ i j, x = .str i ∧ y = .str j ∧ b = (!(Builtin.Str.occurrences j i 0 j.length 1).isEmpty)) ∨ (∃ a o, y = .ref a ∧ DGet H a x o ∧ b = o.isSome) := by
  cases dy with
  | lst ds =>
    obtain ⟨p, xs, rfl, h1, r1⟩ := hy.lst R.gH
    exact .inl ⟨dx, ds, p, xs, hx.rep R.gH, rfl, .inl h1, r1.same R.gH, by cases dx <;> exact e⟩
  | tup ds =>
    obtain ⟨p, xs, rfl, h1, r1⟩ := hy.tup R.gH
    exact .inl ⟨dx, ds, p, xs, hx.rep R.gH, rfl, .inr h1, r1.same R.gH, by cases dx <;> exact e⟩
  | dct es =>
    obtain ⟨p, kvs, rfl, h1, r1⟩ := hy.dct R.gH
    have e' : (keyOf dx).map (fun k => (valD es k).isSome) = some b := by cases dx <;> exact e
    cases hk : keyOf dx with
    | none => rw [hk] at e'; cases e'
    | some k =>
      rw [hk] at e'
      cases e'
      have hv := keyOf_V hx hk
      subst hv
      refine .inr (.inr ⟨p, valV kvs k, rfl, DGet.k h1, ?_⟩)
      obtain ⟨c1, c2⟩ := r1.val k
      show (valD es k).isSome = _
      cases hd : valD es k with
      | none => rw [c2 hd]; rfl
      | some d =>
        obtain ⟨v, q, _⟩ := c1 d hd
        rw [q]
        rfl
  | str cs =>
    cases dx <;> first | (cases e; done) | skip
    cases e
    exact .inr (.inl ⟨_, _, hx.str, hy.str, rfl⟩)
  | _ => cases dx <;> cases e
theorem imp2_in : Imp2 B (fun x y H Q => (∃ d ds b p xs, Rep B.K H x d ∧ y = .ref p ∧ (SqL B.K H p xs ∨ SqT B.K H p xs) ∧ RepL B.K H xs ds ∧ inL d ds = some b ∧ Q (.bl b) H) ∨ (∃ i j, x = .str i ∧ y = .str j ∧ Q (.bl (!(Builtin.Str.occurrences j i 0 j.length 1).isEmpty)) H) ∨ (∃ a o, y = .ref a ∧ DGet H a x o ∧ Q (.bl o.isSome) H)) inD := by
  intro G H σ ρ x y dx dy w Q R hx hy e p
  unfold inD at e
  cases hb : inDD dx dy with
  | none => rw [hb] at e; cases e
  | some b =>
    rw [hb] at e
    cases e
    have fin : Q (.bl b) H := p _ G H (Same.refl _) R (.bl _)
    rcases imp_in R hx hy hb with ⟨d, ds, pp, xs, h1, h2, h3, h4, h5⟩ | ⟨i, j, h1, h2, h3⟩ | ⟨a, o, h1, h2, h3⟩
    · exact .inl ⟨d, ds, b, pp, xs, h1, h2, h3, h4, h5, fin⟩
    · exact .inr (.inl ⟨i, j, h1, h2, by rw [← h3]; exact fin⟩)
    · exact .inr (.inr ⟨a, o, h1, h2, by rw [← h3]; exact fin⟩)
theorem imp2_notIn : Imp2 B (fun x y H Q => (∃ d ds b p xs, Rep B.K H x d ∧ y = .ref p ∧ (SqL B.K H p xs ∨ SqT B.K H p xs) ∧ RepL B.K H xs ds ∧ inL d ds = some b ∧ Q (.bl (!b)) H) ∨ (∃ i j, x = .str i ∧ y = .str j ∧ Q (.bl (!(!(Builtin.Str.occurrences j i 0 j.length 1).isEmpty))) H) ∨ (∃ a o, y = .ref a ∧ DGet H a x o ∧ Q (.bl (!o.isSome)) H)) notInD := by
  intro G H σ ρ x y dx dy w Q R hx hy e p
  unfold notInD at e
  cases hb : inDD dx dy with
  | none => rw [hb] at e; cases e
  | some b =>
    rw [hb] at e
    cases e
    have fin : Q (.bl (!b)) H := p _ G H (Same.refl _) R (.bl _)
    rcases imp_in R hx hy hb with ⟨d, ds, pp, xs, h1, h2, h3, h4, h5⟩ | ⟨i, j, h1, h2, h3⟩ | ⟨a, o, h1, h2, h3⟩
    · exact .inl ⟨d, ds, b, pp, xs, h1, h2, h3, h4, h5, fin⟩
    · exact .inr (.inl ⟨i, j, h1, h2, by rw [← h3]; exact fin⟩)
    · exact .inr (.inr ⟨a, o, h1, h2, by rw [← h3]; exact fin⟩)
theorem d_in' (hu : X.A.units + 8 < cLine) (ha : PD X B a ma) (hb : PD X B b mb) (hm : behindInMarks .In b = false := by with_unfolding_all rfl) (hK : X.K = B.K := by rfl) : PD X B (.Compare a [.In] [b] pos) (mBin inD ma mb) := pd_cmp (fun ξ => (op_inX (X := rz X ξ) hK hu).or (op_in_str.or (op_inD hu))) imp2_in ha hb hm
theorem d_notIn' (hu : X.A.units + 8 < cLine) (ha : PD X B a ma) (hb : PD X B b mb) (hm : behindInMarks .NotIn b = false := by with_unfolding_all rfl) (hK : X.K = B.K := by rfl) : PD X B (.Compare a [.NotIn] [b] pos) (mBin notInD ma mb) := pd_cmp (fun ξ => (op_notInX (X := rz X ξ) hK hu).or (op_notIn_str.or (op_notInD hu))) imp2_notIn ha hb hm
theorem t_in (hu : X.A.units + 8 < cLine) (ha : PD X B a ma) (hb : PD X B b mb) (hm : behindInMarks .In b = false := by with_unfolding_all rfl) (hK : X.K = B.K := by rfl) : PDT X B (.Compare a [.In] [b] pos) (mTst (mBin inD ma mb)) := pdt_cmp (fun ξ => (op_inX (X := rz X ξ) hK hu).or (op_in_str.or (op_inD hu))) imp2_in ha hb hm
theorem t_notIn (hu : X.A.units + 8 < cLine) (ha : PD X B a ma) (hb : PD X B b mb) (hm : behindInMarks .NotIn b = false := by with_unfolding_all rfl) (hK : X.K = B.K := by rfl) : PDT X B (.Compare a [.NotIn] [b] pos) (mTst (mBin notInD ma mb)) := pdt_cmp (fun ξ => (op_notInX (X := rz X ξ) hK hu).or (op_notIn_str.or (op_notInD hu))) imp2_notIn ha hb hm
end

/-! ### is None -/
def isNonD : D → Bool
  | .non => true
  | _ => false
section
variable {X : Cx} {B : Bs} {e a b c : Expr} {ma mb mc : M W} {pos : Pos}
theorem isNon_V {K : PySem.W.Frag} {G H : Hp} {v : V} {d : D} (h : RepT K G H v d) : decide (v = .non) = isNonD d := by
  cases d with
  | non => rw [h.non]; rfl
  | _ => 
    refine decide_eq_false ?_
    rintro rfl
    rcases h with h | ⟨p, e, _⟩
    · cases h
    · cases e
theorem imp1_isN : Imp1 B (fun x H Q => Q (.bl (decide (x = .non))) H) (fun d => vB (isNonD d)) := by
  intro G H σ ρ x dx w Q R hx e p
  cases e
  rw [isNon_V hx]
  exact p _ G H (Same.refl _) R (.bl _)
theorem imp1_notN : Imp1 B (fun x H Q => Q (.bl (!decide (x = .non))) H) (fun d => vB (!isNonD d)) := by
  intro G H σ ρ x dx w Q R hx e p
  cases e
  rw [isNon_V hx]
  exact p _ G H (Same.refl _) R (.bl _)
theorem d_isN {j pos'} (ha : PD X B a ma) : PD X B (.Compare a [.Is] [.Constant .none j pos'] pos) (mUn (fun d => vB (isNonD d)) ma) := .mk fun ξ => (pe_cmp (pc_isN (ha.ap ξ))).imp fun _ _ _ t => td_op1 imp1_isN t
theorem d_notN {j pos'} (ha : PD X B a ma) : PD X B (.Compare a [.IsNot] [.Constant .none j pos'] pos) (mUn (fun d => vB (!isNonD d)) ma) := .mk fun ξ => (pe_cmp (pc_notN (ha.ap ξ))).imp fun _ _ _ t => td_op1 imp1_notN t
theorem t_isN {j pos'} (ha : PD X B a ma) : PDT X B (.Compare a [.Is] [.Constant .none j pos'] pos) (mTst (mUn (fun d => vB (isNonD d)) ma)) := .mk fun ξ => (pt_cmp (pc_isN (ha.ap ξ))).imp fun _ _ _ t => td_op1 imp1_isN (td_tst t)
theorem t_notN {j pos'} (ha : PD X B a ma) : PDT X B (.Compare a [.IsNot] [.Constant .none j pos'] pos) (mTst (mUn (fun d => vB (!isNonD d)) ma)) := .mk fun ξ => (pt_cmp (pc_notN (ha.ap ξ))).imp fun _ _ _ t => td_op1 imp1_notN (td_tst t)
end

/-! ### truth, and, or, not, if-expressions, chains -/
def truD : D → Option Bool
  | .non => some false
  | .bl b => some b
  | .int i => some (i != 0)
  | .str cs => grd (small cs.length) (some ((cs.length : Int) != 0))
  | .lst ds => some (!ds.isEmpty)
  | .tup ds => some (!ds.isEmpty)
  | .dct es => some (!es.isEmpty)
  | _ => none
def mTru (m : M W) : M Bool := M.bind m fun w => fun ρ => match getD w ρ with
  | some d => (truD d).map (R'.ok · ρ)
  | none => none
def mAnd (a b : M Bool) : M Bool := M.bind a fun k => if k = true then b else M.pure false
def mOr (a b : M Bool) : M Bool := M.bind a fun k => if k = true then M.pure true else b
def mNot (a : M Bool) : M Bool := M.bind a fun k => M.pure (!k)
/-- a truth as a value -/
def mBl (w : W) : M Bool := fun ρ => match getD w ρ with
  | some (.bl b) => some (.ok b ρ)
  | _ => none
def mAndV (a b : M W) : M W := M.bind a fun w => M.bind (mBl w) fun k => if k = true then b else mC (.bl false)
def mOrV (a b : M W) : M W := M.bind a fun w => M.bind (mBl w) fun k => if k = true then mC (.bl true) else b
def mNotV (a : M W) : M W := M.bind a fun w => M.bind (mBl w) fun k => mC (.bl (!k))
def mIfE (c : M Bool) (a b : M W) : M W := M.bind c fun k => if k = true then a else b
def mChain (f g : D → D → Option W) (a b c : M W) : M W := M.bind (stab a) fun x => M.bind (stab b) fun y => M.bind (op2 f x y) fun z => M.bind (mBl z) fun k => if k = true then M.bind c fun w => op2 g y w else mC (.bl false)
theorem isEmpty_len {α β : Type} {xs : List α} {ys : List β} (h : xs.length = ys.length) : xs.isEmpty = ys.isEmpty := by
  cases xs <;> cases ys <;> simp_all
section
variable {X : Cx} {B : Bs} {e a b c : Expr} {ma mb mc : M W} {pos : Pos} {rest : List Expr}
theorem truV_of {G H : Hp} {σ : St} {ρ : Env'} {x : V} {d : D} {k : Bool} (R : RS B G H σ ρ) (h : RepT B.K G H x d) (e : truD d = some k) : TruV B.K x H k := by
  cases d with
  | non => cases e; rw [h.non]; rfl
  | bl b => cases e; rw [h.bl]; rfl
  | int i => cases e; rw [h.int]; rfl
  | str cs =>
    obtain ⟨z, e⟩ := grd_some e
    cases e
    rw [h.str]
    exact ⟨by rw [tx_len]; exact small_line z, by rw [tx_len]⟩
  | lst ds =>
    cases e
    obtain ⟨p, xs, rfl, h1, r1⟩ := h.lst R.gH
    exact .inl ⟨xs, h1, by rw [isEmpty_len r1.len]⟩
  | tup ds =>
    cases e
    obtain ⟨p, xs, rfl, h1, r1⟩ := h.tup R.gH
    exact .inr (.inl ⟨xs, h1, by rw [isEmpty_len r1.len]⟩)
  | dct es =>
    cases e
    obtain ⟨p, xs, rfl, h1, r1⟩ := h.dct R.gH
    exact .inr (.inr ⟨xs, h1, by rw [isEmpty_len r1.len]⟩)
  | ty n => cases e
theorem t_tru (ha : PD X B a ma) (he : ∀ whole, isTrue a X.env whole = (do let v ← whole; standAt a.pos; holding [v] (truthy v)) := by exact fun _ => rfl) (hK : X.K = B.K := by rfl) : PDT X B a (mTru ma) := .mk fun ξ =>
  (pt_truth (X := rz X ξ) (ha.ap ξ) he).imp fun σ H Q t => by
    obtain ⟨G, ρ, R, t⟩ := t
    refine (TD.bind (rel := relW) R t).mono fun x H1 ⟨G1, ρ1, w, s1, R1, q1, r, e, p⟩ => ?_
    cases hd : getD w ρ1 with
    | none => simp only [hd] at e; cases e
    | some d =>
      simp only [hd] at e
      cases hk : truD d with
      | none => rw [hk] at e; cases e
      | some k =>
        rw [hk] at e
        cases e
        refine ⟨k, ?_, p k G1 H1 (Same.refl _) R1 rfl⟩
        show TruV X.K x H1 k
        rw [hK]
        exact truV_of R1 (q1.get R1 hd) hk
theorem td_and {ξ : XP} {m1 m2 : M Bool} {σ : St} {H : Hp} {Q : Bool → Hp → Prop} (t : TD relB B ξ (mAnd m1 m2) σ H Q) : tAnd (TD relB B ξ m1) (TD relB B ξ m2) σ H Q := by
  obtain ⟨G, ρ, R, t⟩ := t
  refine (TD.bind (rel := relB) R t).mono fun k H1 ⟨G1, ρ1, k', s1, R1, q1, t2⟩ => ?_
  cases (show k = k' from q1)
  cases k with
  | true => exact ⟨G1, ρ1, R1, t2⟩
  | false =>
    obtain ⟨r, e, p⟩ := t2
    cases e
    exact p false G1 H1 (Same.refl _) R1 rfl
theorem td_or {ξ : XP} {m1 m2 : M Bool} {σ : St} {H : Hp} {Q : Bool → Hp → Prop} (t : TD relB B ξ (mOr m1 m2) σ H Q) : tOr (TD relB B ξ m1) (TD relB B ξ m2) σ H Q := by
  obtain ⟨G, ρ, R, t⟩ := t
  refine (TD.bind (rel := relB) R t).mono fun k H1 ⟨G1, ρ1, k', s1, R1, q1, t2⟩ => ?_
  cases (show k = k' from q1)
  cases k with
  | false => exact ⟨G1, ρ1, R1, t2⟩
  | true =>
    obtain ⟨r, e, p⟩ := t2
    cases e
    exact p true G1 H1 (Same.refl _) R1 rfl
theorem w_and1 {m1 : M Bool} (ha : PDT X B a m1) : PDW X B (.BoolOp .And [a] pos) m1 := .mk fun ξ => pw_and1 (ha.ap ξ)
theorem w_or1 {m1 : M Bool} (ha : PDT X B a m1) : PDW X B (.BoolOp .Or [a] pos) m1 := .mk fun ξ => pw_or1 (ha.ap ξ)
theorem w_and {m1 m2 : M Bool} (ha : PDT X B a m1) (hb : PDW X B (.BoolOp .And (b :: rest) pos) m2) : PDW X B (.BoolOp .And (a :: b :: rest) pos) (mAnd m1 m2) := .mk fun ξ => (pw_and (ha.ap ξ) (hb.ap ξ)).imp fun _ _ _ t => td_and t
theorem w_or {m1 m2 : M Bool} (ha : PDT X B a m1) (hb : PDW X B (.BoolOp .Or (b :: rest) pos) m2) : PDW X B (.BoolOp .Or (a :: b :: rest) pos) (mOr m1 m2) := .mk fun ξ => (pw_or (ha.ap ξ) (hb.ap ξ)).imp fun _ _ _ t => td_or t
theorem t_not {m1 : M Bool} (ha : PDT X B a m1) : PDT X B (.UnaryOp .Not a pos) (mNot m1) := .mk fun ξ => (pt_not (ha.ap ξ)).imp fun σ H Q t => by
  obtain ⟨G, ρ, R, t⟩ := t
  refine (TD.bind (rel := relB) R t).mono fun k H1 ⟨G1, ρ1, k', s1, R1, q1, r, e, p⟩ => ?_
  cases (show k = k' from q1)
  cases e
  exact p (!k) G1 H1 (Same.refl _) R1 rfl
theorem mBl_run {ξ : XP} {α β : Type} {rel' : Rel α β} {w : W} {f : Bool → M α} {G H : Hp} {ρ : Env'} {σ : St} {Q : β → Hp → Prop} {x : V} (R : RS B G H σ ρ) (q : RepW B G H σ ρ x w) (t : TDat rel' B ξ G ρ (M.bind (mBl w) f) σ Q) : ∃ k, x = .bl k ∧ TDat rel' B ξ G ρ (f k) σ Q := by
  obtain ⟨k, ρ', e, t⟩ := t.step fun r h => by
    unfold mBl at h
    split at h
    · cases h; exact ⟨_, _, rfl⟩
    · cases h
  unfold mBl at e
  split at e
  · rename_i b hd
    cases e
    exact ⟨k, (q.get R hd).bl, t⟩
  · cases e
theorem td_andV {ξ : XP} {σ : St} {H : Hp} {Q : VK} (t : TD relW B ξ (mAndV ma mb) σ H Q) : tAndV (TD relW B ξ ma) (TD relW B ξ mb) σ H Q := by
  obtain ⟨G, ρ, R, t⟩ := t
  refine (TD.bind (rel := relW) R t).mono fun x H1 ⟨G1, ρ1, w, s1, R1, q1, t2⟩ => ?_
  obtain ⟨k, rfl, t3⟩ := mBl_run R1 q1 t2
  refine ⟨k, rfl, ?_⟩
  cases k with
  | true => exact ⟨G1, ρ1, R1, t3⟩
  | false =>
    obtain ⟨r, e, p⟩ := t3
    cases e
    exact p _ G1 H1 (Same.refl _) R1 (.bl _)
theorem td_orV {ξ : XP} {σ : St} {H : Hp} {Q : VK} (t : TD relW B ξ (mOrV ma mb) σ H Q) : tOrV (TD relW B ξ ma) (TD relW B ξ mb) σ H Q := by
  obtain ⟨G, ρ, R, t⟩ := t
  refine (TD.bind (rel := relW) R t).mono fun x H1 ⟨G1, ρ1, w, s1, R1, q1, t2⟩ => ?_
  obtain ⟨k, rfl, t3⟩ := mBl_run R1 q1 t2
  refine ⟨k, rfl, ?_⟩
  cases k with
  | false => exact ⟨G1, ρ1, R1, t3⟩
  | true =>
    obtain ⟨r, e, p⟩ := t3
    cases e
    exact p _ G1 H1 (Same.refl _) R1 (.bl _)
theorem d_one {op} (ha : PD X B a ma) : PD X B (.BoolOp op [a] pos) ma := .mk fun ξ => pe_one (ha.ap ξ)
theorem d_and (ha : PD X B a ma) (hb : PD X B (.BoolOp .And (b :: rest) pos) mb) : PD X B (.BoolOp .And (a :: b :: rest) pos) (mAndV ma mb) := .mk fun ξ => (pe_and (ha.ap ξ) (hb.ap ξ)).imp fun _ _ _ t => td_andV t
theorem d_or (ha : PD X B a ma) (hb : PD X B (.BoolOp .Or (b :: rest) pos) mb) : PD X B (.BoolOp .Or (a :: b :: rest) pos) (mOrV ma mb) := .mk fun ξ => (pe_or (ha.ap ξ) (hb.ap ξ)).imp fun _ _ _ t => td_orV t
theorem d_not (ha : PD X B a ma) : PD X B (.UnaryOp .Not a pos) (mNotV ma) := .mk fun ξ => (pe_not (ha.ap ξ)).imp fun σ H Q t => by
  obtain ⟨G, ρ, R, t⟩ := t
  refine (TD.bind (rel := relW) R t).mono fun x H1 ⟨G1, ρ1, w, s1, R1, q1, t2⟩ => ?_
  obtain ⟨k, rfl, r, e, p⟩ := mBl_run R1 q1 t2
  cases e
  exact ⟨k, rfl, p _ G1 H1 (Same.refl _) R1 (.bl _)⟩
theorem d_ifE {m1 : M Bool} (hc : PDT X B c m1) (ha : PD X B a ma) (hb : PD X B b mb) : PD X B (.IfExp c a b pos) (mIfE m1 ma mb) := .mk fun ξ => (pe_ifExp (hc.ap ξ) (ha.ap ξ) (hb.ap ξ)).imp fun σ H Q t => by
  obtain ⟨G, ρ, R, t⟩ := t
  refine (TD.bind (rel := relB) R t).mono fun k H1 ⟨G1, ρ1, k', s1, R1, q1, t2⟩ => ?_
  cases (show k = k' from q1)
  cases k with
  | true => exact ⟨G1, ρ1, R1, t2⟩
  | false => exact ⟨G1, ρ1, R1, t2⟩
theorem td_chain {ξ : XP} {r r' : R2} {f g : D → D → Option W} (hi : Imp2 B r f) (hi' : Imp2 B r' g) {σ : St} {H : Hp} {Q : VK} (t : TD relW B ξ (mChain f g ma mb mc) σ H Q) : tChain r r' (TD relW B ξ ma) (TD relW B ξ mb) (TD relW B ξ mc) σ H Q := by
  obtain ⟨G, ρ, R, t⟩ := t
  have t1 : TD relS B ξ (stab ma) σ H _ := TD.bind (rel := relS) R t
  refine TD.stab (t1.mono fun x H1 ⟨G1, ρ1, wa, s1, R1, ⟨q1, st1⟩, t2⟩ => ?_)
  have t2' : TD relS B ξ (stab mb) σ H1 _ := TD.bind (rel := relS) R1 t2
  refine TD.stab (t2'.mono fun y H2 ⟨G2, ρ2, wb, s2, R2, ⟨q2, st2⟩, t3⟩ => ?_)
  -- the first comparison
  obtain ⟨r1, e1, p1⟩ := t3
  cases h2 : op2 f wa wb ρ2 with
  | none => rw [M.bind_none h2] at e1; cases e1
  | some r2 =>
    have h2' := h2
    unfold op2 at h2'
    cases hx : getD wa ρ2 with
    | none => rw [hx] at h2'; cases h2'
    | some dx =>
      cases hy : getD wb ρ2 with
      | none => rw [hx, hy] at h2'; cases h2'
      | some dy =>
        rw [hx, hy] at h2'
        simp only [] at h2'
        cases hf : f dx dy with
        | none => rw [hf] at h2'; cases h2'
        | some w =>
          rw [hf] at h2'
          cases h2'
          rw [M.bind_ok h2] at e1
          refine hi R2 ((q1.keep s2 st1 : RepW B G2 H2 σ ρ2 x wa).get R2 hx) (q2.get R2 hy) hf fun z G3 H3 s3 R3 q3 => ?_
          obtain ⟨k, rfl, t4⟩ := mBl_run (rel' := relW) (Q := Q) R3 q3 ⟨r1, e1, p1.same s3⟩
          refine ⟨k, rfl, ?_⟩
          cases k with
          | false =>
            obtain ⟨r5, e5, p5⟩ := t4
            cases e5
            exact p5 _ G3 H3 (Same.refl _) R3 (.bl _)
          | true =>
            refine (TD.bind (rel := relW) R3 t4).mono fun w' H4 ⟨G4, ρ4, wc, s4, R4, q4, t5⟩ => ?_
            obtain ⟨dx', dy', w5, a1, a2, a3, p⟩ := op2_run t5
            exact hi' R4 ((q2.keep (s3.trans s4) st2 : RepW B G4 H4 σ ρ4 y wb).get R4 a1) (q4.get R4 a2) a3 p
theorem d_chain {op op' : CmpOp} {r r' : R2} {f g : D → D → Option W} (ho : ∀ ξ, OpR (rz X ξ) (compareOp op) r) (ho' : ∀ ξ, OpR (rz X ξ) (compareOp op') r') (hi : Imp2 B r f) (hi' : Imp2 B r' g) (ha : PD X B a ma) (hb : PD X B b mb) (hc : PD X B c mc)
    (hm : lastMarks [op, op'] [b, c] = false := by with_unfolding_all rfl) : PD X B (.Compare a [op, op'] [b, c] pos) (mChain f g ma mb mc) := .mk fun ξ => (pe_chain (ho ξ) (ho' ξ) (ha.ap ξ) (hb.ap ξ) (hc.ap ξ) hm).imp fun _ _ _ t => td_chain hi hi' t
theorem t_chain {op op' : CmpOp} {r r' : R2} {f g : D → D → Option W} (ho : ∀ ξ, OpR (rz X ξ) (compareOp op) r) (ho' : ∀ ξ, OpR (rz X ξ) (compareOp op') r') (hi : Imp2 B r f) (hi' : Imp2 B r' g) (ha : PD X B a ma) (hb : PD X B b mb) (hc : PD X B c mc)
    (hm : lastMarks [op, op'] [b, c] = false := by with_unfolding_all rfl) : PDT X B (.Compare a [op, op'] [b, c] pos) (mTst (mChain f g ma mb mc)) := .mk fun ξ => (pt_chain (ho ξ) (ho' ξ) (ha.ap ξ) (hb.ap ξ) (hc.ap ξ) hm).imp fun _ _ _ t => td_chain hi hi' (td_tst t)
theorem d_lele (ha : PD X B a ma) (hb : PD X B b mb) (hc : PD X B c mc) (hm : lastMarks [.LtE, .LtE] [b, c] = false := by with_unfolding_all rfl) : PD X B (.Compare a [.LtE, .LtE] [b, c] pos) (mChain (cmpI fun i j => decide (i ≤ j)) (cmpI fun i j => decide (i ≤ j)) ma mb mc) := d_chain (fun _ => op_le) (fun _ => op_le) (imp2_B0 _) (imp2_B0 _) ha hb hc hm
theorem t_lele (ha : PD X B a ma) (hb : PD X B b mb) (hc : PD X B c mc) (hm : lastMarks [.LtE, .LtE] [b, c] = false := by with_unfolding_all rfl) : PDT X B (.Compare a [.LtE, .LtE] [b, c] pos) (mTst (mChain (cmpI fun i j => decide (i ≤ j)) (cmpI fun i j => decide (i ≤ j)) ma mb mc)) := t_chain (fun _ => op_le) (fun _ => op_le) (imp2_B0 _) (imp2_B0 _) ha hb hc hm
end
end L3

set_option Elab.async false
set_option linter.all false
set_option maxRecDepth 100000
set_option maxHeartbeats 4000000
namespace L3
open PySem PySem.Spec PyProof.Rows L2

/-! ### a[b] -/
theorem ix_dict {X : Cx} (hu : X.A.units + 8 < cLine) : IxR X (fun x y H Q => ∃ a v, x = .ref a ∧ DGet H a y (some v) ∧ Q v H) := by
  intro value slice pins s σ H x y v u Q I rx ry h hs
  obtain ⟨a, z, rfl, g, q⟩ := h
  cases rx
  exact tail_any (dict_typeIs I g) PySem.F.slot_dict_getitem.lookup (d_getItem (by omega) I g ry fun w' s' I' r' => ⟨z, H, I', r', q⟩) hs
def ixD : D → D → Option W
  | .lst ds, .int i => (atI ds i).map W.val
  | .tup ds, .int i => (atI ds i).map W.val
  | .str cs, .int i => grd (small cs.length) ((atI cs i).map fun c => W.val (.str [c]))
  | .dct es, k => (keyOf k).bind fun k => (valD es k).map W.val
  | _, _ => none
section
variable {X : Cx} {B : Bs} {e a b c : Expr} {ma mb mc : M W} {pos : Pos}
theorem imp2_ix : Imp2 B (fun x y H Q => rIxL B.K x y H Q ∨ rIxT B.K x y H Q ∨ rIxS x y H Q ∨ ∃ a v, x = .ref a ∧ DGet H a y (some v) ∧ Q v H) ixD := by
  intro G H σ ρ x y dx dy w Q R hx hy e p
  cases dx with
  | lst ds =>
    cases dy <;> first | (cases e; done) | skip
    obtain ⟨d, e1, rfl⟩ := Option.map_eq_some_iff.mp e
    obtain ⟨q, xs, rfl, h1, r1⟩ := hx.lst R.gH
    obtain ⟨v, e2, r2⟩ := r1.atI e1
    exact .inl ⟨q, xs, _, v, rfl, hy.int, h1, e2, p v G H (Same.refl _) R r2⟩
  | tup ds =>
    cases dy <;> first | (cases e; done) | skip
    obtain ⟨d, e1, rfl⟩ := Option.map_eq_some_iff.mp e
    obtain ⟨q, xs, rfl, h1, r1⟩ := hx.tup R.gH
    obtain ⟨v, e2, r2⟩ := r1.atI e1
    exact .inr (.inl ⟨q, xs, _, v, rfl, hy.int, h1, e2, p v G H (Same.refl _) R r2⟩)
  | str cs =>
    cases dy <;> first | (cases e; done) | skip
    obtain ⟨z, e⟩ := grd_some e
    obtain ⟨c, e1, rfl⟩ := Option.map_eq_some_iff.mp e
    refine .inr (.inr (.inl ⟨tx cs, _, c, hx.str, hy.int, by rw [tx_len]; exact small_line z, by simpa using e1, p _ G H (Same.refl _) R (.str [c])⟩))
  | dct es =>
    have e' : (keyOf dy).bind (fun k => (valD es k).map W.val) = some w := by cases dy <;> exact e
    cases hk : keyOf dy with
    | none => rw [hk] at e'; cases e'
    | some k =>
      rw [hk] at e'
      obtain ⟨d, e1, rfl⟩ := Option.map_eq_some_iff.mp e'
      obtain ⟨q, kvs, rfl, h1, r1⟩ := hx.dct R.gH
      have hv := keyOf_V hy hk
      subst hv
      obtain ⟨v, e2, r2⟩ := (r1.val k).1 d e1
      refine .inr (.inr (.inr ⟨q, v, rfl, ?_, p v G H (Same.refl _) R r2⟩))
      rw [← e2]
      exact DGet.k h1
  | _ => cases dy <;> cases e
theorem d_ix (hu : X.A.units + 8 < cLine) (ha : PD X B a ma) (hb : PD X B b mb) (hs : PlainIx b := by exact fun _ _ => rfl) (hK : X.K = B.K := by rfl) : PD X B (.Subscript a b pos) (mBin ixD ma mb) := .mk fun ξ =>
  (pe_ix (X := rz X ξ) ((ix_listK (X := rz X ξ) (K := B.K) hK).or ((ix_tupK (X := rz X ξ) (K := B.K) hK).or (ix_str.or (ix_dict hu)))) (ha.ap ξ) (hb.ap ξ) hs).imp fun _ _ _ t => td_op2 imp2_ix t
end

/-! ### slices -/
def relO : Rel (Option Int) (Option Int) := fun _ _ _ _ _ v b => v = b
structure PDO (X : Cx) (B : Bs) (e : Option Expr) (m : M (Option Int)) : Prop where
  ap : ∀ ξ, PO (rz X ξ) e (TD relO B ξ m)
def mPart (m : M W) : M (Option Int) := M.bind m fun w => fun ρ => match getD w ρ with
  | some (.int i) => some (.ok (some i) ρ)
  | _ => none
def cutD (ds : List D) (lo hi : Option Int) : List D := (ds.drop (HT.sIx ds.length 0 lo)).take (HT.sIx ds.length ds.length hi - HT.sIx ds.length 0 lo)
def slD : D → Option Int → Option Int → Option W
  | .lst ds, lo, hi => some (.own (.lst (cutD ds lo hi)))
  | .str cs, lo, hi => grd (small cs.length) (some (.val (.str (cutN cs lo hi))))
  | .tup ds, lo, hi => grd (¬ (HT.sIx ds.length 0 lo = 0 ∧ HT.sIx ds.length ds.length hi = ds.length)) (some (.val (.tup (cutD ds lo hi))))
  | _, _, _ => none
def mSl (ma : M W) (ml mh : M (Option Int)) : M W := M.bind (stab ma) fun x => M.bind ml fun lo => M.bind mh fun hi => op1 (fun d => slD d lo hi) x
theorem sl_listK {X : Cx} {K : PySem.W.Frag} (hK : X.K = K) : SlR X (rSlL K) := by subst hK; exact sl_list
theorem sl_tupK {X : Cx} {K : PySem.W.Frag} (hK : X.K = K) : SlR X (rSlT K) := by subst hK; exact sl_tup
section
variable {X : Cx} {B : Bs} {e a b c : Expr} {ma mb mc : M W} {pos p2 : Pos} {lo hi : Option Expr}
theorem o_none : PDO X B none (M.pure none) := .mk fun ξ pins s σ H Q I h => po_none pins s σ H Q I (by
  obtain ⟨G, ρ, R, r, e, p⟩ := h
  cases e
  exact p none G H (Same.refl _) R rfl)
theorem o_some (h : PD X B e ma) : PDO X B (some e) (mPart ma) := .mk fun ξ pins s σ H Q I t => po_some (h.ap ξ) pins s σ H Q I (by
  obtain ⟨G, ρ, R, t⟩ := t
  refine (TD.bind (rel := relW) R t).mono fun x H1 ⟨G1, ρ1, w, s1, R1, q1, r, e, p⟩ => ?_
  dsimp only at e
  split at e
  · rename_i i hd
    cases e
    exact ⟨i, (q1.get R1 hd).int, p (some i) G1 H1 (Same.refl _) R1 rfl⟩
  · cases e)
theorem d_sl {ml mh : M (Option Int)} (ha : PD X B a ma) (hl : PDO X B lo ml) (hh : PDO X B hi mh) (hK : X.K = B.K := by rfl) : PD X B (.Subscript a (.Slice lo hi none p2) pos) (mSl ma ml mh) := .mk fun ξ =>
  (pe_slice (X := rz X ξ) ((sl_listK (X := rz X ξ) (K := B.K) hK).or (sl_str.or (sl_tupK (X := rz X ξ) (K := B.K) hK))) (ha.ap ξ) (hl.ap ξ) (hh.ap ξ)).imp fun σ H Q t => by
    obtain ⟨G, ρ, R, t⟩ := t
    have t1 : TD relS B ξ (stab ma) σ H _ := TD.bind (rel := relS) R t
    refine TD.stab (t1.mono fun x H1 ⟨G1, ρ1, wa, s1, R1, ⟨q1, st1⟩, t2⟩ => ?_)
    refine (TD.bind (rel := relO) R1 t2).mono fun l H2 ⟨G2, ρ2, l', s2, R2, q2, t3⟩ => ?_
    cases (show l = l' from q2)
    refine (TD.bind (rel := relO) R2 t3).mono fun u H3 ⟨G3, ρ3, u', s3, R3, q3, t4⟩ => ?_
    cases (show u = u' from q3)
    obtain ⟨dx, w, e1, e2, p⟩ := op1_run t4
    have hx := (q1.keep (s2.trans s3) st1 : RepW B G3 H3 σ ρ3 x wa).get R3 e1
    cases dx with
    | lst ds =>
      cases e2
      obtain ⟨q, xs, rfl, h1, r1⟩ := hx.lst R3.gH
      refine .inl ⟨q, xs, rfl, h1, fun pp hp => ?_⟩
      have r2 : RepL B.K G3 (cutV xs l u) (cutD ds l u) := by
        unfold cutV cutD
        rw [r1.len]
        exact (r1.drop _).take _
      obtain ⟨R', w'⟩ := R3.newLst hp r2
      exact p _ G3 _ (Same.refl _) R' w'
    | str cs =>
      obtain ⟨z, e2⟩ := grd_some e2
      cases e2
      exact .inr (.inl ⟨cs, hx.str, z, p _ G3 H3 (Same.refl _) R3 (.str _)⟩)
    | tup ds =>
      obtain ⟨z, e2⟩ := grd_some e2
      cases e2
      obtain ⟨q, xs, rfl, h1, r1⟩ := hx.tup R3.gH
      refine .inr (.inr ⟨q, xs, rfl, h1, by rw [r1.len]; exact z, fun pp hp => ?_⟩)
      have r2 : RepL B.K G3 (cutV xs l u) (cutD ds l u) := by
        unfold cutV cutD
        rw [r1.len]
        exact (r1.drop _).take _
      obtain ⟨G', s', R', w'⟩ := R3.newTup hp r2
      exact p _ G' _ s' R' w'
    | _ => cases e2
end

/-! ### arguments, displays -/
def mNil : M (List W) := M.pure []
def mCons (m : M W) (r : M (List W)) : M (List W) := M.bind (stab m) fun x => M.bind r fun xs => M.pure (x :: xs)
section
variable {X : Cx} {B : Bs} {e a b c : Expr} {es : List Expr} {ma mb mc : M W} {mr : M (List W)} {pos p2 : Pos}
theorem a_nil : PDA X B [] mNil := .mk fun ξ => (pa_nil (X := rz X ξ)).imp fun σ H Q t => by
  obtain ⟨G, ρ, R, r, e, p⟩ := t
  cases e
  exact p [] G H (Same.refl _) R .nil
theorem relWs_keep {G G' H H' : Hp} {σ : St} {ρ ρ' : Env'} (s : Same G G') : ∀ {vs : List V} {ws : List W}, relWs B G H σ ρ vs ws → relWs B G' H' σ ρ' vs ws
  | _, _, .nil => .nil
  | _, _, .cons ⟨h, st⟩ t => .cons ⟨h.keep s st, st⟩ (relWs_keep s t)
theorem a_cons (ha : PD X B e ma) (hr : PDA X B es mr) (hs : starEach (e :: es) X.env = (false, eval e X.env) :: starEach es X.env := by rfl) : PDA X B (e :: es) (mCons ma mr) := .mk fun ξ =>
  (pa_cons (X := rz X ξ) (ha.ap ξ) (hr.ap ξ) hs).imp fun σ H Q t => by
    obtain ⟨G, ρ, R, t⟩ := t
    have t1 : TD relS B ξ (stab ma) σ H _ := TD.bind (rel := relS) R t
    refine TD.stab (t1.mono fun x H1 ⟨G1, ρ1, wa, s1, R1, ⟨q1, st1⟩, t2⟩ => ?_)
    refine (TD.bind (rel := relWs) R1 t2).mono fun xs H2 ⟨G2, ρ2, ws, s2, R2, q2, r, er, p⟩ => ?_
    cases er
    exact p (x :: xs) G2 H2 (Same.refl _) R2 (.cons ⟨q1.keep s2 st1, st1⟩ q2)
end
def leakL : List W → M (List D)
  | [] => M.pure []
  | w :: ws => M.bind (leak w) fun d => M.bind (leakL ws) fun ds => M.pure (d :: ds)
def mTup (m : M (List W)) : M W := M.bind m fun ws => M.bind (leakL ws) fun ds ρ => grd (small ds.length) (some (.ok (.val (.tup ds)) ρ))
def mLst (m : M (List W)) : M W := M.bind m fun ws => M.bind (leakL ws) fun ds ρ => grd (small ds.length) (some (.ok (.own (.lst ds)) ρ))
section
variable {X : Cx} {B : Bs} {e a b c : Expr} {es : List Expr} {ma mb mc : M W} {mr : M (List W)} {pos p2 : Pos}
theorem leakL_ok : ∀ {ws : List W} {ρ : Env'} {r : R' (List D)}, leakL ws ρ = some r → ∃ ds ρ', r = .ok ds ρ'
  | [], _, _, h => by cases h; exact ⟨_, _, rfl⟩
  | w :: ws, ρ, r, h => by
    unfold leakL at h
    cases h1 : leak w ρ with
    | none => rw [M.bind_none h1] at h; cases h
    | some r1 =>
      obtain ⟨d, ρ1, rfl⟩ := leak_ok h1
      rw [M.bind_ok h1] at h
      cases h2 : leakL ws ρ1 with
      | none => rw [M.bind_none h2] at h; cases h
      | some r2 =>
        obtain ⟨ds, ρ2, rfl⟩ := leakL_ok h2
        rw [M.bind_ok h2] at h
        cases h
        exact ⟨_, _, rfl⟩
theorem leakL_run : ∀ {ws : List W} {vs : List V} {G H : Hp} {σ : St} {ρ ρ' : Env'} {ds : List D}, RS B G H σ ρ → relWs B G H σ ρ vs ws → leakL ws ρ = some (.ok ds ρ') → ∃ G', Same G G' ∧ RS B G' H σ ρ' ∧ RepL B.K G' vs ds
  | [], _, G, H, σ, ρ, ρ', ds, R, q, e => by
    cases q
    cases e
    exact ⟨G, Same.refl _, R, .nil⟩
  | w :: ws, _, G, H, σ, ρ, ρ', ds, R, q, e => by
    cases q with
    | @cons v _ vs _ h1 t =>
      unfold leakL at e
      cases hl : leak w ρ with
      | none => rw [M.bind_none hl] at e; cases e
      | some r1 =>
        obtain ⟨d, ρ1, rfl⟩ := leak_ok hl
        rw [M.bind_ok hl] at e
        cases hl2 : leakL ws ρ1 with
        | none => rw [M.bind_none hl2] at e; cases e
        | some r2 =>
          obtain ⟨ds2, ρ2, rfl⟩ := leakL_ok hl2
          rw [M.bind_ok hl2] at e
          cases e
          obtain ⟨G1, s1, R1, rp⟩ := h1.1.leak R hl
          obtain ⟨G2, s2, R2, rl⟩ := leakL_run (ρ := ρ1) R1 (relWs_keep s1 t) hl2
          exact ⟨G2, s1.trans s2, R2, .cons (rp.same s2) rl⟩
theorem d_tup {x1} (h : PDA X B es mr) : PD X B (.Tuple es x1 pos) (mTup mr) := .mk fun ξ => (pe_tup (h.ap ξ)).imp fun σ H Q t => by
  obtain ⟨G, ρ, R, t⟩ := t
  refine (TD.bind (rel := relWs) R t).mono fun vs H1 ⟨G1, ρ1, ws, s1, R1, q1, t2⟩ => ?_
  obtain ⟨ds, ρ2, e2, r, er, p⟩ := t2.step fun r h => leakL_ok h
  obtain ⟨hz, er⟩ := grd_some er
  cases er
  obtain ⟨G2, s2, R2, rl⟩ := leakL_run R1 q1 e2
  refine ⟨by rw [rl.len]; exact small_line hz, fun pp hp => ?_⟩
  obtain ⟨G3, s3, R3, r3⟩ := R2.newTup hp rl
  exact p _ G3 _ (s2.trans s3) R3 r3
theorem d_lst (h : PDA X B es mr) : PD X B (.List es pos) (mLst mr) := .mk fun ξ => (pe_lst (h.ap ξ)).imp fun σ H Q t => by
  obtain ⟨G, ρ, R, t⟩ := t
  refine (TD.bind (rel := relWs) R t).mono fun vs H1 ⟨G1, ρ1, ws, s1, R1, q1, t2⟩ => ?_
  obtain ⟨ds, ρ2, e2, r, er, p⟩ := t2.step fun r h => leakL_ok h
  obtain ⟨hz, er⟩ := grd_some er
  cases er
  obtain ⟨G2, s2, R2, rl⟩ := leakL_run R1 q1 e2
  refine ⟨by rw [rl.len]; exact small_line hz, fun pp hp => ?_⟩
  obtain ⟨R3, r3⟩ := R2.newLst hp rl
  exact p _ G2 _ s2 R3 r3
def mDct0 : M W := M.pure (.own (.dct []))
theorem d_dct0 : PD X B (.Dict [] [] pos) mDct0 := .mk fun ξ => (pe_dnewK (X := rz X ξ)).imp fun σ H Q t => by
  obtain ⟨G, ρ, R, r, e, p⟩ := t
  cases e
  intro pp hp
  obtain ⟨R3, r3⟩ := R.newDct hp .nil
  exact p _ G _ (Same.refl _) R3 r3
end

/-! ### calls of built-ins -/
def getDs : List W → Env' → Option (List D)
  | [], _ => some []
  | w :: ws, ρ => match getD w ρ, getDs ws ρ with
    | some d, some ds => some (d :: ds)
    | _, _ => none
def opN (f : List D → Option W) (ws : List W) : M W := fun ρ => match getDs ws ρ with
  | some ds => (f ds).map (R'.ok · ρ)
  | none => none
def mCB (f : List D → Option W) (m : M (List W)) : M W := M.bind m fun ws => opN f ws
abbrev RepTs (K : PySem.W.Frag) (G H : Hp) : List V → List D → Prop := Paired fun v d => RepT K G H v d
def ImpN (B : Bs) (r : List V → Hp → VK → Prop) (f : List D → Option W) : Prop := ∀ {G H : Hp} {σ : St} {ρ : Env'} {xs : List V} {ds : List D} {w : W} {Q : VK}, RS B G H σ ρ → RepTs B.K G H xs ds → f ds = some w →
  (∀ v G' H', Same G G' → RS B G' H' σ ρ → RepW B G' H' σ ρ v w → Q v H') → r xs H Q
theorem opN_run {B : Bs} {ξ : XP} {f : List D → Option W} {ws : List W} {G : Hp} {ρ : Env'} {σ : St} {Q : VK} (t : TDat relW B ξ G ρ (opN f ws) σ Q) : ∃ ds w, getDs ws ρ = some ds ∧ f ds = some w ∧ ∀ v G' H', Same G G' → RS B G' H' σ ρ → RepW B G' H' σ ρ v w → Q v H' := by
  obtain ⟨r, e, p⟩ := t
  unfold opN at e
  cases hx : getDs ws ρ with
  | none => rw [hx] at e; cases e
  | some dx =>
    rw [hx] at e
    simp only [] at e
    cases hf : f dx with
    | none => rw [hf] at e; cases e
    | some w =>
      rw [hf] at e
      cases e
      exact ⟨dx, w, rfl, hf, p⟩
theorem getDs_rep {B : Bs} {G H : Hp} {σ : St} {ρ : Env'} (R : RS B G H σ ρ) : ∀ {ws : List W} {vs : List V} {ds : List D}, relWs B G H σ ρ vs ws → getDs ws ρ = some ds → RepTs B.K G H vs ds
  | [], _, ds, q, e => by cases q; cases e; exact .nil
  | w :: ws, _, ds, q, e => by
    cases q with
    | cons h t =>
      unfold getDs at e
      cases h1 : getD w ρ with
      | none => rw [h1] at e; cases e
      | some d =>
        cases h2 : getDs ws ρ with
        | none => rw [h1, h2] at e; cases e
        | some ds2 =>
          rw [h1, h2] at e
          cases e
          exact .cons (h.1.get R h1) (getDs_rep R t h2)
section
variable {X : Cx} {B : Bs} {e a b c : Expr} {es : List Expr} {ma mb mc : M W} {mr : M (List W)} {pos p : Pos} {x : Str} {id T : String}
theorem td_CB {ξ : XP} {r : List V → Hp → VK → Prop} {f : List D → Option W} (hi : ImpN B r f) {σ : St} {H : Hp} {Q : VK} (t : TD relW B ξ (mCB f mr) σ H Q) : tCB r (TD relWs B ξ mr) σ H Q := by
  obtain ⟨G, ρ, R, t⟩ := t
  refine (TD.bind (rel := relWs) R t).mono fun vs H1 ⟨G1, ρ1, ws, s1, R1, q1, t2⟩ => ?_
  obtain ⟨ds, w, e1, e2, p⟩ := opN_run t2
  exact hi R1 (getDs_rep R1 q1 e1) e2 p
theorem d_callB {r : List V → Hp → VK → Prop} {f : List D → Option W} (hc : ∀ ξ, CallR (rz X ξ) (.builtin id) r) (hi : ImpN B r f) (hg : Gl X x) (hm : X.mg x = none) (hv : bootBuiltins x = some (.builtin id)) (ha : PDA X B (e :: es) mr) (hn : x ≠ "__name__" := by decide) (hdb : (x == ("__debug__" : Str)) = false := by decide)
    (he : starEach (e :: es) X.env = (false, eval e X.env) :: starEach es X.env := by rfl) (hpl : (backTo pos (starEach es X.env)).any (·.1) = false := by rfl) : PD X B (.Call (.Name x p) (e :: es) [] pos) (mCB f mr) := .mk fun ξ =>
  (pe_callB (X := rz X ξ) (hc ξ) hg hm hv (ha.ap ξ) hn hdb he hpl).imp fun _ _ _ t => td_CB hi t
theorem d_callTy {r : List V → Hp → VK → Prop} {f : List D → Option W} (hc : ∀ ξ, CallR (rz X ξ) (.type T) r) (hi : ImpN B r f) (hg : Gl X x) (hm : X.mg x = none) (hv : bootBuiltins x = some (.type T)) (ha : PDA X B (e :: es) mr) (hn : x ≠ "__name__" := by decide) (hdb : (x == ("__debug__" : Str)) = false := by decide)
    (he : starEach (e :: es) X.env = (false, eval e X.env) :: starEach es X.env := by rfl) (hpl : (backTo pos (starEach es X.env)).any (·.1) = false := by rfl) : PD X B (.Call (.Name x p) (e :: es) [] pos) (mCB f mr) := .mk fun ξ =>
  (pe_callTy (X := rz X ξ) (hc ξ) hg hm hv (ha.ap ξ) hn hdb he hpl).imp fun _ _ _ t => td_CB hi t
end
/-- len -/
def lenD : List D → Option W
  | [.lst ds] => vI ds.length
  | [.tup ds] => vI ds.length
  | [.str cs] => grd (small cs.length) (vI cs.length)
  | [.dct es] => vI es.length
  | _ => none
def absD : List D → Option W
  | [.int i] => vI i.natAbs
  | _ => none
def intD : List D → Option W
  | [.int i] => vI i
  | [.bl b] => vI (if b then 1 else 0)
  | [.str cs] => match intText? (tx cs) with
    | some n => grd (cs.length ≤ 640) (vI n)
    | none => none
  | _ => none
def strD : List D → Option W
  | [.int i] => grd (i.natAbs.log2 < 1920) (some (.val (.str (Wd.txtN i))))
  | _ => none
def listD : List D → Option W
  | [.lst ds] => some (.own (.lst ds))
  | [.tup ds] => some (.own (.lst ds))
  | [.dct es] => some (.own (.lst (es.map fun e => match e.1 with | .inl i => D.int i | .inr x => D.str x.cps.toList)))
  | _ => none
def tupleD : List D → Option W
  | [.lst ds] => some (.val (.tup ds))
  | [.tup ds] => some (.val (.tup ds))
  | _ => none
def dictD : List D → Option W
  | [.dct es] => some (.own (.dct es))
  | _ => none
/-- a list of truths -/
def blsOf : List D → Option (List Bool)
  | [] => some []
  | .bl b :: ds => (blsOf ds).map (b :: ·)
  | _ => none
def allD : List D → Option W
  | [.lst ds] => (blsOf ds).bind fun bs => vB (bs.all id)
  | _ => none
def anyD : List D → Option W
  | [.lst ds] => (blsOf ds).bind fun bs => vB (bs.any id)
  | _ => none
theorem blsOf_eq : ∀ {ds : List D} {bs : List Bool}, blsOf ds = some bs → ds = bs.map D.bl
  | [], _, h => by cases h; rfl
  | .bl b :: ds, bs, h => by
    unfold blsOf at h
    obtain ⟨bs', e, rfl⟩ := Option.map_eq_some_iff.mp h
    rw [blsOf_eq e]
    rfl
  | .non :: _, _, h => by cases h
  | .int _ :: _, _, h => by cases h
  | .str _ :: _, _, h => by cases h
  | .ty _ :: _, _, h => by cases h
  | .tup _ :: _, _, h => by cases h
  | .lst _ :: _, _, h => by cases h
  | .dct _ :: _, _, h => by cases h
theorem bls_V {K : PySem.W.Frag} {G : Hp} : ∀ {bs : List Bool} {xs : List V}, RepL K G xs (bs.map D.bl) → xs = bs.map V.bl
  | [], [], _ => rfl
  | [], _ :: _, r => by have := r.len; simp at this
  | _ :: _, [], r => by have := r.len; simp at this
  | b :: bs, x :: xs, r => by
    have h := r.head
    cases h
    rw [bls_V r.tail]
    rfl
section
variable {X : Cx} {B : Bs} {e a b c : Expr} {es : List Expr} {ma mb mc : M W} {mr : M (List W)} {pos p : Pos}
theorem one_of {K : PySem.W.Frag} {G H : Hp} {xs : List V} {d : D} (h : RepTs K G H xs [d]) : ∃ x, xs = [x] ∧ RepT K G H x d := by
  cases h with
  | cons h t => cases t; exact ⟨_, rfl, h⟩
theorem two_of {K : PySem.W.Frag} {G H : Hp} {xs : List V} {d d' : D} (h : RepTs K G H xs [d, d']) : ∃ x y, xs = [x, y] ∧ RepT K G H x d ∧ RepT K G H y d' := by
  cases h with
  | cons h t =>
    obtain ⟨y, rfl, h2⟩ := one_of t
    exact ⟨_, y, rfl, h, h2⟩
theorem call_lenDK : ∀ {X : Cx}, CallR X (.builtin "len") (fun xs H Q => ∃ a kvs, xs = [V.ref a] ∧ H a = some (.dK kvs) ∧ Q (.int kvs.length) H) := call_lenD
theorem impN_len : ImpN B (fun xs H Q => (∃ p ys, xs = [.ref p] ∧ (SqL B.K H p ys ∨ SqT B.K H p ys) ∧ Q (.int ys.length) H) ∨ (∃ z, xs = [.str z] ∧ z.length ≤ sizeLine ∧ Q (.int z.length) H) ∨ ∃ a kvs, xs = [V.ref a] ∧ H a = some (.dK kvs) ∧ Q (.int kvs.length) H) lenD := by
  intro G H σ ρ xs ds w Q R h e p
  match ds, e with
  | [.lst ds], e =>
    cases e
    obtain ⟨x, rfl, hx⟩ := one_of h
    obtain ⟨q, ys, rfl, h1, r1⟩ := hx.lst R.gH
    exact .inl ⟨q, ys, rfl, .inl h1, by rw [r1.len]; exact p _ G H (Same.refl _) R (.int _)⟩
  | [.tup ds], e =>
    cases e
    obtain ⟨x, rfl, hx⟩ := one_of h
    obtain ⟨q, ys, rfl, h1, r1⟩ := hx.tup R.gH
    exact .inl ⟨q, ys, rfl, .inr h1, by rw [r1.len]; exact p _ G H (Same.refl _) R (.int _)⟩
  | [.str cs], e =>
    obtain ⟨z, e⟩ := grd_some e
    cases e
    obtain ⟨x, rfl, hx⟩ := one_of h
    exact .inr (.inl ⟨tx cs, by rw [hx.str], by rw [tx_len]; exact small_line z, by rw [tx_len]; exact p _ G H (Same.refl _) R (.int _)⟩)
  | [.dct es], e =>
    cases e
    obtain ⟨x, rfl, hx⟩ := one_of h
    obtain ⟨q, ys, rfl, h1, r1⟩ := hx.dct R.gH
    exact .inr (.inr ⟨q, ys, rfl, h1, by rw [r1.len]; exact p _ G H (Same.refl _) R (.int _)⟩)
theorem d_len (hm : X.mg "len" = none) (ha : PDA X B [e] mr) (hg : Gl X "len" := by rfl) (hK : X.K = B.K := by rfl) (he : starEach [e] X.env = (false, eval e X.env) :: starEach [] X.env := by rfl) (hpl : (backTo pos (starEach [] X.env)).any (·.1) = false := by rfl) : PD X B (.Call (.Name "len" p) [e] [] pos) (mCB lenD mr) :=
  d_callB (fun ξ => (call_lenK (X := rz X ξ) (K := B.K) hK).or (call_len_str.or call_lenD)) impN_len hg hm PySem.boot_len ha (by decide) (by decide) he hpl
theorem impN_abs : ImpN B (fun xs H Q => ∃ i, xs = [.int i] ∧ Q (.int (if i < 0 then -i else i)) H) absD := by
  intro G H σ ρ xs ds w Q R h e p
  match ds, e with
  | [.int i], e =>
    cases e
    obtain ⟨x, rfl, hx⟩ := one_of h
    refine ⟨i, by rw [hx.int], ?_⟩
    have ea : (if i < 0 then -i else i) = ((i.natAbs : Nat) : Int) := by split <;> omega
    rw [ea]
    exact p _ G H (Same.refl _) R (.int _)
theorem d_abs (hm : X.mg "abs" = none) (ha : PDA X B [e] mr) (hg : Gl X "abs" := by rfl) (he : starEach [e] X.env = (false, eval e X.env) :: starEach [] X.env := by rfl) (hpl : (backTo pos (starEach [] X.env)).any (·.1) = false := by rfl) : PD X B (.Call (.Name "abs" p) [e] [] pos) (mCB absD mr) :=
  d_callB (fun ξ => call_abs) impN_abs hg hm PyProof.Rows.boot_abs ha (by decide) (by decide) he hpl
theorem impN_int : ImpN B (fun xs H Q => ((∃ i, xs = [.int i] ∧ Q (.int i) H) ∨ ∃ k, xs = [.bl k] ∧ Q (.int (if k then 1 else 0)) H) ∨ ∃ x n, xs = [.str x] ∧ intText? x = some n ∧ x.length ≤ 640 ∧ Q (.int n) H) intD := by
  intro G H σ ρ xs ds w Q R h e p
  match ds, e with
  | [.int i], e =>
    cases e
    obtain ⟨x, rfl, hx⟩ := one_of h
    exact .inl (.inl ⟨i, by rw [hx.int], p _ G H (Same.refl _) R (.int _)⟩)
  | [.bl k], e =>
    cases e
    obtain ⟨x, rfl, hx⟩ := one_of h
    exact .inl (.inr ⟨k, by rw [hx.bl], p _ G H (Same.refl _) R (.int _)⟩)
  | [.str cs], e =>
    obtain ⟨x, rfl, hx⟩ := one_of h
    have e : (match intText? (tx cs) with | some n => grd (cs.length ≤ 640) (vI n) | none => none) = some w := e
    split at e
    · rename_i n hn
      obtain ⟨z, e⟩ := grd_some e
      cases e
      exact .inr ⟨tx cs, n, by rw [hx.str], hn, by rw [tx_len]; exact z, p _ G H (Same.refl _) R (.int _)⟩
    · cases e
theorem d_int' (hm : X.mg "int" = none) (ha : PDA X B [e] mr) (hg : Gl X "int" := by rfl) (he : starEach [e] X.env = (false, eval e X.env) :: starEach [] X.env := by rfl) (hpl : (backTo pos (starEach [] X.env)).any (·.1) = false := by rfl) : PD X B (.Call (.Name "int" p) [e] [] pos) (mCB intD mr) :=
  d_callTy (fun ξ => call_int1.or call_int_str) impN_int hg hm PyProof.Rows.boot_int ha (by decide) (by decide) he hpl
theorem impN_str : ImpN B (fun xs H Q => ∃ i, xs = [.int i] ∧ i.natAbs.log2 < 1920 ∧ Q (.str (toString i)) H) strD := by
  intro G H σ ρ xs ds w Q R h e p
  match ds, e with
  | [.int i], e =>
    obtain ⟨z, e⟩ := grd_some e
    cases e
    obtain ⟨x, rfl, hx⟩ := one_of h
    refine ⟨i, by rw [hx.int], z, ?_⟩
    have es : (toString i : Str) = tx (Wd.txtN i) := Wd.str_int i
    rw [es]
    exact p _ G H (Same.refl _) R (.str _)
theorem d_str' (hm : X.mg "str" = none) (ha : PDA X B [e] mr) (hg : Gl X "str" := by rfl) (he : starEach [e] X.env = (false, eval e X.env) :: starEach [] X.env := by rfl) (hpl : (backTo pos (starEach [] X.env)).any (·.1) = false := by rfl) : PD X B (.Call (.Name "str" p) [e] [] pos) (mCB strD mr) :=
  d_callTy (fun ξ => call_str_int) impN_str hg hm PyProof.Rows.boot_str ha (by decide) (by decide) he hpl
theorem call_list_ofK {X : Cx} {K : PySem.W.Frag} (hK : X.K = K) : CallR X (.type "list") (fun xs H Q => ∃ p ys, xs = [.ref p] ∧ (SqL K H p ys ∨ SqT K H p ys) ∧ ∀ l, H l = none → Q (.ref l) (upd H l (.lst ys))) := by subst hK; exact call_list_of
theorem call_tuple_ofK {X : Cx} {K : PySem.W.Frag} (hK : X.K = K) : CallR X (.type "tuple") (fun xs H Q => ∃ p ys, xs = [.ref p] ∧ ((SqL K H p ys ∧ ∀ l, H l = none → Q (.ref l) (upd H l (.tup ys))) ∨ (SqT K H p ys ∧ Q (.ref p) H))) := by subst hK; exact call_tuple_of
theorem keys_rep {K : PySem.W.Frag} {G : Hp} {kvs : List (Key × V)} {es : List (Key × D)} (r : RepKV K G kvs es) : RepL K G (kvs.map fun kv => kV kv.1) (es.map fun e => match e.1 with | .inl i => D.int i | .inr x => D.str x.cps.toList) := by
  refine RepKV.ind (P := fun kvs es => RepL K G (kvs.map fun kv => kV kv.1) (es.map fun e => match e.1 with | .inl i => D.int i | .inr x => D.str x.cps.toList)) .nil (fun p e kvs es hk hr _ ih => ?_) r
  rw [List.map_cons, List.map_cons]
  refine .cons ?_ ih
  rw [hk]
  cases e.1 with
  | inl i => exact .int i
  | inr x => exact rep_str x
theorem impN_list : ImpN B (fun xs H Q => (∃ p ys, xs = [.ref p] ∧ (SqL B.K H p ys ∨ SqT B.K H p ys) ∧ ∀ l, H l = none → Q (.ref l) (upd H l (.lst ys))) ∨ ∃ a kvs, xs = [.ref a] ∧ H a = some (.dK kvs) ∧ ∀ p, H p = none → Q (.ref p) (upd H p (.lst (kvs.map fun kv => kV kv.1)))) listD := by
  intro G H σ ρ xs ds w Q R h e p
  match ds, e with
  | [.lst ds], e =>
    cases e
    obtain ⟨x, rfl, hx⟩ := one_of h
    obtain ⟨q, ys, rfl, h1, r1⟩ := hx.lst R.gH
    refine .inl ⟨q, ys, rfl, .inl h1, fun l hl => ?_⟩
    obtain ⟨R', w'⟩ := R.newLst hl r1
    exact p _ G _ (Same.refl _) R' w'
  | [.tup ds], e =>
    cases e
    obtain ⟨x, rfl, hx⟩ := one_of h
    obtain ⟨q, ys, rfl, h1, r1⟩ := hx.tup R.gH
    refine .inl ⟨q, ys, rfl, .inr h1, fun l hl => ?_⟩
    obtain ⟨R', w'⟩ := R.newLst hl r1
    exact p _ G _ (Same.refl _) R' w'
  | [.dct es], e =>
    cases e
    obtain ⟨x, rfl, hx⟩ := one_of h
    obtain ⟨q, ys, rfl, h1, r1⟩ := hx.dct R.gH
    refine .inr ⟨q, ys, rfl, h1, fun l hl => ?_⟩
    obtain ⟨R', w'⟩ := R.newLst hl (keys_rep r1)
    exact p _ G _ (Same.refl _) R' w'
theorem d_list (hc : X.calm = true) (hm : X.mg "list" = none) (ha : PDA X B [e] mr) (hg : Gl X "list" := by rfl) (hK : X.K = B.K := by rfl) (he : starEach [e] X.env = (false, eval e X.env) :: starEach [] X.env := by rfl) (hpl : (backTo pos (starEach [] X.env)).any (·.1) = false := by rfl) : PD X B (.Call (.Name "list" p) [e] [] pos) (mCB listD mr) :=
  d_callTy (fun ξ => (call_list_ofK (X := rz X ξ) (K := B.K) hK).or (call_list_dict hc)) impN_list hg hm PyProof.Rows.boot_list ha (by decide) (by decide) he hpl
theorem impN_tuple : ImpN B (fun xs H Q => ∃ p ys, xs = [.ref p] ∧ ((SqL B.K H p ys ∧ ∀ l, H l = none → Q (.ref l) (upd H l (.tup ys))) ∨ (SqT B.K H p ys ∧ Q (.ref p) H))) tupleD := by
  intro G H σ ρ xs ds w Q R h e p
  match ds, e with
  | [.lst ds], e =>
    cases e
    obtain ⟨x, rfl, hx⟩ := one_of h
    obtain ⟨q, ys, rfl, h1, r1⟩ := hx.lst R.gH
    refine ⟨q, ys, rfl, .inl ⟨h1, fun l hl => ?_⟩⟩
    obtain ⟨G', s', R', w'⟩ := R.newTup hl r1
    exact p _ G' _ s' R' w'
  | [.tup ds], e =>
    cases e
    obtain ⟨x, rfl, hx⟩ := one_of h
    have hx' := hx
    rcases hx with hx | ⟨_, _, hf⟩
    · cases hx with
      | tup h1 l1 r1 => exact ⟨_, _, rfl, .inr ⟨R.gH.tup h1, p _ G H (Same.refl _) R (.tup h1 l1 r1)⟩⟩
    · exact (show False from hf).elim
theorem d_tuple (hm : X.mg "tuple" = none) (ha : PDA X B [e] mr) (hg : Gl X "tuple" := by rfl) (hK : X.K = B.K := by rfl) (he : starEach [e] X.env = (false, eval e X.env) :: starEach [] X.env := by rfl) (hpl : (backTo pos (starEach [] X.env)).any (·.1) = false := by rfl) : PD X B (.Call (.Name "tuple" p) [e] [] pos) (mCB tupleD mr) :=
  d_callTy (fun ξ => call_tuple_ofK (X := rz X ξ) (K := B.K) hK) impN_tuple hg hm PyProof.Rows.boot_tuple ha (by decide) (by decide) he hpl
theorem impN_dict : ImpN B (fun xs H Q => ∃ a kvs, xs = [.ref a] ∧ H a = some (.dK kvs) ∧ ∀ p, H p = none → Q (.ref p) (upd H p (.dK kvs))) dictD := by
  intro G H σ ρ xs ds w Q R h e p
  match ds, e with
  | [.dct es], e =>
    cases e
    obtain ⟨x, rfl, hx⟩ := one_of h
    obtain ⟨q, ys, rfl, h1, r1⟩ := hx.dct R.gH
    refine ⟨q, ys, rfl, h1, fun l hl => ?_⟩
    obtain ⟨R', w'⟩ := R.newDct hl r1
    exact p _ G _ (Same.refl _) R' w'
theorem d_dict (hm : X.mg "dict" = none) (ha : PDA X B [e] mr) (hg : Gl X "dict" := by rfl) (he : starEach [e] X.env = (false, eval e X.env) :: starEach [] X.env := by rfl) (hpl : (backTo pos (starEach [] X.env)).any (·.1) = false := by rfl) : PD X B (.Call (.Name "dict" p) [e] [] pos) (mCB dictD mr) :=
  d_callTy (fun ξ => call_dict_of) impN_dict hg hm PyProof.Rows.boot_dict ha (by decide) (by decide) he hpl
theorem impN_all : ImpN B (fun xs H Q => ∃ (p : Addr) (bs : List Bool), xs = [.ref p] ∧ SqL B.K H p (bs.map V.bl) ∧ Q (.bl (bs.all id)) H) allD := by
  intro G H σ ρ xs ds w Q R h e p
  match ds, e with
  | [.lst ds], e =>
    obtain ⟨x, rfl, hx⟩ := one_of h
    have e : (blsOf ds).bind (fun bs => vB (bs.all id)) = some w := e
    cases hb : blsOf ds with
    | none => rw [hb] at e; cases e
    | some bs =>
      rw [hb] at e
      cases e
      rw [blsOf_eq hb] at hx
      obtain ⟨q, ys, rfl, h1, r1⟩ := hx.lst R.gH
      rw [bls_V r1] at h1
      exact ⟨q, bs, rfl, h1, p _ G H (Same.refl _) R (.bl _)⟩
theorem impN_any : ImpN B (fun xs H Q => ∃ (p : Addr) (bs : List Bool), xs = [.ref p] ∧ SqL B.K H p (bs.map V.bl) ∧ Q (.bl (bs.any id)) H) anyD := by
  intro G H σ ρ xs ds w Q R h e p
  match ds, e with
  | [.lst ds], e =>
    obtain ⟨x, rfl, hx⟩ := one_of h
    have e : (blsOf ds).bind (fun bs => vB (bs.any id)) = some w := e
    cases hb : blsOf ds with
    | none => rw [hb] at e; cases e
    | some bs =>
      rw [hb] at e
      cases e
      rw [blsOf_eq hb] at hx
      obtain ⟨q, ys, rfl, h1, r1⟩ := hx.lst R.gH
      rw [bls_V r1] at h1
      exact ⟨q, bs, rfl, h1, p _ G H (Same.refl _) R (.bl _)⟩
theorem d_all (hc : X.calm = true) (hm : X.mg "all" = none) (ha : PDA X B [e] mr) (hg : Gl X "all" := by rfl) (hK : X.K = B.K := by rfl) (he : starEach [e] X.env = (false, eval e X.env) :: starEach [] X.env := by rfl) (hpl : (backTo pos (starEach [] X.env)).any (·.1) = false := by rfl) : PD X B (.Call (.Name "all" p) [e] [] pos) (mCB allD mr) :=
  d_callB (fun ξ => call_allK (X := rz X ξ) (K := B.K) hK hc) impN_all hg hm PyProof.Rows.boot_all ha (by decide) (by decide) he hpl
theorem d_any (hc : X.calm = true) (hm : X.mg "any" = none) (ha : PDA X B [e] mr) (hg : Gl X "any" := by rfl) (hK : X.K = B.K := by rfl) (he : starEach [e] X.env = (false, eval e X.env) :: starEach [] X.env := by rfl) (hpl : (backTo pos (starEach [] X.env)).any (·.1) = false := by rfl) : PD X B (.Call (.Name "any" p) [e] [] pos) (mCB anyD mr) :=
  d_callB (fun ξ => call_anyK (X := rz X ξ) (K := B.K) hK hc) impN_any hg hm PyProof.Rows.boot_any ha (by decide) (by decide) he hpl
end
end L3

set_option Elab.async false
set_option linter.all false
set_option maxRecDepth 100000
set_option maxHeartbeats 4000000
namespace L3
open PySem PySem.Spec PyProof.Rows L2

/-! ### statements -/
inductive SR where
  | nx (ρ : Env') | rt (w : W) (ρ : Env') | bk (ρ : Env') | ct (ρ : Env') | ex (x : Exn) (ρ : Env')
abbrev SM := Env' → Option SR
def PostS (B : Bs) (ξ : XP) (G : Hp) (Dn : Ends) : SR → Prop
  | .nx ρ' => ∀ σ' G' H', Same G G' → RS B G' H' σ' ρ' → Dn.nx σ' H'
  | .bk ρ' => ∀ σ' G' H', Same G G' → RS B G' H' σ' ρ' → Dn.bk σ' H'
  | .ct ρ' => ∀ σ' G' H', Same G G' → RS B G' H' σ' ρ' → Dn.ct σ' H'
  | .rt w ρ' => ∀ v σ' G' H', Same G G' → RS B G' H' σ' ρ' → RepW B G' H' σ' ρ' v w → Dn.rt v H'
  | .ex x ρ' => ∀ σ' G' H', Same G G' → RS B G' H' σ' ρ' → ξ x σ' H'
def SDat (B : Bs) (ξ : XP) (G : Hp) (ρ : Env') (m : SM) (Dn : Ends) : Prop := ∃ r, m ρ = some r ∧ PostS B ξ G Dn r
def SD (B : Bs) (ξ : XP) (m : SM) : TS := fun Dn σ H => ∃ G ρ, RS B G H σ ρ ∧ SDat B ξ G ρ m Dn
structure PSD (X : Cx) (B : Bs) (st : Stmt) (m : SM) : Prop where
  ap : ∀ ξ, PS (rz X ξ) st (SD B ξ m)
structure PSsD (X : Cx) (B : Bs) (st : List Stmt) (m : SM) : Prop where
  ap : ∀ ξ, PSs (rz X ξ) st (SD B ξ m)
section
variable {X : Cx} {B : Bs} {ξ : XP} {G G' H : Hp} {σ : St} {ρ : Env'} {Dn : Ends} {st : Stmt} {rest : List Stmt} {m1 m2 : SM} {e c : Expr} {me : M W} {pos : Pos}
theorem PostS.same {r : SR} (s : Same G G') (h : PostS B ξ G Dn r) : PostS B ξ G' Dn r := by
  cases r with
  | nx ρ' => exact fun σ2 G2 H2 s2 => h σ2 G2 H2 (s.trans s2)
  | bk ρ' => exact fun σ2 G2 H2 s2 => h σ2 G2 H2 (s.trans s2)
  | ct ρ' => exact fun σ2 G2 H2 s2 => h σ2 G2 H2 (s.trans s2)
  | rt w ρ' => exact fun v σ2 G2 H2 s2 => h v σ2 G2 H2 (s.trans s2)
  | ex x ρ' => exact fun σ2 G2 H2 s2 => h σ2 G2 H2 (s.trans s2)
def seqS (m1 m2 : SM) : SM := fun ρ => match m1 ρ with
  | some (.nx ρ') => m2 ρ'
  | r => r
theorem seqS_nx {m1 m2 : SM} {ρ ρ' : Env'} (h : m1 ρ = some (.nx ρ')) : seqS m1 m2 ρ = m2 ρ' := by unfold seqS; rw [h]
def nxS : SM := fun ρ => some (.nx ρ)
theorem s_nil : PSsD X B [] nxS := .mk fun ξ => (pss_nil (X := rz X ξ)).imp fun Dn σ H t => by
  obtain ⟨G, ρ, R, r, e, p⟩ := t
  cases e
  exact p σ G H (Same.refl _) R
theorem s_cons (h1 : PSD X B st m1) (h2 : PSsD X B rest m2) : PSsD X B (st :: rest) (seqS m1 m2) := .mk fun ξ => (pss_cons (h1.ap ξ) (h2.ap ξ)).imp fun Dn σ H t => by
  obtain ⟨G, ρ, R, r, e, p⟩ := t
  unfold seqS at e
  cases h : m1 ρ with
  | none => rw [h] at e; cases e
  | some r1 =>
    rw [h] at e
    refine ⟨G, ρ, R, r1, h, ?_⟩
    cases r1 with
    | nx ρ1 => exact fun σ' G' H' s R' => ⟨G', ρ1, R', r, e, p.same s⟩
    | bk ρ1 => cases e; exact p
    | ct ρ1 => cases e; exact p
    | rt w ρ1 => cases e; exact p
    | ex x ρ1 => cases e; exact p
theorem s_one (h1 : PSD X B st m1) : PSsD X B [st] m1 := .mk fun ξ => pss_one (h1.ap ξ)
def brkS : SM := fun ρ => some (.bk ρ)
def cntS : SM := fun ρ => some (.ct ρ)
theorem s_break : PSD X B (.Break pos) brkS := .mk fun ξ => (ps_break (X := rz X ξ)).imp fun Dn σ H t => by
  obtain ⟨G, ρ, R, r, e, p⟩ := t
  cases e
  exact p σ G H (Same.refl _) R
theorem s_continue : PSD X B (.Continue pos) cntS := .mk fun ξ => (ps_continue (X := rz X ξ)).imp fun Dn σ H t => by
  obtain ⟨G, ρ, R, r, e, p⟩ := t
  cases e
  exact p σ G H (Same.refl _) R
theorem s_pass : PSD X B (.Pass pos) nxS := .mk fun ξ => (ps_pass (X := rz X ξ)).imp fun Dn σ H t => by
  obtain ⟨G, ρ, R, r, e, p⟩ := t
  cases e
  exact p σ G H (Same.refl _) R
/-- from an expression's end to a statement's -/
def thenS {α : Type} (m : M α) (f : α → SM) : SM := fun ρ => match m ρ with
  | none => none
  | some (.ex x ρ') => some (.ex x ρ')
  | some (.ok a ρ') => f a ρ'
theorem thenS_ok {α : Type} {m : M α} {f : α → SM} {ρ ρ' : Env'} {a : α} (h : m ρ = some (.ok a ρ')) : thenS m f ρ = f a ρ' := by unfold thenS; rw [h]
theorem SD.step {α β : Type} {rel : Rel α β} {m : M α} {f : α → SM} (R : RS B G H σ ρ) (t : SDat B ξ G ρ (thenS m f) Dn) : TD rel B ξ m σ H (fun v H1 => ∃ G1 ρ1 a, Same G G1 ∧ RS B G1 H1 σ ρ1 ∧ rel B G1 H1 σ ρ1 v a ∧ SDat B ξ G1 ρ1 (f a) Dn) := by
  obtain ⟨r, e, p⟩ := t
  unfold thenS at e
  cases hm : m ρ with
  | none => rw [hm] at e; cases e
  | some r1 =>
    rw [hm] at e
    cases r1 with
    | ex x ρ1 =>
      cases e
      exact ⟨G, ρ, R, _, hm, fun G' H' s R' => p σ G' H' s R'⟩
    | ok a ρ1 => exact ⟨G, ρ, R, _, hm, fun v G1 H1 s R1 q => ⟨G1, ρ1, a, s, R1, q, r, e, p.same s⟩⟩
theorem SD.stepE {α β : Type} {rel : Rel α β} {m : M α} {f : α → SM} (R : RS B G H σ ρ) (t : SDat B ξ G ρ (thenS m f) Dn) : TD rel B ξ m σ H (fun v H1 => ∃ G1 ρ1 a, m ρ = some (.ok a ρ1) ∧ Same G G1 ∧ RS B G1 H1 σ ρ1 ∧ rel B G1 H1 σ ρ1 v a ∧ SDat B ξ G1 ρ1 (f a) Dn) := by
  obtain ⟨r, e, p⟩ := t
  unfold thenS at e
  cases hm : m ρ with
  | none => rw [hm] at e; cases e
  | some r1 =>
    rw [hm] at e
    cases r1 with
    | ex x ρ1 =>
      cases e
      exact ⟨G, ρ, R, _, hm, fun G' H' s R' => p σ G' H' s R'⟩
    | ok a ρ1 => exact ⟨G, ρ, R, _, hm, fun v G1 H1 s R1 q => ⟨G1, ρ1, a, rfl, s, R1, q, r, e, p.same s⟩⟩
def dropS (m : M W) : SM := thenS m fun _ => nxS
theorem s_expr (he : PD X B e me) (hs : swapsWith e none pos.line X.env = pure false := by rfl) : PSD X B (.Expr e pos) (dropS me) := .mk fun ξ => (ps_expr (X := rz X ξ) (he.ap ξ) hs).imp fun Dn σ H t => by
  obtain ⟨G, ρ, R, t⟩ := t
  refine (SD.step (rel := relW) R t).mono fun v H1 ⟨G1, ρ1, a, s1, R1, q1, r, e, p⟩ => ?_
  cases e
  exact p σ G1 H1 (Same.refl _) R1
/-- what a def hands back -/
def retW (w : W) : SM := fun ρ => match w with
  | .val d => some (.rt (.val d) ρ)
  | .own d => some (.rt (.own d) ρ)
  | .slot i => match ρ[i]? with
    | some (some (.sh d)) => some (.rt (.val d) ρ)
    | some (some (.ow false d)) => some (.rt (.own d) (ρ.set i none))
    | _ => none
def retS (m : M W) : SM := thenS m retW
theorem RS.forget {i : Nat} (R : RS B G H σ ρ) : RS B G H σ (ρ.set i none) := by
  by_cases hi : i < ρ.length
  · refine ⟨R.hk, R.keep, R.g0, R.gH, R.gnew, R.dom, by simp [R.len], fun j d' q' => ?_, fun j l d' q' => ?_, fun j k l d' l' e' p' a b => ?_⟩
    · by_cases z : i = j
      · subst z; rw [List.getElem?_set_self hi] at q'; cases q'
      · rw [List.getElem?_set_ne z] at q'; exact R.sh j d' q'
    · by_cases z : i = j
      · subst z; rw [List.getElem?_set_self hi] at q'; cases q'
      · rw [List.getElem?_set_ne z] at q'; exact R.ow j l d' q'
    · by_cases z : i = j
      · subst z; rw [List.getElem?_set_self hi] at a; cases a
      · by_cases z' : i = k
        · subst z'; rw [List.getElem?_set_self hi] at b; cases b
        · rw [List.getElem?_set_ne z] at a
          rw [List.getElem?_set_ne z'] at b
          exact R.inj j k l d' l' e' p' a b
  · rw [List.set_eq_of_length_le (by omega)]
    exact R
theorem s_ret (he : PD X B e me) : PSD X B (.Return (some e) pos) (retS me) := .mk fun ξ => (ps_ret (he.ap ξ)).imp fun Dn σ H t => by
  obtain ⟨G, ρ, R, t⟩ := t
  refine (SD.step (rel := relW) R t).mono fun v H1 ⟨G1, ρ1, w, s1, R1, q1, r, e, p⟩ => ?_
  unfold retW at e
  cases w with
  | val d => cases e; exact p v σ G1 H1 (Same.refl _) R1 q1
  | own d => cases e; exact p v σ G1 H1 (Same.refl _) R1 q1
  | slot i =>
    have h' : σ[i]? = some (some v) := q1
    simp only [] at e
    split at e
    · rename_i d' q
      cases e
      obtain ⟨v', q1, r⟩ := R1.sh i _ q
      rw [h'] at q1
      cases q1
      exact p v σ G1 H1 (Same.refl _) R1 r
    · rename_i d' q
      cases e
      obtain ⟨pp, q1, q2, q3, q4, o⟩ := R1.ow i _ _ q
      have hi : i < ρ1.length := (List.getElem?_eq_some_iff.mp q).1
      rw [h'] at q1
      cases q1
      refine p _ σ G1 H1 (Same.refl _) R1.forget ⟨pp, rfl, q2, q4, o, fun j l e' q' z => ?_⟩
      by_cases zz : i = j
      · subst zz; rw [List.getElem?_set_self hi] at q'; cases q'
      · rw [List.getElem?_set_ne zz] at q'
        exact zz (R1.inj i j _ _ _ _ pp q q' h' z)
    · cases e
def ifS (c : M Bool) (a b : SM) : SM := thenS c fun k => if k = true then a else b
theorem s_if {mc : M Bool} {a b : List Stmt} (hc : PDT X B c mc) (ha : PSsD X B a m1) (hb : PSsD X B b m2) : PSD X B (.If c a b pos) (ifS mc m1 m2) := .mk fun ξ => (ps_if (hc.ap ξ) (ha.ap ξ) (hb.ap ξ)).imp fun Dn σ H t => by
  obtain ⟨G, ρ, R, t⟩ := t
  refine (SD.step (rel := relB) R t).mono fun k H1 ⟨G1, ρ1, k', s1, R1, q1, t2⟩ => ?_
  cases (show k = k' from q1)
  cases k with
  | true => exact ⟨G1, ρ1, R1, t2⟩
  | false => exact ⟨G1, ρ1, R1, t2⟩
/-- a name is stored -/
theorem RS.setSh {i : Nat} {v : V} {d : D} (R : RS B G H σ ρ) (hi : i < ρ.length) (h : Rep B.K G v d) : RS B G H (σ.set i (some v)) (ρ.set i (some (.sh d))) := by
  have hs : i < σ.length := by rw [R.len]; exact hi
  refine ⟨R.hk, R.keep, R.g0, R.gH, R.gnew, R.dom, by simp [R.len], fun j d' q' => ?_, fun j l d' q' => ?_, fun j k l d' l' e' p' a b => ?_⟩
  · by_cases z : i = j
    · subst z
      rw [List.getElem?_set_self hi] at q'
      cases q'
      exact ⟨v, by rw [List.getElem?_set_self hs], h⟩
    · rw [List.getElem?_set_ne z] at q' ⊢; exact R.sh j d' q'
  · by_cases z : i = j
    · subst z; rw [List.getElem?_set_self hi] at q'; cases q'
    · rw [List.getElem?_set_ne z] at q' ⊢; exact R.ow j l d' q'
  · by_cases z : i = j
    · subst z; rw [List.getElem?_set_self hi] at a; cases a
    · by_cases z' : i = k
      · subst z'; rw [List.getElem?_set_self hi] at b; cases b
      · rw [List.getElem?_set_ne z] at a ⊢
        rw [List.getElem?_set_ne z'] at b ⊢
        exact R.inj j k l d' l' e' p' a b
theorem RS.setOw {i : Nat} {v : V} {d : D} (R : RS B G H σ ρ) (hi : i < ρ.length) (h : RepW B G H σ ρ v (.own d)) : RS B G H (σ.set i (some v)) (ρ.set i (some (.ow false d))) := by
  obtain ⟨p, rfl, g, h0, o, ne⟩ := h
  have hs : i < σ.length := by rw [R.len]; exact hi
  refine ⟨R.hk, R.keep, R.g0, R.gH, R.gnew, R.dom, by simp [R.len], fun j d' q' => ?_, fun j l d' q' => ?_, fun j k l d' l' e' p' a b => ?_⟩
  · by_cases z : i = j
    · subst z; rw [List.getElem?_set_self hi] at q'; cases q'
    · rw [List.getElem?_set_ne z] at q' ⊢; exact R.sh j d' q'
  · by_cases z : i = j
    · subst z
      rw [List.getElem?_set_self hi] at q'
      cases q'
      refine ⟨p, by rw [List.getElem?_set_self hs], g, ?_, h0, o⟩
      cases hq : B.HK p with
      | none => rfl
      | some ob => rw [R.hk p ob hq] at h0; cases h0
    · rw [List.getElem?_set_ne z] at q' ⊢; exact R.ow j l d' q'
  · by_cases z : i = j
    · by_cases z' : i = k
      · intro _ _; omega
      · subst z
        rw [List.getElem?_set_self hs, List.getElem?_set_ne z']
        rw [List.getElem?_set_ne z'] at b
        intro a1 a2
        cases a1
        exact absurd a2 (ne k l' e' b)
    · by_cases z' : i = k
      · subst z'
        rw [List.getElem?_set_self hs, List.getElem?_set_ne z]
        rw [List.getElem?_set_ne z] at a
        intro a1 a2
        cases a2
        exact absurd a1 (ne j l d' a)
      · rw [List.getElem?_set_ne z] at a ⊢
        rw [List.getElem?_set_ne z'] at b ⊢
        exact R.inj j k l d' l' e' p' a b
def storeS (i : Nat) (w : W) : SM := fun ρ => if i < ρ.length then match w with
  | .own d => some (.nx (ρ.set i (some (.ow false d))))
  | w => match leak w ρ with
    | some (.ok d ρ') => some (.nx (ρ'.set i (some (.sh d))))
    | _ => none
  else none
def setS (i : Nat) (m : M W) : SM := thenS m (storeS i)
theorem leak_len {w : W} {ρ ρ' : Env'} {d : D} (h : leak w ρ = some (.ok d ρ')) : ρ'.length = ρ.length := by
  unfold leak at h
  cases w with
  | val d => cases h; rfl
  | own d => cases h; rfl
  | slot i =>
    simp only [] at h
    split at h
    · cases h; rfl
    · cases h; simp
    · cases h
theorem store_run {i : Nat} {w : W} {v : V} {r : SR} (R : RS B G H σ ρ) (q : RepW B G H σ ρ v w) (e : storeS i w ρ = some r) : ∃ ρ' G', r = .nx ρ' ∧ Same G G' ∧ RS B G' H (σ.set i (some v)) ρ' := by
  unfold storeS at e
  split at e
  · rename_i hi
    cases w with
    | own d => cases e; exact ⟨_, G, rfl, Same.refl _, R.setOw hi q⟩
    | val d =>
      cases e
      exact ⟨_, G, rfl, Same.refl _, R.setSh hi q⟩
    | slot j =>
      simp only [] at e
      split at e
      · rename_i d ρ1 hl
        cases e
        obtain ⟨G', s', R', r'⟩ := q.leak R hl
        exact ⟨_, G', rfl, s', R'.setSh (by rw [leak_len hl]; exact hi) r'⟩
      · cases e
  · cases e
theorem s_set {i : Nat} {x : Str} {pos' : Pos} (he : PD X B e me) (hN : X.N.Nodup) (hi : X.N[i]? = some x := by rfl) (hx : Loc X.env.scope x := by first | exact Or.inl rfl | exact Or.inr rfl) (hs : swapsWith e (some (.Name x pos')) pos.line X.env = pure false := by rfl) (hf : X.fn x = true ∨ X.env.scope.names.lookup x = some .local := by first | exact .inl rfl | exact .inr rfl) :
    PSD X B (.Assign [.Name x pos'] e pos) (setS i me) := .mk fun ξ => (ps_set (X := rz X ξ) hN hi hx (he.ap ξ) hs hf).imp fun Dn σ H t => by
  obtain ⟨G, ρ, R, t⟩ := t
  refine (SD.step (rel := relW) R t).mono fun v H1 ⟨G1, ρ1, w, s1, R1, q1, r, e, p⟩ => ?_
  obtain ⟨ρ', G', rfl, s', R'⟩ := store_run R1 q1 e
  exact p _ G' H1 s' R'
end

/-! ### what is walked -/
structure Gives (K : PySem.W.Frag) (Gs : Hp) (J : It) (ds : List D) : Prop where
  go : ∀ (G H : Hp) (i : Nat), Same Gs G → Same G H → i < ds.length → J.go i H
  stop : ∀ (G H : Hp), Same Gs G → Same G H → J.stop ds.length H
  yld : ∀ (G H H' : Hp) (i : Nat) (x : V), Same Gs G → Same G H → i < ds.length → J.yld i H x H' → H' = H ∧ ∃ d, ds[i]? = some d ∧ Rep K G x d
def TDI (B : Bs) (ξ : XP) (m : M (List D)) : TI := fun σ H R => ∃ G ρ r, RS B G H σ ρ ∧ m ρ = some r ∧ match r with
  | .ok ds ρ' => ∀ J G' H', Same G G' → RS B G' H' σ ρ' → Gives B.K G' J ds → R J H'
  | .ex x ρ' => ∀ G' H', Same G G' → RS B G' H' σ ρ' → ξ x σ H'
structure PDI (X : Cx) (B : Bs) (tg iter : Expr) (m : M (List D)) : Prop where
  ap : ∀ ξ, PI (rz X ξ) tg iter (TDI B ξ m)
theorem _root_.L2.PI.imp {X : Cx} {tg e : Expr} {t t' : TI} (h : PI X tg e t) (i : ∀ σ H R, t' σ H R → t σ H R) : PI X tg e t' := fun pins s σ H R I q => h pins s σ H R I (i σ H R q)
def itD : D → Option (List D)
  | .lst ds => some ds
  | .tup ds => some ds
  | .str cs => some (cs.map fun c => D.str [c])
  | _ => none
def mIter (m : M W) : M (List D) := M.bind m fun w => M.bind (leak w) fun d => fun ρ => (itD d).map (R'.ok · ρ)
section
variable {X : Cx} {B : Bs} {tg e a b c : Expr} {ma mb mc : M W} {mr : M (List W)} {pos p : Pos}
def iSeq (K : PySem.W.Frag) (tl : TE) : TI := fun σ H R => tl σ H fun x H1 => (∃ a xs, x = .ref a ∧ SqL K H1 a xs ∧ R (Itl K a) H1) ∨ (∃ a xs, x = .ref a ∧ SqT K H1 a xs ∧ R (Itt K a) H1) ∨ ∃ y, x = .str y ∧ R (Its y) H1
theorem pi_seq {l : Expr} {tl : TE} {K : PySem.W.Frag} (hK : X.K = K) (hl : PE X l tl) : PI X tg l (iSeq K tl) := by
  subst hK
  intro pins s σ H R I h
  refine thn (hl pins s σ H _ I h) fun v s1 ⟨x, H1, I1, r1, q1⟩ => ?_
  have fp : ∀ b ∈ [s1.heap.objs.size], FpOk X pins H1 b := fun b hb => by
    have e : b = s1.heap.objs.size := by simpa using hb
    subst e
    exact I1.fpOk (Nat.le_refl _) (I1.hok.fresh (Nat.le_refl _))
  rcases q1 with ⟨a, xs, rfl, hq, q⟩ | ⟨a, xs, rfl, hq, q⟩ | ⟨y, rfl, q⟩
  · cases r1
    obtain ⟨its, rv, p, hz⟩ := I1.list hq
    refine wpAny_pyIter_list p.isList ?_
    exact ⟨s1.heap.objs.size, [s1.heap.objs.size], _, _, H1, rfl, I1.kept (t' := s1.toks) fun b o e => Heap.get?_push_of_some _ e, turn_list a _, ⟨_, Heap.get?_push_size _ rfl, rfl, rfl⟩, fp, q⟩
  · cases r1
    obtain ⟨its, rv, p, hz⟩ := I1.tuple hq
    refine wpAny_pyIter_tuple (show s1.heap.IsTuple a its.toArray from p) ?_
    exact ⟨s1.heap.objs.size, [s1.heap.objs.size], _, _, H1, rfl, I1.kept (t' := s1.toks) fun b o e => Heap.get?_push_of_some _ e, turn_tuple a _, ⟨_, Heap.get?_push_size _ rfl, rfl, rfl⟩, fp, q⟩
  · obtain ⟨t, rfl⟩ := r1
    cases ha : y.cps.all (· < 128)
    · exact wpAny_pyIter_wide ha ⟨s1.heap.objs.size, [s1.heap.objs.size], _, Its y, H1, rfl, I1.kept (t' := s1.toks) fun b o e => Heap.get?_push_of_some _ e, turn_strW y t _, ⟨_, Heap.get?_push_size _ rfl, rfl, rfl⟩, fp, q⟩
    · exact wpAny_pyIter_ascii ha ⟨s1.heap.objs.size, [s1.heap.objs.size], _, Its y, H1, rfl, I1.kept (t' := s1.toks) fun b o e => Heap.get?_push_of_some _ e, turn_strA y t _, ⟨_, Heap.get?_push_size _ rfl, rfl, rfl⟩, fp, q⟩
theorem gives_list {K : PySem.W.Frag} {G : Hp} {a : Addr} {xs : List V} {ds : List D} (h : SqL K G a xs) (r : RepL K G xs ds) : Gives K G (Itl K a) ds where
  go := fun G' H i s1 s2 hi => by
    have hx : i < xs.length := by rw [r.len]; exact hi
    exact ⟨xs, xs[i], (s1.trans s2).seq h, by simp [hx]⟩
  stop := fun G' H s1 s2 => ⟨xs, (s1.trans s2).seq h, by rw [r.len]; exact Nat.le_refl _⟩
  yld := fun G' H H' i x s1 s2 hi y => by
    obtain ⟨rfl, y⟩ := y
    have e := y xs ((s1.trans s2).seq h)
    obtain ⟨d, e2, r2⟩ := r.atV e
    exact ⟨rfl, d, e2, r2.same s1⟩
theorem gives_tup {K : PySem.W.Frag} {G : Hp} {a : Addr} {xs : List V} {ds : List D} (h : SqT K G a xs) (r : RepL K G xs ds) : Gives K G (Itt K a) ds where
  go := fun G' H i s1 s2 hi => by
    have hx : i < xs.length := by rw [r.len]; exact hi
    exact ⟨xs, xs[i], (s1.trans s2).tup h, by simp [hx]⟩
  stop := fun G' H s1 s2 => ⟨xs, (s1.trans s2).tup h, by rw [r.len]; exact Nat.le_refl _⟩
  yld := fun G' H H' i x s1 s2 hi y => by
    obtain ⟨rfl, y⟩ := y
    have e := y xs ((s1.trans s2).tup h)
    obtain ⟨d, e2, r2⟩ := r.atV e
    exact ⟨rfl, d, e2, r2.same s1⟩
theorem gives_str {K : PySem.W.Frag} {G : Hp} (cs : List Nat) : Gives K G (Its (tx cs)) (cs.map fun c => D.str [c]) where
  go := fun G' H i s1 s2 hi => by
    show i < (tx cs).cps.size
    simpa using hi
  stop := fun G' H s1 s2 => by
    show (tx cs).cps.size ≤ _
    simp
  yld := fun G' H H' i x s1 s2 hi y => by
    obtain ⟨rfl, c, hc, rfl⟩ := y
    refine ⟨rfl, .str [c], ?_, .str [c]⟩
    rw [List.getElem?_map]
    have hc' : cs[i]? = some c := by simpa using hc
    rw [hc']
    rfl
theorem gives_range {K : PySem.W.Frag} {G : Hp} (lo : Int) (n : Nat) : Gives K G (Itr lo n) ((List.range n).map fun k => D.int (lo + ((k : Nat) : Int))) where
  go := fun G' H i s1 s2 hi => by
    show i < n
    simpa using hi
  stop := fun G' H s1 s2 => by
    show n ≤ _
    simp
  yld := fun G' H H' i x s1 s2 hi y => by
    obtain ⟨rfl, rfl⟩ := y
    have hi' : i < n := by simpa using hi
    refine ⟨rfl, .int (lo + i), ?_, .int _⟩
    rw [List.getElem?_map, List.getElem?_range hi']
    rfl
theorem i_seq (ha : PD X B e ma) (hK : X.K = B.K := by rfl) : PDI X B tg e (mIter ma) := .mk fun ξ => (pi_seq (X := rz X ξ) (K := B.K) hK (ha.ap ξ)).imp fun σ H Rr t => by
  obtain ⟨G, ρ, r, R, e, p⟩ := t
  have conv : TDat (rel := (fun (B : Bs) (G H : Hp) (σ : St) (ρ : Env') (J : It) (ds : List D) => Gives B.K G J ds)) B ξ G ρ (mIter ma) σ (fun J H => Rr J H) := by
    refine ⟨r, e, ?_⟩
    cases r with
    | ok ds ρ' => exact fun J G' H' s R' g => p J G' H' s R' g
    | ex x ρ' => exact p
  refine (TD.bind (rel := relW) R conv).mono fun x H1 ⟨G1, ρ1, w, s1, R1, q1, t2⟩ => ?_
  obtain ⟨d, ρ2, e2, r2, er, p2⟩ := t2.step fun r h => leak_ok h
  obtain ⟨G2, s2, R2, rp⟩ := q1.leak R1 e2
  cases hd : itD d with
  | none => rw [hd] at er; cases er
  | some ds =>
    rw [hd] at er
    cases er
    cases rp with
    | @lst a xs ds' h l r =>
      cases hd
      refine .inl ⟨a, xs, rfl, R2.gH.seq h, p2 (Itl B.K a) G2 H1 s2 R2 ?_⟩
      exact gives_list h ⟨l, r⟩
    | @tup a xs ds' h l r =>
      cases hd
      exact .inr (.inl ⟨a, xs, rfl, R2.gH.tup h, p2 (Itt B.K a) G2 H1 s2 R2 (gives_tup h ⟨l, r⟩)⟩)
    | str cs =>
      cases hd
      exact .inr (.inr ⟨tx cs, rfl, p2 (Its (tx cs)) G2 H1 s2 R2 (gives_str cs)⟩)
    | _ => cases hd
end
end L3

set_option Elab.async false
set_option linter.all false
set_option maxRecDepth 100000
set_option maxHeartbeats 4000000
namespace L3
open PySem PySem.Spec PyProof.Rows L2

/-! ### range -/
def ints1 : List D → Option (List D)
  | [.int n] => grd (-(2 ^ 62) ≤ n ∧ n < 2 ^ 62) (some ((List.range n.toNat).map fun k => D.int (0 + ((k : Nat) : Int))))
  | _ => none
def ints2 : List D → Option (List D)
  | [.int i, .int j] => grd (-(2 ^ 62) ≤ i ∧ i < 2 ^ 62 ∧ -(2 ^ 62) ≤ j ∧ j < 2 ^ 62) (some ((List.range (j - i).toNat).map fun k => D.int (i + ((k : Nat) : Int))))
  | _ => none
def mRng (f : List D → Option (List D)) (m : M (List W)) : M (List D) := M.bind m fun ws => fun ρ => match getDs ws ρ with
  | some ds => (f ds).map (R'.ok · ρ)
  | none => none
def relJ : Rel (List D) It := fun B G H σ ρ J ds => Gives B.K G J ds
section
variable {X : Cx} {B : Bs} {tg e a b c : Expr} {ma mb mc : M W} {mr : M (List W)} {pos p : Pos}
theorem tdi_at {ξ : XP} {m : M (List D)} {σ : St} {H : Hp} {Rr : It → Hp → Prop} (t : TDI B ξ m σ H Rr) : ∃ G ρ, RS B G H σ ρ ∧ TDat relJ B ξ G ρ m σ Rr := by
  obtain ⟨G, ρ, r, R, e, p⟩ := t
  refine ⟨G, ρ, R, r, e, ?_⟩
  cases r with
  | ok ds ρ' => exact fun J G' H' s R' g => p J G' H' s R' g
  | ex x ρ' => exact p
theorem rng_run {ξ : XP} {f : List D → Option (List D)} {ws : List W} {G : Hp} {ρ : Env'} {σ : St} {Rr : It → Hp → Prop} (t : TDat relJ B ξ G ρ (fun ρ => match getDs ws ρ with | some ds => (f ds).map (R'.ok · ρ) | none => none) σ Rr) : ∃ ds es, getDs ws ρ = some ds ∧ f ds = some es ∧ ∀ J G' H', Same G G' → RS B G' H' σ ρ → Gives B.K G' J es → Rr J H' := by
  obtain ⟨r, e, p⟩ := t
  cases hx : getDs ws ρ with
  | none => simp only [hx] at e; cases e
  | some ds =>
    simp only [hx] at e
    cases hf : f ds with
    | none => rw [hf] at e; cases e
    | some es =>
      rw [hf] at e
      cases e
      exact ⟨ds, es, rfl, hf, p⟩
theorem i_range1 (hm : X.mg "range" = none) (ha : PDA X B [a] mr) (hg : Gl X "range" := by rfl) (hs : starEach [a] X.env = [(false, eval a X.env)] := by rfl) : PDI X B tg (.Call (.Name "range" p) [a] [] pos) (mRng ints1 mr) := .mk fun ξ =>
  (pi_range1 (X := rz X ξ) hg hm (ha.ap ξ) hs).imp fun σ H Rr t => by
    obtain ⟨G, ρ, R, t⟩ := tdi_at t
    refine (TD.bind (rel := relWs) R t).mono fun vs H1 ⟨G1, ρ1, ws, s1, R1, q1, t2⟩ => ?_
    obtain ⟨ds, es, e1, e2, p⟩ := rng_run t2
    have h := getDs_rep R1 q1 e1
    match ds, e2 with
    | [.int n], e2 =>
      obtain ⟨z, e2⟩ := grd_some e2
      cases e2
      obtain ⟨x, rfl, hx⟩ := one_of h
      exact ⟨n, by rw [hx.int], z.1, z.2, p _ G1 H1 (Same.refl _) R1 (gives_range 0 n.toNat)⟩
theorem i_range2 (hm : X.mg "range" = none) (ha : PDA X B [a, b] mr) (hg : Gl X "range" := by rfl) (hs : starEach [a, b] X.env = [(false, eval a X.env), (false, eval b X.env)] := by rfl) (hs2 : starEach [b] X.env = [(false, eval b X.env)] := by rfl) : PDI X B tg (.Call (.Name "range" p) [a, b] [] pos) (mRng ints2 mr) := .mk fun ξ =>
  (pi_range2 (X := rz X ξ) hg hm (ha.ap ξ) hs hs2).imp fun σ H Rr t => by
    obtain ⟨G, ρ, R, t⟩ := tdi_at t
    refine (TD.bind (rel := relWs) R t).mono fun vs H1 ⟨G1, ρ1, ws, s1, R1, q1, t2⟩ => ?_
    obtain ⟨ds, es, e1, e2, p⟩ := rng_run t2
    have h := getDs_rep R1 q1 e1
    match ds, e2 with
    | [.int i, .int j], e2 =>
      obtain ⟨z, e2⟩ := grd_some e2
      cases e2
      obtain ⟨x, y, rfl, hx, hy⟩ := two_of h
      exact ⟨i, j, by rw [hx.int, hy.int], z, p _ G1 H1 (Same.refl _) R1 (gives_range i (j - i).toNat)⟩
end

/-! ### targets -/
abbrev FT := D → Env' → Option Env'
def TDG (B : Bs) (f : FT) : TG := fun v σ H Rr => ∃ G ρ d ρ', RS B G H σ ρ ∧ Rep B.K G v d ∧ f d ρ = some ρ' ∧ ∀ σ' G' H', Same G G' → RS B G' H' σ' ρ' → Rr σ' H'
structure PDG (X : Cx) (B : Bs) (tg : Expr) (f : FT) : Prop where
  ap : ∀ ξ, PG (rz X ξ) tg (TDG B f)
theorem _root_.L2.PG.imp {X : Cx} {tg : Expr} {t t' : TG} (h : PG X tg t) (i : ∀ v σ H R, t' v σ H R → t v σ H R) : PG X tg t' := fun pins s σ H v u Q I r q => h pins s σ H v u Q I r (i v σ H _ q)
def tgN (i : Nat) : FT := fun d ρ => if i < ρ.length then some (ρ.set i (some (.sh d))) else none
def tgs : List Nat → List D → Env' → Option Env'
  | [], [], ρ => some ρ
  | i :: is, d :: ds, ρ => match tgN i d ρ with
    | some ρ' => tgs is ds ρ'
    | none => none
  | _, _, _ => none
def tgT (is : List Nat) : FT := fun d ρ => match d with
  | .tup ds => tgs is ds ρ
  | _ => none
section
variable {X : Cx} {B : Bs} {tg e : Expr} {pos : Pos}
theorem g_name {i : Nat} {x : Str} (hN : X.N.Nodup) (hi : X.N[i]? = some x := by rfl) (hx : Loc X.env.scope x := by first | exact Or.inl rfl | exact Or.inr rfl) (hf : X.fn x = true ∨ X.env.scope.names.lookup x = some .local := by first | exact .inl rfl | exact .inr rfl) : PDG X B (.Name x pos) (tgN i) := .mk fun ξ =>
  (pg_name (X := rz X ξ) hN hi hx hf).imp fun v σ H Rr t => by
    obtain ⟨G, ρ, d, ρ', R, h, e, p⟩ := t
    unfold tgN at e
    split at e
    · cases e
      exact p _ G H (Same.refl _) (R.setSh ‹_› h)
    · cases e
end

/-! ### for, while -/
def forL (tg : FT) (b : SM) : List D → SM
  | [] => fun ρ => some (.nx ρ)
  | d :: ds => fun ρ => match tg d ρ with
    | none => none
    | some ρ1 => match b ρ1 with
      | some (.nx ρ2) => forL tg b ds ρ2
      | some (.ct ρ2) => forL tg b ds ρ2
      | some (.bk ρ2) => some (.nx ρ2)
      | r => r
def forS (mi : M (List D)) (tg : FT) (b : SM) : SM := thenS mi fun ds => forL tg b ds
theorem passes_own {X : Cx} {ξ : XP} : PassesOwn (model X.prog X.w) X.A X.env (XE X ξ) := fun e s' ⟨x, pins, σ, H, I, h, _⟩ => (show False from h).elim
section
variable {X : Cx} {B : Bs} {tg iter : Expr} {body : List Stmt} {mi : M (List D)} {f : FT} {mb : SM} {pos : Pos}
theorem s_for (hi : PDI X B tg iter mi) (hg : PDG X B tg f) (hb : PSsD X B body mb) (hc : X.calm = true := by rfl) (hs : ∀ x, foldedSetIterable iter X.env x = pure x := by intro _; rfl) : PSD X B (.For tg iter body [] pos) (forS mi f mb) := .mk fun ξ =>
  (ps_for (X := rz X ξ) passes_own hc (hi.ap ξ) (hg.ap ξ) (hb.ap ξ) hs).imp fun Dn σ H t => by
    obtain ⟨G, ρ, R, r, e, p⟩ := t
    unfold forS thenS at e
    cases hm : mi ρ with
    | none => rw [hm] at e; cases e
    | some r1 =>
      rw [hm] at e
      cases r1 with
      | ex x ρ1 =>
        cases e
        exact ⟨G, ρ, _, R, hm, fun G' H' s R' => p σ G' H' s R'⟩
      | ok ds ρ1 =>
        refine ⟨G, ρ, _, R, hm, fun J Gs H1 s1 R1 gv => ?_⟩
        refine ⟨fun i m σ H => ∃ G ρ r, m = ds.length - i ∧ i ≤ ds.length ∧ Same Gs G ∧ RS B G H σ ρ ∧ forL f mb (ds.drop i) ρ = some r ∧ PostS B ξ G Dn r, ⟨ds.length, Gs, ρ1, r, by simp, Nat.zero_le _, Same.refl _, R1, by simpa using e, p.same s1⟩, ?_⟩
        rintro i m σ2 H2 ⟨G2, ρ2, r2, rfl, hle, s2, R2, e2, p2⟩
        by_cases hlt : i < ds.length
        · have ed : ds.drop i = ds[i] :: ds.drop (i + 1) := List.drop_eq_getElem_cons hlt
          rw [ed] at e2
          unfold forL at e2
          cases ht : f ds[i] ρ2 with
          | none => rw [ht] at e2; cases e2
          | some ρ3 =>
            rw [ht] at e2
            refine .inr ⟨gv.go G2 H2 i s2 R2.gH hlt, fun σ' H' => ∃ G' ρ' r', Same Gs G' ∧ RS B G' H' σ' ρ' ∧ forL f mb (ds.drop (i + 1)) ρ' = some r' ∧ PostS B ξ G' Dn r', fun σ' H' ⟨G', ρ', r', a1, a2, a3, a4⟩ => ⟨ds.length - (i + 1), by omega, G', ρ', r', rfl, hlt, a1, a2, a3, a4⟩, fun x H' y => ?_⟩
            obtain ⟨rfl, d, hd, rx⟩ := gv.yld G2 H2 H' i x s2 R2.gH hlt y
            have ed2 : d = ds[i] := by
              rw [List.getElem?_eq_getElem hlt] at hd
              exact (Option.some.inj hd).symm
            subst ed2
            refine ⟨G2, ρ2, _, ρ3, R2, rx, ht, fun σ3 G3 H3 s3 R3 => ?_⟩
            cases hbr : mb ρ3 with
            | none => simp only [hbr] at e2; cases e2
            | some rb =>
              simp only [hbr] at e2
              refine ⟨G3, ρ3, R3, rb, hbr, ?_⟩
              cases rb with
              | nx ρ4 => exact fun σ4 G4 H4 s4 R4 => ⟨G4, ρ4, r2, (s2.trans s3).trans s4, R4, e2, p2.same (s3.trans s4)⟩
              | ct ρ4 => exact fun σ4 G4 H4 s4 R4 => ⟨G4, ρ4, r2, (s2.trans s3).trans s4, R4, e2, p2.same (s3.trans s4)⟩
              | bk ρ4 =>
                cases e2
                exact fun σ4 G4 H4 s4 R4 => p2 σ4 G4 H4 (s3.trans s4) R4
              | rt w ρ4 =>
                cases e2
                exact fun v σ4 G4 H4 s4 R4 q4 => p2 v σ4 G4 H4 (s3.trans s4) R4 q4
              | ex x ρ4 =>
                cases e2
                exact fun σ4 G4 H4 s4 R4 => p2 σ4 G4 H4 (s3.trans s4) R4
        · have ei : i = ds.length := by omega
          subst ei
          rw [List.drop_length] at e2
          cases e2
          exact .inl ⟨gv.stop G2 H2 s2 R2.gH, p2 σ2 G2 H2 (Same.refl _) R2⟩
end
def whileL (c : M Bool) (b : SM) : Nat → SM
  | 0 => fun _ => none
  | n + 1 => thenS c fun k => if k = true then (fun ρ => match b ρ with
      | some (.nx ρ2) => whileL c b n ρ2
      | some (.ct ρ2) => whileL c b n ρ2
      | some (.bk ρ2) => some (.nx ρ2)
      | r => r) else nxS
section
variable {X : Cx} {B : Bs} {c : Expr} {body : List Stmt} {mc : M Bool} {mb : SM} {pos : Pos}
theorem s_while (n : Nat) (hc : PDT X B c mc) (hb : PSsD X B body mb) : PSD X B (.While c body [] pos) (whileL mc mb n) := .mk fun ξ =>
  (ps_while (X := rz X ξ) passes_own (hc.ap ξ) (hb.ap ξ)).imp fun Dn σ H t => by
    obtain ⟨G, ρ, R, r, e, p⟩ := t
    refine ⟨fun m σ H => ∃ G ρ r, RS B G H σ ρ ∧ whileL mc mb m ρ = some r ∧ PostS B ξ G Dn r, ⟨n, G, ρ, r, R, e, p⟩, ?_⟩
    rintro m σ2 H2 ⟨G2, ρ2, r2, R2, e2, p2⟩
    cases m with
    | zero => cases e2
    | succ m =>
      unfold whileL at e2
      refine (SD.step (rel := relB) R2 ⟨r2, e2, p2⟩).mono fun k H3 ⟨G3, ρ3, k', s3, R3, q3, r3, e3, p3⟩ => ?_
      cases (show k = k' from q3)
      cases k with
      | false =>
        cases e3
        exact p3 σ2 G3 H3 (Same.refl _) R3
      | true =>
        rw [if_pos rfl] at e3
        refine ⟨fun σ' H' => ∃ G' ρ' r', RS B G' H' σ' ρ' ∧ whileL mc mb m ρ' = some r' ∧ PostS B ξ G' Dn r', fun σ' H' ⟨G', ρ', r', a1, a2, a3⟩ => ⟨m, Nat.lt_succ_self _, G', ρ', r', a1, a2, a3⟩, ?_⟩
        cases hbr : mb ρ3 with
        | none => simp only [hbr] at e3; cases e3
        | some rb =>
          simp only [hbr] at e3
          refine ⟨G3, ρ3, R3, rb, hbr, ?_⟩
          cases rb with
          | nx ρ4 => exact fun σ4 G4 H4 s4 R4 => ⟨G4, ρ4, r3, R4, e3, p3.same s4⟩
          | ct ρ4 => exact fun σ4 G4 H4 s4 R4 => ⟨G4, ρ4, r3, R4, e3, p3.same s4⟩
          | bk ρ4 => cases e3; exact fun σ4 G4 H4 s4 R4 => p3 σ4 G4 H4 s4 R4
          | rt w ρ4 => cases e3; exact fun v σ4 G4 H4 s4 R4 q4 => p3 v σ4 G4 H4 s4 R4 q4
          | ex x ρ4 => cases e3; exact fun σ4 G4 H4 s4 R4 => p3 σ4 G4 H4 s4 R4
end

/-! ### what a slot's own object does -/
/-- the type of a datum, as a method's receiver -/
def tyD (T : String) : D → Bool
  | .str _ => T == "str"
  | .lst _ => T == "list"
  | .dct _ => T == "dict"
  | _ => false
def chk (T : String) (w : W) : M Unit := fun ρ => match getD w ρ with
  | some d => if tyD T d = true then some (.ok () ρ) else none
  | none => none
theorem chk_ok {T : String} {w : W} {ρ : Env'} {r : R' Unit} (h : chk T w ρ = some r) : r = .ok () ρ ∧ ∃ d, getD w ρ = some d ∧ tyD T d = true := by
  unfold chk at h
  split at h
  · rename_i d hd
    split at h
    · cases h
      exact ⟨rfl, d, hd, ‹_›⟩
    · cases h
  · cases h
theorem tyV_of {B : Bs} {G H : Hp} {σ : St} {ρ : Env'} {x : V} {d : D} {T : String} (R : RS B G H σ ρ) (h : RepT B.K G H x d) (t : tyD T d = true) : tyV B.K T x H := by
  cases d with
  | str cs => rw [h.str]; exact eq_of_beq t
  | lst ds =>
    obtain ⟨p, xs, rfl, h1, r1⟩ := h.lst R.gH
    exact .inl ⟨eq_of_beq t, xs, h1⟩
  | dct es =>
    obtain ⟨p, kvs, rfl, h1, r1⟩ := h.dct R.gH
    exact .inr (.inr (.inl ⟨eq_of_beq t, .inl ⟨kvs, h1⟩⟩))
  | _ => cases t
theorem mVar_run {i : Nat} {w : W} {ρ ρ' : Env'} (h : mVar i ρ = some (.ok w ρ')) : w = .slot i ∧ ρ' = ρ := by
  unfold mVar at h
  split at h
  · cases h; exact ⟨rfl, rfl⟩
  · cases h
def appendTo (i : Nat) (d : D) : M W := fun ρ => match ρ[i]? with
  | some (some (.ow l (.lst ds))) => grd (small ds.length) (some (.ok (.val .non) (ρ.set i (some (.ow l (.lst (ds ++ [d])))))))
  | _ => none
def mAppend (i : Nat) (m : M (List W)) : M W := M.bind (mVar i) fun x => M.bind (chk "list" x) fun _ => M.bind m fun ws => match ws with
  | [w] => M.bind (leak w) (appendTo i)
  | _ => fun _ => none
section
variable {X : Cx} {B : Bs} {o e : Expr} {es : List Expr} {mr : M (List W)} {apos cpos opos : Pos} {x : Str}
theorem slot_of {G H : Hp} {σ : St} {ρ : Env'} {i : Nat} {l : Bool} {d : D} (R : RS B G H σ ρ) (h : ρ[i]? = some (some (.ow l d))) {v : V} (hv : σ[i]? = some (some v)) : ∃ p, v = .ref p ∧ G p = none ∧ OwnAt B.K G H p d := by
  obtain ⟨p, q1, q2, q3, q4, q5⟩ := R.ow i l d h
  rw [hv] at q1
  cases q1
  exact ⟨p, rfl, q2, q5⟩
theorem d_append (i : Nat) (ho : PD X B o (mVar i)) (ha : PDA X B [e] mr)
    (hbase : attributeBase o "append" X.env (eval o X.env) = eval o X.env := by rfl)
    (hfew : ((backTo cpos (starEach [e] X.env)).all (fun x => !x.1) && (backToKw cpos (keywordEach [] X.env)).all (fun x => x.1.isSome)
      && decide (([e] : List Expr).length + ([] : List Keyword).length + (if ([] : List Keyword).isEmpty then 0 else 1) < 30)) = true := by rfl)
    (hline : (apos.endLine == cpos.line) = true := by rfl) (hs : starEach [e] X.env = (false, eval e X.env) :: starEach [] X.env := by rfl) (hplain : (backTo cpos (starEach [] X.env)).any (·.1) = false := by rfl) (hK : X.K = B.K := by rfl) :
    PD X B (.Call (.Attribute o "append" apos) [e] [] cpos) (mAppend i mr) := .mk fun ξ =>
  (pe_bm (X := rz X ξ) PySem.F.plainAttrs_list PySem.F.slot_list_append PySem.F.type_list_append mt_append (ho.ap ξ) (ha.ap ξ) hbase hfew hline hs hplain).imp fun σ H Q t => by
    obtain ⟨G, ρ, R, t⟩ := t
    refine (TD.bindE (rel := relW) R t).mono fun x H1 ⟨G1, ρ1, w, er, s1, R1, q1, t2⟩ => ?_
    obtain ⟨rfl, rfl⟩ := mVar_run er
    have hv : σ[i]? = some (some x) := q1
    obtain ⟨u, ρ2, e2, t3⟩ := t2.step fun r h => ⟨(), _, (chk_ok h).1⟩
    obtain ⟨e3, d, hd, ty⟩ := chk_ok e2
    cases e3
    refine ⟨by show tyV X.K "list" x H1; rw [hK]; exact tyV_of R1 (q1.get R1 hd) ty, ?_⟩
    refine (TD.bind (rel := relWs) R1 t3).mono fun vs H2 ⟨G2, ρ2, ws, s2, R2, q2, t4⟩ => ?_
    match ws, q2, t4 with
    | [], _, ⟨r, er, _⟩ => cases er
    | _ :: _ :: _, _, ⟨r, er, _⟩ => cases er
    | [w], q2, t4 =>
      cases q2 with
      | @cons v _ vs _ h t =>
        cases t
        obtain ⟨dv, ρ3, e4, r, er, p⟩ := t4.step fun r h => leak_ok h
        obtain ⟨G3, s3, R3, rv⟩ := h.1.leak R2 e4
        unfold appendTo at er
        split at er
        · rename_i l ds hi
          obtain ⟨hz, er⟩ := grd_some er
          cases er
          obtain ⟨pp, rfl, g, xs, hx, rl⟩ := slot_of R3 hi hv
          refine ⟨pp, xs, v, rfl, rfl, hx, ?_, ?_⟩
          · rw [rl.len, sizeLine_eq]; unfold small at hz; omega
          · exact p .non G3 _ s3 (R3.write hi hv ⟨xs ++ [v], upd_same, rl.append (.one rv)⟩) .non
        · cases er
end
end L3

set_option Elab.async false
set_option linter.all false
set_option maxRecDepth 100000
set_option maxHeartbeats 4000000
namespace L3
open PySem PySem.Spec PyProof.Rows L2

/-! ### what a def promises over data -/
inductive FR where
  | ret (w : W) (fin : List D) | exc (x : Exn) (fin : List D)
/-- the arguments: shared ones, and those that are lent (their addresses behind) -/
inductive ArgsR (K : PySem.W.Frag) (G H : Hp) : List Bool → List V → List D → List Addr → Prop
  | nil : ArgsR K G H [] [] [] []
  | sh {v : V} {d : D} {ms : List Bool} {vs : List V} {ds : List D} {ps : List Addr} (h : Rep K G v d) (r : ArgsR K G H ms vs ds ps) : ArgsR K G H (false :: ms) (v :: vs) (d :: ds) ps
  | ln {p : Addr} {d : D} {ms : List Bool} {vs : List V} {ds : List D} {ps : List Addr} (g : G p = none) (o : OwnAt K G H p d) (n : p ∉ ps) (r : ArgsR K G H ms vs ds ps) : ArgsR K G H (true :: ms) (.ref p :: vs) (d :: ds) (p :: ps)
def minus (H : Hp) (ps : List Addr) : Hp := fun b => if b ∈ ps then none else H b
theorem minus_in {H : Hp} {ps : List Addr} {b : Addr} (h : b ∈ ps) : minus H ps b = none := if_pos h
theorem minus_out {H : Hp} {ps : List Addr} {b : Addr} (h : b ∉ ps) : minus H ps b = H b := if_neg h
theorem minus_same (H : Hp) (ps : List Addr) : Same (minus H ps) H := fun b o e => by
  unfold minus at e
  split at e
  · cases e
  · exact e
structure After (K : PySem.W.Frag) (G H : Hp) (ps : List Addr) (G' H' : Hp) (fin : List D) : Prop where
  keep : Same (minus H ps) H'
  gg : Same G G'
  gH : Same G' H'
  gnew : ∀ p o, G' p = some o → G p = some o ∨ H p = none
  dom : ∀ p, H' p = none → H p = none
  lent : Paired (fun p d => G' p = none ∧ OwnAt K G' H' p d) ps fin
def RepRet (K : PySem.W.Frag) (H G' H' : Hp) (v : V) : W → Prop
  | .val d => Rep K G' v d
  | .own d => ∃ p, v = .ref p ∧ G' p = none ∧ H p = none ∧ OwnAt K G' H' p d
  | .slot _ => False
def SpD (K : PySem.W.Frag) (ms : List Bool) (fm : List D → Option FR) : Sp := fun vs H Q E => ∃ G ds ps r, Same G H ∧ ArgsR K G H ms vs ds ps ∧ fm ds = some r ∧ match r with
  | .ret w fin => ∀ v G' H', After K G H ps G' H' fin → RepRet K H G' H' v w → Q v H'
  | .exc _ _ => False
theorem SpD.imp {K : PySem.W.Frag} {ms : List Bool} {fm fm' : List D → Option FR} (h : ∀ ds r, fm ds = some r → fm' ds = some r) : ∀ vs H Q E, SpD K ms fm vs H Q E → SpD K ms fm' vs H Q E := by
  rintro vs H Q E ⟨G, ds, ps, r, a, b, c, d⟩
  exact ⟨G, ds, ps, r, a, b, h ds r c, d⟩
theorem ArgsR.len {K : PySem.W.Frag} {G H : Hp} : ∀ {ms : List Bool} {vs : List V} {ds : List D} {ps : List Addr}, ArgsR K G H ms vs ds ps → vs.length = ms.length ∧ ds.length = ms.length
  | _, _, _, _, .nil => ⟨rfl, rfl⟩
  | _, _, _, _, .sh _ r => by obtain ⟨a, b⟩ := r.len; exact ⟨by simp [a], by simp [b]⟩
  | _, _, _, _, .ln _ _ _ r => by obtain ⟨a, b⟩ := r.len; exact ⟨by simp [a], by simp [b]⟩

/-! ### a def's body keeps it -/
def cellOf' (m : Bool) (d : D) : Option C := some (if m = true then .ow true d else .sh d)
def cells : List Bool → List D → Env'
  | m :: ms, d :: ds => cellOf' m d :: cells ms ds
  | _, _ => []
def startE (n : Nat) (ms : List Bool) (ds : List D) : Env' := cells ms ds ++ List.replicate (n - ds.length) none
def finsOf : List Bool → Env' → Option (List D)
  | [], _ => some []
  | false :: ms, _ :: ρ => finsOf ms ρ
  | true :: ms, some (.ow true d) :: ρ => (finsOf ms ρ).map (d :: ·)
  | _, _ => none
def outS (ms : List Bool) : SR → Option FR
  | .nx ρ => (finsOf ms ρ).map (FR.ret (.val .non))
  | .rt (.slot _) _ => none
  | .rt w ρ => (finsOf ms ρ).map (FR.ret w)
  | .ex x ρ => (finsOf ms ρ).map (FR.exc x)
  | _ => none
/-- the def as a function of data -/
def runF (m : SM) (n : Nat) (ms : List Bool) (ds : List D) : Option FR := (m (startE n ms ds)).bind (outS ms)
/-- the lent addresses by their slots -/
def lentAt : List Bool → List Addr → Nat → Option Addr
  | [], _, _ => none
  | false :: _, _, 0 => none
  | false :: ms, ps, i + 1 => lentAt ms ps i
  | true :: _, p :: _, 0 => some p
  | true :: ms, _ :: ps, i + 1 => lentAt ms ps i
  | true :: _, [], _ => none
section
variable {K : PySem.W.Frag} {G H : Hp}
theorem cells_len : ∀ {ms : List Bool} {ds : List D}, ds.length = ms.length → (cells ms ds).length = ms.length
  | [], [], _ => rfl
  | [], _ :: _, h => by simp at h
  | _ :: _, [], h => by simp at h
  | m :: ms, d :: ds, h => by
    show (cells ms ds).length + 1 = ms.length + 1
    rw [cells_len (by simpa using h)]
theorem args_at : ∀ {ms : List Bool} {vs : List V} {ds : List D} {ps : List Addr} {i : Nat} {c : C}, ArgsR K G H ms vs ds ps → (cells ms ds)[i]? = some (some c) →
    ∃ v, vs[i]? = some v ∧ ((∃ d, c = .sh d ∧ Rep K G v d) ∨ ∃ p d, c = .ow true d ∧ v = .ref p ∧ p ∈ ps ∧ lentAt ms ps i = some p ∧ G p = none ∧ OwnAt K G H p d)
  | _, _, _, _, i, c, .nil, e => by simp [cells] at e
  | _, _, _, _, 0, c, .sh h r, e => by
    simp [cells, cellOf'] at e
    subst e
    exact ⟨_, rfl, .inl ⟨_, rfl, h⟩⟩
  | _, _, _, _, i + 1, c, .sh h r, e => by
    obtain ⟨v, e1, h1⟩ := args_at (i := i) r (by simpa [cells] using e)
    exact ⟨v, by simpa using e1, h1⟩
  | _, _, _, _, 0, c, .ln g o n r, e => by
    simp [cells, cellOf'] at e
    subst e
    exact ⟨_, rfl, .inr ⟨_, _, rfl, rfl, List.mem_cons_self, rfl, g, o⟩⟩
  | _, _, _, _, i + 1, c, .ln g o n r, e => by
    obtain ⟨v, e1, h1⟩ := args_at (i := i) r (by simpa [cells] using e)
    refine ⟨v, by simpa using e1, ?_⟩
    rcases h1 with h1 | ⟨p, d, a, b, c1, c2, d1, e2⟩
    · exact .inl h1
    · exact .inr ⟨p, d, a, b, List.mem_cons_of_mem _ c1, c2, d1, e2⟩
theorem lent_inj {ms : List Bool} {vs : List V} {ds : List D} {ps : List Addr} (r : ArgsR K G H ms vs ds ps) : ∀ {i j : Nat} {p : Addr}, lentAt ms ps i = some p → lentAt ms ps j = some p → i = j := by
  have mem : ∀ {ms : List Bool} {ps : List Addr} {i : Nat} {p : Addr}, lentAt ms ps i = some p → p ∈ ps := by
    intro ms
    induction ms with
    | nil => intro ps i p h; cases h
    | cons m ms ih =>
      intro ps i p h
      cases m with
      | false =>
        cases i with
        | zero => cases h
        | succ i => exact ih (i := i) h
      | true =>
        cases ps with
        | nil => cases i <;> cases h
        | cons q ps =>
          cases i with
          | zero => cases h; exact List.mem_cons_self
          | succ i => exact List.mem_cons_of_mem _ (ih (i := i) h)
  induction r with
  | nil => intro i j p h; cases h
  | sh h r ih =>
    intro i j p a b
    cases i with
    | zero => cases a
    | succ i =>
      cases j with
      | zero => cases b
      | succ j => rw [ih (i := i) (j := j) a b]
  | ln g o n r ih =>
    intro i j p a b
    cases i with
    | zero =>
      cases a
      cases j with
      | zero => rfl
      | succ j => exact absurd (mem (i := j) b) n
    | succ i =>
      cases j with
      | zero => cases b; exact absurd (mem (i := i) a) n
      | succ j => rw [ih (i := i) (j := j) a b]
theorem start_get {N : List Str} {vs : List V} {i : Nat} {v : V} (h : vs[i]? = some v) : (start N vs)[i]? = some (some v) := by
  unfold L2.start
  have hi : i < vs.length := (List.getElem?_eq_some_iff.mp h).1
  rw [List.getElem?_append_left (by simpa using hi), List.getElem?_map, h]
  rfl
theorem startE_get {n : Nat} {ms : List Bool} {ds : List D} {i : Nat} {c : C} (h : (startE n ms ds)[i]? = some (some c)) : (cells ms ds)[i]? = some (some c) := by
  unfold startE at h
  by_cases hi : i < (cells ms ds).length
  · rw [List.getElem?_append_left hi] at h
    exact h
  · rw [List.getElem?_append_right (by omega), List.getElem?_replicate] at h
    split at h <;> cases h
theorem rs_start {N : List Str} {ms : List Bool} {vs : List V} {ds : List D} {ps : List Addr} (g : Same G H) (r : ArgsR K G H ms vs ds ps) (hl : vs.length ≤ N.length) :
    RS ⟨K, H, minus H ps, G, lentAt ms ps⟩ G H (start N vs) (startE N.length ms ds) := by
  obtain ⟨l1, l2⟩ := r.len
  refine ⟨minus_same H ps, minus_same H ps, Same.refl _, g, fun p o e => .inl e, fun p e => e, ?_, fun i d e => ?_, fun i l d e => ?_, fun i j l d k e p a b => ?_⟩
  · unfold L2.start startE
    rw [List.length_append, List.length_append, List.length_map, List.length_replicate, List.length_replicate, cells_len l2]
    omega
  · obtain ⟨v, e1, h1⟩ := args_at r (startE_get e)
    rcases h1 with ⟨d', q, h⟩ | ⟨p, d', q, _⟩
    · cases q
      exact ⟨v, start_get e1, h⟩
    · cases q
  · obtain ⟨v, e1, h1⟩ := args_at r (startE_get e)
    rcases h1 with ⟨d', q, h⟩ | ⟨p, d', q, rfl, m, la, gp, o⟩
    · cases q
    · cases q
      exact ⟨p, start_get e1, gp, minus_in m, la, o⟩
  · obtain ⟨v, e1, h1⟩ := args_at r (startE_get a)
    obtain ⟨v2, e2, h2⟩ := args_at r (startE_get b)
    rcases h1 with ⟨d', q, h⟩ | ⟨p1, d', q, rfl, m, la, gp, o⟩
    · cases q
    rcases h2 with ⟨d2, q2, h⟩ | ⟨p2, d2, q2, rfl, m2, la2, gp2, o2⟩
    · cases q2
    intro x y
    rw [start_get e1] at x
    rw [start_get e2] at y
    cases x
    cases y
    exact lent_inj r la la2
theorem fins_lent {B : Bs} {G' H' : Hp} {σ : St} {ρ : Env'} (R : RS B G' H' σ ρ) : ∀ {ms : List Bool} {vs : List V} {ds : List D} {ps : List Addr} (_ : ArgsR K G H ms vs ds ps) (k : Nat) (ρ' : Env') (fin : List D), (∀ i, ρ'[i]? = ρ[k + i]?) → (∀ i, lentAt ms ps i = B.L (k + i)) → finsOf ms ρ' = some fin → Paired (fun p d => G' p = none ∧ OwnAt B.K G' H' p d) ps fin
  | _, _, _, _, .nil, k, ρ', fin, _, _, e => by cases e; exact .nil
  | _, _, _, _, .sh h r, k, ρ', fin, hρ, hL, e => by
    cases ρ' with
    | nil => cases e
    | cons c ρ' =>
      refine fins_lent R r (k + 1) ρ' fin (fun i => ?_) (fun i => ?_) e
      · have := hρ (i + 1)
        rw [List.getElem?_cons_succ] at this
        rw [this]
        congr 1
        omega
      · have := hL (i + 1)
        rw [show k + 1 + i = k + (i + 1) by omega, ← this]
        rfl
  | _, _, _, _, .ln (p := p) g o n r, k, ρ', fin, hρ, hL, e => by
    cases ρ' with
    | nil => cases e
    | cons c ρ' =>
      match c, e with
      | some (.ow true d), e =>
        obtain ⟨fin', e', rfl⟩ := Option.map_eq_some_iff.mp e
        refine .cons ?_ (fins_lent R r (k + 1) ρ' fin' (fun i => ?_) (fun i => ?_) e')
        · have h0 := hρ 0
          obtain ⟨p', q1, q2, q3, q4, q5⟩ := R.ow (k + 0) true d h0.symm
          have q6 : B.L (k + 0) = some p' := q4
          rw [← hL 0] at q6
          have q7 : some p = some p' := q6
          cases q7
          exact ⟨q2, q5⟩
        · have := hρ (i + 1)
          rw [List.getElem?_cons_succ] at this
          rw [this]
          congr 1
          omega
        · have := hL (i + 1)
          rw [show k + 1 + i = k + (i + 1) by omega, ← this]
          rfl
      | none, e => cases e
      | some (.sh _), e => cases e
      | some (.ow false _), e => cases e
end
theorem _root_.L2.PSs.wishes {X : Cx} {E E' : Value → Shared → Prop} {st : List Stmt} {t : TS} (h : PSs (X.wish E) st t) (i : ∀ e s, E e s → E' e s) : PSs (X.wish E') st t := fun pins s σ H D I hw =>
  wpAny_mono (h pins s σ H D (I.unwish.wish _) hw) (fun _ _ q => by
    have q1 := q.unwish
    cases ‹Flow› with
    | next => obtain ⟨σ', H', I, q⟩ := q1; exact ⟨σ', H', I.wish _, q⟩
    | brk => obtain ⟨σ', H', I, q⟩ := q1; exact ⟨σ', H', I.wish _, q⟩
    | cont => obtain ⟨σ', H', I, q⟩ := q1; exact ⟨σ', H', I.wish _, q⟩
    | ret u => obtain ⟨v, σ', H', I, r, q⟩ := q1; exact ⟨v, σ', H', I.wish _, r, q⟩) fun e s z => i e s z
section
variable {P : Program} {w : World} {K : PySem.W.Frag} {mg : Str → Option Value} {base : Heap}
/-- THE RULE: a def, by its body as a function of data -/
theorem fun_d {x : Str} {st : Stmt} {f : Addr} {fd : FuncData} {N ps : List Str} {ms : List Bool} {k : Nat} {m : SM} (F : Fun K x x st f fd) (S : FnScope N ps (defScope st)) (hm : ms.length = ps.length)
    (hbody : ∀ (cdv : Value) (A : Around) (outer : List Env) (s : Shared) (H : Hp) (E : XK) (H0 HK G0 : Hp) (L : Nat → Option Addr), Room k (A.deeper (envOfC x (defScope st) s.heap.objs.size f cdv)) →
      PSsD (cxOf CX0 P w K mg base N x (defScope st) f cdv A outer s H E) ⟨K, H0, HK, G0, L⟩ (defBody st) m) : FnOk P w K mg base CX0 (k + 1) f fd ps (SpD K ms (runF m N.length ms)) := by
  have hpl : ps.length ≤ N.length := by have := congrArg List.length S.pre; rw [List.length_take] at this; omega
  refine F.ok S (fun vs H Q E h => ?_) (fun cdv A outer s H vs Q E hr h => ?_)
  · obtain ⟨G, ds, pp, r, _, a, _⟩ := h
    rw [a.len.1, hm]
  obtain ⟨G, ds, pp, r, g, a, hf, q⟩ := h
  refine ⟨_, ((hbody cdv A outer s H E H (minus H pp) G (lentAt ms pp) hr).ap fun _ _ _ => False).wishes (fun e s z => ?_), ?_⟩
  · obtain ⟨_, _, _, _, _, _, z⟩ := z
    exact z
  have R0 := rs_start (N := N) g a (by rw [a.len.1, hm]; exact hpl)
  unfold runF at hf
  cases hs : m (startE N.length ms ds) with
  | none => rw [hs] at hf; cases hf
  | some sr =>
    rw [hs] at hf
    have hf' : outS ms sr = some r := hf
    refine ⟨G, startE N.length ms ds, R0, sr, hs, ?_⟩
    have fin : ∀ {ρ' : Env'} {σ' : St} {G' H' : Hp} {fins : List D}, finsOf ms ρ' = some fins → RS ⟨K, H, minus H pp, G, lentAt ms pp⟩ G' H' σ' ρ' → After K G H pp G' H' fins := fun {ρ' σ' G' H' fins} e R' =>
      ⟨R'.keep, R'.g0, R'.gH, R'.gnew, R'.dom, fins_lent R' a 0 ρ' fins (fun i => by rw [Nat.zero_add]) (fun i => by rw [Nat.zero_add]) e⟩
    cases sr with
    | nx ρ' =>
      obtain ⟨fins, e, rfl⟩ := Option.map_eq_some_iff.mp hf'
      exact fun σ' G' H' s' R' => q .non G' H' (fin e R') .non
    | rt w' ρ' =>
      cases w' with
      | slot i => cases hf'
      | val d =>
        obtain ⟨fins, e, rfl⟩ := Option.map_eq_some_iff.mp hf'
        exact fun v σ' G' H' s' R' rw' => q v G' H' (fin e R') rw'
      | own d =>
        obtain ⟨fins, e, rfl⟩ := Option.map_eq_some_iff.mp hf'
        exact fun v σ' G' H' s' R' rw' => q v G' H' (fin e R') (let ⟨p, a1, a2, a3, a4, _⟩ := rw'; ⟨p, a1, a2, a3, a4⟩)
    | ex x ρ' =>
      obtain ⟨fins, e, rfl⟩ := Option.map_eq_some_iff.mp hf'
      exact q.elim
    | bk ρ' => cases hf'
    | ct ρ' => cases hf'
theorem hu8 {A : Around} {k : Nat} (hr : Room k A) : A.units + 8 < cLine := by have := hr.units; omega
/-- the law's own promise -/
theorem law_imp {K : PySem.W.Frag} {fm : List D → Option FR} (h : ∀ ns : List Int, ns.length ≤ 63 → fm [.lst (ns.map D.int)] = some (.ret (.val (.bl true)) [])) : ∀ vs H Q E, spLaw K vs H Q E → SpD K [false] fm vs H Q E := by
  rintro vs H Q E ⟨a, ns, rfl, hS, hl, q⟩
  refine ⟨H, [.lst (ns.map D.int)], [], _, Same.refl _, .sh (.lst hS (RepL.map_int (K := K) (G := H) ns).len (RepL.map_int (K := K) (G := H) ns).get) .nil, h ns hl, fun v G' H' _ r => ?_⟩
  cases (show Rep K G' v (.bl true) from r)
  exact q H'
end
end L3

set_option Elab.async false
set_option linter.all false
set_option maxRecDepth 100000
set_option maxHeartbeats 4000000
namespace L3
open PySem PySem.Spec PyProof.Rows L2

/-! ### data that hold no list and no dict -/
def flatN : Nat → D → Bool
  | _, .non => true
  | _, .bl _ => true
  | _, .int _ => true
  | _, .str _ => true
  | _, .ty _ => true
  | n + 1, .tup ds => ds.all (flatN n)
  | _, _ => false
abbrev flatD (d : D) : Bool := flatN 6 d
/-- what comes back holds no list but perhaps itself, one's own -/
def flatW : W → Bool
  | .val d => flatD d
  | .own (.lst ds) => ds.all flatD
  | .own (.dct es) => es.all fun e => flatD e.2
  | _ => false
def flatO : D → Bool
  | .lst ds => ds.all flatD
  | .dct es => es.all fun e => flatD e.2
  | _ => false
/-- an object that is a list or a dict -/
def isLD : Option HO → Prop
  | some (.lst _) => True
  | some (.dK _) => True
  | _ => False
section
variable {K : PySem.W.Frag} {G H : Hp} {bs : List Addr}
theorem minus_tup {a : Addr} {xs : List V} (hb : ∀ b ∈ bs, isLD (G b)) (h : SqT K G a xs) : SqT K (minus G bs) a xs := by
  rcases h with (h | ⟨o, h⟩) | h
  · refine .inl (.inl ?_)
    rw [minus_out fun m => ?_]
    · exact h
    · have := hb a m; rw [h] at this; exact this
  · refine .inl (.inr ⟨o, ?_⟩)
    rw [minus_out fun m => ?_]
    · exact h
    · have := hb a m; rw [h] at this; exact this
  · exact .inr h
theorem Rep.minus : ∀ (n : Nat) {v : V} {d : D}, (∀ b ∈ bs, isLD (G b)) → flatN n d = true → Rep K G v d → Rep K (minus G bs) v d := by
  intro n
  induction n with
  | zero =>
    intro v d hb hf h
    cases h with
    | non => exact .non
    | bl b => exact .bl b
    | int b => exact .int b
    | str b => exact .str b
    | ty b => exact .ty b
    | tup _ _ _ => cases hf
    | lst _ _ _ => cases hf
    | dct _ _ _ => cases hf
  | succ n ih =>
    intro v d hb hf h
    cases h with
    | non => exact .non
    | bl b => exact .bl b
    | int b => exact .int b
    | str b => exact .str b
    | ty b => exact .ty b
    | @tup a xs ds h l r =>
      have hf' := List.all_eq_true.mp (show ds.all (flatN n) = true from hf)
      exact .tup (minus_tup hb h) l fun j x d a b => ih hb (hf' d (List.mem_of_getElem? b)) (r j x d a b)
    | lst _ _ _ => cases hf
    | dct _ _ _ => cases hf
theorem RepL.minus {xs : List V} {ds : List D} (hb : ∀ b ∈ bs, isLD (G b)) (hf : ds.all flatD = true) (h : RepL K G xs ds) : RepL K (minus G bs) xs ds :=
  ⟨h.len, fun j x d a b => Rep.minus 6 hb (List.all_eq_true.mp hf d (List.mem_of_getElem? b)) (h.get j x d a b)⟩
theorem RepKV.minus {xs : List (Key × V)} {ds : List (Key × D)} (hb : ∀ b ∈ bs, isLD (G b)) (hf : (ds.all fun e => flatD e.2) = true) (h : RepKV K G xs ds) : RepKV K (minus G bs) xs ds :=
  ⟨h.keys, fun j x d a b => Rep.minus 6 hb (List.all_eq_true.mp hf d (List.mem_of_getElem? b)) (h.get j x d a b)⟩
theorem OwnAt.minus {p : Addr} {d : D} (hb : ∀ b ∈ bs, isLD (G b)) (hf : flatO d = true) (h : OwnAt K G H p d) : OwnAt K (minus G bs) H p d := by
  cases d with
  | lst ds => obtain ⟨xs, e, r⟩ := h; exact ⟨xs, e, r.minus hb hf⟩
  | dct es => obtain ⟨xs, e, r⟩ := h; exact ⟨xs, e, r.minus hb hf⟩
  | _ => exact (show False from h).elim
end

/-! ### a call -/
/-- the arguments' data; a lent one must be a slot's own -/
def argsOf : List Bool → List W → Env' → Option (List D)
  | [], [], _ => some []
  | false :: ms, w :: ws, ρ => match getD w ρ, argsOf ms ws ρ with
    | some d, some ds => some (d :: ds)
    | _, _ => none
  | true :: ms, .slot i :: ws, ρ => match ρ[i]?, argsOf ms ws ρ with
    | some (some (.ow _ d)), some ds => some (d :: ds)
    | _, _ => none
  | _, _, _ => none
/-- the slots that are lent; those that are read and are a name's own -/
def lentI : List Bool → List W → List Nat
  | true :: ms, .slot i :: ws => i :: lentI ms ws
  | _ :: ms, _ :: ws => lentI ms ws
  | _, _ => []
def borI (ρ : Env') : List Bool → List W → List Nat
  | false :: ms, .slot i :: ws => match ρ[i]? with
    | some (some (.ow _ _)) => i :: borI ρ ms ws
    | _ => borI ρ ms ws
  | _ :: ms, _ :: ws => borI ρ ms ws
  | _, _ => []
def setL : List Nat → List D → Env' → Option Env'
  | [], [], ρ => some ρ
  | i :: is, d :: ds, ρ => match ρ[i]? with
    | some (some (.ow l _)) => setL is ds (ρ.set i (some (.ow l d)))
    | _ => none
  | _, _, _ => none
/-- slots become shared -/
def shareL : List Nat → Env' → Option Env'
  | [], ρ => some ρ
  | i :: is, ρ => match ρ[i]? with
    | some (some (.ow false d)) => shareL is (ρ.set i (some (.sh d)))
    | some (some (.sh _)) => shareL is ρ
    | _ => none
def apartI (ls bs : List Nat) : Bool := decide ls.Nodup && ls.all fun i => !bs.contains i
def callW (ms : List Bool) (fm : List D → Option FR) (ws : List W) : M W := fun ρ => match argsOf ms ws ρ with
  | none => none
  | some ds => if apartI (lentI ms ws) (borI ρ ms ws) = true then match fm ds with
    | some (.ret w fin) => match setL (lentI ms ws) fin ρ with
      | none => none
      | some ρ1 => if (flatW w && fin.all flatO) = true then some (.ok w ρ1) else (shareL (borI ρ ms ws) ρ1).map (R'.ok w ·)
    | _ => none
    else none
def mCall (ms : List Bool) (fm : List D → Option FR) (m : M (List W)) : M W := M.bind m fun ws => callW ms fm ws
/-- the addresses of slots -/
def addrsOf (σ : St) (is : List Nat) : List Addr := is.filterMap fun i => match σ[i]? with
  | some (some (V.ref p)) => some p
  | _ => none
section
variable {B : Bs} {G H : Hp} {σ : St} {ρ : Env'}
theorem mem_addrs {is : List Nat} {p : Addr} : p ∈ addrsOf σ is ↔ ∃ i ∈ is, σ[i]? = some (some (.ref p)) := by
  unfold addrsOf
  rw [List.mem_filterMap]
  constructor
  · rintro ⟨i, hi, e⟩
    refine ⟨i, hi, ?_⟩
    split at e
    · cases e; assumption
    · cases e
  · rintro ⟨i, hi, e⟩
    exact ⟨i, hi, by rw [e]⟩
/-- the frozen heap with some slots' objects in it -/
def plus (G H : Hp) (bs : List Addr) : Hp := fun b => if b ∈ bs then H b else G b
theorem plus_in {bs : List Addr} {b : Addr} (h : b ∈ bs) : plus G H bs b = H b := if_pos h
theorem plus_out {bs : List Addr} {b : Addr} (h : b ∉ bs) : plus G H bs b = G b := if_neg h
theorem bor_own : ∀ {ms : List Bool} {ws : List W} {i : Nat}, i ∈ borI ρ ms ws → ∃ l d, ρ[i]? = some (some (.ow l d))
  | [], [], i, h => by cases h
  | [], _ :: _, i, h => by cases h
  | true :: _, [], i, h => by cases h
  | false :: _, [], i, h => by cases h
  | true :: ms, w :: ws, i, h => by
    have h' : i ∈ borI ρ ms ws := by cases w <;> exact h
    exact bor_own h'
  | false :: ms, .val _ :: ws, i, h => bor_own (ms := ms) (ws := ws) h
  | false :: ms, .own _ :: ws, i, h => bor_own (ms := ms) (ws := ws) h
  | false :: ms, .slot j :: ws, i, h => by
    unfold borI at h
    split at h
    · rename_i l d hj
      rcases List.mem_cons.mp h with rfl | h
      · exact ⟨l, d, hj⟩
      · exact bor_own h
    · exact bor_own h
/-- the callee's arguments -/
theorem args_call (R : RS B G H σ ρ) {bs : List Addr} (g1 : Same G (plus G H bs)) : ∀ {ms : List Bool} {ws : List W} {vs : List V} {ds : List D}, relWs B G H σ ρ vs ws → argsOf ms ws ρ = some ds → (∀ i ∈ borI ρ ms ws, ∀ p, σ[i]? = some (some (.ref p)) → p ∈ bs) → (∀ i ∈ lentI ms ws, ∀ p, σ[i]? = some (some (.ref p)) → p ∉ bs) → (lentI ms ws).Nodup →
    ArgsR B.K (plus G H bs) H ms vs ds (addrsOf σ (lentI ms ws))
  | [], [], _, ds, q, e, _, _, _ => by cases q; cases e; exact .nil
  | [], _ :: _, _, _, _, e, _, _, _ => by cases e
  | true :: _, [], _, _, _, e, _, _, _ => by cases e
  | false :: _, [], _, _, _, e, _, _, _ => by cases e
  | false :: ms, w :: ws, _, ds, q, e, hb, hl, nd => by
    cases q with
    | @cons v _ vs _ h t =>
      unfold argsOf at e
      cases h1 : getD w ρ with
      | none => rw [h1] at e; cases e
      | some d =>
        cases h2 : argsOf ms ws ρ with
        | none => rw [h1, h2] at e; cases e
        | some ds2 =>
          rw [h1, h2] at e
          cases e
          have el : lentI (false :: ms) (w :: ws) = lentI ms ws := by cases w <;> rfl
          rw [el] at hl nd ⊢
          have hb2 : ∀ i ∈ borI ρ ms ws, ∀ p, σ[i]? = some (some (.ref p)) → p ∈ bs := fun i hi => hb i (by
            cases w with
            | slot j =>
              unfold borI
              split
              · exact List.mem_cons_of_mem _ hi
              · exact hi
            | val _ => exact hi
            | own _ => exact hi)
          refine .sh ?_ (args_call R g1 t h2 hb2 hl nd)
          rcases h.1.get R h1 with r | ⟨p, rfl, o⟩
          · exact r.same g1
          · -- a name's own, read
            cases w with
            | val _ => cases h1; exact Rep.same g1 h.1
            | own _ => exact absurd (show false = true from h.2) Bool.false_ne_true
            | slot j =>
              have hv : σ[j]? = some (some (.ref p)) := h.1
              have hj : ∃ l d', ρ[j]? = some (some (.ow l d')) ∨ ∃ d', ρ[j]? = some (some (.sh d')) := by
                unfold getD at h1
                simp only [] at h1
                split at h1
                · rename_i d' q; exact ⟨true, d', .inr ⟨_, q⟩⟩
                · rename_i l d' q; exact ⟨l, d', .inl q⟩
                · cases h1
              obtain ⟨l, d', hj | ⟨d2, hj⟩⟩ := hj
              · have ed : d = d' := by
                  unfold getD at h1
                  simp only [hj] at h1
                  exact (Option.some.inj h1).symm
                subst ed
                have hp : p ∈ bs := hb j (by unfold borI; rw [hj]; exact List.mem_cons_self) p hv
                cases d with
                | lst ds =>
                  obtain ⟨xs, e, r⟩ := o
                  have r' := r.same g1
                  exact .lst (SqL.of (by rw [plus_in hp]; exact e)) r'.len r'.get
                | dct es =>
                  obtain ⟨xs, e, r⟩ := o
                  have r' := r.same g1
                  exact .dct (by rw [plus_in hp]; exact e) r'.keys r'.get
                | _ => exact (show False from o).elim
              · obtain ⟨v', q1, r⟩ := R.sh j d2 hj
                rw [hv] at q1
                cases q1
                have ed : d = d2 := by
                  unfold getD at h1
                  simp only [hj] at h1
                  exact (Option.some.inj h1).symm
                subst ed
                exact r.same g1
  | true :: ms, .val _ :: ws, _, ds, q, e, _, _, _ => by cases e
  | true :: ms, .own _ :: ws, _, ds, q, e, _, _, _ => by cases e
  | true :: ms, .slot i :: ws, _, ds, q, e, hb, hl, nd => by
    cases q with
    | @cons v _ vs _ h t =>
      unfold argsOf at e
      split at e
      · rename_i l d ds2 hi h2
        cases e
        have hv : σ[i]? = some (some v) := h.1
        obtain ⟨p, q1, q2, q3, q4, q5⟩ := R.ow i l d hi
        rw [hv] at q1
        cases q1
        have el : lentI (true :: ms) (.slot i :: ws) = i :: lentI ms ws := rfl
        rw [el] at hl nd ⊢
        obtain ⟨n1, n2⟩ := List.nodup_cons.mp nd
        have ea : addrsOf σ (i :: lentI ms ws) = p :: addrsOf σ (lentI ms ws) := by
          unfold addrsOf
          rw [List.filterMap_cons, hv]
        rw [ea]
        have hp : p ∉ bs := hl i List.mem_cons_self p hv
        refine .ln (by rw [plus_out hp]; exact q2) (q5.same g1 rfl) (fun m => ?_) (args_call R g1 t h2 (fun j hj => hb j hj) (fun j hj => hl j (List.mem_cons_of_mem _ hj)) n2)
        obtain ⟨j, hj, ej⟩ := mem_addrs.mp m
        have hoj : ∃ l d, ρ[j]? = some (some (.ow l d)) := by
          clear hl n1 n2 nd ea m
          have key : ∀ {ms : List Bool} {ws : List W} {ds : List D}, argsOf ms ws ρ = some ds → ∀ j ∈ lentI ms ws, ∃ l d, ρ[j]? = some (some (.ow l d)) := by
            intro ms
            induction ms with
            | nil => intro ws ds e j hj; cases ws <;> cases hj
            | cons m ms ih =>
              intro ws ds e j hj
              cases ws with
              | nil => cases m <;> cases hj
              | cons w ws =>
                cases m with
                | false =>
                  have el : lentI (false :: ms) (w :: ws) = lentI ms ws := by cases w <;> rfl
                  rw [el] at hj
                  unfold argsOf at e
                  split at e
                  · rename_i h2; exact ih h2 j hj
                  · cases e
                | true =>
                  cases w with
                  | val _ => cases e
                  | own _ => cases e
                  | slot k =>
                    unfold argsOf at e
                    split at e
                    · rename_i l d ds2 hk h2
                      rcases List.mem_cons.mp hj with rfl | hj
                      · exact ⟨l, d, hk⟩
                      · exact ih h2 j hj
                    · cases e
          exact key h2 j hj
        obtain ⟨l2, d2, hj2⟩ := hoj
        have := R.inj i j l d l2 d2 p hi hj2 hv ej
        subst this
        exact n1 hj
      · cases e
theorem setL_get : ∀ {is : List Nat} {ds : List D} {ρ ρ' : Env'}, setL is ds ρ = some ρ' → is.Nodup → ρ'.length = ρ.length ∧ (∀ i, i ∉ is → ρ'[i]? = ρ[i]?) ∧ ∀ (k i : Nat), is[k]? = some i → ∃ l d d', ρ[i]? = some (some (.ow l d)) ∧ ds[k]? = some d' ∧ ρ'[i]? = some (some (.ow l d'))
  | [], [], ρ, ρ', e, _ => by cases e; exact ⟨rfl, fun _ _ => rfl, fun k i h => by simp at h⟩
  | [], _ :: _, _, _, e, _ => by cases e
  | _ :: _, [], _, _, e, _ => by cases e
  | i :: is, d :: ds, ρ, ρ', e, nd => by
    unfold setL at e
    split at e
    · rename_i l d0 hi
      have hil : i < ρ.length := (List.getElem?_eq_some_iff.mp hi).1
      obtain ⟨n1, n2⟩ := List.nodup_cons.mp nd
      obtain ⟨a, b, c⟩ := setL_get e n2
      refine ⟨by rw [a]; simp, fun j hj => ?_, fun k j hk => ?_⟩
      · rw [b j fun m => hj (List.mem_cons_of_mem _ m), List.getElem?_set_ne fun z => hj (by rw [z]; exact List.mem_cons_self)]
      · cases k with
        | zero =>
          simp at hk
          subst hk
          exact ⟨l, d0, d, hi, rfl, by rw [b i n1, List.getElem?_set_self hil]⟩
        | succ k =>
          have hk' : is[k]? = some j := by simpa using hk
          obtain ⟨l', d1, d2, e1, e2, e3⟩ := c k j hk'
          have hne : i ≠ j := fun z => n1 (by rw [z]; exact List.mem_of_getElem? hk')
          rw [List.getElem?_set_ne hne] at e1
          exact ⟨l', d1, d2, e1, by simpa using e2, e3⟩
    · cases e
theorem shareL_get : ∀ {is : List Nat} {ρ ρ' : Env'}, shareL is ρ = some ρ' → ρ'.length = ρ.length ∧ (∀ i, i ∉ is → ρ'[i]? = ρ[i]?) ∧ ∀ i ∈ is, ∃ d, ρ'[i]? = some (some (.sh d)) ∧ (ρ[i]? = some (some (.ow false d)) ∨ ρ[i]? = some (some (.sh d)))
  | [], ρ, ρ', e => by cases e; exact ⟨rfl, fun _ _ => rfl, fun i h => by cases h⟩
  | i :: is, ρ, ρ', e => by
    unfold shareL at e
    split at e
    · rename_i d hi
      have hil : i < ρ.length := (List.getElem?_eq_some_iff.mp hi).1
      obtain ⟨a, b, c⟩ := shareL_get e
      refine ⟨by rw [a]; simp, fun j hj => ?_, fun j hj => ?_⟩
      · rw [b j fun m => hj (List.mem_cons_of_mem _ m), List.getElem?_set_ne fun z => hj (by rw [z]; exact List.mem_cons_self)]
      · by_cases z : i = j
        · subst z
          by_cases m : i ∈ is
          · obtain ⟨d', e1, e2⟩ := c i m
            rw [List.getElem?_set_self hil] at e2
            rcases e2 with e2 | e2
            · cases e2
            · cases e2
              exact ⟨d, e1, .inl hi⟩
          · exact ⟨d, by rw [b i m, List.getElem?_set_self hil], .inl hi⟩
        · have hj' : j ∈ is := by rcases List.mem_cons.mp hj with h | h; exact absurd h.symm z; exact h
          obtain ⟨d', e1, e2⟩ := c j hj'
          rw [List.getElem?_set_ne z] at e2
          exact ⟨d', e1, e2⟩
    · rename_i d hi
      obtain ⟨a, b, c⟩ := shareL_get e
      refine ⟨a, fun j hj => b j fun m => hj (List.mem_cons_of_mem _ m), fun j hj => ?_⟩
      rcases List.mem_cons.mp hj with rfl | hj
      · by_cases m : j ∈ is
        · exact c j m
        · exact ⟨d, by rw [b j m]; exact hi, .inr hi⟩
      · exact c j hj
    · cases e
theorem addrs_get : ∀ {is : List Nat} {k i : Nat} {p : Addr}, (∀ j ∈ is, ∃ q, σ[j]? = some (some (.ref q))) → is[k]? = some i → σ[i]? = some (some (.ref p)) → (addrsOf σ is)[k]? = some p
  | [], k, i, p, _, h, _ => by simp at h
  | j :: is, k, i, p, ha, h, e => by
    obtain ⟨q, hq⟩ := ha j List.mem_cons_self
    have ea : addrsOf σ (j :: is) = q :: addrsOf σ is := by
      unfold addrsOf
      rw [List.filterMap_cons, hq]
    rw [ea]
    cases k with
    | zero =>
      simp at h
      subst h
      rw [hq] at e
      cases e
      rfl
    | succ k => exact addrs_get (fun l hl => ha l (List.mem_cons_of_mem _ hl)) (by simpa using h) e
theorem paired_get {α β : Type} {F : α → β → Prop} : ∀ {xs : List α} {ys : List β} {k : Nat} {x : α} {y : β}, Paired F xs ys → xs[k]? = some x → ys[k]? = some y → F x y
  | _, _, 0, _, _, .cons h _, a, b => by simp at a b; subst a b; exact h
  | _, _, k + 1, _, _, .cons _ t, a, b => paired_get (k := k) t (by simpa using a) (by simpa using b)
  | _, _, _, _, _, .nil, a, _ => by simp at a
theorem own_LD {p : Addr} {d : D} {K : PySem.W.Frag} (o : OwnAt K G H p d) : isLD (H p) := by
  cases d with
  | lst ds => obtain ⟨xs, e, _⟩ := o; rw [e]; exact True.intro
  | dct es => obtain ⟨xs, e, _⟩ := o; rw [e]; exact True.intro
  | _ => exact (show False from o).elim
/-- the frozen heap behind a call: what was only read is a name's own again -/
theorem call_after {bi li : List Nat} {G' H' : Hp} {fin : List D} {ρ1 ρ2 : Env'} {v : V} {w : W} (R : RS B G H σ ρ) (hbi : ∀ i ∈ bi, ∃ l d, ρ[i]? = some (some (.ow l d))) (hli : ∀ i ∈ li, ∃ l d, ρ[i]? = some (some (.ow l d))) (nd : li.Nodup) (ap : ∀ i ∈ li, i ∉ bi)
    (A : After B.K (plus G H (addrsOf σ bi)) H (addrsOf σ li) G' H' fin) (hs : setL li fin ρ = some ρ1) (rr : RepRet B.K H G' H' v w)
    (hend : ((flatW w && fin.all flatO) = true ∧ ρ2 = ρ1) ∨ shareL bi ρ1 = some ρ2) : ∃ Gn, Same G Gn ∧ RS B Gn H' σ ρ2 ∧ RepW B Gn H' σ ρ2 v w := by
  have refs : ∀ {i l d}, ρ[i]? = some (some (.ow l d)) → ∃ p, σ[i]? = some (some (.ref p)) ∧ G p = none ∧ B.HK p = none ∧ Lnt B i l p ∧ OwnAt B.K G H p d := fun h => R.ow _ _ _ h
  have hlr : ∀ j ∈ li, ∃ q, σ[j]? = some (some (.ref q)) := fun j hj => by
    obtain ⟨l, d, h⟩ := hli j hj
    obtain ⟨p, q, _⟩ := refs h
    exact ⟨p, q⟩
  have inB : ∀ {b}, b ∈ addrsOf σ bi → ∃ i l d, i ∈ bi ∧ ρ[i]? = some (some (.ow l d)) ∧ σ[i]? = some (some (.ref b)) ∧ G b = none ∧ B.HK b = none ∧ Lnt B i l b ∧ OwnAt B.K G H b d := fun {b} hb => by
    obtain ⟨i, hi, e⟩ := mem_addrs.mp hb
    obtain ⟨l, d, h⟩ := hbi i hi
    obtain ⟨p, q1, q2, q3, q4, q5⟩ := refs h
    rw [e] at q1
    cases q1
    exact ⟨i, l, d, hi, h, e, q2, q3, q4, q5⟩
  have inL : ∀ {b}, b ∈ addrsOf σ li → ∃ i l d, i ∈ li ∧ ρ[i]? = some (some (.ow l d)) ∧ σ[i]? = some (some (.ref b)) ∧ G b = none ∧ B.HK b = none := fun {b} hb => by
    obtain ⟨i, hi, e⟩ := mem_addrs.mp hb
    obtain ⟨l, d, h⟩ := hli i hi
    obtain ⟨p, q1, q2, q3, q4, q5⟩ := refs h
    rw [e] at q1
    cases q1
    exact ⟨i, l, d, hi, h, e, q2, q3⟩
  have s1 : Same G (plus G H (addrsOf σ bi)) := fun b o e => by
    rw [plus_out fun m => ?_]
    · exact e
    · obtain ⟨_, _, _, _, _, _, g, _⟩ := inB m
      rw [e] at g
      cases g
  have s2 : Same G G' := s1.trans A.gg
  have bsLD : ∀ b ∈ addrsOf σ bi, isLD (G' b) := fun b hb => by
    obtain ⟨i, l, d, _, _, _, _, _, _, o⟩ := inB hb
    obtain ⟨ob, hob⟩ := o.some
    have e := A.gg b ob (by rw [plus_in hb]; exact hob)
    have z := own_LD o
    rw [hob] at z
    rw [e]
    exact z
  obtain ⟨len1, out1, at1⟩ := setL_get hs nd
  -- what is kept of the heap
  have keepH : ∀ b o, H b = some o → b ∉ addrsOf σ li → H' b = some o := fun b o e hb => A.keep b o (by rw [minus_out hb]; exact e)
  have keepK : Same B.HK H' := fun b o e => keepH b o (R.keep b o e) fun m => by
    obtain ⟨_, _, _, _, _, _, _, hk⟩ := inL m
    rw [e] at hk
    cases hk
  have notG' : ∀ p, G p = none → p ∉ addrsOf σ bi → (∃ o, H p = some o) → G' p = none := fun p g nb ⟨o, ho⟩ => by
    cases hg : G' p with
    | none => rfl
    | some ob =>
      rcases A.gnew p ob hg with z | z
      · rw [plus_out nb, g] at z; cases z
      · rw [ho] at z; cases z
  -- a slot that is a name's own behind the call
  have lentOk : ∀ {i}, i ∈ li → ∀ {l d'}, ρ1[i]? = some (some (.ow l d')) → ∃ p, σ[i]? = some (some (.ref p)) ∧ G' p = none ∧ B.HK p = none ∧ Lnt B i l p ∧ OwnAt B.K G' H' p d' ∧ d' ∈ fin := fun {i} hi {l d'} e => by
    obtain ⟨k, hk⟩ := List.getElem?_of_mem hi
    obtain ⟨l0, d0, d1, e0, e1, e2⟩ := at1 k i hk
    rw [e] at e2
    cases e2
    obtain ⟨p, q1, q2, q3, q4, q5⟩ := refs e0
    have hp := addrs_get hlr hk q1
    obtain ⟨z1, z2⟩ := paired_get A.lent hp e1
    exact ⟨p, q1, z1, q3, q4, z2, List.mem_of_getElem? e1⟩
  have otherOk : ∀ {i}, i ∉ li → ∀ {l d'}, ρ1[i]? = some (some (.ow l d')) → ∃ p, σ[i]? = some (some (.ref p)) ∧ G p = none ∧ B.HK p = none ∧ Lnt B i l p ∧ OwnAt B.K G H p d' ∧ H' p = H p ∧ ρ[i]? = some (some (.ow l d')) := fun {i} hi {l d'} e => by
    rw [out1 i hi] at e
    obtain ⟨p, q1, q2, q3, q4, q5⟩ := refs e
    obtain ⟨o, ho⟩ := q5.some
    refine ⟨p, q1, q2, q3, q4, q5, ?_, e⟩
    rw [ho]
    refine keepH p o ho fun m => ?_
    obtain ⟨j, l2, d2, hj, ej, ej2, _⟩ := inL m
    exact hi (by rw [R.inj i j _ _ _ _ p e ej q1 ej2]; exact hj)
  have sh1 : ∀ {i : Nat} {d' : D}, ρ1[i]? = some (some (C.sh d')) → ρ[i]? = some (some (C.sh d')) := fun {i d'} e => by
    by_cases hi : i ∈ li
    · obtain ⟨k, hk⟩ := List.getElem?_of_mem hi
      obtain ⟨l0, d0, d1, e0, e1, e2⟩ := at1 k i hk
      rw [e] at e2
      cases e2
    · rw [out1 i hi] at e
      exact e
  have inj1 : ∀ {i j : Nat} {l : Bool} {d : D} {k : Bool} {e : D} {p : Addr}, ρ1[i]? = some (some (.ow l d)) → ρ1[j]? = some (some (.ow k e)) → σ[i]? = some (some (.ref p)) → σ[j]? = some (some (.ref p)) → i = j := fun {i j l d k e p} a b c f => by
    have old : ∀ {i : Nat} {l : Bool} {d : D}, ρ1[i]? = some (some (.ow l d)) → ∃ l d, ρ[i]? = some (some (.ow l d)) := fun {i l d} a => by
      by_cases hi : i ∈ li
      · exact hli i hi
      · rw [out1 i hi] at a; exact ⟨_, _, a⟩
    obtain ⟨l1, d1, a1⟩ := old a
    obtain ⟨l2, d2, a2⟩ := old b
    exact R.inj i j l1 d1 l2 d2 p a1 a2 c f
  rcases hend with ⟨hf, rfl⟩ | hsh
  · -- nothing that comes back holds what was read
    rw [Bool.and_eq_true] at hf
    obtain ⟨fw, ff⟩ := hf
    have sN : Same G (minus G' (addrsOf σ bi)) := fun b o e => by
      rw [minus_out fun m => ?_]
      · exact s2 b o e
      · obtain ⟨_, _, _, _, _, _, g, _⟩ := inB m
        rw [e] at g
        cases g
    refine ⟨minus G' (addrsOf σ bi), sN, ⟨R.hk, keepK, R.g0.trans sN, (minus_same _ _).trans A.gH, fun b o e => ?_, fun b e => R.dom b (A.dom b e), by rw [len1]; exact R.len, fun i d e => ?_, fun i l d e => ?_, fun i j l d k e p a b c f => inj1 a b c f⟩, ?_⟩
    · have e' := minus_same _ _ b o e
      have nb : b ∉ addrsOf σ bi := fun m => by rw [minus_in m] at e; cases e
      rcases A.gnew b o e' with z | z
      · rw [plus_out nb] at z
        exact R.gnew b o z
      · exact .inr (R.dom b z)
    · obtain ⟨v, q1, q2⟩ := R.sh i d (sh1 e)
      exact ⟨v, q1, q2.same sN⟩
    · by_cases hi : i ∈ li
      · obtain ⟨p, q1, q2, q3, q4, q5, q6⟩ := lentOk hi e
        refine ⟨p, q1, ?_, q3, q4, q5.minus bsLD (List.all_eq_true.mp ff d q6)⟩
        unfold minus
        split
        · rfl
        · exact q2
      · obtain ⟨p, q1, q2, q3, q4, q5, q6, q7⟩ := otherOk hi e
        refine ⟨p, q1, ?_, q3, q4, q5.same sN q6⟩
        unfold minus
        split
        · rfl
        · exact notG' p q2 ‹_› q5.some
    · cases w with
      | val d => exact Rep.minus 6 bsLD fw rr
      | slot i => exact rr.elim
      | own d =>
        obtain ⟨p, rfl, g, h0, o⟩ := rr
        have fo : flatO d = true := by
          cases d with
          | lst ds => exact fw
          | dct es => exact fw
          | _ => exact (show False from o).elim
        refine ⟨p, rfl, ?_, R.dom p h0, o.minus bsLD fo, fun i l e he z => ?_⟩
        · unfold minus
          split
          · rfl
          · exact g
        · have hz : ∃ ob, H p = some ob := by
            by_cases hi : i ∈ li
            · obtain ⟨l0, d0, a0⟩ := hli i hi
              obtain ⟨p', q1, _, _, _, q5⟩ := refs a0
              rw [z] at q1
              cases q1
              exact q5.some
            · obtain ⟨p', q1, q2, q3, q4, q5, _⟩ := otherOk hi he
              rw [z] at q1
              cases q1
              exact q5.some
          obtain ⟨ob, hob⟩ := hz
          rw [h0] at hob
          cases hob
  · -- what was read is shared from here on
    obtain ⟨len2, out2, at2⟩ := shareL_get hsh
    have ow2 : ∀ {i : Nat} {l : Bool} {d : D}, ρ2[i]? = some (some (.ow l d)) → i ∉ bi ∧ ρ1[i]? = some (some (.ow l d)) := fun {i l d} e => by
      have hi : i ∉ bi := fun m => by
        obtain ⟨d', e1, _⟩ := at2 i m
        rw [e] at e1
        cases e1
      exact ⟨hi, by rw [← out2 i hi]; exact e⟩
    refine ⟨G', s2, ⟨R.hk, keepK, R.g0.trans s2, A.gH, fun b o e => ?_, fun b e => R.dom b (A.dom b e), by rw [len2, len1]; exact R.len, fun i d e => ?_, fun i l d e => ?_, fun i j l d k e p a b c f => inj1 (ow2 a).2 (ow2 b).2 c f⟩, ?_⟩
    · rcases A.gnew b o e with z | z
      · by_cases m : b ∈ addrsOf σ bi
        · obtain ⟨i, l, d, hi, h, e2, g, _, ln, o'⟩ := inB m
          obtain ⟨d', e3, e4⟩ := at2 i hi
          have hil : i ∉ li := fun mm => ap i mm hi
          rw [out1 i hil, h] at e4
          rcases e4 with e4 | e4
          · cases e4
            exact .inr ln
          · cases e4
        · rw [plus_out m] at z
          exact R.gnew b o z
      · exact .inr (R.dom b z)
    · by_cases hi : i ∈ bi
      · obtain ⟨d', e1, e2⟩ := at2 i hi
        rw [e] at e1
        cases e1
        have hil : i ∉ li := fun mm => ap i mm hi
        rw [out1 i hil] at e2
        rcases e2 with e2 | e2
        · obtain ⟨p, q1, q2, q3, q4, q5⟩ := refs e2
          have hp : p ∈ addrsOf σ bi := mem_addrs.mpr ⟨i, hi, q1⟩
          refine ⟨_, q1, ?_⟩
          cases d with
          | lst ds =>
            obtain ⟨xs, e, r⟩ := q5
            have r' := r.same s2
            exact .lst (SqL.of (A.gg p _ (by rw [plus_in hp]; exact e))) r'.len r'.get
          | dct es =>
            obtain ⟨xs, e, r⟩ := q5
            have r' := r.same s2
            exact .dct (A.gg p _ (by rw [plus_in hp]; exact e)) r'.keys r'.get
          | _ => exact (show False from q5).elim
        · obtain ⟨v, q1, q2⟩ := R.sh i d e2
          exact ⟨v, q1, q2.same s2⟩
      · rw [out2 i hi] at e
        obtain ⟨v, q1, q2⟩ := R.sh i d (sh1 e)
        exact ⟨v, q1, q2.same s2⟩
    · obtain ⟨hb, e1⟩ := ow2 e
      by_cases hi : i ∈ li
      · obtain ⟨p, q1, q2, q3, q4, q5, _⟩ := lentOk hi e1
        exact ⟨p, q1, q2, q3, q4, q5⟩
      · obtain ⟨p, q1, q2, q3, q4, q5, q6, q7⟩ := otherOk hi e1
        refine ⟨p, q1, notG' p q2 (fun m => ?_) q5.some, q3, q4, q5.same s2 q6⟩
        obtain ⟨j, l2, d2, hj, ej, ej2, _⟩ := inB m
        exact hb (by rw [R.inj i j _ _ _ _ p q7 ej q1 ej2]; exact hj)
    · cases w with
      | val d => exact rr
      | slot i => exact rr.elim
      | own d =>
        obtain ⟨p, rfl, g, h0, o⟩ := rr
        refine ⟨p, rfl, g, R.dom p h0, o, fun i l e he z => ?_⟩
        obtain ⟨hb, e1⟩ := ow2 he
        have hz : ∃ ob, H p = some ob := by
          by_cases hi : i ∈ li
          · obtain ⟨l0, d0, a0⟩ := hli i hi
            obtain ⟨p', q1, _, _, _, q5⟩ := refs a0
            rw [z] at q1
            cases q1
            exact q5.some
          · obtain ⟨p', q1, q2, q3, q4, q5, _⟩ := otherOk hi e1
            rw [z] at q1
            cases q1
            exact q5.some
        obtain ⟨ob, hob⟩ := hz
        rw [h0] at hob
        cases hob
theorem lent_own : ∀ {ms : List Bool} {ws : List W} {ds : List D}, argsOf ms ws ρ = some ds → ∀ j ∈ lentI ms ws, ∃ l d, ρ[j]? = some (some (.ow l d)) := by
  intro ms
  induction ms with
  | nil => intro ws ds e j hj; cases ws <;> cases hj
  | cons m ms ih =>
    intro ws ds e j hj
    cases ws with
    | nil => cases m <;> cases hj
    | cons w ws =>
      cases m with
      | false =>
        have el : lentI (false :: ms) (w :: ws) = lentI ms ws := by cases w <;> rfl
        rw [el] at hj
        unfold argsOf at e
        split at e
        · rename_i h2; exact ih h2 j hj
        · cases e
      | true =>
        cases w with
        | val _ => cases e
        | own _ => cases e
        | slot k =>
          unfold argsOf at e
          split at e
          · rename_i l d ds2 hk h2
            rcases List.mem_cons.mp hj with rfl | hj
            · exact ⟨l, d, hk⟩
            · exact ih h2 j hj
          · cases e
end
section
variable {X : Cx} {B : Bs} {k : Nat} {x : Str} {ps : List Str} {ms : List Bool} {fm : List D → Option FR} {e : Expr} {es : List Expr} {mr : M (List W)} {p pos : Pos}
theorem td_call {ξ : XP} {σ : St} {H : Hp} {Q : VK} (t : TD relW B ξ (mCall ms fm mr) σ H Q) : tCall (SpD B.K ms fm) [] E0 (TD relWs B ξ mr) σ H Q := by
  obtain ⟨G, ρ, R, t⟩ := t
  refine (TD.bind (rel := relWs) R t).mono fun vs H1 ⟨G1, ρ1, ws, s1, R1, q1, r, er, pp⟩ => ?_
  rw [List.append_nil]
  unfold callW at er
  cases ha : argsOf ms ws ρ1 with
  | none => simp only [ha] at er; cases er
  | some ds =>
    simp only [ha] at er
    split at er
    · rename_i hap
      unfold apartI at hap
      rw [Bool.and_eq_true] at hap
      have nd : (lentI ms ws).Nodup := of_decide_eq_true hap.1
      have ap : ∀ i ∈ lentI ms ws, i ∉ borI ρ1 ms ws := fun i hi m => by
        have := List.all_eq_true.mp hap.2 i hi
        simp at this
        exact this m
      split at er
      · rename_i w fin hfm
        split at er
        · cases er
        · rename_i ρ2 hs
          have hli := lent_own ha
          have hbi : ∀ i ∈ borI ρ1 ms ws, ∃ l d, ρ1[i]? = some (some (.ow l d)) := fun i hi => bor_own hi
          have s2 : Same G1 (plus G1 H1 (addrsOf σ (borI ρ1 ms ws))) := fun b o e => by
            rw [plus_out fun m => ?_]
            · exact e
            · obtain ⟨i, hi, e2⟩ := mem_addrs.mp m
              obtain ⟨l, d, h⟩ := hbi i hi
              obtain ⟨p', a1, a2, _⟩ := R1.ow i l d h
              rw [e2] at a1
              cases a1
              rw [e] at a2
              cases a2
          have gH : Same (plus G1 H1 (addrsOf σ (borI ρ1 ms ws))) H1 := fun b o e => by
            by_cases m : b ∈ addrsOf σ (borI ρ1 ms ws)
            · rw [plus_in m] at e; exact e
            · rw [plus_out m] at e; exact R1.gH b o e
          have A := args_call R1 s2 q1 ha (fun i hi p' e => mem_addrs.mpr ⟨i, hi, e⟩) (fun i hi p' e m => by
            obtain ⟨j, hj, ej⟩ := mem_addrs.mp m
            obtain ⟨l, d, h⟩ := hli i hi
            obtain ⟨l2, d2, h2⟩ := hbi j hj
            have := R1.inj i j l d l2 d2 p' h h2 e ej
            subst this
            exact ap i hi hj) nd
          refine ⟨_, ds, _, _, gH, A, hfm, fun v G' H' af rr => ?_⟩
          split at er
          · rename_i hfl
            cases er
            obtain ⟨Gn, sn, Rn, wn⟩ := call_after R1 hbi hli nd ap af hs rr (.inl ⟨hfl, rfl⟩)
            exact pp v Gn H' sn Rn wn
          · obtain ⟨ρ3, hsh, rfl⟩ := Option.map_eq_some_iff.mp er
            obtain ⟨Gn, sn, Rn, wn⟩ := call_after R1 hbi hli nd ap af hs rr (.inr hsh)
            exact pp v Gn H' sn Rn wn
      · cases er
    · cases er
theorem d_call (h : Has X.prog X.w X.K X.mg X.base k x ps (SpD X.K ms fm)) (hr : Room k X.A) (ha : PDA X B (e :: es) mr) (hg : Gl X x := by rfl) (hK : X.K = B.K := by rfl) (hdb : (x == ("__debug__" : Str)) = false := by decide)
    (he : starEach (e :: es) X.env = (false, eval e X.env) :: starEach es X.env := by rfl) (hpl : (backTo pos (starEach es X.env)).any (·.1) = false := by rfl) : PD X B (.Call (.Name x p) (e :: es) [] pos) (mCall ms fm mr) := .mk fun ξ =>
  (pcall (X := rz X ξ) h hr (ha.ap ξ) hg hdb he hpl).imp fun σ H Q t => by
    have t' := td_call t
    rw [← hK] at t'
    exact t'
end
end L3

set_option Elab.async false
set_option linter.all false
set_option maxRecDepth 100000
set_option maxHeartbeats 4000000
namespace L3
open PySem PySem.Spec PyProof.Rows L2

/-! ### comprehensions -/
/-- the names that a block captures, by their slots -/
def Caps (X : Cx) (scope : Scope) : List (Str × Nat) → Prop
  | [] => True
  | c :: r => (X.N[c.2]? = some c.1 ∧ scope.names.lookup c.1 = some .free ∧ (X.env.kindOf c.1 = some .cell ∨ X.env.kindOf c.1 = some .free)) ∧ Caps X scope r
theorem caps_at {X : Cx} {scope : Scope} : ∀ {cs : List (Str × Nat)}, Caps X scope cs → ∀ c ∈ cs, X.N[c.2]? = some c.1 ∧ scope.names.lookup c.1 = some .free ∧ (X.env.kindOf c.1 = some .cell ∨ X.env.kindOf c.1 = some .free)
  | [], _, c, h => by cases h
  | c :: r, h, c', hm => by
    rcases List.mem_cons.mp hm with rfl | hm
    · exact h.1
    · exact caps_at h.2 c' hm
theorem blkL {X : Cx} {scope : Scope} {x : Str} (cs : List (Str × Nat)) (hc : Caps X scope cs) (kind : scope.kind = .function := by rfl) (h : namesOk scope (cs.map (·.1)) = true := by decide +kernel) (nd : (x :: cs.map (·.1)).Nodup := by decide +kernel) : Blk X scope (x :: cs.map (·.1)) 1 (cs.map (·.2)) := by
  refine Blk.mk' (fs := cs.map (·.1)) kind h nd (by simp; omega) (fun n hn => ?_) fun i j e => ?_
  · obtain ⟨c, hm, rfl⟩ := List.mem_map.mp hn
    exact (caps_at hc c hm).2.2
  · rw [List.getElem?_map] at e
    cases hi : cs[i]? with
    | none => rw [hi] at e; cases e
    | some c =>
      rw [hi] at e
      cases e
      obtain ⟨a, b, d⟩ := caps_at hc c (List.mem_of_getElem? hi)
      refine ⟨?_, c.1, a, b, d⟩
      rw [Nat.add_comm, List.getElem?_cons_succ, List.getElem?_map, hi]
      exact a.symm
theorem _root_.L2.PE.wishes {X : Cx} {E E' : Value → Shared → Prop} {e : Expr} {t : TE} (h : PE (X.wish E) e t) (i : ∀ e s, E e s → E' e s) : PE (X.wish E') e t := fun pins s σ H Q I hw =>
  wpAny_mono (h pins s σ H Q (I.unwish.wish _) hw) (fun _ _ ⟨v, H', I', r, q⟩ => ⟨v, H', I'.unwish.wish _, r, q⟩) fun e s z => i e s z
theorem _root_.L2.PF.wishes {X : Cx} {E E' : Value → Shared → Prop} {e : List Expr} {t : TT} (h : PF (X.wish E) e t) (i : ∀ e s, E e s → E' e s) : PF (X.wish E') e t := fun pins s σ H Q I hw =>
  wpAny_mono (h pins s σ H Q (I.unwish.wish _) hw) (fun _ _ ⟨H', I', q⟩ => ⟨H', I'.unwish.wish _, q⟩) fun e s z => i e s z
theorem _root_.L2.PF.imp {X : Cx} {e : List Expr} {t t' : TT} (h : PF X e t) (i : ∀ σ H Q, t' σ H Q → t σ H Q) : PF X e t' := fun pins s σ H Q I q => h pins s σ H Q I (i σ H Q q)
structure PDF (X : Cx) (B : Bs) (e : List Expr) (m : M Bool) : Prop where
  ap : ∀ ξ, PF (rz X ξ) e (TD relB B ξ m)
def mYes : M Bool := M.pure true
theorem f_nil {X : Cx} {B : Bs} : PDF X B [] mYes := .mk fun ξ => (pf_nil (X := rz X ξ)).imp fun σ H Q t => by
  obtain ⟨G, ρ, R, r, e, p⟩ := t
  cases e
  exact p true G H (Same.refl _) R rfl
theorem f_one {X : Cx} {B : Bs} {c : Expr} {m : M Bool} (h : PDT X B c m) : PDF X B [c] m := .mk fun ξ => pf_one (h.ap ξ)
/-- what a block sees: all is shared -/
def frzC : Option C → Option C
  | some (.ow _ d) => some (.sh d)
  | c => c
def seenE (own : Nat) (fr : List Nat) (ρ : Env') : Env' := List.replicate own none ++ fr.map fun j => frzC (ρ[j]?).join
def compTurn (tg : FT) (mt : M Bool) (me : M W) (ρ : Env') (d : D) : Option (Option D) := match tg d ρ with
  | none => none
  | some ρ1 => match mt ρ1 with
    | some (.ok false _) => some none
    | some (.ok true ρ2) => match M.bind me leak ρ2 with
      | some (.ok y _) => some (some y)
      | _ => none
    | _ => none
def compL (tg : FT) (mt : M Bool) (me : M W) (ρ : Env') : List D → Option (List D)
  | [] => some []
  | d :: ds => match compTurn tg mt me ρ d, compL tg mt me ρ ds with
    | some (some y), some ys => some (y :: ys)
    | some none, some ys => some ys
    | _, _ => none
/-- the captured names that own their objects -/
def capI (ρ : Env') (fr : List Nat) : List Nat := fr.filter fun j => match ρ[j]? with
  | some (some (.ow _ _)) => true
  | _ => false
def compW (tg : FT) (mt : M Bool) (me : M W) (own : Nat) (fr : List Nat) (ds : List D) : M W := fun ρ => match compL tg mt me (seenE own fr ρ) ds with
  | none => none
  | some ys => grd (small ds.length) (if ys.all flatD = true then some (.ok (.own (.lst ys)) ρ) else (shareL (capI ρ fr) ρ).map (R'.ok (.own (.lst ys)) ·))
def mComp (mi : M (List D)) (tg : FT) (mt : M Bool) (me : M W) (own : Nat) (fr : List Nat) : M W := M.bind mi fun ds => compW tg mt me own fr ds
theorem capI_own {ρ : Env'} {fr : List Nat} {i : Nat} (h : i ∈ capI ρ fr) : i ∈ fr ∧ ∃ l d, ρ[i]? = some (some (.ow l d)) := by
  unfold capI at h
  obtain ⟨h1, h2⟩ := List.mem_filter.mp h
  refine ⟨h1, ?_⟩
  split at h2
  · exact ⟨_, _, ‹_›⟩
  · cases h2
section
variable {B : Bs} {G H : Hp} {σ : St} {ρ : Env'} {own : Nat} {fr : List Nat}
theorem seenE_get {i : Nat} {c : C} (h : (seenE own fr ρ)[i]? = some (some c)) : ∃ k j, i = own + k ∧ fr[k]? = some j ∧ ∃ d, c = .sh d ∧ (ρ[j]? = some (some (.sh d)) ∨ ∃ l, ρ[j]? = some (some (.ow l d))) := by
  unfold seenE at h
  by_cases hi : i < own
  · rw [List.getElem?_append_left (by simpa using hi), List.getElem?_replicate, if_pos hi] at h
    cases h
  · rw [List.getElem?_append_right (by simpa using hi)] at h
    simp only [List.length_replicate, List.getElem?_map] at h
    cases e : fr[i - own]? with
    | none => rw [e] at h; cases h
    | some j =>
      rw [e] at h
      simp only [Option.map_some, Option.some.injEq] at h
      refine ⟨i - own, j, by omega, e, ?_⟩
      cases q : ρ[j]? with
      | none => rw [q] at h; cases h
      | some o =>
        rw [q] at h
        cases o with
        | none => cases h
        | some c0 =>
          cases c0 with
          | sh d => cases h; exact ⟨d, rfl, .inl rfl⟩
          | ow l d => cases h; exact ⟨d, rfl, .inr ⟨l, rfl⟩⟩
theorem seen_at {k j : Nat} {v : V} (h : fr[k]? = some j) (e : σ[j]? = some (some v)) : (seen own fr σ)[own + k]? = some (some v) := by
  unfold L2.seen
  rw [List.getElem?_append_right (by simp)]
  simp only [List.length_replicate, List.getElem?_map, Nat.add_sub_cancel_left, h, Option.map_some, e]
  rfl
/-- the block's own state -/
theorem rs_block {H1 H2 Gb : Hp} (R : RS B G H1 σ ρ) (sg : Same (plus G H1 (addrsOf σ (capI ρ fr))) Gb) (gb : Same Gb H2) (kp : Same H1 H2) (gnew : ∀ p o, Gb p = some o → plus G H1 (addrsOf σ (capI ρ fr)) p = some o ∨ H1 p = none) (dom : ∀ p, H2 p = none → H1 p = none) (s0 : Same G (plus G H1 (addrsOf σ (capI ρ fr)))) :
    RS ⟨B.K, H1, H1, plus G H1 (addrsOf σ (capI ρ fr)), fun _ => none⟩ Gb H2 (seen own fr σ) (seenE own fr ρ) := by
  refine ⟨Same.refl _, kp, sg, gb, gnew, dom, ?_, fun i d e => ?_, fun i l d e => ?_, fun i j l d k e p a b => ?_⟩
  · rw [L2.seen_length]
    unfold seenE
    simp
  · obtain ⟨k, j, rfl, hk, d', q, h⟩ := seenE_get e
    cases q
    rcases h with h | ⟨l, h⟩
    · obtain ⟨v, q1, q2⟩ := R.sh j d h
      exact ⟨v, seen_at hk q1, (q2.same s0).same sg⟩
    · obtain ⟨p, q1, q2, q3, q4, q5⟩ := R.ow j l d h
      have hp : p ∈ addrsOf σ (capI ρ fr) := mem_addrs.mpr ⟨j, List.mem_filter.mpr ⟨List.mem_of_getElem? hk, by rw [h]⟩, q1⟩
      refine ⟨_, seen_at hk q1, ?_⟩
      cases d with
      | lst ds =>
        obtain ⟨xs, e, r⟩ := q5
        have r' := (r.same s0).same sg
        exact .lst (SqL.of (sg p _ (by rw [plus_in hp]; exact e))) r'.len r'.get
      | dct es =>
        obtain ⟨xs, e, r⟩ := q5
        have r' := (r.same s0).same sg
        exact .dct (sg p _ (by rw [plus_in hp]; exact e)) r'.keys r'.get
      | _ => exact (show False from q5).elim
  · obtain ⟨k, j, rfl, hk, d', q, h⟩ := seenE_get e
    cases q
  · obtain ⟨k, j, rfl, hk, d', q, h⟩ := seenE_get a
    cases q
end
abbrev X0 : XP := fun _ _ _ => False
section
variable {X : Cx} {B : Bs} {mi : M (List D)} {mt : M Bool} {me : M W} {own : Nat} {fr : List Nat}
theorem td_comp {ξ : XP} {B' : Hp → Hp → Bs} (hB : ∀ Gp H1, B' Gp H1 = ⟨B.K, H1, H1, Gp, fun _ => none⟩) {wi : TI} {tf : Bs → TT} {te : Bs → TE} {σ : St} {H : Hp} {Q : VK} : True := trivial
/-- the reading of a comprehension whose block has one name -/
theorem td_comp1 {ξ : XP} {tf : TT} {te : TE} (hf : ∀ B', B'.K = B.K → ∀ σ H Q, TD relB B' X0 mt σ H Q → tf σ H Q) (he : ∀ B', B'.K = B.K → ∀ σ H Q, TD relW B' X0 me σ H Q → te σ H Q) {σ : St} {H : Hp} {Q : VK} (t : TD relW B ξ (mComp mi (tgN 0) mt me 1 fr) σ H Q) :
    tComp (TDI B ξ mi) (gName 0) tf te 1 fr σ H Q := by
  obtain ⟨G, ρ, R, r, e, pq⟩ := t
  unfold mComp at e
  cases hm : mi ρ with
  | none => rw [M.bind_none hm] at e; cases e
  | some r1 =>
    cases r1 with
    | ex x ρ1 =>
      rw [M.bind_ex hm] at e
      cases e
      exact ⟨G, ρ, _, R, hm, pq⟩
    | ok ds ρ1 =>
      rw [M.bind_ok hm] at e
      refine ⟨G, ρ, _, R, hm, fun J G1 H1 s1 R1 gv => ?_⟩
      unfold compW at e
      cases hc : compL (tgN 0) mt me (seenE 1 fr ρ1) ds with
      | none => rw [hc] at e; cases e
      | some ys =>
        rw [hc] at e
        simp only [] at e
        obtain ⟨hz, e⟩ := grd_some e
        have hbi : ∀ i ∈ capI ρ1 fr, ∃ l d, ρ1[i]? = some (some (.ow l d)) := fun i hi => (capI_own hi).2
        have s0 : Same G1 (plus G1 H1 (addrsOf σ (capI ρ1 fr))) := fun b o e => by
          rw [plus_out fun m => ?_]
          · exact e
          · obtain ⟨i, hi, e2⟩ := mem_addrs.mp m
            obtain ⟨l, d, h⟩ := hbi i hi
            obtain ⟨p', a1, a2, _⟩ := R1.ow i l d h
            rw [e2] at a1
            cases a1
            rw [e] at a2
            cases a2
        have gH0 : Same (plus G1 H1 (addrsOf σ (capI ρ1 fr))) H1 := fun b o e => by
          by_cases m : b ∈ addrsOf σ (capI ρ1 fr)
          · rw [plus_in m] at e; exact e
          · rw [plus_out m] at e; exact R1.gH b o e
        generalize hGp : plus G1 H1 (addrsOf σ (capI ρ1 fr)) = Gp at s0 gH0
        refine ⟨fun i m zs H2 => ∃ Gb acc rest, m = ds.length - i ∧ i ≤ ds.length ∧ Same Gp Gb ∧ Same Gb H2 ∧ Same H1 H2 ∧ (∀ p o, Gb p = some o → Gp p = some o ∨ H1 p = none) ∧ (∀ p, H2 p = none → H1 p = none) ∧ RepL B.K Gb zs acc ∧ acc.length ≤ i ∧ compL (tgN 0) mt me (seenE 1 fr ρ1) (ds.drop i) = some rest ∧ acc ++ rest = ys,
          ⟨ds.length, Gp, [], ys, by simp, Nat.zero_le _, Same.refl _, gH0, Same.refl _, fun p o e => .inl e, fun p e => e, .nil, Nat.le_refl _, by simpa using hc, rfl⟩, ?_⟩
        rintro i m zs H2 ⟨Gb, acc, rest, rfl, hle, a1, a2, a3, a4, a5, a6, a7, a8, a9⟩
        by_cases hlt : i < ds.length
        · have ed : ds.drop i = ds[i] :: ds.drop (i + 1) := List.drop_eq_getElem_cons hlt
          rw [ed] at a8
          unfold compL at a8
          cases ht : compTurn (tgN 0) mt me (seenE 1 fr ρ1) ds[i] with
          | none => rw [ht] at a8; cases a8
          | some oy =>
            cases hr : compL (tgN 0) mt me (seenE 1 fr ρ1) (ds.drop (i + 1)) with
            | none => rw [ht, hr] at a8; cases oy <;> cases a8
            | some rest' =>
              rw [ht, hr] at a8
              refine .inr ⟨gv.go Gb H2 i (s0.trans a1) a2 hlt, ?_, fun zs' H' => ∃ Gb acc rest, Same Gp Gb ∧ Same Gb H' ∧ Same H1 H' ∧ (∀ p o, Gb p = some o → Gp p = some o ∨ H1 p = none) ∧ (∀ p, H' p = none → H1 p = none) ∧ RepL B.K Gb zs' acc ∧ acc.length ≤ i + 1 ∧ compL (tgN 0) mt me (seenE 1 fr ρ1) (ds.drop (i + 1)) = some rest ∧ acc ++ rest = ys,
                fun zs' H' ⟨Gb', acc', rest', b1, b2, b3, b4, b5, b6, b7, b8, b9⟩ => ⟨ds.length - (i + 1), by omega, Gb', acc', rest', rfl, hlt, b1, b2, b3, b4, b5, b6, b7, b8, b9⟩, fun x H' y => ?_⟩
              · rw [a6.len, sizeLine_eq]; unfold small at hz; omega
              obtain ⟨rfl, d, hd, rx⟩ := gv.yld Gb H2 H' i x (s0.trans a1) a2 hlt y
              have ed2 : d = ds[i] := by
                rw [List.getElem?_eq_getElem hlt] at hd
                exact (Option.some.inj hd).symm
              subst ed2
              have Rb : RS ⟨B.K, H1, H1, Gp, fun _ => none⟩ Gb H' (seen 1 fr σ) (seenE 1 fr ρ1) := by
                subst hGp
                exact rs_block R1 a1 a2 a3 a4 a5 s0
              unfold compTurn at ht
              cases hg : tgN 0 ds[i] (seenE 1 fr ρ1) with
              | none => rw [hg] at ht; cases ht
              | some ρ2 =>
                rw [hg] at ht
                simp only [] at ht
                have hg' := hg
                unfold tgN at hg'
                split at hg'
                · rename_i hl0
                  cases hg'
                  have Rb2 := Rb.setSh hl0 rx
                  show tf ((seen 1 fr σ).set 0 (some x)) H' _
                  refine hf ⟨B.K, H1, H1, Gp, fun _ => none⟩ rfl _ _ _ ⟨Gb, _, Rb2, ?_⟩
                  cases hmt : mt ((seenE 1 fr ρ1).set 0 (some (.sh ds[i]))) with
                  | none => rw [hmt] at ht; cases ht
                  | some r3 =>
                    rw [hmt] at ht
                    cases r3 with
                    | ex x' ρ3 => cases ht
                    | ok k ρ3 =>
                      refine ⟨_, hmt, fun k' G3 H3 s3 R3 qk => ?_⟩
                      cases (show k' = k from qk)
                      cases k with
                      | false =>
                        cases ht
                        cases a8
                        rw [if_neg Bool.false_ne_true]
                        exact ⟨G3, acc, rest, a1.trans s3, R3.gH, R3.keep, R3.gnew, R3.dom, a6.same s3, by omega, hr, a9⟩
                      | true =>
                        rw [if_pos rfl]
                        simp only [] at ht
                        cases hme : M.bind me leak ρ3 with
                        | none => rw [hme] at ht; cases ht
                        | some r4 =>
                          rw [hme] at ht
                          cases r4 with
                          | ex x' ρ4 => cases ht
                          | ok y' ρ4 =>
                            cases ht
                            cases a8
                            cases hm2 : me ρ3 with
                            | none => rw [M.bind_none hm2] at hme; cases hme
                            | some r5 =>
                              cases r5 with
                              | ex x' ρ5 => rw [M.bind_ex hm2] at hme; cases hme
                              | ok w ρ5 =>
                                rw [M.bind_ok hm2] at hme
                                refine he ⟨B.K, H1, H1, Gp, fun _ => none⟩ rfl _ _ _ ⟨G3, ρ3, R3, _, hm2, fun v G5 H5 s5 R5 q5 => ?_⟩
                                obtain ⟨G6, s6, R6, r6⟩ := q5.leak R5 hme
                                have sa := (s3.trans s5).trans s6
                                exact ⟨G6, acc ++ [y'], rest', a1.trans sa, R6.gH, R6.keep, R6.gnew, R6.dom, (a6.same sa).append (.one r6), by rw [List.length_append]; show acc.length + 1 ≤ i + 1; omega, hr, by rw [List.append_assoc]; exact a9⟩
                · cases hg'
        · have ei : i = ds.length := by omega
          subst ei
          rw [List.drop_length] at a8
          cases a8
          rw [List.append_nil] at a9
          subst a9
          refine .inl ⟨gv.stop Gb H2 (s0.trans a1) a2, fun p hp => ?_⟩
          have gp : Gb p = none := a2.free hp
          have sH : Same H2 (upd H2 p (.lst zs)) := same_new hp _
          have A : After B.K (plus G1 H1 (addrsOf σ (capI ρ1 fr))) H1 (addrsOf σ []) Gb (upd H2 p (.lst zs)) [] := by
            rw [hGp]
            refine ⟨fun b o e => sH b o (a3 b o (minus_same _ _ b o e)), a1, a2.trans sH, a4, fun b e => ?_, .nil⟩
            by_cases z : b = p
            · subst z; exact a5 _ hp
            · rw [upd_ne z] at e; exact a5 b e
          have rr : RepRet B.K H1 Gb (upd H2 p (.lst zs)) (.ref p) (.own (.lst acc)) := ⟨p, rfl, gp, a5 p hp, zs, upd_same, a6⟩
          split at e
          · rename_i hfl
            cases e
            obtain ⟨Gn, sn, Rn, wn⟩ := call_after (li := []) R1 hbi (fun i h => by cases h) List.nodup_nil (fun i h => by cases h) A rfl rr (.inl ⟨by rw [List.all_nil, Bool.and_true]; exact hfl, rfl⟩)
            exact pq _ Gn _ (s1.trans sn) Rn wn
          · obtain ⟨ρ3, hsh, rfl⟩ := Option.map_eq_some_iff.mp e
            obtain ⟨Gn, sn, Rn, wn⟩ := call_after (li := []) R1 hbi (fun i h => by cases h) List.nodup_nil (fun i h => by cases h) A rfl rr (.inr hsh)
            exact pq _ Gn _ (s1.trans sn) Rn wn
variable {x : Str} {px pos : Pos} {M' : List Str} {scope : Scope} {iter elt : Expr} {ifs : List Expr}
theorem xe0 {Y : Cx} : ∀ e s, XE Y X0 e s → False := fun e s ⟨_, _, _, _, _, _, h⟩ => h
/-- [elt for x in iter if ..] -/
theorem d_comp (Bk : Blk X scope (x :: M') 1 fr) (hi : PDI X B (.Name x px) iter mi) (hf : ∀ cl C s H ex H0 HK G0 L, PDF (X.blk scope cl C (x :: M') s H ex) ⟨B.K, H0, HK, G0, L⟩ ifs mt) (he : ∀ cl C s H ex H0 HK G0 L, PD (X.blk scope cl C (x :: M') s H ex) ⟨B.K, H0, HK, G0, L⟩ elt me)
    (hc : X.calm = true := by rfl) (hx : scope.names.lookup x = some .local := by rfl) (hs : ∀ x, foldedSetIterable iter X.env x = pure x := by intro _; rfl) : PD X B (.ListComp elt [⟨.Name x px, iter, ifs, 0⟩] scope pos) (mComp mi (tgN 0) mt me 1 fr) := .mk fun ξ => by
  have Bk' : Blk (rz X ξ) scope (x :: M') 1 fr := ⟨Bk.kind, Bk.nocell, Bk.names, Bk.free, Bk.nd, Bk.len, Bk.at'⟩
  refine (pe_c1 (X := rz X ξ) (tf := fun σ H Q => ∃ B', B'.K = B.K ∧ TD relB B' X0 mt σ H Q) (te := fun σ H Q => ∃ B', B'.K = B.K ∧ TD relW B' X0 me σ H Q) Bk' (hi.ap ξ) (fun cl C s H ex => ?_) (fun cl C s H ex => ?_) hc hx hs).imp fun σ H Q t => td_comp1 (fun B' hB σ H Q t => ⟨B', hB, t⟩) (fun B' hB σ H Q t => ⟨B', hB, t⟩) t
  · intro pins s' σ' H' Q I ⟨B', hB, t⟩
    obtain ⟨K', h0, hk, g0, l⟩ := B'
    cases (show K' = B.K from hB)
    exact PF.wishes (X := X.blk scope cl C (x :: M') s H ex) ((hf cl C s H ex h0 hk g0 l).ap X0) xe0 pins s' σ' H' Q I t
  · intro pins s' σ' H' Q I ⟨B', hB, t⟩
    obtain ⟨K', h0, hk, g0, l⟩ := B'
    cases (show K' = B.K from hB)
    exact PE.wishes (X := X.blk scope cl C (x :: M') s H ex) ((he cl C s H ex h0 hk g0 l).ap X0) xe0 pins s' σ' H' Q I t
/-- y = [elt for x in iter if ..], on one line -/
theorem s_setc {i : Nat} {y : Str} {py spos : Pos} (Bk : Blk X scope (x :: M') 1 fr) (hN : X.N.Nodup) (hi : PDI X B (.Name x px) iter mi) (hf : ∀ cl C s H ex H0 HK G0 L, PDF (X.blk scope cl C (x :: M') s H ex) ⟨B.K, H0, HK, G0, L⟩ ifs mt) (he : ∀ cl C s H ex H0 HK G0 L, PD (X.blk scope cl C (x :: M') s H ex) ⟨B.K, H0, HK, G0, L⟩ elt me)
    (hy : X.N[i]? = some y := by rfl) (hly : X.env.kindOf y = some .local := by rfl) (hc : X.calm = true := by rfl) (hx : scope.names.lookup x = some .local := by rfl)
    (hsw : swapsWith (.ListComp elt [⟨.Name x px, iter, ifs, 0⟩] scope pos) (some (.Name y py)) spos.line X.env = pure true := by with_unfolding_all rfl)
    (hs : ∀ x, foldedSetIterable iter X.env x = pure x := by intro _; rfl) : PSD X B (.Assign [.Name y py] (.ListComp elt [⟨.Name x px, iter, ifs, 0⟩] scope pos) spos) (setS i (mComp mi (tgN 0) mt me 1 fr)) := .mk fun ξ => by
  have Bk' : Blk (rz X ξ) scope (x :: M') 1 fr := ⟨Bk.kind, Bk.nocell, Bk.names, Bk.free, Bk.nd, Bk.len, Bk.at'⟩
  refine (ps_c1 (X := rz X ξ) (tf := fun σ H Q => ∃ B', B'.K = B.K ∧ TD relB B' X0 mt σ H Q) (te := fun σ H Q => ∃ B', B'.K = B.K ∧ TD relW B' X0 me σ H Q) Bk' hN (hi.ap ξ) (fun cl C s H ex => ?_) (fun cl C s H ex => ?_) hy hly hc hx hsw hs).imp fun Dn σ H t => ?_
  · intro pins s' σ' H' Q I ⟨B', hB, t⟩
    obtain ⟨K', h0, hk, g0, l⟩ := B'
    cases (show K' = B.K from hB)
    exact PF.wishes (X := X.blk scope cl C (x :: M') s H ex) ((hf cl C s H ex h0 hk g0 l).ap X0) xe0 pins s' σ' H' Q I t
  · intro pins s' σ' H' Q I ⟨B', hB, t⟩
    obtain ⟨K', h0, hk, g0, l⟩ := B'
    cases (show K' = B.K from hB)
    exact PE.wishes (X := X.blk scope cl C (x :: M') s H ex) ((he cl C s H ex h0 hk g0 l).ap X0) xe0 pins s' σ' H' Q I t
  · obtain ⟨G, ρ, R, t⟩ := t
    refine td_comp1 (fun B' hB σ H Q t => ⟨B', hB, t⟩) (fun B' hB σ H Q t => ⟨B', hB, t⟩) ((SD.step (rel := relW) R t).mono fun v H1 ⟨G1, ρ1, w, s1, R1, q1, r, e, p⟩ => ?_)
    obtain ⟨ρ', G', rfl, s', R'⟩ := store_run R1 q1 e
    exact p _ G' H1 s' R'
end
end L3

set_option Elab.async false
set_option linter.all false
set_option maxRecDepth 100000
set_option maxHeartbeats 4000000
namespace L3
open PySem PySem.Spec PyProof.Rows L2

/-! ### dicts: get, put, pop -/
def get1D : D → D → Option W
  | .dct es, k => (keyOf k).map fun k => W.val ((valD es k).getD .non)
  | _, _ => none
def mGet1 (mo me : M W) : M W := M.bind (stab mo) fun x => M.bind (chk "dict" x) fun _ => M.bind me fun y => op2 get1D x y
def get2D : D → D → D → Option W
  | .dct es, k, z => (keyOf k).map fun k => W.val ((valD es k).getD z)
  | _, _, _ => none
def mGet2 (mo me mf : M W) : M W := M.bind (stab mo) fun x => M.bind (chk "dict" x) fun _ => M.bind (stab me) fun y => M.bind mf fun z => M.bind (leak z) fun dz => op2 (fun a b => get2D a b dz) x y
section
variable {X : Cx} {B : Bs} {o e f value : Expr} {mo me mf mv : M W} {mr : M (List W)} {apos cpos pos pos' : Pos}
theorem getD_val {K : PySem.W.Frag} {G : Hp} {kvs : List (Key × V)} {es : List (Key × D)} {k : Key} {z : V} {dz : D} (r : RepKV K G kvs es) (hz : Rep K G z dz) : Rep K G ((valV kvs k).getD z) ((valD es k).getD dz) := by
  obtain ⟨a, b⟩ := r.val k
  cases hd : valD es k with
  | none => rw [b hd]; exact hz
  | some d =>
    obtain ⟨v, e, rv⟩ := a d hd
    rw [e]
    exact rv
theorem d_get1 (hu : X.A.units + 8 < cLine) (ho : PD X B o mo) (he : PD X B e me) (m : M1 X o "get" apos e cpos := by exact ⟨rfl, rfl, rfl, rfl⟩) : PD X B (.Call (.Attribute o "get" apos) [e] [] cpos) (mGet1 mo me) := .mk fun ξ =>
  (pe_dget1 (X := rz X ξ) (show X.A.units + 1 < cLine by omega) (ho.ap ξ) (he.ap ξ) ⟨m.base, m.few, m.line, m.trees⟩).imp fun σ H Q t => by
    obtain ⟨G, ρ, R, t⟩ := t
    have t1 : TD relS B ξ (stab mo) σ H _ := TD.bind (rel := relS) R t
    refine TD.stab (t1.mono fun x H1 ⟨G1, ρ1, wa, s1, R1, ⟨q1, st1⟩, t2⟩ => ?_)
    obtain ⟨u, ρ2, e2, t3⟩ := t2.step fun r h => ⟨(), _, (chk_ok h).1⟩
    obtain ⟨e3, d, hd, ty⟩ := chk_ok e2
    cases e3
    cases d <;> first | (cases ty; done) | (exact absurd ty (by decide)) | skip
    obtain ⟨a, kvs, rfl, h1, r1⟩ := (q1.get R1 hd).dct R1.gH
    refine ⟨a, rfl, .inl ⟨kvs, .inl h1⟩, ?_⟩
    refine (TD.bind (rel := relW) R1 t3).mono fun y H2 ⟨G2, ρ2, wb, s2, R2, q2, t4⟩ => ?_
    obtain ⟨dx, dy, w, e4, e5, e6, p⟩ := op2_run t4
    have hx := (q1.keep s2 st1 : RepW B G2 H2 σ ρ2 _ wa).get R2 e4
    cases dx <;> first | (cases e6; done) | skip
    obtain ⟨k, hk, rfl⟩ := Option.map_eq_some_iff.mp e6
    obtain ⟨a', kvs', ea, h1', r1'⟩ := hx.dct R2.gH
    cases ea
    have hv := keyOf_V (q2.get R2 e5) hk
    subst hv
    exact ⟨_, DGet.k h1', p _ G2 H2 (Same.refl _) R2 (getD_val r1' .non)⟩
theorem d_get2 (hu : X.A.units + 8 < cLine) (ho : PD X B o mo) (he : PD X B e me) (hf : PD X B f mf) (m : M2 X o "get" apos e f cpos := by exact ⟨rfl, rfl, rfl, rfl⟩) : PD X B (.Call (.Attribute o "get" apos) [e, f] [] cpos) (mGet2 mo me mf) := .mk fun ξ =>
  (pe_dget2 (X := rz X ξ) (show X.A.units + 1 < cLine by omega) (ho.ap ξ) (he.ap ξ) (hf.ap ξ) ⟨m.base, m.few, m.line, m.trees⟩).imp fun σ H Q t => by
    obtain ⟨G, ρ, R, t⟩ := t
    have t1 : TD relS B ξ (stab mo) σ H _ := TD.bind (rel := relS) R t
    refine TD.stab (t1.mono fun x H1 ⟨G1, ρ1, wa, s1, R1, ⟨q1, st1⟩, t2⟩ => ?_)
    obtain ⟨u, ρ2, e2, t3⟩ := t2.step fun r h => ⟨(), _, (chk_ok h).1⟩
    obtain ⟨e3, d, hd, ty⟩ := chk_ok e2
    cases e3
    cases d <;> first | (cases ty; done) | (exact absurd ty (by decide)) | skip
    obtain ⟨a, kvs, rfl, h1, r1⟩ := (q1.get R1 hd).dct R1.gH
    refine ⟨a, rfl, .inl ⟨kvs, .inl h1⟩, ?_⟩
    have t3' : TD relS B ξ (stab me) σ H1 _ := TD.bind (rel := relS) R1 t3
    refine TD.stab (t3'.mono fun y H2 ⟨G2, ρ2, wb, s2, R2, ⟨q2, st2⟩, t4⟩ => ?_)
    refine (TD.bind (rel := relW) R2 t4).mono fun z H3 ⟨G3, ρ3, wc, s3, R3, q3, t5⟩ => ?_
    obtain ⟨dz, ρ4, e7, t6⟩ := t5.step fun r h => leak_ok h
    obtain ⟨G4, s4, R4, rz'⟩ := q3.leak R3 e7
    obtain ⟨dx, dy, w, e4, e5, e6, p⟩ := op2_run t6
    have hx := (q1.keep ((s2.trans s3).trans s4) st1 : RepW B G4 H3 σ ρ4 _ wa).get R4 e4
    cases dx <;> first | (cases e6; done) | skip
    obtain ⟨k, hk, rfl⟩ := Option.map_eq_some_iff.mp e6
    obtain ⟨a', kvs', ea, h1', r1'⟩ := hx.dct R4.gH
    cases ea
    have hv := keyOf_V ((q2.keep (s3.trans s4) st2 : RepW B G4 H3 σ ρ4 _ wb).get R4 e5) hk
    subst hv
    exact ⟨_, DGet.k h1', p _ G4 H3 s4 R4 (getD_val r1' rz')⟩
end
/-- xs[i] = v, d[k] = v at a slot's own object -/
def putTo (i : Nat) (k d : D) : SM := fun ρ => match ρ[i]? with
  | some (some (.ow l (.dct es))) => match keyOf k with
    | some k => grd (small es.length) (some (.nx (ρ.set i (some (.ow l (.dct (putD es k d)))))))
    | none => none
  | some (some (.ow l (.lst ds))) => match k with
    | .int j => match ixN ds.length j with
      | some n => some (.nx (ρ.set i (some (.ow l (.lst (ds.set n d))))))
      | none => none
    | _ => none
  | _ => none
def putS (i : Nat) (mv mk : M W) : SM := thenS (stab mv) fun wv => thenS (mVar i) fun _ => thenS mk fun wk => thenS (leak wv) fun d ρ => match getD wk ρ with
  | some k => putTo i k d ρ
  | none => none
theorem set_dict {X : Cx} (hu : X.A.units + 8 < cLine) : PSet X (fun o i v H Q => ∃ a H', o = .ref a ∧ DPut H a i v H' ∧ Q H') := by
  intro pins s σ H o i v ov iv u Q I ro ri rv h
  obtain ⟨a, H', rfl, g, q⟩ := h
  cases ro
  exact d_setItem (by omega) I g ri rv fun s' I' => ⟨H', I', q⟩
theorem _root_.L2.PSet.or {X : Cx} {t t' : TSet} (h : PSet X t) (h' : PSet X t') : PSet X (fun o i v H Q => t o i v H Q ∨ t' o i v H Q) := by
  intro pins s σ H o i v ov iv u Q I ro ri rv q
  rcases q with q | q
  · exact h pins s σ H o i v ov iv u Q I ro ri rv q
  · exact h' pins s σ H o i v ov iv u Q I ro ri rv q
section
variable {X : Cx} {B : Bs} {ξ : XP} {G H : Hp} {σ : St} {ρ : Env'} {Dn : Ends} {o e value : Expr} {mo me mv : M W} {pos pos' : Pos}
theorem SD.stepS {m : M W} {f : W → SM} (R : RS B G H σ ρ) (t : SDat B ξ G ρ (thenS (stab m) f) Dn) : TD relW B ξ m σ H (fun v H1 => ∃ G1 ρ1 a, Same G G1 ∧ RS B G1 H1 σ ρ1 ∧ (RepW B G1 H1 σ ρ1 v a ∧ stb a = true) ∧ SDat B ξ G1 ρ1 (f a) Dn) :=
  TD.stab (SD.step (rel := relS) R t)
theorem SD.quiet {α : Type} {m : M α} {f : α → SM} (t : SDat B ξ G ρ (thenS m f) Dn) (hm : ∀ r, m ρ = some r → ∃ a ρ', r = .ok a ρ') : ∃ a ρ', m ρ = some (.ok a ρ') ∧ SDat B ξ G ρ' (f a) Dn := by
  obtain ⟨r, e, p⟩ := t
  unfold thenS at e
  cases hr : m ρ with
  | none => rw [hr] at e; cases e
  | some r1 =>
    obtain ⟨a, ρ', rfl⟩ := hm r1 hr
    rw [hr] at e
    exact ⟨a, ρ', rfl, r, e, p⟩
theorem s_put (i : Nat) (hu : X.A.units + 8 < cLine) (hv : PD X B value mv) (ho : PD X B o (mVar i)) (hi : PD X B e me) (hs : swapsWithSole [.Subscript o e pos'] value pos.line X.env = pure false := by rfl) (hw : swappedStores [.Subscript o e pos'] value X.env = pure none := by rfl)
    (h1 : (assignEach [.Subscript o e pos'] X.env).map (·.2) = [assign (.Subscript o e pos') X.env] := by rfl)
    (ha : ∀ v, assign (.Subscript o e pos') X.env v = (do
      let ov ← holding [v] (eval o X.env)
      let iv ← holding [v, ov] (eval e X.env)
      standAt pos'
      holding [v, ov, iv] (setItem ov iv v)
      release [v, ov, iv] []) := by intro _; rfl) : PSD X B (.Assign [.Subscript o e pos'] value pos) (putS i mv me) := .mk fun ξ =>
  (ps_asg (X := rz X ξ) (hv.ap ξ) (pg_sub (X := rz X ξ) (ho.ap ξ) (hi.ap ξ) (set_list.or (set_dict hu)) ha) hs hw h1).imp fun Dn σ H t => by
    obtain ⟨G, ρ, R, t⟩ := t
    refine (SD.stepS R t).mono fun v H1 ⟨G1, ρ1, wv, s1, R1, ⟨q1, st1⟩, t2⟩ => ?_
    refine (SD.stepE (rel := relW) R1 t2).mono fun x H2 ⟨G2, ρ2, wo, er, s2, R2, q2, t3⟩ => ?_
    obtain ⟨rfl, rfl⟩ := mVar_run er
    have hx : σ[i]? = some (some x) := q2
    refine (SD.step (rel := relW) R2 t3).mono fun y H3 ⟨G3, ρ3, wk, s3, R3, q3, t4⟩ => ?_
    obtain ⟨d, ρ4, e4, r, er, p⟩ := SD.quiet t4 fun r h => leak_ok h
    have q1' : RepW B G3 H3 σ ρ3 v wv := q1.keep (s2.trans s3) st1
    obtain ⟨G4, s4, R4, rv⟩ := q1'.leak R3 e4
    cases hk : getD wk ρ4 with
    | none => simp only [hk] at er; cases er
    | some dk =>
      simp only [hk] at er
      have hy : RepT B.K G4 H3 y dk := by
        cases wk with
        | val _ => exact RepW.get R4 (q3.keep s4 rfl : RepW B G4 H3 σ ρ4 y _) hk
        | slot _ => exact RepW.get R4 (q3.keep s4 rfl : RepW B G4 H3 σ ρ4 y _) hk
        | own d' =>
          cases hk
          unfold putTo at er
          exfalso
          obtain ⟨pp, rfl, _, _, oo, _⟩ := q3
          cases dk <;> first | exact (show False from oo).elim | skip
          · split at er
            · simp [keyOf] at er
            · cases er
            · cases er
          · split at er
            · simp [keyOf] at er
            · cases er
            · cases er
      unfold putTo at er
      split at er
      · rename_i l es hi
        split at er
        · rename_i k hkk
          obtain ⟨hz, er⟩ := grd_some er
          cases er
          obtain ⟨pp, rfl, g, kvs, hx', rl⟩ := slot_of R4 hi hx
          have hv' := keyOf_V hy hkk
          subst hv'
          refine .inr ⟨pp, _, rfl, DPut.k hx' ?_, ?_⟩
          · rw [rl.len, sizeLine_eq]; unfold small at hz; omega
          · exact p σ G4 _ s4 (R4.write hi hx ⟨_, upd_same, rl.put k rv⟩)
        · cases er
      · rename_i l ds hi
        split at er
        · rename_i j
          split at er
          · rename_i n hn
            cases er
            obtain ⟨pp, rfl, g, xs, hx', rl⟩ := slot_of R4 hi hx
            refine .inl ⟨pp, xs, j, n, rfl, hy.int, hx', by rw [rl.len]; exact hn, ?_⟩
            exact p σ G4 _ s4 (R4.write hi hx ⟨_, upd_same, rl.set rv n⟩)
          · cases er
        · cases er
      · cases er
end

/-! ### isinstance -/
def tyN : D → String
  | .non => "NoneType"
  | .bl _ => "bool"
  | .int _ => "int"
  | .str _ => "str"
  | .tup _ => "tuple"
  | .lst _ => "list"
  | .dct _ => "dict"
  | .ty _ => "type"
def subN (a b : String) : Bool := a == b || (a == "bool" && b == "int")
def isTy : D → Bool
  | .ty _ => true
  | _ => false
def isiD : List D → Option W
  | [d, .ty T] => grd (isTy d = false ∧ T ∈ ["int", "bool", "str", "list", "tuple", "dict"]) (vB (subN (tyN d) T))
  | _ => none
theorem kit_tab (K : PySem.W.Frag) : ∀ a ∈ ["NoneType", "bool", "int", "str", "tuple", "list", "dict"], ∀ b ∈ ["int", "bool", "str", "list", "tuple", "dict"], PySem.W.kitOne K (.type a) (.type b) = some (subN a b) := by
  intro a ha b hb
  simp only [List.mem_cons, List.not_mem_nil, or_false] at ha hb
  rcases ha with rfl | rfl | rfl | rfl | rfl | rfl | rfl <;> rcases hb with rfl | rfl | rfl | rfl | rfl | rfl <;> kernel_rfl
theorem call_isiX {X : Cx} {K : PySem.W.Frag} (hK : X.K = K) : CallR X (.builtin "isinstance") (fun xs H Q => ∃ x T d, xs = [x, .ty T] ∧ Rep K H x d ∧ (∀ n, d ≠ .ty n) ∧ T ∈ ["int", "bool", "str", "list", "tuple", "dict"] ∧ Q (.bl (subN (tyN d) T)) H) := by
  subst hK
  intro pins s σ H xs us Q I r h
  obtain ⟨x, T, d, rfl, hx, hn, hT, q⟩ := h
  obtain ⟨u, w', rfl, ru, rw'⟩ := vals2 r
  cases rw'
  have fin : ∀ tk, EP X pins σ Q (.bool (subN (tyN d) T)) { s with toks := tk } := fun tk => ⟨.bl _, H, I.tok tk, rfl, q⟩
  have tab := fun a ha => kit_tab X.K a ha T hT
  cases hx with
  | non => cases ru; exact PySem.W.kia_one PySem.W.kitx_none I.kIn True.intro (tab _ (by simp)) (fun z => nomatch z) fin
  | bl b => cases ru; exact PySem.W.kia_one PySem.W.kitx_bool I.kIn True.intro (tab _ (by simp)) (fun z => nomatch z) fin
  | int i => obtain ⟨t, rfl⟩ := ru; exact PySem.W.kia_one PySem.W.kitx_int I.kIn True.intro (tab _ (by simp)) (fun z => nomatch z) fin
  | str cs => obtain ⟨t, rfl⟩ := ru; exact PySem.W.kia_one PySem.W.kitx_str I.kIn True.intro (tab _ (by simp)) (fun z => nomatch z) fin
  | ty n => exact absurd rfl (hn n)
  | tup h _ _ =>
    cases ru
    obtain ⟨_, _, p, _⟩ := I.tuple h
    obtain ⟨o, h1, h2, _⟩ := p
    exact PySem.W.kia_one PySem.W.kitx_tuple I.kIn ⟨o, h1, h2⟩ (tab _ (by simp)) (fun z => nomatch z) fin
  | lst h _ _ =>
    cases ru
    obtain ⟨_, _, p, _⟩ := I.list h
    obtain ⟨o, n, h1, h2, _⟩ := p
    exact PySem.W.kia_one PySem.W.kitx_list I.kIn ⟨o, h1, h2⟩ (tab _ (by simp)) (fun z => nomatch z) fin
  | dct h _ _ =>
    cases ru
    obtain ⟨_, _, vs, _, dd⟩ := dk_rd I.hok (.inl h)
    obtain ⟨o, es, ep, h1, h2, _⟩ := dd
    exact PySem.W.kia_one PySem.W.kitx_dict I.kIn ⟨o, h1, h2.1⟩ (tab _ (by simp)) (fun z => nomatch z) fin
section
variable {X : Cx} {B : Bs} {e a b c : Expr} {es : List Expr} {mr : M (List W)} {pos p : Pos}
theorem impN_isi : ImpN B (fun xs H Q => ∃ x T d, xs = [x, .ty T] ∧ Rep B.K H x d ∧ (∀ n, d ≠ .ty n) ∧ T ∈ ["int", "bool", "str", "list", "tuple", "dict"] ∧ Q (.bl (subN (tyN d) T)) H) isiD := by
  intro G H σ ρ xs ds w Q R h e p
  match ds, e with
  | [d, .ty T], e =>
    obtain ⟨⟨hn, hT⟩, e⟩ := grd_some e
    cases e
    obtain ⟨x, y, rfl, hx, hy⟩ := two_of h
    exact ⟨x, T, d, by rw [hy.ty], hx.rep R.gH, (fun n z => by rw [z] at hn; cases hn), hT, p _ G H (Same.refl _) R (.bl _)⟩
theorem d_isi (hm : X.mg "isinstance" = none) (ha : PDA X B [e, a] mr) (hg : Gl X "isinstance" := by rfl) (hK : X.K = B.K := by rfl) (he : starEach [e, a] X.env = (false, eval e X.env) :: starEach [a] X.env := by rfl) (hpl : (backTo pos (starEach [a] X.env)).any (·.1) = false := by rfl) : PD X B (.Call (.Name "isinstance" p) [e, a] [] pos) (mCB isiD mr) :=
  d_callB (fun ξ => call_isiX (X := rz X ξ) (K := B.K) hK) impN_isi hg hm PyProof.Rows.boot_isinstance ha (by decide) (by decide) he hpl
end

/-! ### len(set(xs)) of whole numbers: how many there are -/
def intsOf : List D → Option (List Int)
  | [] => some []
  | .int i :: ds => (intsOf ds).map (i :: ·)
  | _ => none
theorem intsOf_eq : ∀ {ds : List D} {ns : List Int}, intsOf ds = some ns → ds = ns.map D.int
  | [], _, h => by cases h; rfl
  | .int b :: ds, bs, h => by
    unfold intsOf at h
    obtain ⟨bs', e, rfl⟩ := Option.map_eq_some_iff.mp h
    rw [intsOf_eq e]
    rfl
  | .non :: _, _, h => by cases h
  | .bl _ :: _, _, h => by cases h
  | .str _ :: _, _, h => by cases h
  | .ty _ :: _, _, h => by cases h
  | .tup _ :: _, _, h => by cases h
  | .lst _ :: _, _, h => by cases h
  | .dct _ :: _, _, h => by cases h
theorem ints_V {K : PySem.W.Frag} {G : Hp} : ∀ {ns : List Int} {xs : List V}, RepL K G xs (ns.map D.int) → xs = ns.map V.int
  | [], [], _ => rfl
  | [], _ :: _, r => by have := r.len; simp at this
  | _ :: _, [], r => by have := r.len; simp at this
  | b :: bs, x :: xs, r => by
    have h := r.head
    cases h
    rw [ints_V r.tail]
    rfl
end L3
namespace L3
open PySem PySem.Spec PyProof.Rows L2
/-! ### equality, dicts too -/
def eqKV (f : D → D → Option Bool) (fs : List (Key × D)) : List (Key × D) → Option Bool
  | [] => some true
  | e :: es => match valD fs e.1 with
    | none => some false
    | some y => match f e.2 y, eqKV f fs es with
      | some a, some b => some (a && b)
      | _, _ => none
def eqT : D → D → Option Bool
  | .dct es, .dct fs => if es.length = fs.length then eqKV (eqD 6) fs es else some false
  | d, e => eqD 8 d e
def eqTD (d e : D) : Option W := (eqT d e).bind vB
def neTD (d e : D) : Option W := (eqT d e).bind fun b => vB (!b)
section
variable {X : Cx} {pins : List (Addr × Obj)} {σ : St} {H : Hp} {s : Shared}
theorem hits_of (I : Inv X pins σ H s) {A : Around} {fs : List (Key × D)} {kvs2 : List (Key × V)} {vs2 : List (Key × Value)} (hu : A.units + 6 < cLine) (r2 : RepKV X.K H kvs2 fs) (k2 : KV kvs2 vs2) : ∀ {es : List (Key × D)} {kvs : List (Key × V)} {vs : List (Key × Value)} {b : Bool}, eqKV (eqD 6) fs es = some b → RepKV X.K H kvs es → KV kvs vs → PySem.W.KeqHits A s vs2 vs b := by
  intro es kvs vs b h r k
  revert vs b
  refine RepKV.ind (P := fun kvs es => ∀ {vs : List (Key × Value)} {b : Bool}, eqKV (eqD 6) fs es = some b → KV kvs vs → PySem.W.KeqHits A s vs2 vs b) ?_ ?_ r
  · intro vs b h k
    cases k
    cases h
    exact .nil
  · intro p e kvs es hk hr _ ih vs b h k
    unfold KV at k
    cases k with
    | @cons _ q _ qs hpq t =>
      unfold eqKV at h
      have e2 := k2.val p.1
      obtain ⟨c1, c2⟩ := r2.val p.1
      have hq : q = (p.1, q.2) := by rw [hpq.1]
      rw [hq]
      cases hv : valD fs e.1 with
      | none =>
        rw [hv] at h
        cases h
        rw [← hk] at hv
        rw [c2 hv] at e2
        exact .miss (RelO.none_of e2)
      | some y =>
        rw [hv] at h
        simp only [] at h
        cases h1 : eqD 6 e.2 y with
        | none => rw [h1] at h; cases h
        | some a =>
          cases h2 : eqKV (eqD 6) fs es with
          | none => rw [h1, h2] at h; cases h
          | some b2 =>
            rw [h1, h2] at h
            cases h
            rw [← hk] at hv
            obtain ⟨v, ev, rv⟩ := c1 y hv
            rw [ev] at e2
            obtain ⟨u, eu, ru⟩ := RelO.some_of e2
            exact .hit eu (eqd_all I 6 h1 hr rv hpq.2 ru hu).1 (ih h2 t)
end
theorem op_eqD' {X : Cx} {K : PySem.W.Frag} (hK : X.K = K) (hu : X.A.units + 8 < cLine) : OpR X (compareOp .Eq) (fun x y H Q => ∃ a c kvs1 kvs2 es fs b, x = .ref a ∧ y = .ref c ∧ H a = some (.dK kvs1) ∧ H c = some (.dK kvs2) ∧ RepKV K H kvs1 es ∧ RepKV K H kvs2 fs ∧ eqT (.dct es) (.dct fs) = some b ∧ Q (.bl b) H) := by
  subst hK
  intro pins s σ H x y v u Q I rx ry h
  obtain ⟨a, c, kvs1, kvs2, es, fs, b, rfl, rfl, ha, hb, r1, r2, e, q⟩ := h
  cases rx
  cases ry
  obtain ⟨z, hS, vs, rel, dd⟩ := dk_rd I.hok (.inl ha)
  obtain ⟨z2, hS2, vs2, rel2, dd2⟩ := dk_rd I.hok (.inl hb)
  have l1 := rel.length
  have l2 := rel2.length
  have l3 := r1.len
  have l4 := r2.len
  have e : (if es.length = fs.length then eqKV (eqD 6) fs es else some false) = some b := e
  split at e
  · rename_i hl
    refine PySem.W.keq_eq (r := b) hS hS2 dd dd2 (by omega) (fun _ => hits_of I (by show X.A.units + 1 + 6 < _; omega) r2 rel2 e r1 rel) ?_
    have e2 : (vs.length == vs2.length && b) = b := by rw [show (vs.length == vs2.length) = true by simp; omega, Bool.true_and]
    rw [e2]
    exact fin_bl I q rfl
  · rename_i hl
    cases e
    refine PySem.W.keq_eq (r := true) hS hS2 dd dd2 (by omega) (fun z => absurd z (by omega)) ?_
    have e2 : (vs.length == vs2.length && true) = false := by rw [show (vs.length == vs2.length) = false by simp; omega, Bool.false_and]
    rw [e2]
    exact fin_bl I q rfl
theorem op_neD' {X : Cx} {K : PySem.W.Frag} (hK : X.K = K) (hu : X.A.units + 8 < cLine) : OpR X (compareOp .NotEq) (fun x y H Q => ∃ a c kvs1 kvs2 es fs b, x = .ref a ∧ y = .ref c ∧ H a = some (.dK kvs1) ∧ H c = some (.dK kvs2) ∧ RepKV K H kvs1 es ∧ RepKV K H kvs2 fs ∧ eqT (.dct es) (.dct fs) = some b ∧ Q (.bl (!b)) H) := by
  subst hK
  intro pins s σ H x y v u Q I rx ry h
  obtain ⟨a, c, kvs1, kvs2, es, fs, b, rfl, rfl, ha, hb, r1, r2, e, q⟩ := h
  cases rx
  cases ry
  obtain ⟨z, hS, vs, rel, dd⟩ := dk_rd I.hok (.inl ha)
  obtain ⟨z2, hS2, vs2, rel2, dd2⟩ := dk_rd I.hok (.inl hb)
  have l1 := rel.length
  have l2 := rel2.length
  have l3 := r1.len
  have l4 := r2.len
  have e : (if es.length = fs.length then eqKV (eqD 6) fs es else some false) = some b := e
  split at e
  · rename_i hl
    refine PySem.W.keq_ne (r := b) hS hS2 dd dd2 (by omega) (fun _ => hits_of I (by show X.A.units + 1 + 6 < _; omega) r2 rel2 e r1 rel) ?_
    have e2 : (vs.length == vs2.length && b) = b := by rw [show (vs.length == vs2.length) = true by simp; omega, Bool.true_and]
    rw [e2]
    exact fin_bl I q rfl
  · rename_i hl
    cases e
    refine PySem.W.keq_ne (r := true) hS hS2 dd dd2 (by omega) (fun z => absurd z (by omega)) ?_
    have e2 : (vs.length == vs2.length && true) = false := by rw [show (vs.length == vs2.length) = false by simp; omega, Bool.false_and]
    rw [e2]
    exact fin_bl I q rfl
section
variable {X : Cx} {B : Bs} {e a b c : Expr} {ma mb mc : M W} {pos : Pos}
theorem eqT_cases {d e : D} {b : Bool} (h : eqT d e = some b) : (∃ es fs, d = .dct es ∧ e = .dct fs) ∨ eqD 8 d e = some b := by
  unfold eqT at h
  split at h
  · exact .inl ⟨_, _, rfl, rfl⟩
  · exact .inr h
theorem imp2_eqT : Imp2 B (fun x y H Q => (∃ d e b, Rep B.K H x d ∧ Rep B.K H y e ∧ eqD 8 d e = some b ∧ Q (.bl b) H) ∨ ∃ a c kvs1 kvs2 es fs b, x = .ref a ∧ y = .ref c ∧ H a = some (.dK kvs1) ∧ H c = some (.dK kvs2) ∧ RepKV B.K H kvs1 es ∧ RepKV B.K H kvs2 fs ∧ eqT (.dct es) (.dct fs) = some b ∧ Q (.bl b) H) eqTD := by
  intro G H σ ρ x y dx dy w Q R hx hy e p
  unfold eqTD at e
  cases hb : eqT dx dy with
  | none => rw [hb] at e; cases e
  | some b =>
    rw [hb] at e
    cases e
    rcases eqT_cases hb with ⟨es, fs, rfl, rfl⟩ | h8
    · obtain ⟨a1, k1, rfl, h1, r1⟩ := hx.dct R.gH
      obtain ⟨a2, k2, rfl, h2, r2⟩ := hy.dct R.gH
      exact .inr ⟨a1, a2, k1, k2, es, fs, b, rfl, rfl, h1, h2, r1.same R.gH, r2.same R.gH, hb, p _ G H (Same.refl _) R (.bl _)⟩
    · exact .inl ⟨dx, dy, b, hx.rep R.gH, hy.rep R.gH, h8, p _ G H (Same.refl _) R (.bl _)⟩
theorem imp2_neT : Imp2 B (fun x y H Q => (∃ d e b, Rep B.K H x d ∧ Rep B.K H y e ∧ eqD 8 d e = some b ∧ Q (.bl (!b)) H) ∨ ∃ a c kvs1 kvs2 es fs b, x = .ref a ∧ y = .ref c ∧ H a = some (.dK kvs1) ∧ H c = some (.dK kvs2) ∧ RepKV B.K H kvs1 es ∧ RepKV B.K H kvs2 fs ∧ eqT (.dct es) (.dct fs) = some b ∧ Q (.bl (!b)) H) neTD := by
  intro G H σ ρ x y dx dy w Q R hx hy e p
  unfold neTD at e
  cases hb : eqT dx dy with
  | none => rw [hb] at e; cases e
  | some b =>
    rw [hb] at e
    cases e
    rcases eqT_cases hb with ⟨es, fs, rfl, rfl⟩ | h8
    · obtain ⟨a1, k1, rfl, h1, r1⟩ := hx.dct R.gH
      obtain ⟨a2, k2, rfl, h2, r2⟩ := hy.dct R.gH
      exact .inr ⟨a1, a2, k1, k2, es, fs, b, rfl, rfl, h1, h2, r1.same R.gH, r2.same R.gH, hb, p _ G H (Same.refl _) R (.bl _)⟩
    · exact .inl ⟨dx, dy, b, hx.rep R.gH, hy.rep R.gH, h8, p _ G H (Same.refl _) R (.bl _)⟩
theorem d_eqX (hu : X.A.units + 8 < cLine) (ha : PD X B a ma) (hb : PD X B b mb) (hK : X.K = B.K := by rfl) : PD X B (.Compare a [.Eq] [b] pos) (mBin eqTD ma mb) := pd_cmp (fun ξ => (op_eqX (X := rz X ξ) hK hu).or (op_eqD' hK hu)) imp2_eqT ha hb (nomark _)
theorem d_neX (hu : X.A.units + 8 < cLine) (ha : PD X B a ma) (hb : PD X B b mb) (hK : X.K = B.K := by rfl) : PD X B (.Compare a [.NotEq] [b] pos) (mBin neTD ma mb) := pd_cmp (fun ξ => (op_neX (X := rz X ξ) hK hu).or (op_neD' hK hu)) imp2_neT ha hb (nomark _)
theorem t_eqX (hu : X.A.units + 8 < cLine) (ha : PD X B a ma) (hb : PD X B b mb) (hK : X.K = B.K := by rfl) : PDT X B (.Compare a [.Eq] [b] pos) (mTst (mBin eqTD ma mb)) := pdt_cmp (fun ξ => (op_eqX (X := rz X ξ) hK hu).or (op_eqD' hK hu)) imp2_eqT ha hb (nomark _)
theorem t_neX (hu : X.A.units + 8 < cLine) (ha : PD X B a ma) (hb : PD X B b mb) (hK : X.K = B.K := by rfl) : PDT X B (.Compare a [.NotEq] [b] pos) (mTst (mBin neTD ma mb)) := pdt_cmp (fun ξ => (op_neX (X := rz X ξ) hK hu).or (op_neD' hK hu)) imp2_neT ha hb (nomark _)
end
end L3

set_option Elab.async false
set_option linter.all false
set_option maxRecDepth 100000
set_option maxHeartbeats 4000000
namespace L3
open PySem PySem.Spec PyProof.Rows L2

/-! ### methods of texts -/
def opM (f : D → List D → Option W) (x : W) (ws : List W) : M W := fun ρ => match getD x ρ, getDs ws ρ with
  | some d, some ds => (f d ds).map (R'.ok · ρ)
  | _, _ => none
def mMt (T : String) (f : D → List D → Option W) (mo : M W) (m : M (List W)) : M W := M.bind (stab mo) fun x => M.bind (chk T x) fun _ => M.bind m fun ws => opM f x ws
def ImpM (B : Bs) (r : V → List V → Hp → VK → Prop) (f : D → List D → Option W) : Prop := ∀ {G H : Hp} {σ : St} {ρ : Env'} {x : V} {dx : D} {xs : List V} {ds : List D} {w : W} {Q : VK}, RS B G H σ ρ → RepT B.K G H x dx → RepTs B.K G H xs ds → f dx ds = some w →
  (∀ v G' H', Same G G' → RS B G' H' σ ρ → RepW B G' H' σ ρ v w → Q v H') → r x xs H Q
theorem opM_run {B : Bs} {ξ : XP} {f : D → List D → Option W} {x : W} {ws : List W} {G : Hp} {ρ : Env'} {σ : St} {Q : VK} (t : TDat relW B ξ G ρ (opM f x ws) σ Q) : ∃ d ds w, getD x ρ = some d ∧ getDs ws ρ = some ds ∧ f d ds = some w ∧ ∀ v G' H', Same G G' → RS B G' H' σ ρ → RepW B G' H' σ ρ v w → Q v H' := by
  obtain ⟨r, e, p⟩ := t
  unfold opM at e
  cases hx : getD x ρ with
  | none => rw [hx] at e; cases e
  | some d =>
    cases hy : getDs ws ρ with
    | none => rw [hx, hy] at e; cases e
    | some ds =>
      rw [hx, hy] at e
      simp only [] at e
      cases hf : f d ds with
      | none => rw [hf] at e; cases e
      | some w =>
        rw [hf] at e
        cases e
        exact ⟨d, ds, w, rfl, rfl, hf, p⟩
def strsOf : List D → Option (List (List Nat))
  | [] => some []
  | .str i :: ds => (strsOf ds).map (i :: ·)
  | _ => none
theorem strsOf_eq : ∀ {ds : List D} {ns : List (List Nat)}, strsOf ds = some ns → ds = ns.map D.str
  | [], _, h => by cases h; rfl
  | .str b :: ds, bs, h => by
    unfold strsOf at h
    obtain ⟨bs', e, rfl⟩ := Option.map_eq_some_iff.mp h
    rw [strsOf_eq e]
    rfl
  | .non :: _, _, h => by cases h
  | .bl _ :: _, _, h => by cases h
  | .int _ :: _, _, h => by cases h
  | .ty _ :: _, _, h => by cases h
  | .tup _ :: _, _, h => by cases h
  | .lst _ :: _, _, h => by cases h
  | .dct _ :: _, _, h => by cases h
theorem strs_V {K : PySem.W.Frag} {G : Hp} : ∀ {ns : List (List Nat)} {xs : List V}, RepL K G xs (ns.map D.str) → xs = ns.map fun q => V.str (tx q)
  | [], [], _ => rfl
  | [], _ :: _, r => by have := r.len; simp at this
  | _ :: _, [], r => by have := r.len; simp at this
  | b :: bs, x :: xs, r => by
    have h := r.head
    generalize hd : D.str b = d at h
    cases h <;> first | (cases hd; done) | skip
    cases hd
    rw [strs_V r.tail]
    rfl
def joinD : D → List D → Option W
  | .str sep, [.lst ds] => (strsOf ds).bind fun ps => grd (small ((ps.map List.length).sum + ps.length * sep.length)) (some (.val (.str (Wd.joinC sep ps))))
  | _, _ => none
def splitD : D → List D → Option W
  | .str cs, [.str [c]] => grd (c < 128 ∧ cs.length < 1000000) (some (.own (.lst ((Wd.splitC c cs).map D.str))))
  | _, _ => none
def startswithD : D → List D → Option W
  | .str a, [.str b] => vB (Txt.startswith (tx a) (tx b))
  | _, _ => none
def findD : D → List D → Option W
  | .str a, [.str b] => vI (Txt.find (tx a) (tx b))
  | _, _ => none
theorem mt_joinK {X : Cx} {K : PySem.W.Frag} (hK : X.K = K) : MtR X "str.join" (fun x xs H Q => ∃ (sep : List Nat) (p : Addr) (ps : List (List Nat)), x = .str (tx sep) ∧ xs = [.ref p] ∧ SqL K H p (ps.map fun q => V.str (tx q)) ∧ (ps.map List.length).sum + ps.length * sep.length ≤ 16777216 ∧ Q (.str (tx (Wd.joinC sep ps))) H) := by subst hK; exact mt_join
section
variable {X : Cx} {B : Bs} {o e : Expr} {es : List Expr} {mo : M W} {mr : M (List W)} {apos cpos : Pos} {name : Str} {T id : String}
theorem d_mt {r : V → List V → Hp → VK → Prop} {f : D → List D → Option W} (pa : PlainAttrs T) (slot : Slot T name id) (hty : typeOf (.builtin id) = pure (.type "method_descriptor")) (hm : ∀ ξ, MtR (rz X ξ) id r) (hi : ImpM B r f) (ho : PD X B o mo) (ha : PDA X B (e :: es) mr)
    (hK : X.K = B.K)
    (hbase : attributeBase o name X.env (eval o X.env) = eval o X.env)
    (hfew : ((backTo cpos (starEach (e :: es) X.env)).all (fun x => !x.1) && (backToKw cpos (keywordEach [] X.env)).all (fun x => x.1.isSome)
      && decide ((e :: es).length + ([] : List Keyword).length + (if ([] : List Keyword).isEmpty then 0 else 1) < 30)) = true)
    (hline : (apos.endLine == cpos.line) = true) (hs : starEach (e :: es) X.env = (false, eval e X.env) :: starEach es X.env) (hplain : (backTo cpos (starEach es X.env)).any (·.1) = false) :
    PD X B (.Call (.Attribute o name apos) (e :: es) [] cpos) (mMt T f mo mr) := .mk fun ξ =>
  (pe_bm (X := rz X ξ) pa slot hty (hm ξ) (ho.ap ξ) (ha.ap ξ) hbase hfew hline hs hplain).imp fun σ H Q t => by
    obtain ⟨G, ρ, R, t⟩ := t
    have t1 : TD relS B ξ (stab mo) σ H _ := TD.bind (rel := relS) R t
    refine TD.stab (t1.mono fun x H1 ⟨G1, ρ1, wa, s1, R1, ⟨q1, st1⟩, t2⟩ => ?_)
    obtain ⟨u, ρ2, e2, t3⟩ := t2.step fun r h => ⟨(), _, (chk_ok h).1⟩
    obtain ⟨e3, d, hd, ty⟩ := chk_ok e2
    cases e3
    refine ⟨by show tyV X.K T x H1; rw [hK]; exact tyV_of R1 (q1.get R1 hd) ty, ?_⟩
    refine (TD.bind (rel := relWs) R1 t3).mono fun vs H2 ⟨G2, ρ2, ws, s2, R2, q2, t4⟩ => ?_
    obtain ⟨dx, ds, w, e4, e5, e6, p⟩ := opM_run t4
    exact hi R2 ((q1.keep s2 st1 : RepW B G2 H2 σ ρ2 x wa).get R2 e4) (getDs_rep R2 q2 e5) e6 p
theorem impM_join : ImpM B (fun x xs H Q => ∃ (sep : List Nat) (p : Addr) (ps : List (List Nat)), x = .str (tx sep) ∧ xs = [.ref p] ∧ SqL B.K H p (ps.map fun q => V.str (tx q)) ∧ (ps.map List.length).sum + ps.length * sep.length ≤ 16777216 ∧ Q (.str (tx (Wd.joinC sep ps))) H) joinD := by
  intro G H σ ρ x dx xs ds w Q R hx h e p
  match dx, ds, e with
  | .str sep, [.lst ds], e =>
    obtain ⟨y, rfl, hy⟩ := one_of h
    have e : (strsOf ds).bind (fun ps => grd (small ((ps.map List.length).sum + ps.length * sep.length)) (some (.val (.str (Wd.joinC sep ps))))) = some w := e
    cases hb : strsOf ds with
    | none => rw [hb] at e; cases e
    | some ps =>
      rw [hb] at e
      obtain ⟨hz, e⟩ := grd_some e
      cases e
      rw [strsOf_eq hb] at hy
      obtain ⟨q, ys, rfl, h1, r1⟩ := hy.lst R.gH
      rw [strs_V r1] at h1
      exact ⟨sep, q, ps, hx.str, rfl, h1, by unfold small at hz; omega, p _ G H (Same.refl _) R (.str _)⟩
theorem impM_split : ImpM B (fun x xs H Q => ∃ (cs : List Nat) (c : Nat), x = .str (tx cs) ∧ xs = [.str (tx [c])] ∧ c < 128 ∧ cs.length < 1000000 ∧ ∀ p, H p = none → Q (.ref p) (upd H p (.lst ((Wd.splitC c cs).map fun q => V.str (tx q))))) splitD := by
  intro G H σ ρ x dx xs ds w Q R hx h e p
  match dx, ds, e with
  | .str cs, [.str [c]], e =>
    obtain ⟨y, rfl, hy⟩ := one_of h
    obtain ⟨hz, e⟩ := grd_some e
    cases e
    refine ⟨cs, c, hx.str, by rw [hy.str], hz.1, hz.2, fun pp hp => ?_⟩
    obtain ⟨R', w'⟩ := R.newLst hp (RepL.map_str (Wd.splitC c cs))
    exact p _ G _ (Same.refl _) R' w'
theorem impM_starts : ImpM B (fun x xs H Q => ∃ a b, x = .str a ∧ xs = [.str b] ∧ Q (.bl (Txt.startswith a b)) H) startswithD := by
  intro G H σ ρ x dx xs ds w Q R hx h e p
  match dx, ds, e with
  | .str cs, [.str c], e =>
    obtain ⟨y, rfl, hy⟩ := one_of h
    cases e
    exact ⟨_, _, hx.str, by rw [hy.str], p _ G H (Same.refl _) R (.bl _)⟩
theorem impM_find : ImpM B (fun x xs H Q => ∃ a b, x = .str a ∧ xs = [.str b] ∧ Q (.int (Txt.find a b)) H) findD := by
  intro G H σ ρ x dx xs ds w Q R hx h e p
  match dx, ds, e with
  | .str cs, [.str c], e =>
    obtain ⟨y, rfl, hy⟩ := one_of h
    cases e
    exact ⟨_, _, hx.str, by rw [hy.str], p _ G H (Same.refl _) R (.int _)⟩
theorem d_join (ho : PD X B o mo) (ha : PDA X B [e] mr) (hK : X.K = B.K := by rfl) (hbase : attributeBase o "join" X.env (eval o X.env) = eval o X.env := by rfl)
    (hfew : ((backTo cpos (starEach [e] X.env)).all (fun x => !x.1) && (backToKw cpos (keywordEach [] X.env)).all (fun x => x.1.isSome) && decide (([e] : List Expr).length + ([] : List Keyword).length + (if ([] : List Keyword).isEmpty then 0 else 1) < 30)) = true := by rfl)
    (hline : (apos.endLine == cpos.line) = true := by rfl) (hs : starEach [e] X.env = (false, eval e X.env) :: starEach [] X.env := by rfl) (hplain : (backTo cpos (starEach [] X.env)).any (·.1) = false := by rfl) : PD X B (.Call (.Attribute o "join" apos) [e] [] cpos) (mMt "str" joinD mo mr) :=
  d_mt PySem.F.plainAttrs_str PySem.F.slot_str_join PySem.F.type_str_join (fun ξ => mt_joinK (X := rz X ξ) (K := B.K) hK) impM_join ho ha hK hbase hfew hline hs hplain
theorem d_split (ho : PD X B o mo) (ha : PDA X B [e] mr) (hK : X.K = B.K := by rfl) (hbase : attributeBase o "split" X.env (eval o X.env) = eval o X.env := by rfl)
    (hfew : ((backTo cpos (starEach [e] X.env)).all (fun x => !x.1) && (backToKw cpos (keywordEach [] X.env)).all (fun x => x.1.isSome) && decide (([e] : List Expr).length + ([] : List Keyword).length + (if ([] : List Keyword).isEmpty then 0 else 1) < 30)) = true := by rfl)
    (hline : (apos.endLine == cpos.line) = true := by rfl) (hs : starEach [e] X.env = (false, eval e X.env) :: starEach [] X.env := by rfl) (hplain : (backTo cpos (starEach [] X.env)).any (·.1) = false := by rfl) : PD X B (.Call (.Attribute o "split" apos) [e] [] cpos) (mMt "str" splitD mo mr) :=
  d_mt PySem.F.plainAttrs_str PySem.F.slot_str_split PySem.F.type_str_split (fun ξ => mt_split) impM_split ho ha hK hbase hfew hline hs hplain
theorem d_startswith (ho : PD X B o mo) (ha : PDA X B [e] mr) (hK : X.K = B.K := by rfl) (hbase : attributeBase o "startswith" X.env (eval o X.env) = eval o X.env := by rfl)
    (hfew : ((backTo cpos (starEach [e] X.env)).all (fun x => !x.1) && (backToKw cpos (keywordEach [] X.env)).all (fun x => x.1.isSome) && decide (([e] : List Expr).length + ([] : List Keyword).length + (if ([] : List Keyword).isEmpty then 0 else 1) < 30)) = true := by rfl)
    (hline : (apos.endLine == cpos.line) = true := by rfl) (hs : starEach [e] X.env = (false, eval e X.env) :: starEach [] X.env := by rfl) (hplain : (backTo cpos (starEach [] X.env)).any (·.1) = false := by rfl) : PD X B (.Call (.Attribute o "startswith" apos) [e] [] cpos) (mMt "str" startswithD mo mr) :=
  d_mt PySem.F.plainAttrs_str PySem.F.slot_str_startswith PySem.F.type_str_startswith (fun ξ => mt_starts) impM_starts ho ha hK hbase hfew hline hs hplain
theorem d_find (ho : PD X B o mo) (ha : PDA X B [e] mr) (hK : X.K = B.K := by rfl) (hbase : attributeBase o "find" X.env (eval o X.env) = eval o X.env := by rfl)
    (hfew : ((backTo cpos (starEach [e] X.env)).all (fun x => !x.1) && (backToKw cpos (keywordEach [] X.env)).all (fun x => x.1.isSome) && decide (([e] : List Expr).length + ([] : List Keyword).length + (if ([] : List Keyword).isEmpty then 0 else 1) < 30)) = true := by rfl)
    (hline : (apos.endLine == cpos.line) = true := by rfl) (hs : starEach [e] X.env = (false, eval e X.env) :: starEach [] X.env := by rfl) (hplain : (backTo cpos (starEach [] X.env)).any (·.1) = false := by rfl) : PD X B (.Call (.Attribute o "find" apos) [e] [] cpos) (mMt "str" findD mo mr) :=
  d_mt PySem.F.plainAttrs_str PySem.F.slot_str_find PySem.F.type_str_find (fun ξ => mt_find) impM_find ho ha hK hbase hfew hline hs hplain
end

/-! ### f-strings -/
def mFmt (m : M W) : M W := M.bind m fun w ρ => match getD w ρ with
  | some (.int i) => grd (i.natAbs.log2 < 1920) (some (.ok (.val (.str (Wd.txtN i))) ρ))
  | some (.str cs) => grd (small cs.length) (some (.ok (.val (.str cs)) ρ))
  | _ => none
section
variable {X : Cx} {B : Bs} {e v1 v2 : Expr} {es : List Expr} {me : M W} {pos : Pos}
theorem pe_fmt {te : TE} (h : PE X e te) : PE X (.FormattedValue e (-1) none pos) (fun σ H Q => te σ H fun v H1 => (∃ i : Int, v = .int i ∧ i.natAbs.log2 < 1920 ∧ Q (.str (Str.ofString (toString i))) H1) ∨ ∃ x : Str, v = .str x ∧ x.length ≤ sizeLine ∧ Q (.str x) H1) := by
  intro pins s σ H Q I hq
  refine PyProof.Rows.FormattedValue_plain (thn (h pins s σ H _ I hq) fun u s1 ⟨v, H1, I1, r, q⟩ => ?_)
  rcases q with ⟨i, rfl, hl, q⟩ | ⟨x, rfl, hl, q⟩
  · obtain ⟨t, rfl⟩ := r
    exact PyProof.Rows.formatField_int_small hl ⟨.str _, H1, I1.tok _, ⟨_, rfl⟩, q⟩
  · obtain ⟨t, rfl⟩ := r
    exact PyProof.Rows.formatField_str (fun t' tk => ⟨.str x, H1, I1.tok _, ⟨_, rfl⟩, q⟩) hl
theorem d_fmt (h : PD X B e me) : PD X B (.FormattedValue e (-1) none pos) (mFmt me) := .mk fun ξ => (pe_fmt (h.ap ξ)).imp fun σ H Q t => by
  obtain ⟨G, ρ, R, t⟩ := t
  refine (TD.bind (rel := relW) R t).mono fun x H1 ⟨G1, ρ1, w, s1, R1, q1, r, e, p⟩ => ?_
  dsimp only at e
  split at e
  · rename_i i hd
    obtain ⟨hz, e⟩ := grd_some e
    cases e
    refine .inl ⟨i, (q1.get R1 hd).int, hz, ?_⟩
    rw [Wd.str_int]
    exact p _ G1 H1 (Same.refl _) R1 (.str _)
  · rename_i cs hd
    obtain ⟨hz, e⟩ := grd_some e
    cases e
    exact .inr ⟨tx cs, (q1.get R1 hd).str, by rw [tx_len]; exact small_line hz, p _ G1 H1 (Same.refl _) R1 (.str _)⟩
  · cases e
abbrev MJ := List Nat → M W
def TDJ (B : Bs) (ξ : XP) (m : MJ) : TJ := fun σ H out Q => ∃ cs, out = tx cs ∧ TD relW B ξ (m cs) σ H Q
structure PDJ (X : Cx) (B : Bs) (es : List Expr) (m : MJ) : Prop where
  ap : ∀ ξ, PJ (rz X ξ) es (TDJ B ξ m)
def jNilM : MJ := fun cs ρ => grd (small cs.length) (some (.ok (.val (.str cs)) ρ))
def jConsM (me : M W) (m : MJ) : MJ := fun cs => M.bind me fun w ρ => match getD w ρ with
  | some (.str y) => grd (small (cs ++ y).length) (m (cs ++ y) ρ)
  | _ => none
theorem _root_.L2.PJ.imp {X : Cx} {es : List Expr} {t t' : TJ} (h : PJ X es t) (i : ∀ σ H out Q, t' σ H out Q → t σ H out Q) : PJ X es t' := fun pins s σ H out Q I q => h pins s σ H out Q I (i σ H out Q q)
theorem j_nil : PDJ X B [] jNilM := .mk fun ξ => (pj_nil (X := rz X ξ)).imp fun σ H out Q t => by
  obtain ⟨cs, rfl, G, ρ, R, r, e, p⟩ := t
  obtain ⟨hz, e⟩ := grd_some e
  cases e
  exact ⟨by rw [tx_len]; exact small_line hz, p _ G H (Same.refl _) R (.str _)⟩
theorem j_cons {m : MJ} (he : PD X B e me) (hr : PDJ X B es m) (hs : evalEach (e :: es) X.env = eval e X.env :: evalEach es X.env := by rfl) : PDJ X B (e :: es) (jConsM me m) := .mk fun ξ => (pj_cons (X := rz X ξ) (he.ap ξ) (hr.ap ξ) hs).imp fun σ H out Q t => by
  obtain ⟨cs, rfl, G, ρ, R, t⟩ := t
  refine (TD.bind (rel := relW) R t).mono fun x H1 ⟨G1, ρ1, w, s1, R1, q1, r, e, p⟩ => ?_
  dsimp only at e
  split at e
  · rename_i y hd
    obtain ⟨hz, e⟩ := grd_some e
    refine ⟨tx y, (q1.get R1 hd).str, by rw [tx_app, tx_len]; exact small_line hz, cs ++ y, tx_app _ _, G1, ρ1, R1, r, e, p⟩
  · cases e
def mJoin (m : MJ) : M W := m []
theorem d_joined {m : MJ} (h : PDJ X B (v1 :: v2 :: es) m) (hs : evalEach (v1 :: v2 :: es) X.env = eval v1 X.env :: eval v2 X.env :: evalEach es X.env := by rfl) : PD X B (.JoinedStr (v1 :: v2 :: es) pos) (mJoin m) := .mk fun ξ => (pe_joined (X := rz X ξ) (h.ap ξ) hs).imp fun σ H Q t => ⟨[], rfl, t⟩
end
end L3

set_option Elab.async false
set_option linter.all false
set_option maxRecDepth 100000
set_option maxHeartbeats 4000000
namespace L3
open PySem PySem.Spec PyProof.Rows L2

/-! ### len(set(..)) of whole numbers -/
section
variable {prog : Program} {w : World} {A : Around} {E : Value → Shared → Prop} {s : Shared}
/-- the members that were met, in the order of their coming -/
abbrev metF (ns : List Int) (n : Nat) : List Int := PyProof.Rows.firstMet (fun i => ns.getD i 0) n
abbrev metS (ns : List Int) (n : Nat) : Int → Bool := fun k => (metF ns n).any (· == k)
theorem set_of_tuple {l : Addr} {its : Array Value} {ns : List Int} {Q : Value → Shared → Prop} (nh : A.handled = none) (tl : s.heap.IsTuple l its) (ia : IntsAre its.toList ns) (few : its.size + 1 < scanBound)
    (go : ∀ (g : Heap) (tk : Nat), g.SetOf (intKind prog w) s.heap.objs.size (metS ns its.size) (metF ns its.size).length → (∀ b o, b < s.heap.objs.size → s.heap.get? b = some o → g.get? b = some o) → Q (.ref s.heap.objs.size) { s with heap := g, toks := tk }) :
    wpAny (model prog w) A (call (.type "set") [.ref l]) Q E s := by
  obtain ⟨cc, tt, mro⟩ := F.called_set.mro
  have mk := F.called_set.made
  have sb := F.called_set.sub
  refine wpAny_call (codeAny_of_tree ?_)
  show wpAny _ _ (callAny (Value.type "set") _) _ _ _
  refine wpAny_pure ⟨Code.quiet_builtin _ (by decide +kernel), codeAny_builtin PySem.F.entry_type_call ?_⟩
  rw [Around.under_plain (weight_type_call_type "set" [Value.ref l] []) rfl]
  have nt := F.called_set.notType
  have cr := F.called_set.canCreate
  have ck := PySem.F.typeCall_set_1 (Value.ref l)
  repeat (any_goals (first | assumption | wp_step))
  refine codeAny_mono (code_set_new_1 (Value.ref l) (E := E) (Q₁ := fun ob z => ∃ bb : Bool, ob = .ref s.heap.objs.size ∧ z = { s with heap := s.heap.push ⟨.type "set", none, .set #[] 0 (.fresh 0 0 bb), #[]⟩ }) fun bb => ⟨bb, rfl, rfl⟩) fun r z hz => ?_
  cases r with
  | error e => exact hz
  | ok fl =>
    cases fl with
    | ret ob =>
      obtain ⟨bb, rfl, rfl⟩ := hz
      have gS : (s.heap.push (⟨.type "set", none, .set #[] 0 (.fresh 0 0 bb), #[]⟩ : Obj)).get? s.heap.objs.size = some (⟨.type "set", none, .set #[] 0 (.fresh 0 0 bb), #[]⟩ : Obj) := Heap.get?_push_size _ rfl
      have tS : Shared.TypeIs { s with heap := s.heap.push (⟨.type "set", none, .set #[] 0 (.fresh 0 0 bb), #[]⟩ : Obj) } (.ref s.heap.objs.size) "set" := ⟨_, gS, rfl⟩
      have il := F.called_set.init.lookup
      have ib := F.called_set.init.bind (Value.ref s.heap.objs.size)
      repeat (any_goals (first | assumption | wp_step))
      refine codeAny_mono (codeAny_call_builtin (R := wants (fun r z => r = .none ∧ ∃ g tk, z = { s with heap := g, toks := tk } ∧ g.SetOf (intKind prog w) s.heap.objs.size (metS ns its.size) (metF ns its.size).length ∧
          ∀ b o, b < s.heap.objs.size → s.heap.get? b = some o → g.get? b = some o) E) F.called_set.init.plain F.entry_set_init (check_set_init_1 tS ?_)) fun r2 z2 hz2 => ?_
      · obtain ⟨⟨oc, od, oda, osl⟩, go1, c1, n1, d1⟩ := tl
        simp only at c1 d1
        subst c1; subst d1
        have go2 : (s.heap.push (⟨.type "set", none, .set #[] 0 (.fresh 0 0 bb), #[]⟩ : Obj)).get? l = some ⟨.type "tuple", od, .seq its n1, osl⟩ := Heap.get?_push_of_some _ go1
        have f1 := PySem.F.sub_tuple_set
        have f2 := PySem.F.sub_tuple_frozenset
        have f3 : (Value.type "tuple" == Value.type "dict") = false := by decide
        have tl2 : (s.heap.push (⟨.type "set", none, .set #[] 0 (.fresh 0 0 bb), #[]⟩ : Obj)).IsTuple l its := ⟨_, go2, rfl, n1, rfl⟩
        unfold Builtin.«set.__init__» noKeywords Builtin.Frozenset.updateFrom
        generalize hit : pyIter = PI
        wp_walk
        subst hit
        refine wpAny_pyIter_tuple tl2 ?_
        refine wpAny_bind (wpAny_runValue ?_)
        have lS : l < s.heap.objs.size := Heap.lt_size go1
        have nh3 : A.in1.in1.in1.handled = none := by simp [nh]
        have nI : l ≠ (s.heap.push (⟨.type "set", none, .set #[] 0 (.fresh 0 0 bb), #[]⟩ : Obj)).objs.size := by
          rw [Heap.size_push]
          exact Nat.ne_of_lt (Nat.lt_succ_of_lt lS)
        have nS : s.heap.objs.size ∉ [(s.heap.push (⟨.type "set", none, .set #[] 0 (.fresh 0 0 bb), #[]⟩ : Obj)).objs.size, l] := by
          rw [Heap.size_push]
          intro m
          rcases List.mem_cons.mp m with m | m
          · exact absurd m (Nat.ne_of_lt (Nat.lt_succ_self _))
          · exact absurd (List.mem_singleton.mp m).symm (Nat.ne_of_lt lS)
        refine PyProof.Rows.codeAny_set_update_loopS ((Walks.tuple nh3 _ l nI its).toS) s.heap.objs.size nS (fun i => ns.getD i 0) (fun i v hv => IntsAre.int_at ia i v (by rw [Array.getElem?_toList]; exact hv)) few its.size 0 _ (by omega) (Nat.zero_le _)
          ⟨⟨_, Heap.get?_push_size _ rfl, rfl, rfl⟩, tl2.at fun o e => Heap.get?_push_of_some _ e⟩ ?_ ?_
        · have gS2 := Heap.get?_push_of_some ({ cls := .type "tuple_iterator", data := .fields #[.ref l, .int 0 0] } : Obj) gS
          exact PyProof.Rows.SetOf_congr ((setObjOf_fresh (knd := intKind prog w) bb).setOf gS2 (by unfold scanBound; omega)) (fun _ => rfl) rfl
        · intro z mv sS
          obtain ⟨g, zg, zd, tk, zo⟩ := z
          have q1 : zg = s.gens := mv.gens
          have q2 : zd = s.drawn := mv.drawn
          have q3 : zo = s.os := mv.os
          subst q1 q2 q3
          show wpAny _ _ _ _ _ _
          refine wpAny_pure ?_
          show wpAny _ _ (ret Value.none) _ _ _
          refine wpAny_pure ⟨rfl, g, tk, rfl, sS, fun b o lb e => mv.heap b o (fun m => ?_) (Heap.get?_push_of_some _ (Heap.get?_push_of_some _ e))⟩
          rw [Heap.size_push] at m
          rcases List.mem_cons.mp m with m | m
          · exact absurd m (Nat.ne_of_lt lb)
          · exact absurd (List.mem_singleton.mp m) (Nat.ne_of_lt (Nat.lt_succ_of_lt lb))
      · cases r2 with
        | error e => exact hz2
        | ok fl2 =>
          cases fl2 with
          | ret r =>
            obtain ⟨rfl, g, tk, rfl, sS, kp⟩ := hz2
            repeat (any_goals (first | assumption | wp_step))
            exact go _ _ sS kp
          | _ => exact hz2.elim
    | _ => exact hz.elim
end
section
variable {X : Cx}
theorem call_setX {K : PySem.W.Frag} (hK : X.K = K) (hc : X.calm = true) : CallR X (.type "set") (fun xs H Q => ∃ (p : Addr) (ns : List Int), xs = [.ref p] ∧ (SqL K H p (ns.map V.int) ∨ SqT K H p (ns.map V.int)) ∧ ns.length < 4000 ∧ ∀ l, H l = none → Q (.ref l) (upd H l (.set (metS ns ns.length) (metF ns ns.length).length))) := by
  subst hK
  intro pins s σ H xs us Q I r h
  obtain ⟨p, ns, rfl, hq, hz, q⟩ := h
  obtain ⟨u, rfl, rx⟩ := vals1 r
  cases rx
  have fin : ∀ (n : Nat), n = ns.length → ∀ (g : Heap) (tk : Nat), g.SetOf (intKind X.prog X.w) s.heap.objs.size (metS ns n) (metF ns n).length → (∀ b o, b < s.heap.objs.size → s.heap.get? b = some o → g.get? b = some o) → EP X pins σ Q (.ref s.heap.objs.size) { s with heap := g, toks := tk } := fun n hn g tk sS kp => by
    subst hn
    exact ⟨.ref s.heap.objs.size, _, I.laid (a := s.heap.objs.size) (o := .set (metS ns ns.length) (metF ns ns.length).length) (t' := tk) (fun b o e => kp b o (Heap.lt_size e) e) (Nat.le_refl _) sS, rfl, q _ I.fresh⟩
  rcases hq with hq | hq
  · obtain ⟨its, rv, pl, _⟩ := I.list hq
    have hl := rv.length
    rw [List.length_map] at hl
    have e : its.toArray.size = ns.length := by rw [List.size_toArray]; omega
    exact PySem.call_set_list (I.ok.hd hc) pl.isList (by simpa using intsAre_of rv) (by rw [e]; unfold scanBound; omega) (fin its.toArray.size e)
  · obtain ⟨its, rv, pl, _⟩ := I.tuple hq
    have hl := rv.length
    rw [List.length_map] at hl
    have e : its.toArray.size = ns.length := by rw [List.size_toArray]; omega
    exact set_of_tuple (I.ok.hd hc) pl (by simpa using intsAre_of rv) (by rw [e]; unfold scanBound; omega) (fin its.toArray.size e)
theorem call_lenS : CallR X (.builtin "len") (fun xs H Q => ∃ (p : Addr) (S : Int → Bool) (n : Nat), xs = [.ref p] ∧ H p = some (.set S n) ∧ Q (.int n) H) := by
  intro pins s σ H xs us Q I r h
  obtain ⟨p, S, n, rfl, hp, q⟩ := h
  obtain ⟨u, rfl, rx⟩ := vals1 r
  cases rx
  obtain ⟨o, es, ep, t, ho, hex, hd, _, _, hb, hf, rfl⟩ := (show s.heap.SetOf (intKind X.prog X.w) p S n from I.hok p _ hp)
  exact PySem.call_len_set ho hex hd hf (by unfold scanBound at hb; omega) ⟨.int _, H, I.tok _, ⟨_, rfl⟩, q⟩
end
def lensetD : List D → Option W
  | [.lst ds] => (intsOf ds).bind fun ns => grd (ns.length < 4000) (vI (metF ns ns.length).length)
  | [.tup ds] => (intsOf ds).bind fun ns => grd (ns.length < 4000) (vI (metF ns ns.length).length)
  | _ => none
section
variable {X : Cx} {B : Bs} {e : Expr} {mr : M (List W)} {pos p pos2 p2 : Pos}
theorem d_lenset (hc : X.calm = true) (hm : X.mg "len" = none) (hm2 : X.mg "set" = none) (ha : PDA X B [e] mr) (hg : Gl X "len" := by rfl) (hg2 : Gl X "set" := by rfl) (hK : X.K = B.K := by rfl) (he : starEach [e] X.env = (false, eval e X.env) :: starEach [] X.env := by rfl) (hpl : (backTo pos2 (starEach [] X.env)).any (·.1) = false := by rfl)
    (he2 : starEach [.Call (.Name "set" p2) [e] [] pos2] X.env = (false, eval (.Call (.Name "set" p2) [e] [] pos2) X.env) :: starEach [] X.env := by rfl) (hpl2 : (backTo pos (starEach [] X.env)).any (·.1) = false := by rfl) :
    PD X B (.Call (.Name "len" p) [.Call (.Name "set" p2) [e] [] pos2] [] pos) (mCB lensetD mr) := .mk fun ξ =>
  (pe_callB (X := rz X ξ) call_lenS hg hm PySem.boot_len (pa_cons (pe_callTy (X := rz X ξ) (call_setX (K := B.K) hK hc) hg2 hm2 PyProof.Rows.boot_set (ha.ap ξ) (by decide) (by decide) he hpl) pa_nil he2) (by decide) (by decide) he2 hpl2).imp fun σ H Q t => by
    obtain ⟨G, ρ, R, t⟩ := t
    refine (TD.bind (rel := relWs) R t).mono fun vs H1 ⟨G1, ρ1, ws, s1, R1, q1, t2⟩ => ?_
    obtain ⟨ds, w, e1, e2, pp⟩ := opN_run t2
    have h := getDs_rep R1 q1 e1
    have key : ∀ es, ds = [.lst es] ∨ ds = [.tup es] → (intsOf es).bind (fun ns => grd (ns.length < 4000) (vI (metF ns ns.length).length)) = some w → ∃ (q : Addr) (ns : List Int), vs = [.ref q] ∧ (SqL B.K H1 q (ns.map V.int) ∨ SqT B.K H1 q (ns.map V.int)) ∧ ns.length < 4000 ∧ w = .val (.int ((metF ns ns.length).length : Nat)) := by
      intro es hds he
      cases hb : intsOf es with
      | none => rw [hb] at he; cases he
      | some ns =>
        rw [hb] at he
        obtain ⟨hz, he⟩ := grd_some he
        cases he
        rcases hds with rfl | rfl
        · obtain ⟨y, rfl, hy⟩ := one_of h
          rw [intsOf_eq hb] at hy
          obtain ⟨q, ys, rfl, h1, r1⟩ := hy.lst R1.gH
          rw [ints_V r1] at h1
          exact ⟨q, ns, rfl, .inl h1, hz, rfl⟩
        · obtain ⟨y, rfl, hy⟩ := one_of h
          rw [intsOf_eq hb] at hy
          obtain ⟨q, ys, rfl, h1, r1⟩ := hy.tup R1.gH
          rw [ints_V r1] at h1
          exact ⟨q, ns, rfl, .inr h1, hz, rfl⟩
    have k2 : ∃ (q : Addr) (ns : List Int), vs = [.ref q] ∧ (SqL B.K H1 q (ns.map V.int) ∨ SqT B.K H1 q (ns.map V.int)) ∧ ns.length < 4000 ∧ w = .val (.int ((metF ns ns.length).length : Nat)) := by
      match ds, e2 with
      | [.lst es], e2 => exact key es (.inl rfl) e2
      | [.tup es], e2 => exact key es (.inr rfl) e2
    obtain ⟨q, ns, rfl, hq, hz, rfl⟩ := k2
    refine ⟨q, ns, rfl, hq, hz, fun l hl => ?_⟩
    exact ⟨l, _, _, rfl, upd_same, pp _ G1 _ (Same.refl _) (R1.heap hl) (.int _)⟩
end
end L3

set_option Elab.async false
set_option linter.all false
set_option maxRecDepth 100000
set_option maxHeartbeats 4000000
namespace L3
open PySem L2

/-! ### big steps: what a denotation yields, part by part -/
def stW : W → W
  | .own d => .val d
  | w => w
section
variable {m ma mb mo mk mf : M W} {mr : M (List W)} {ρ ρ1 ρ2 ρ3 ρ4 : Env'} {w wa wb wc : W} {ws : List W} {d dx dy dz : D} {ds : List D} {i j : Nat} {k k2 : Bool} {f : D → D → Option W} {s1 s2 : SM} {r : Option SR} {c c1 c2 : M Bool}
theorem getD_stW : getD (stW w) ρ = getD w ρ := by cases w <;> rfl
theorem stab_ok (h : m ρ = some (.ok w ρ1)) : stab m ρ = some (.ok (stW w) ρ1) := by
  cases w with
  | own d => exact stab_own h
  | val d => exact stab_val h
  | slot i => exact stab_slot h
theorem ev_C : mC d ρ = some (.ok (.val d) ρ) := rfl
theorem ev_var {c : C} (h : ρ[i]? = some (some c)) : mVar i ρ = some (.ok (.slot i) ρ) := by unfold mVar; rw [h]
theorem ev_bin (ha : ma ρ = some (.ok wa ρ1)) (hb : mb ρ1 = some (.ok wb ρ2)) (hx : getD wa ρ2 = some dx) (hy : getD wb ρ2 = some dy) (hf : f dx dy = some w) : mBin f ma mb ρ = some (.ok w ρ2) := by
  unfold mBin
  rw [M.bind_ok (stab_ok ha), M.bind_ok hb]
  unfold op2
  rw [getD_stW, hx, hy]
  simp only [hf, Option.map_some]
theorem ev_un {f : D → Option W} (ha : ma ρ = some (.ok wa ρ1)) (hx : getD wa ρ1 = some dx) (hf : f dx = some w) : mUn f ma ρ = some (.ok w ρ1) := by
  unfold mUn
  rw [M.bind_ok ha]
  unfold op1
  rw [hx]
  simp only [hf, Option.map_some]
theorem ev_nil : mNil ρ = some (.ok [] ρ) := rfl
theorem ev_cons (ha : ma ρ = some (.ok wa ρ1)) (hb : mr ρ1 = some (.ok ws ρ2)) : mCons ma mr ρ = some (.ok (stW wa :: ws) ρ2) := by
  unfold mCons
  rw [M.bind_ok (stab_ok ha), M.bind_ok hb]
  rfl
theorem ev_CB {f : List D → Option W} (ha : mr ρ = some (.ok ws ρ1)) (hx : getDs ws ρ1 = some ds) (hf : f ds = some w) : mCB f mr ρ = some (.ok w ρ1) := by
  unfold mCB
  rw [M.bind_ok ha]
  unfold opN
  rw [hx]
  simp only [hf, Option.map_some]
theorem ev_call {ms : List Bool} {fm : List D → Option FR} {fin : List D} (ha : mr ρ = some (.ok ws ρ1)) (hx : argsOf ms ws ρ1 = some ds) (hp : apartI (lentI ms ws) (borI ρ1 ms ws) = true) (hf : fm ds = some (.ret w fin)) (hs : setL (lentI ms ws) fin ρ1 = some ρ2)
    (he : (flatW w && fin.all flatO) = true) : mCall ms fm mr ρ = some (.ok w ρ2) := by
  unfold mCall
  rw [M.bind_ok ha]
  unfold callW
  rw [hx]
  simp only []
  rw [if_pos hp, hf]
  simp only [hs]
  rw [if_pos he]
/-- nothing that is a name's own is read -/
theorem ev_call0 {ms : List Bool} {fm : List D → Option FR} {fin : List D} (ha : mr ρ = some (.ok ws ρ1)) (hx : argsOf ms ws ρ1 = some ds) (hp : apartI (lentI ms ws) (borI ρ1 ms ws) = true) (hf : fm ds = some (.ret w fin)) (hs : setL (lentI ms ws) fin ρ1 = some ρ2)
    (he : borI ρ1 ms ws = []) : mCall ms fm mr ρ = some (.ok w ρ2) := by
  unfold mCall
  rw [M.bind_ok ha]
  unfold callW
  rw [hx]
  simp only []
  rw [if_pos hp, hf]
  simp only [hs]
  split
  · rfl
  · rw [he]
    rfl
/-- what was read is shared from here on -/
theorem ev_callS {ms : List Bool} {fm : List D → Option FR} {fin : List D} (ha : mr ρ = some (.ok ws ρ1)) (hx : argsOf ms ws ρ1 = some ds) (hp : apartI (lentI ms ws) (borI ρ1 ms ws) = true) (hf : fm ds = some (.ret w fin)) (hs : setL (lentI ms ws) fin ρ1 = some ρ2)
    (he : (flatW w && fin.all flatO) = false) (hh : shareL (borI ρ1 ms ws) ρ2 = some ρ3) : mCall ms fm mr ρ = some (.ok w ρ3) := by
  unfold mCall
  rw [M.bind_ok ha]
  unfold callW
  rw [hx]
  simp only []
  rw [if_pos hp, hf]
  simp only [hs]
  rw [if_neg (by rw [he]; exact Bool.false_ne_true), hh]
  rfl
theorem ev_tst (ha : m ρ = some (.ok (.val (.bl k)) ρ1)) : mTst m ρ = some (.ok k ρ1) := by unfold mTst; rw [M.bind_ok ha]
theorem ev_tru (ha : m ρ = some (.ok w ρ1)) (hx : getD w ρ1 = some d) (hf : truD d = some k) : mTru m ρ = some (.ok k ρ1) := by
  unfold mTru
  rw [M.bind_ok ha]
  simp only [hx, hf, Option.map_some]
theorem ev_and (ha : c1 ρ = some (.ok k ρ1)) (hb : c2 ρ1 = some (.ok k2 ρ1)) : mAnd c1 c2 ρ = some (.ok (k && k2) ρ1) := by
  unfold mAnd
  rw [M.bind_ok ha]
  cases k with
  | true => exact hb
  | false => rfl
theorem ev_andF (ha : c1 ρ = some (.ok k ρ1)) (hk : k = false) : mAnd c1 c2 ρ = some (.ok false ρ1) := by
  subst hk
  unfold mAnd
  rw [M.bind_ok ha]
  rfl
theorem ev_andT {rr : Option (R' Bool)} (ha : c1 ρ = some (.ok k ρ1)) (hk : k = true) (hb : c2 ρ1 = rr) : mAnd c1 c2 ρ = rr := by
  subst hk
  unfold mAnd
  rw [M.bind_ok ha]
  exact hb
theorem ev_or (ha : c1 ρ = some (.ok k ρ1)) (hb : c2 ρ1 = some (.ok k2 ρ1)) : mOr c1 c2 ρ = some (.ok (k || k2) ρ1) := by
  unfold mOr
  rw [M.bind_ok ha]
  cases k with
  | true => rfl
  | false => exact hb
theorem ev_orT (ha : c1 ρ = some (.ok k ρ1)) (hk : k = true) : mOr c1 c2 ρ = some (.ok true ρ1) := by
  subst hk
  unfold mOr
  rw [M.bind_ok ha]
  rfl
theorem ev_orF {rr : Option (R' Bool)} (ha : c1 ρ = some (.ok k ρ1)) (hk : k = false) (hb : c2 ρ1 = rr) : mOr c1 c2 ρ = rr := by
  subst hk
  unfold mOr
  rw [M.bind_ok ha]
  exact hb
theorem ev_not (ha : c1 ρ = some (.ok k ρ1)) : mNot c1 ρ = some (.ok (!k) ρ1) := by unfold mNot; rw [M.bind_ok ha]; rfl
theorem bl_ok (hx : getD w ρ = some (.bl k)) : mBl w ρ = some (.ok k ρ) := by unfold mBl; rw [hx]
theorem ev_andV (ha : ma ρ = some (.ok wa ρ1)) (hx : getD wa ρ1 = some (.bl k)) (hb : mb ρ1 = some (.ok (.val (.bl k2)) ρ1)) : mAndV ma mb ρ = some (.ok (.val (.bl (k && k2))) ρ1) := by
  unfold mAndV
  rw [M.bind_ok ha, M.bind_ok (bl_ok hx)]
  cases k with
  | true => exact hb
  | false => rfl
theorem ev_andVT {rr : Option (R' W)} (ha : ma ρ = some (.ok wa ρ1)) (hx : getD wa ρ1 = some (.bl k)) (hk : k = true) (hb : mb ρ1 = rr) : mAndV ma mb ρ = rr := by
  subst hk
  unfold mAndV
  rw [M.bind_ok ha, M.bind_ok (bl_ok hx)]
  exact hb
theorem ev_andVF (ha : ma ρ = some (.ok wa ρ1)) (hx : getD wa ρ1 = some (.bl k)) (hk : k = false) : mAndV ma mb ρ = some (.ok (.val (.bl false)) ρ1) := by
  subst hk
  unfold mAndV
  rw [M.bind_ok ha, M.bind_ok (bl_ok hx)]
  rfl
theorem ev_orV (ha : ma ρ = some (.ok wa ρ1)) (hx : getD wa ρ1 = some (.bl k)) (hb : mb ρ1 = some (.ok (.val (.bl k2)) ρ1)) : mOrV ma mb ρ = some (.ok (.val (.bl (k || k2))) ρ1) := by
  unfold mOrV
  rw [M.bind_ok ha, M.bind_ok (bl_ok hx)]
  cases k with
  | true => rfl
  | false => exact hb
theorem ev_notV (ha : ma ρ = some (.ok wa ρ1)) (hx : getD wa ρ1 = some (.bl k)) : mNotV ma ρ = some (.ok (.val (.bl (!k))) ρ1) := by
  unfold mNotV
  rw [M.bind_ok ha, M.bind_ok (bl_ok hx)]
  rfl
theorem ev_ifET {rr : Option (R' W)} (hc : c ρ = some (.ok k ρ1)) (hk : k = true) (ha : ma ρ1 = rr) : mIfE c ma mb ρ = rr := by
  subst hk
  unfold mIfE
  rw [M.bind_ok hc]
  exact ha
theorem ev_ifEF {rr : Option (R' W)} (hc : c ρ = some (.ok k ρ1)) (hk : k = false) (ha : mb ρ1 = rr) : mIfE c ma mb ρ = rr := by
  subst hk
  unfold mIfE
  rw [M.bind_ok hc]
  exact ha
theorem ev_chain {g : D → D → Option W} {mc : M W} (ha : ma ρ = some (.ok wa ρ1)) (hb : mb ρ1 = some (.ok wb ρ2)) (hx : getD wa ρ2 = some dx) (hy : getD wb ρ2 = some dy) (hf : f dx dy = some (.val (.bl k))) (hc : mc ρ2 = some (.ok wc ρ2)) (hz : getD wc ρ2 = some dz) (hg : g dy dz = some (.val (.bl k2))) :
    mChain f g ma mb mc ρ = some (.ok (.val (.bl (k && k2))) ρ2) := by
  unfold mChain
  rw [M.bind_ok (stab_ok ha), M.bind_ok (stab_ok hb)]
  have e : op2 f (stW wa) (stW wb) ρ2 = some (.ok (.val (.bl k)) ρ2) := by
    unfold op2
    rw [getD_stW, getD_stW, hx, hy]
    simp only [hf, Option.map_some]
  rw [M.bind_ok e, M.bind_ok (bl_ok rfl)]
  cases k with
  | false => rfl
  | true =>
    show M.bind mc _ ρ2 = _
    rw [M.bind_ok hc]
    unfold op2
    rw [getD_stW, hy, hz]
    simp only [hg, Option.map_some, Bool.true_and]
theorem ev_tup (ha : mr ρ = some (.ok ws ρ1)) (hl : leakL ws ρ1 = some (.ok ds ρ2)) (hz : small ds.length) : mTup mr ρ = some (.ok (.val (.tup ds)) ρ2) := by
  unfold mTup
  rw [M.bind_ok ha, M.bind_ok hl]
  exact grd_pos hz
theorem ev_lst (ha : mr ρ = some (.ok ws ρ1)) (hl : leakL ws ρ1 = some (.ok ds ρ2)) (hz : small ds.length) : mLst mr ρ = some (.ok (.own (.lst ds)) ρ2) := by
  unfold mLst
  rw [M.bind_ok ha, M.bind_ok hl]
  exact grd_pos hz
theorem ev_append {l : Bool} {ds0 : List D} (h0 : ρ[i]? = some (some (.ow l (.lst ds0)))) (ha : mr ρ = some (.ok [w] ρ1)) (hl : leak w ρ1 = some (.ok d ρ2)) (h1 : ρ2[i]? = some (some (.ow l (.lst ds)))) (hz : small ds.length) :
    mAppend i mr ρ = some (.ok (.val .non) (ρ2.set i (some (.ow l (.lst (ds ++ [d])))))) := by
  unfold mAppend
  have hc : chk "list" (.slot i) ρ = some (.ok () ρ) := by
    unfold chk getD
    simp only [h0]
    rfl
  rw [M.bind_ok (ev_var h0), M.bind_ok hc, M.bind_ok ha]
  show M.bind (leak w) (appendTo i) ρ1 = _
  rw [M.bind_ok hl]
  unfold appendTo
  rw [h1]
  exact grd_pos hz
theorem ev_get1 {es es2 : List (Key × D)} {kk : Key} (ha : mo ρ = some (.ok wa ρ1)) (h0 : getD wa ρ1 = some (.dct es2)) (hb : mk ρ1 = some (.ok wb ρ2)) (hx : getD wa ρ2 = some (.dct es)) (hy : getD wb ρ2 = some dy) (hk : keyOf dy = some kk) : mGet1 mo mk ρ = some (.ok (.val ((valD es kk).getD .non)) ρ2) := by
  unfold mGet1
  have hc : chk "dict" (stW wa) ρ1 = some (.ok () ρ1) := by
    unfold chk
    rw [getD_stW, h0]
    rfl
  rw [M.bind_ok (stab_ok ha), M.bind_ok hc, M.bind_ok hb]
  unfold op2
  rw [getD_stW, hx, hy]
  simp only [get1D, hk, Option.map_some]
theorem ev_get2 {es es2 : List (Key × D)} {kk : Key} (ha : mo ρ = some (.ok wa ρ1)) (h0 : getD wa ρ1 = some (.dct es2)) (hb : mk ρ1 = some (.ok wb ρ2)) (hc' : mf ρ2 = some (.ok wc ρ3)) (hl : leak wc ρ3 = some (.ok dz ρ4)) (hx : getD wa ρ4 = some (.dct es)) (hy : getD wb ρ4 = some dy) (hk : keyOf dy = some kk) : mGet2 mo mk mf ρ = some (.ok (.val ((valD es kk).getD dz)) ρ4) := by
  unfold mGet2
  have hc : chk "dict" (stW wa) ρ1 = some (.ok () ρ1) := by
    unfold chk
    rw [getD_stW, h0]
    rfl
  rw [M.bind_ok (stab_ok ha), M.bind_ok hc, M.bind_ok (stab_ok hb), M.bind_ok hc', M.bind_ok hl]
  unfold op2
  rw [getD_stW, getD_stW, hx, hy]
  simp only [get2D, hk, Option.map_some]
theorem ev_mt {T : String} {f : D → List D → Option W} (ha : mo ρ = some (.ok wa ρ1)) (h0 : getD wa ρ1 = some d) (ht : tyD T d = true) (hb : mr ρ1 = some (.ok ws ρ2)) (hx : getD wa ρ2 = some dx) (hy : getDs ws ρ2 = some ds) (hf : f dx ds = some w) : mMt T f mo mr ρ = some (.ok w ρ2) := by
  unfold mMt
  have hc : chk T (stW wa) ρ1 = some (.ok () ρ1) := by
    unfold chk
    rw [getD_stW, h0]
    simp only [ht, if_true]
  rw [M.bind_ok (stab_ok ha), M.bind_ok hc, M.bind_ok hb]
  unfold opM
  rw [getD_stW, hx, hy]
  simp only [hf, Option.map_some]
theorem ev_part {n : Int} (ha : m ρ = some (.ok w ρ1)) (hx : getD w ρ1 = some (.int n)) : mPart m ρ = some (.ok (some n) ρ1) := by
  unfold mPart
  rw [M.bind_ok ha]
  simp only [hx]
theorem ev_no : (M.pure none : M (Option Int)) ρ = some (.ok none ρ) := rfl
theorem ev_sl {ml mh : M (Option Int)} {lo hi : Option Int} (ha : ma ρ = some (.ok wa ρ1)) (hl : ml ρ1 = some (.ok lo ρ2)) (hh : mh ρ2 = some (.ok hi ρ3)) (hx : getD wa ρ3 = some dx) (hf : slD dx lo hi = some w) : mSl ma ml mh ρ = some (.ok w ρ3) := by
  unfold mSl
  rw [M.bind_ok (stab_ok ha), M.bind_ok hl, M.bind_ok hh]
  unfold op1
  rw [getD_stW, hx]
  simp only [hf, Option.map_some]
/-! statements -/
theorem ev_seq (h1 : s1 ρ = some (.nx ρ1)) (h2 : s2 ρ1 = r) : seqS s1 s2 ρ = r := by rw [seqS_nx h1]; exact h2
theorem ev_seqR (h1 : s1 ρ = some (.rt w ρ1)) : seqS s1 s2 ρ = some (.rt w ρ1) := by unfold seqS; rw [h1]
theorem ev_seqB (h1 : s1 ρ = some (.bk ρ1)) : seqS s1 s2 ρ = some (.bk ρ1) := by unfold seqS; rw [h1]
theorem ev_seqC (h1 : s1 ρ = some (.ct ρ1)) : seqS s1 s2 ρ = some (.ct ρ1) := by unfold seqS; rw [h1]
theorem ev_nx : nxS ρ = some (.nx ρ) := rfl
theorem ev_set (ha : m ρ = some (.ok w ρ1)) (hs : storeS i w ρ1 = some (.nx ρ2)) : setS i m ρ = some (.nx ρ2) := by unfold setS; rw [thenS_ok ha]; exact hs
theorem ev_ret {sr : SR} (ha : m ρ = some (.ok w ρ1)) (hs : retW w ρ1 = some sr) : retS m ρ = some sr := by unfold retS; rw [thenS_ok ha]; exact hs
theorem ev_drop (ha : m ρ = some (.ok w ρ1)) : dropS m ρ = some (.nx ρ1) := by unfold dropS; rw [thenS_ok ha]; rfl
theorem ev_ifT (hc : c ρ = some (.ok k ρ1)) (hk : k = true) (h : s1 ρ1 = r) : ifS c s1 s2 ρ = r := by subst hk; unfold ifS; rw [thenS_ok hc]; exact h
theorem ev_ifF (hc : c ρ = some (.ok k ρ1)) (hk : k = false) (h : s2 ρ1 = r) : ifS c s1 s2 ρ = r := by subst hk; unfold ifS; rw [thenS_ok hc]; exact h
/-- either way, told by the test -/
theorem ev_ite {r1 r2 : Option SR} (hc : c ρ = some (.ok k ρ1)) (h1 : k = true → s1 ρ1 = r1) (h2 : k = false → s2 ρ1 = r2) : ifS c s1 s2 ρ = if k = true then r1 else r2 := by
  unfold ifS
  rw [thenS_ok hc]
  cases k with
  | true => exact h1 rfl
  | false => exact h2 rfl
theorem ev_put (hv : m ρ = some (.ok wa ρ1)) {c0 : C} (h0 : ρ1[i]? = some (some c0)) (hk : mk ρ1 = some (.ok wb ρ2)) (hl : leak (stW wa) ρ2 = some (.ok d ρ3)) (hy : getD wb ρ3 = some dy) (hp : putTo i dy d ρ3 = r) : putS i m mk ρ = r := by
  unfold putS
  rw [thenS_ok (stab_ok hv), thenS_ok (ev_var h0), thenS_ok hk, thenS_ok hl]
  simp only [hy]
  exact hp
theorem ev_for {mi : M (List D)} {tg : FT} (hi : mi ρ = some (.ok ds ρ1)) (h : forL tg s1 ds ρ1 = r) : forS mi tg s1 ρ = r := by unfold forS; rw [thenS_ok hi]; exact h
theorem ev_rng {g : List D → Option (List D)} {es : List D} (ha : mr ρ = some (.ok ws ρ1)) (hx : getDs ws ρ1 = some ds) (hf : g ds = some es) : mRng g mr ρ = some (.ok es ρ1) := by
  unfold mRng
  rw [M.bind_ok ha]
  simp only [hx, hf, Option.map_some]
theorem ev_iter {es : List D} (ha : m ρ = some (.ok w ρ1)) (hl : leak w ρ1 = some (.ok d ρ2)) (hf : itD d = some es) : mIter m ρ = some (.ok es ρ2) := by
  unfold mIter
  rw [M.bind_ok ha, M.bind_ok hl]
  simp only [hf, Option.map_some]
theorem ev_comp {mi : M (List D)} {tg : FT} {mt : M Bool} {me : M W} {own : Nat} {fr : List Nat} {ys : List D} (hi : mi ρ = some (.ok ds ρ1)) (hz : small ds.length) (hc : compL tg mt me (seenE own fr ρ1) ds = some ys) (hf : ys.all flatD = true ∨ capI ρ1 fr = []) : mComp mi tg mt me own fr ρ = some (.ok (.own (.lst ys)) ρ1) := by
  unfold mComp
  rw [M.bind_ok hi]
  unfold compW
  rw [hc]
  simp only []
  rw [grd_pos hz]
  rcases hf with hf | hf
  · rw [if_pos hf]
  · split
    · rfl
    · rw [hf]
      rfl
/-- a comprehension whose test is always true, turn by turn -/
theorem compL_map {tg : FT} {me : M W} (g : D → D) : ∀ (ds : List D), (∀ d ∈ ds, ∃ ρ1 w ρ2 ρ3, tg d ρ = some ρ1 ∧ me ρ1 = some (.ok w ρ2) ∧ leak w ρ2 = some (.ok (g d) ρ3)) → compL tg mYes me ρ ds = some (ds.map g)
  | [], _ => rfl
  | d :: ds, h => by
    obtain ⟨ρ1, w, ρ2, ρ3, h1, h2, h3⟩ := h d List.mem_cons_self
    unfold compL compTurn
    rw [h1]
    have hy : mYes ρ1 = some (.ok true ρ1) := rfl
    simp only [hy]
    rw [M.bind_ok h2, h3, compL_map g ds fun x hx => h x (List.mem_cons_of_mem _ hx)]
    rfl
theorem run_of {den : SM} {n : Nat} {ms : List Bool} {sr : SR} {fr : FR} (h : den (startE n ms ds) = some sr) (ho : outS ms sr = some fr) : runF den n ms ds = some fr := by unfold runF; rw [h]; exact ho
/-- a loop by what holds between its turns: f is the state ahead of each turn -/
theorem forL_inv {tg : FT} (P : Nat → Env' → Prop) (hs : ∀ j d ρ, ds[j]? = some d → P j ρ → ∃ ρ1 ρ2, tg d ρ = some ρ1 ∧ (s1 ρ1 = some (.nx ρ2) ∨ s1 ρ1 = some (.ct ρ2)) ∧ P (j + 1) ρ2) (h0 : P 0 ρ) : ∃ ρ', forL tg s1 ds ρ = some (.nx ρ') ∧ P ds.length ρ' := by
  have key : ∀ (es : List D) (j : Nat) (ρ : Env'), (∀ i d, es[i]? = some d → ds[j + i]? = some d) → P j ρ → ∃ ρ', forL tg s1 es ρ = some (.nx ρ') ∧ P (j + es.length) ρ' := by
    intro es
    induction es with
    | nil => intro j ρ _ h; exact ⟨ρ, rfl, h⟩
    | cons d es ih =>
      intro j ρ hd h
      obtain ⟨ρ1, ρ2, e1, e2, p⟩ := hs j d ρ (by simpa using hd 0 d rfl) h
      obtain ⟨ρ', e3, p'⟩ := ih (j + 1) ρ2 (fun i d' hi => by have := hd (i + 1) d' (by simpa using hi); rw [show j + 1 + i = j + (i + 1) by omega]; exact this) p
      refine ⟨ρ', ?_, by rw [List.length_cons, show j + (es.length + 1) = j + 1 + es.length by omega]; exact p'⟩
      unfold forL
      rw [e1]
      rcases e2 with e2 | e2
      · simp only [e2]; exact e3
      · simp only [e2]; exact e3
  obtain ⟨ρ', a, b⟩ := key ds 0 ρ (fun i d h => by simpa using h) h0
  exact ⟨ρ', a, by simpa using b⟩
/-- .. the state being a function of what was walked -/
theorem forL_fold {tg : FT} (g : List D → Env') (hs : ∀ pre d post, ds = pre ++ d :: post → ∃ ρ1, tg d (g pre) = some ρ1 ∧ (s1 ρ1 = some (.nx (g (pre ++ [d]))) ∨ s1 ρ1 = some (.ct (g (pre ++ [d]))))) : forL tg s1 ds (g []) = some (.nx (g ds)) := by
  have key : ∀ (es pre : List D), ds = pre ++ es → forL tg s1 es (g pre) = some (.nx (g ds)) := by
    intro es
    induction es with
    | nil => intro pre h; rw [h, List.append_nil]; rfl
    | cons d es ih =>
      intro pre h
      obtain ⟨ρ1, e1, e2⟩ := hs pre d es h
      have q := ih (pre ++ [d]) (by rw [h]; simp)
      unfold forL
      rw [e1]
      rcases e2 with e2 | e2
      · simp only [e2]; exact q
      · simp only [e2]; exact q
  exact key ds [] rfl
theorem op_mulD {a b : Int} (h : CMul a b) : mulD (.int a) (.int b) = some (.val (.int (a * b))) := grd_pos h
theorem op_divD {a b : Int} (h : CDiv a b) : divD (.int a) (.int b) = some (.val (.int (a / b))) := grd_pos h
theorem op_modD {a b : Int} (h : 0 < b) : modD (.int a) (.int b) = some (.val (.int (a % b))) := grd_pos h
theorem op_powD {a b : Int} (h : CPow a b) : powD (.int a) (.int b) = some (.val (.int (a ^ b.toNat))) := grd_pos h
theorem op_strD {a : Int} (h : a.natAbs.log2 < 1920) : strD [.int a] = some (.val (.str (Wd.txtN a))) := grd_pos h
theorem op_add_strD {a b : List Nat} (h : small (a.length + b.length)) : addD (.str a) (.str b) = some (.val (.str (a ++ b))) := grd_pos h
theorem op_add_lstD {a b : List D} (h : small (a.length + b.length)) : addD (.lst a) (.lst b) = some (.own (.lst (a ++ b))) := grd_pos h
end
end L3

set_option Elab.async false
set_option linter.all false
set_option maxRecDepth 100000
set_option maxHeartbeats 4000000
namespace K10
open PySem L2 L3
def top (i : Nat) : Stmt := PySem.Challenge.pw_clausekeep_k10_open_literals.main.body.getD i (.Pass ⟨0, 0, 0, 0⟩)
abbrev s_opened : Stmt := top 1
theorem sc_opened : FnScope ["truths", "clause", "found", "literal"] ["truths", "clause"] (defScope s_opened) := ⟨rfl, rfl, rfl, by decide +kernel, rfl, by decide +kernel, by decide +kernel⟩
abbrev s_has_both : Stmt := top 2
theorem sc_has_both : FnScope ["clause", "seen", "literal"] ["clause"] (defScope s_has_both) := ⟨rfl, rfl, rfl, by decide +kernel, rfl, by decide +kernel, by decide +kernel⟩
abbrev s_law_cell : Stmt := top 4
theorem sc_law_cell : FnScope ["_law_script", "_law_k"] ["_law_script", "_law_k"] (defScope s_law_cell) := ⟨rfl, rfl, rfl, by decide +kernel, rfl, by decide +kernel, by decide +kernel⟩
abbrev s_law_mix : Stmt := top 5
theorem sc_law_mix : FnScope ["_law_script", "_law_k", "_law_number"] ["_law_script", "_law_k"] (defScope s_law_mix) := ⟨rfl, rfl, rfl, by decide +kernel, rfl, by decide +kernel, by decide +kernel⟩
abbrev s_law_whole : Stmt := top 6
theorem sc_law_whole : FnScope ["_law_found"] ["_law_found"] (defScope s_law_whole) := ⟨rfl, rfl, rfl, by decide +kernel, rfl, by decide +kernel, by decide +kernel⟩
abbrev s_law_wholes : Stmt := top 7
theorem sc_law_wholes : FnScope ["_law_found"] ["_law_found"] (defScope s_law_wholes) := ⟨rfl, rfl, rfl, by decide +kernel, rfl, by decide +kernel, by decide +kernel⟩
abbrev s_law_clause : Stmt := top 8
theorem sc_law_clause : FnScope ["_law_script", "_law_base", "_law_variables", "_law_most", "_law_number", "_law_size", "_law_found", "_law_k", "_law_part"] ["_law_script", "_law_base", "_law_variables", "_law_most"] (defScope s_law_clause) := ⟨rfl, rfl, rfl, by decide +kernel, rfl, by decide +kernel, by decide +kernel⟩
abbrev s_law_formula : Stmt := top 9
theorem sc_law_formula : FnScope ["_law_script", "_law_base", "_law_variables", "_law_many"] ["_law_script", "_law_base"] (defScope s_law_formula) := ⟨rfl, rfl, rfl, by decide +kernel, rfl, by decide +kernel, by decide +kernel⟩
abbrev s_law_models : Stmt := top 10
theorem sc_law_models : FnScope ["_law_variables", "_law_clauses", "_law_found", "_law_number", "_law_model", "_law_k"] ["_law_variables", "_law_clauses"] (defScope s_law_models) := ⟨rfl, rfl, rfl, by decide +kernel, rfl, by decide +kernel, by decide +kernel⟩
abbrev s_law : Stmt := top 11
theorem sc_law : FnScope ["_law_script", "_law_clause_here", "_law_truths", "_law_k", "_law_number", "_law_due", "_law_literal", "_law_handed", "_law_found", "_law_answer", "_law_both"] ["_law_script"] (defScope s_law) := ⟨rfl, rfl, rfl, by decide +kernel, rfl, by decide +kernel, by decide +kernel⟩
/-! ### the laws' own helpers, as functions of data -/
def isWholeD : D → Bool
  | .int _ => true
  | _ => false
def noTy : D → Bool
  | .ty _ => false
  | _ => true
def fm_law_cell : List D → Option FR
  | [.lst ds, .int k] => (intsOf ds).map fun ns => .ret (.val (.int (cellV ns k))) []
  | _ => none
def fm_law_mix : List D → Option FR
  | [.lst ds, .int k] => (intsOf ds).map fun ns => .ret (.val (.int (mixV ns k))) []
  | _ => none
def fm_law_whole : List D → Option FR
  | [d] => grd (noTy d = true) (some (.ret (.val (.bl (isWholeD d))) []))
  | _ => none
def fm_law_wholes : List D → Option FR
  | [.lst ds] => grd (ds.all noTy = true ∧ small ds.length) (some (.ret (.val (.bl (ds.all isWholeD))) []))
  | _ => none
def litV (p v : Int) : Int := (1 + p / 2 % v) * (1 - 2 * (p % 2))
def sizeV (n most : Int) : Int := if n % 6 = 0 then 1 else if n % 6 = 1 then 2 else if n % 6 = 2 then 3 else if n % 6 = 3 then 2 else if n % 6 = 4 then 3 else n / 6 % (most + 1)
def clauseV (ns : List Int) (b v most : Int) : List Int := (List.range (sizeV (mixV ns b) most).toNat).map fun (k : Nat) => litV (mixV ns (b + 1 + (k : Int))) v
def fm_law_clause : List D → Option FR
  | [.lst ds, .int b, .int v, .int most] => (intsOf ds).bind fun ns => grd (0 < v ∧ v < 1000 ∧ 0 ≤ most ∧ most < 1000) (some (.ret (.val (.tup ((clauseV ns b v most).map D.int))) []))
  | _ => none

/-! ### opened and has_both -/
def pairsOf : List (Key × D) → Option (List (Int × Int))
  | [] => some []
  | (.inl k, .int v) :: r => (pairsOf r).map ((k, v) :: ·)
  | _ => none
def dctI (ts : List (Int × Int)) : List (Key × D) := ts.map fun kv => (.inl kv.1, .int kv.2)
def lookI (ts : List (Int × Int)) (k : Int) : Option Int := (ts.find? fun kv => decide (kv.1 = k)).map (·.2)
def addI (acc : List Int) (l : Int) : List Int := if l ∈ acc then acc else acc ++ [l]
def openF (ts : List (Int × Int)) (acc : List Int) (l : Int) : List Int := if lookI ts l.natAbs = some (-l) then acc else addI acc l
def openV (ts : List (Int × Int)) (ls : List Int) : List Int := ls.foldl (openF ts) []
def bothF : List Int → List Int → Bool
  | _, [] => false
  | acc, l :: ls => decide (-l ∈ acc) || bothF (addI acc l) ls
def fm_opened : List D → Option FR
  | [.dct es, .tup ds] => (pairsOf es).bind fun ts => (intsOf ds).bind fun ls => grd (ls.length ≤ 1000) (some (.ret (.own (.lst ((openV ts ls).map D.int))) []))
  | _ => none
def fm_has_both : List D → Option FR
  | [.tup ds] => (intsOf ds).bind fun ls => grd (ls.length ≤ 1000) (some (.ret (.val (.bl (bothF [] ls))) []))
  | _ => none

abbrev den_law_cell : SM := (seqS (ifS (mTru (mVar 0)) (retS (mBin ixD (mVar 0) (mBin modD (mVar 1) (mCB lenD (mCons (mVar 0) mNil))))) nxS)
  (retS (mC (.int 0))))
theorem run_law_cell {P : Program} {w : World} {K : PySem.W.Frag} {mg : Str → Option Value} {base : Heap} {f : Addr} {fd : FuncData} (F : Fun K "_law_cell" "_law_cell" s_law_cell f fd) (z_len : mg "len" = none) :
    FnOk P w K mg base CX0 1 f fd ["_law_script", "_law_k"] (SpD K [false, false] (runF den_law_cell 2 [false, false])) :=
  have nd := sc_law_cell.nd
  fun_d (k := 0) F sc_law_cell rfl (fun cdv A outer s H E H0 HK G0 L hr => by
    have hu := hu8 hr
    exact (s_cons (s_if (t_tru (dv 0)) (s_one (s_ret (d_ix hu (dv 0) (d_mod (dv 1) (d_len z_len (a_cons (dv 0) a_nil)))))) s_nil)
      (s_one (s_ret d_int))))

abbrev den_law_mix : SM := (seqS (setS 2 (mBin modD (mBin addD (mCall [false, false] fm_law_cell (mCons (mVar 0) (mCons (mVar 1) mNil))) (mBin mulD (mC (.int 104729)) (mBin addD (mVar 1) (mC (.int 1))))) (mC (.int 4294967291))))
  (seqS (setS 2 (mBin modD (mBin mulD (mVar 2) (mC (.int 48271))) (mC (.int 4294967279))))
  (retS (mBin modD (mBin addD (mBin mulD (mBin divD (mVar 2) (mC (.int 64))) (mC (.int 69621))) (mVar 2)) (mC (.int 4294967231))))))
theorem run_law_mix {P : Program} {w : World} {K : PySem.W.Frag} {mg : Str → Option Value} {base : Heap} {f : Addr} {fd : FuncData} (F : Fun K "_law_mix" "_law_mix" s_law_mix f fd)
    (h_law_cell : Has P w K mg base 1 "_law_cell" ["_law_script", "_law_k"] (SpD K [false, false] fm_law_cell)) :
    FnOk P w K mg base CX0 2 f fd ["_law_script", "_law_k"] (SpD K [false, false] (runF den_law_mix 3 [false, false])) :=
  have nd := sc_law_mix.nd
  fun_d (k := 1) F sc_law_mix rfl (fun cdv A outer s H E H0 HK G0 L hr => by
    have hu := hu8 hr
    exact (s_cons (s_set (i := 2) (d_mod (d_add (d_call h_law_cell (hr.mono (by decide)) (a_cons (dv 0) (a_cons (dv 1) a_nil))) (d_mul d_int (d_add (dv 1) d_int))) d_int) nd)
      (s_cons (s_set (i := 2) (d_mod (d_mul (dv 2) d_int) d_int) nd)
      (s_one (s_ret (d_mod (d_add (d_mul (d_div (dv 2) d_int) d_int) (dv 2)) d_int))))))

abbrev den_law_whole : SM := (retS (mAndV (mCB isiD (mCons (mVar 0) (mCons (mC (.ty "int")) mNil))) (mNotV (mCB isiD (mCons (mVar 0) (mCons (mC (.ty "bool")) mNil))))))
theorem run_law_whole {P : Program} {w : World} {K : PySem.W.Frag} {mg : Str → Option Value} {base : Heap} {f : Addr} {fd : FuncData} (F : Fun K "_law_whole" "_law_whole" s_law_whole f fd) (z_isinstance : mg "isinstance" = none) (z_int : mg "int" = none) (z_bool : mg "bool" = none) :
    FnOk P w K mg base CX0 1 f fd ["_law_found"] (SpD K [false] (runF den_law_whole 1 [false])) :=
  have nd := sc_law_whole.nd
  fun_d (k := 0) F sc_law_whole rfl (fun cdv A outer s H E H0 HK G0 L hr => by
    have hu := hu8 hr
    exact (s_one (s_ret (d_and (d_isi z_isinstance (a_cons (dv 0) (a_cons (d_ty z_int PyProof.Rows.boot_int) a_nil))) (d_one (d_not (d_isi z_isinstance (a_cons (dv 0) (a_cons (d_ty z_bool PyProof.Rows.boot_bool) a_nil)))))))))

abbrev den_law_wholes : SM := (retS (mAndV (mCB isiD (mCons (mVar 0) (mCons (mC (.ty "list")) mNil))) (mCB allD (mCons (mComp (mIter (mVar 0)) (tgN 0) mYes (mCall [false] fm_law_whole (mCons (mVar 0) mNil)) 1 []) mNil))))
theorem run_law_wholes {P : Program} {w : World} {K : PySem.W.Frag} {mg : Str → Option Value} {base : Heap} {f : Addr} {fd : FuncData} (F : Fun K "_law_wholes" "_law_wholes" s_law_wholes f fd) (z_isinstance : mg "isinstance" = none) (z_list : mg "list" = none) (z_all : mg "all" = none)
    (h_law_whole : Has P w K mg base 1 "_law_whole" ["_law_found"] (SpD K [false] fm_law_whole)) :
    FnOk P w K mg base CX0 2 f fd ["_law_found"] (SpD K [false] (runF den_law_wholes 1 [false])) :=
  have nd := sc_law_wholes.nd
  fun_d (k := 1) F sc_law_wholes rfl (fun cdv A outer s H E H0 HK G0 L hr => by
    have hu := hu8 hr
    exact (s_one (s_ret (d_and (d_isi z_isinstance (a_cons (dv 0) (a_cons (d_ty z_list PyProof.Rows.boot_list) a_nil))) (d_one (d_all rfl z_all (a_cons (d_comp (blkL [] trivial) (i_seq (dv 0)) (fun _ _ _ _ _ _ _ _ _ => f_nil) (fun _ _ _ _ _ _ _ _ _ => (d_call h_law_whole (hr.mono (by decide)) (a_cons (dv 0) a_nil)))) a_nil)))))))

abbrev den_law_clause : SM := (seqS (setS 4 (mCall [false, false] fm_law_mix (mCons (mVar 0) (mCons (mVar 1) mNil))))
  (seqS (setS 5 (mBin ixD (mLst (mCons (mC (.int 1)) (mCons (mC (.int 2)) (mCons (mC (.int 3)) (mCons (mC (.int 2)) (mCons (mC (.int 3)) (mCons (mBin modD (mBin divD (mVar 4) (mC (.int 6))) (mBin addD (mVar 3) (mC (.int 1)))) mNil))))))) (mBin modD (mVar 4) (mC (.int 6)))))
  (seqS (setS 6 (mLst mNil))
  (seqS (forS (mRng ints1 (mCons (mVar 5) mNil)) (tgN 7) (seqS (setS 8 (mCall [false, false] fm_law_mix (mCons (mVar 0) (mCons (mBin addD (mBin addD (mVar 1) (mC (.int 1))) (mVar 7)) mNil))))
  (dropS (mAppend 6 (mCons (mBin mulD (mBin addD (mC (.int 1)) (mBin modD (mBin divD (mVar 8) (mC (.int 2))) (mVar 2))) (mBin subD (mC (.int 1)) (mBin mulD (mC (.int 2)) (mBin modD (mVar 8) (mC (.int 2)))))) mNil)))))
  (retS (mCB tupleD (mCons (mVar 6) mNil)))))))
theorem run_law_clause {P : Program} {w : World} {K : PySem.W.Frag} {mg : Str → Option Value} {base : Heap} {f : Addr} {fd : FuncData} (F : Fun K "_law_clause" "_law_clause" s_law_clause f fd) (z_range : mg "range" = none) (z_tuple : mg "tuple" = none)
    (h_law_mix : Has P w K mg base 2 "_law_mix" ["_law_script", "_law_k"] (SpD K [false, false] fm_law_mix)) :
    FnOk P w K mg base CX0 3 f fd ["_law_script", "_law_base", "_law_variables", "_law_most"] (SpD K [false, false, false, false] (runF den_law_clause 9 [false, false, false, false])) :=
  have nd := sc_law_clause.nd
  fun_d (k := 2) F sc_law_clause rfl (fun cdv A outer s H E H0 HK G0 L hr => by
    have hu := hu8 hr
    exact (s_cons (s_set (i := 4) (d_call h_law_mix (hr.mono (by decide)) (a_cons (dv 0) (a_cons (dv 1) a_nil))) nd)
      (s_cons (s_set (i := 5) (d_ix hu (d_lst (a_cons d_int (a_cons d_int (a_cons d_int (a_cons d_int (a_cons d_int (a_cons (d_mod (d_div (dv 4) d_int) (d_add (dv 3) d_int)) a_nil))))))) (d_mod (dv 4) d_int)) nd)
      (s_cons (s_set (i := 6) (d_lst a_nil) nd)
      (s_cons (s_for (i_range1 z_range (a_cons (dv 5) a_nil)) (g_name (i := 7) nd) (s_cons (s_set (i := 8) (d_call h_law_mix (hr.mono (by decide)) (a_cons (dv 0) (a_cons (d_add (d_add (dv 1) d_int) (dv 7)) a_nil))) nd)
      (s_one (s_expr (d_append 6 (dv 6) (a_cons (d_mul (d_add d_int (d_mod (d_div (dv 8) d_int) (dv 2))) (d_sub d_int (d_mul d_int (d_mod (dv 8) d_int)))) a_nil))))))
      (s_one (s_ret (d_tuple z_tuple (a_cons (dv 6) a_nil)))))))))

abbrev den_opened : SM := (seqS (setS 2 mDct0)
  (seqS (forS (mIter (mVar 1)) (tgN 3) (ifS (mTst (mBin neTD (mGet1 (mVar 0) (mCB absD (mCons (mVar 3) mNil))) (mUn negD (mVar 3)))) (putS 2 (mC (.bl true)) (mVar 3)) nxS))
  (retS (mCB listD (mCons (mVar 2) mNil)))))
theorem run_opened {P : Program} {w : World} {K : PySem.W.Frag} {mg : Str → Option Value} {base : Heap} {f : Addr} {fd : FuncData} (F : Fun K "opened" "opened" s_opened f fd) (z_list : mg "list" = none) (z_abs : mg "abs" = none) :
    FnOk P w K mg base CX0 1 f fd ["truths", "clause"] (SpD K [false, false] (runF den_opened 4 [false, false])) :=
  have nd := sc_opened.nd
  fun_d (k := 0) F sc_opened rfl (fun cdv A outer s H E H0 HK G0 L hr => by
    have hu := hu8 hr
    exact (s_cons (s_set (i := 2) d_dct0 nd)
      (s_cons (s_for (i_seq (dv 1)) (g_name (i := 3) nd) (s_one (s_if (t_neX hu (d_get1 hu (dv 0) (d_abs z_abs (a_cons (dv 3) a_nil))) (d_neg (dv 3))) (s_one (s_put 2 hu d_bl (dv 2) (dv 3))) s_nil)))
      (s_one (s_ret (d_list rfl z_list (a_cons (dv 2) a_nil)))))))

abbrev den_has_both : SM := (seqS (setS 1 mDct0)
  (seqS (forS (mIter (mVar 0)) (tgN 2) (seqS (ifS (mTst (mBin inD (mUn negD (mVar 2)) (mVar 1))) (retS (mC (.bl true))) nxS)
  (putS 1 (mC (.bl true)) (mVar 2))))
  (retS (mC (.bl false)))))
theorem run_has_both {P : Program} {w : World} {K : PySem.W.Frag} {mg : Str → Option Value} {base : Heap} {f : Addr} {fd : FuncData} (F : Fun K "has_both" "has_both" s_has_both f fd) :
    FnOk P w K mg base CX0 1 f fd ["clause"] (SpD K [false] (runF den_has_both 3 [false])) :=
  have nd := sc_has_both.nd
  fun_d (k := 0) F sc_has_both rfl (fun cdv A outer s H E H0 HK G0 L hr => by
    have hu := hu8 hr
    exact (s_cons (s_set (i := 1) d_dct0 nd)
      (s_cons (s_for (i_seq (dv 0)) (g_name (i := 2) nd) (s_cons (s_if (t_in hu (d_neg (dv 2)) (dv 1)) (s_one (s_ret d_bl)) s_nil)
      (s_one (s_put 1 hu d_bl (dv 1) (dv 2)))))
      (s_one (s_ret d_bl)))))

abbrev den_law : SM := (seqS (setS 1 (mCall [false, false, false, false] fm_law_clause (mCons (mVar 0) (mCons (mC (.int 0)) (mCons (mC (.int 4)) (mCons (mC (.int 6)) mNil))))))
  (seqS (setS 2 mDct0)
  (seqS (forS (mRng ints1 (mCons (mC (.int 4)) mNil)) (tgN 3) (seqS (setS 4 (mBin modD (mCall [false, false] fm_law_mix (mCons (mVar 0) (mCons (mBin addD (mC (.int 10)) (mVar 3)) mNil))) (mC (.int 3))))
  (ifS (mTst (mBin (cmpI fun i j => decide (j < i)) (mVar 4) (mC (.int 0)))) (putS 2 (mBin mulD (mBin addD (mVar 3) (mC (.int 1))) (mBin subD (mC (.int 3)) (mBin mulD (mC (.int 2)) (mVar 4)))) (mBin addD (mVar 3) (mC (.int 1)))) nxS)))
  (seqS (setS 5 (mLst mNil))
  (seqS (forS (mIter (mVar 1)) (tgN 6) (ifS (mAnd (mTst (mBin eqTD (mGet2 (mVar 2) (mCB absD (mCons (mVar 6) mNil)) (mVar 6)) (mVar 6))) (mTst (mBin notInD (mVar 6) (mVar 5)))) (dropS (mAppend 5 (mCons (mVar 6) mNil))) nxS))
  (seqS (setS 7 (mCB dictD (mCons (mVar 2) mNil)))
  (seqS (setS 8 (mCall [false, false] fm_opened (mCons (mVar 7) (mCons (mVar 1) mNil))))
  (seqS (ifS (mOr (mNot (mTru (mCall [false] fm_law_wholes (mCons (mVar 8) mNil)))) (mOr (mTst (mBin neTD (mVar 8) (mVar 5))) (mTst (mBin neTD (mVar 7) (mVar 2))))) (retS (mC (.bl false))) nxS)
  (seqS (setS 9 (mCall [false] fm_has_both (mCons (mVar 1) mNil)))
  (seqS (setS 10 (mBin (cmpI fun i j => decide (i < j)) (mCB lensetD (mCons (mComp (mIter (mVar 1)) (tgN 0) mYes (mCB absD (mCons (mVar 0) mNil)) 1 []) mNil)) (mCB lensetD (mCons (mVar 1) mNil))))
  (retS (mAndV (mCB isiD (mCons (mVar 9) (mCons (mC (.ty "bool")) mNil))) (mBin eqTD (mVar 9) (mVar 10))))))))))))))
theorem run_law {P : Program} {w : World} {K : PySem.W.Frag} {mg : Str → Option Value} {base : Heap} {f : Addr} {fd : FuncData} (F : Fun K "law" "law" s_law f fd) (z_range : mg "range" = none) (z_dict : mg "dict" = none) (z_len : mg "len" = none) (z_isinstance : mg "isinstance" = none) (z_bool : mg "bool" = none) (z_set : mg "set" = none) (z_abs : mg "abs" = none)
    (h_law_clause : Has P w K mg base 3 "_law_clause" ["_law_script", "_law_base", "_law_variables", "_law_most"] (SpD K [false, false, false, false] fm_law_clause))
    (h_opened : Has P w K mg base 1 "opened" ["truths", "clause"] (SpD K [false, false] fm_opened))
    (h_has_both : Has P w K mg base 1 "has_both" ["clause"] (SpD K [false] fm_has_both))
    (h_law_mix : Has P w K mg base 2 "_law_mix" ["_law_script", "_law_k"] (SpD K [false, false] fm_law_mix))
    (h_law_wholes : Has P w K mg base 2 "_law_wholes" ["_law_found"] (SpD K [false] fm_law_wholes)) :
    FnOk P w K mg base CX0 4 f fd ["_law_script"] (SpD K [false] (runF den_law 11 [false])) :=
  have nd := sc_law.nd
  fun_d (k := 3) F sc_law rfl (fun cdv A outer s H E H0 HK G0 L hr => by
    have hu := hu8 hr
    exact (s_cons (s_set (i := 1) (d_call h_law_clause (hr.mono (by decide)) (a_cons (dv 0) (a_cons d_int (a_cons d_int (a_cons d_int a_nil))))) nd)
      (s_cons (s_set (i := 2) d_dct0 nd)
      (s_cons (s_for (i_range1 z_range (a_cons d_int a_nil)) (g_name (i := 3) nd) (s_cons (s_set (i := 4) (d_mod (d_call h_law_mix (hr.mono (by decide)) (a_cons (dv 0) (a_cons (d_add d_int (dv 3)) a_nil))) d_int) nd)
      (s_one (s_if (t_gt (dv 4) d_int) (s_one (s_put 2 hu (d_mul (d_add (dv 3) d_int) (d_sub d_int (d_mul d_int (dv 4)))) (dv 2) (d_add (dv 3) d_int))) s_nil))))
      (s_cons (s_set (i := 5) (d_lst a_nil) nd)
      (s_cons (s_for (i_seq (dv 1)) (g_name (i := 6) nd) (s_one (s_if ((w_and (t_eqX hu (d_get2 hu (dv 2) (d_abs z_abs (a_cons (dv 6) a_nil)) (dv 6)) (dv 6)) (w_and1 (t_notIn hu (dv 6) (dv 5))))).pt (s_one (s_expr (d_append 5 (dv 5) (a_cons (dv 6) a_nil)))) s_nil)))
      (s_cons (s_set (i := 7) (d_dict z_dict (a_cons (dv 2) a_nil)) nd)
      (s_cons (s_set (i := 8) (d_call h_opened (hr.mono (by decide)) (a_cons (dv 7) (a_cons (dv 1) a_nil))) nd)
      (s_cons (s_if ((w_or (t_not (t_tru (d_call h_law_wholes (hr.mono (by decide)) (a_cons (dv 8) a_nil)))) (w_or (t_neX hu (dv 8) (dv 5)) (w_or1 (t_neX hu (dv 7) (dv 2)))))).pt (s_one (s_ret d_bl)) s_nil)
      (s_cons (s_set (i := 9) (d_call h_has_both (hr.mono (by decide)) (a_cons (dv 1) a_nil)) nd)
      (s_cons (s_set (i := 10) (d_lt (d_lenset rfl z_len z_set (a_cons (d_comp (blkL [] trivial) (i_seq (dv 1)) (fun _ _ _ _ _ _ _ _ _ => f_nil) (fun _ _ _ _ _ _ _ _ _ => (d_abs z_abs (a_cons (dv 0) a_nil)))) a_nil)) (d_lenset rfl z_len z_set (a_cons (dv 1) a_nil))) nd)
      (s_one (s_ret (d_and (d_isi z_isinstance (a_cons (dv 9) (a_cons (d_ty z_bool PyProof.Rows.boot_bool) a_nil))) (d_one (d_eqX hu (dv 9) (dv 10)))))))))))))))))

/-! ### a walk through a denotation, by big steps -/
theorem op_ixD {a b : D} {w : W} (h : ixD a b = some w) : ixD a b = some w := h
theorem op_eqTD {a b : D} {w : W} (h : eqTD a b = some w) : eqTD a b = some w := h
theorem op_neTD {a b : D} {w : W} (h : neTD a b = some w) : neTD a b = some w := h
theorem op_inD {a b : D} {w : W} (h : inD a b = some w) : inD a b = some w := h
theorem op_notInD {a b : D} {w : W} (h : notInD a b = some w) : notInD a b = some w := h
theorem ev_dct0 {ρ : Env'} : mDct0 ρ = some (.ok (.own (.dct [])) ρ) := rfl
theorem ev_to {s1 : SM} {ρ ρ1 ρ2 : Env'} (h : s1 ρ = some (.nx ρ1)) (e : ρ1 = ρ2) : s1 ρ = some (.nx ρ2) := e ▸ h
local macro_rules | `(tactic| walk_at "op") => `(tactic| first
  | with_reducible assumption
  | (with_reducible apply op_modD
     · first | decide | omega | assumption)
  | (with_reducible apply op_divD
     · first | exact ⟨by decide, by decide⟩ | assumption | exact ⟨by omega, by omega⟩)
  | (with_reducible apply op_mulD
     · first | exact .inl ⟨by decide, by decide⟩ | exact .inr ⟨by decide, by decide⟩ | assumption | exact .inl ⟨by omega, by omega⟩ | exact .inr ⟨by omega, by omega⟩)
  | (with_reducible apply op_ixD
     · first | assumption | rfl)
  | (with_reducible apply op_eqTD
     · first | assumption | rfl)
  | (with_reducible apply op_neTD
     · first | assumption | rfl)
  | (with_reducible apply op_inD
     · first | assumption | rfl)
  | (with_reducible apply op_notInD
     · first | assumption | rfl)
  | rfl
  | assumption)
local macro_rules | `(tactic| walk_at "ev") => `(tactic| first
  | with_reducible assumption
  | with_reducible exact ev_C
  | with_reducible exact ev_nil
  | with_reducible exact ev_dct0
  | with_reducible exact ev_nx
  | (with_reducible apply ev_to ev_nx
     · rfl)
  | (with_reducible apply ev_var
     · rfl)
  | (with_reducible apply ev_cons
     · walk_at "ev"
     · walk_at "ev")
  | (with_reducible apply ev_bin
     · walk_at "ev"
     · walk_at "ev"
     · rfl
     · rfl
     · walk_at "op")
  | (with_reducible apply ev_un
     · walk_at "ev"
     · rfl
     · walk_at "op")
  | (with_reducible apply ev_CB
     · walk_at "ev"
     · rfl
     · walk_at "op")
  | (with_reducible apply ev_call0
     · walk_at "ev"
     · rfl
     · rfl
     · walk_at "fm"
     · rfl
     · rfl)
  | (with_reducible apply ev_tst
     · walk_at "ev")
  | (with_reducible apply ev_tru
     · walk_at "ev"
     · rfl
     · walk_at "op")
  | (with_reducible apply ev_set
     · walk_at "ev"
     · rfl)
  | (with_reducible apply ev_ret
     · walk_at "ev"
     · rfl)
  | (with_reducible apply ev_drop
     · walk_at "ev")
  | (with_reducible apply ev_lst
     · walk_at "ev"
     · rfl
     · first | assumption | exact Nat.le_of_ble_eq_true rfl)
  | (with_reducible apply ev_tup
     · walk_at "ev"
     · rfl
     · first | assumption | exact Nat.le_of_ble_eq_true rfl)
  | (with_reducible apply ev_seq
     · walk_at "ev"
     · walk_at "ev")
  | (with_reducible apply ev_not
     · walk_at "ev")
  | (with_reducible apply ev_notV
     · walk_at "ev"
     · rfl)
  | (with_reducible apply ev_put
     · walk_at "ev"
     · rfl
     · walk_at "ev"
     · rfl
     · rfl
     · walk_at "fm")
  | (with_reducible apply ev_get1
     · walk_at "ev"
     · rfl
     · walk_at "ev"
     · rfl
     · rfl
     · rfl)
  | (with_reducible apply ev_get2
     · walk_at "ev"
     · rfl
     · walk_at "ev"
     · walk_at "ev"
     · rfl
     · rfl
     · rfl
     · rfl)
  | (with_reducible apply ev_append
     · rfl
     · walk_at "ev"
     · rfl
     · rfl
     · walk_at "fm")
  | (with_reducible apply ev_for
     · walk_at "ev"
     · walk_at "fm")
  | (with_reducible apply ev_rng
     · walk_at "ev"
     · rfl
     · walk_at "op")
  | (with_reducible apply ev_iter
     · walk_at "ev"
     · rfl
     · rfl)
  | (with_reducible apply ev_call
     · walk_at "ev"
     · rfl
     · rfl
     · walk_at "fm"
     · rfl
     · first | rfl | assumption)
  | (with_reducible apply ev_andVT
     · walk_at "ev"
     · rfl
     · rfl
     · walk_at "ev")
  | (with_reducible apply ev_and
     · walk_at "ev"
     · walk_at "ev")
  | (with_reducible apply ev_or
     · walk_at "ev"
     · walk_at "ev")
  | (with_reducible apply ev_comp
     · walk_at "ev"
     · walk_at "fm"
     · walk_at "fm"
     · first | exact .inr rfl | exact .inl (by assumption)))

/-! ### the specs of the helpers -/
theorem intsOf_map (ns : List Int) : intsOf (ns.map D.int) = some ns := by
  induction ns with
  | nil => rfl
  | cons n r ih => simp [intsOf, ih]
theorem atI_map {α β : Type} (f : α → β) (xs : List α) (i : Int) : L2.atI (xs.map f) i = (L2.atI xs i).map f := by
  unfold L2.atI
  rw [List.length_map]
  cases ixN xs.length i with
  | none => rfl
  | some j => simp
theorem cell_atN {ns : List Int} {k : Int} (h : ns ≠ []) : L2.atI ns (k % (ns.length : Int)) = some (cellV ns k) := by
  have q := cell_at (ns := ns) (k := k) h
  rw [atI_map, List.length_map] at q
  cases e : L2.atI ns (k % (ns.length : Int)) with
  | none => rw [e] at q; cases q
  | some v =>
    rw [e] at q
    have : V.int v = V.int (cellV ns k) := Option.some.inj q
    injection this with z
    rw [z]
theorem all_flat_ints (ns : List Int) : (ns.map D.int).all flatD = true := by
  rw [List.all_map, List.all_eq_true]
  intro x _
  rfl
theorem flat_tup_ints (ns : List Int) : flatW (.val (.tup (ns.map D.int))) = true := by
  show (ns.map D.int).all (flatN 5) = true
  rw [List.all_map, List.all_eq_true]
  intro x _
  rfl
theorem fe_cell {ns : List Int} {k : Int} : fm_law_cell [.lst (ns.map D.int), .int k] = some (.ret (.val (.int (cellV ns k))) []) := by
  show (intsOf (ns.map D.int)).map _ = _
  rw [intsOf_map]
  rfl
theorem fe_mix {ns : List Int} {k : Int} : fm_law_mix [.lst (ns.map D.int), .int k] = some (.ret (.val (.int (mixV ns k))) []) := by
  show (intsOf (ns.map D.int)).map _ = _
  rw [intsOf_map]
  rfl

local macro_rules | `(tactic| walk_at "fm") => `(tactic| first | assumption | exact fe_cell | exact fe_mix | rfl)
theorem spec_law_cell : ∀ ds r, fm_law_cell ds = some r → runF den_law_cell 2 [false, false] ds = some r := by
  intro ds r h
  match ds, h with
  | [.lst ds, .int k], h =>
    cases hb : intsOf ds with
    | none => simp [fm_law_cell, hb] at h
    | some ns =>
      have := intsOf_eq hb
      subst this
      rw [fe_cell] at h
      cases h
      cases ns with
      | nil => rfl
      | cons n r =>
        have q : ixD (.lst ((n :: r).map D.int)) (.int (k % ((((n :: r).map D.int).length : Nat) : Int))) = some (.val (.int (cellV (n :: r) k))) := by
          show (L2.atI _ _).map _ = _
          rw [List.length_map, atI_map, cell_atN (by simp)]
          rfl
        have hp : (0 : Int) < ((((n :: r).map D.int).length : Nat) : Int) := by simp
        apply run_of
        · apply ev_seqR
          apply ev_ifT
          · walk_at "ev"
          · rfl
          · walk_at "ev"
        · rfl
theorem spec_law_mix : ∀ ds r, fm_law_mix ds = some r → runF den_law_mix 3 [false, false] ds = some r := by
  intro ds r h
  match ds, h with
  | [.lst ds, .int k], h =>
    cases hb : intsOf ds with
    | none => simp [fm_law_mix, hb] at h
    | some ns =>
      have := intsOf_eq hb
      subst this
      rw [fe_mix] at h
      cases h
      apply run_of
      · walk_at "ev"
      · rfl
theorem spec_law_whole : ∀ ds r, fm_law_whole ds = some r → runF den_law_whole 1 [false] ds = some r := by
  intro ds r h
  match ds, h with
  | [d], h =>
    obtain ⟨hn, h⟩ := grd_some h
    cases h
    cases d <;> first | rfl | cases hn
theorem fe_whole {d : D} (h : noTy d = true) : fm_law_whole [d] = some (.ret (.val (.bl (isWholeD d))) []) := grd_pos h
theorem bls_map (f : D → Bool) (ds : List D) : blsOf (ds.map fun d => D.bl (f d)) = some (ds.map f) := by
  induction ds with
  | nil => rfl
  | cons d r ih => simp [blsOf, ih]
theorem spec_law_wholes : ∀ ds r, fm_law_wholes ds = some r → runF den_law_wholes 1 [false] ds = some r := by
  intro ds r h
  match ds, h with
  | [.lst ds], h =>
    obtain ⟨⟨hn, hz⟩, h⟩ := grd_some h
    cases h
    rw [List.all_eq_true] at hn
    have hc : compL (tgN 0) mYes (mCall [false] fm_law_whole (mCons (mVar 0) mNil)) (seenE 1 [] (startE 1 [false] [.lst ds])) ds = some (ds.map fun d => D.bl (isWholeD d)) := by
      apply compL_map
      intro d hd
      have hw := fe_whole (hn d hd)
      refine' ⟨_, _, _, _, rfl, ?x, ?y⟩
      case x => walk_at "ev"
      case y => rfl
    have hf : (ds.map fun d => D.bl (isWholeD d)).all flatD = true := by
      rw [List.all_map, List.all_eq_true]
      intro x _
      rfl
    have ha : allD [.lst (ds.map fun d => D.bl (isWholeD d))] = some (.val (.bl (ds.all isWholeD))) := by
      show (blsOf _).bind _ = _
      rw [bls_map]
      show vB _ = _
      rw [List.all_map]
      rfl
    have hm := ev_comp (mi := mIter (mVar 0)) (ρ := startE 1 [false] [.lst ds]) (by walk_at "ev") hz hc (.inl hf)
    apply run_of
    · apply ev_ret
      · apply ev_andVT
        · walk_at "ev"
        · rfl
        · rfl
        · walk_at "ev"
      · rfl
    · rfl

/-! ### a clause of the law -/
def toI : D → Int
  | .int i => i
  | _ => 0
theorem size_at (m x most : Int) (hx : x = m / 6 % (most + 1)) : ixD (.lst [.int 1, .int 2, .int 3, .int 2, .int 3, .int x]) (.int (m % 6)) = some (.val (.int (sizeV m most))) := by
  have h : m % 6 = 0 ∨ m % 6 = 1 ∨ m % 6 = 2 ∨ m % 6 = 3 ∨ m % 6 = 4 ∨ m % 6 = 5 := by omega
  unfold sizeV
  subst hx
  rcases h with h | h | h | h | h | h <;> rw [h] <;> rfl
theorem size_lo (m most : Int) (h : 0 ≤ most) : 0 ≤ sizeV m most := by
  unfold sizeV
  have := Int.emod_nonneg (m / 6) (b := most + 1) (by omega)
  split <;> (try split) <;> (try split) <;> (try split) <;> (try split) <;> omega
theorem size_hi (m most : Int) (h : 0 ≤ most) : sizeV m most ≤ most + 3 := by
  unfold sizeV
  have := Int.emod_lt_of_pos (m / 6) (b := most + 1) (by omega)
  split <;> (try split) <;> (try split) <;> (try split) <;> (try split) <;> omega
theorem fe_clause {ns : List Int} {b v most : Int} (h1 : 0 < v) (h2 : v < 1000) (h3 : 0 ≤ most) (h4 : most < 1000) : fm_law_clause [.lst (ns.map D.int), .int b, .int v, .int most] = some (.ret (.val (.tup ((clauseV ns b v most).map D.int))) []) := by
  show (intsOf (ns.map D.int)).bind _ = _
  rw [intsOf_map]
  exact grd_pos ⟨h1, h2, h3, h4⟩
def clauseG (ns : List Int) (b v most : Int) (n sz : Int) (pre : List D) : Env' := [some (.sh (.lst (ns.map D.int))), some (.sh (.int b)), some (.sh (.int v)), some (.sh (.int most)), some (.sh (.int n)), some (.sh (.int sz)),
  some (.ow false (.lst (pre.map fun d => D.int (litV (mixV ns (b + 1 + toI d)) v)))), pre.getLast?.map fun d => C.sh d, pre.getLast?.map fun d => C.sh (.int (mixV ns (b + 1 + toI d)))]
theorem spec_law_clause : ∀ ds r, fm_law_clause ds = some r → runF den_law_clause 9 [false, false, false, false] ds = some r := by
  intro ds r h
  match ds, h with
  | [.lst ds, .int b, .int v, .int most], h =>
    cases hb : intsOf ds with
    | none => simp [fm_law_clause, hb] at h
    | some ns =>
      have := intsOf_eq hb
      subst this
      have h' : (intsOf (ns.map D.int)).bind _ = some r := h
      rw [intsOf_map] at h'
      obtain ⟨⟨h1, h2, h3, h4⟩, _⟩ := grd_some h'
      rw [fe_clause h1 h2 h3 h4] at h
      cases h
      have hsz := size_at (mixV ns b) (mixV ns b / 6 % (most + 1)) most rfl
      have hlo := size_lo (mixV ns b) most h3
      have hhi := size_hi (mixV ns b) most h3
      generalize hS : sizeV (mixV ns b) most = S at hsz hlo hhi
      have hi : ints1 [.int S] = some ((List.range S.toNat).map fun k => D.int (0 + ((k : Nat) : Int))) := grd_pos ⟨by omega, by omega⟩
      have hl := forL_fold (ds := (List.range S.toNat).map fun k => D.int (0 + ((k : Nat) : Int))) (tg := tgN 7) (s1 := (seqS (setS 8 (mCall [false, false] fm_law_mix (mCons (mVar 0) (mCons (mBin addD (mBin addD (mVar 1) (mC (.int 1))) (mVar 7)) mNil))))
  (dropS (mAppend 6 (mCons (mBin mulD (mBin addD (mC (.int 1)) (mBin modD (mBin divD (mVar 8) (mC (.int 2))) (mVar 2))) (mBin subD (mC (.int 1)) (mBin mulD (mC (.int 2)) (mBin modD (mVar 8) (mC (.int 2)))))) mNil))))) (clauseG ns b v most (mixV ns b) S) (by
        intro pre d post e
        have hd : d ∈ ((List.range S.toNat).map fun k => D.int (0 + ((k : Nat) : Int))) := by rw [e]; simp
        obtain ⟨k, _, rfl⟩ := List.mem_map.mp hd
        have hz : small (pre.map fun d => D.int (litV (mixV ns (b + 1 + toI d)) v)).length := by
          have := congrArg List.length e
          simp at this
          show List.length _ ≤ 1000000
          rw [List.length_map]
          omega
        refine ⟨_, rfl, .inl ?_⟩
        apply ev_to
        · walk_at "ev"
        · simp [clauseG, litV, toI])
      apply run_of
      · walk_at "ev"
      · simp [clauseG, outS, finsOf, clauseV, hS, toI, Function.comp_def]

/-! ### opened, has_both -/
def keyed (acc : List Int) : List (Key × D) := acc.map fun l => (.inl l, .bl true)
theorem pairsOf_eq : ∀ {es : List (Key × D)} {ts : List (Int × Int)}, pairsOf es = some ts → es = dctI ts
  | [], ts, h => by cases h; rfl
  | (.inl k, .int v) :: r, ts, h => by
    cases hr : pairsOf r with
    | none => simp [pairsOf, hr] at h
    | some t2 =>
      simp [pairsOf, hr] at h
      subst h
      rw [pairsOf_eq hr]
      rfl
  | (.inr k, _) :: r, ts, h => by simp [pairsOf] at h
  | (.inl k, .non) :: r, ts, h => by simp [pairsOf] at h
  | (.inl k, .bl _) :: r, ts, h => by simp [pairsOf] at h
  | (.inl k, .str _) :: r, ts, h => by simp [pairsOf] at h
  | (.inl k, .tup _) :: r, ts, h => by simp [pairsOf] at h
  | (.inl k, .lst _) :: r, ts, h => by simp [pairsOf] at h
  | (.inl k, .dct _) :: r, ts, h => by simp [pairsOf] at h
  | (.inl k, .ty _) :: r, ts, h => by simp [pairsOf] at h
theorem pairsOf_map (ts : List (Int × Int)) : pairsOf (dctI ts) = some ts := by
  induction ts with
  | nil => rfl
  | cons t r ih =>
    show (pairsOf (dctI r)).map _ = _
    rw [ih]
    rfl
theorem val_dctI (ts : List (Int × Int)) (k : Int) : valD (dctI ts) (.inl k) = (lookI ts k).map D.int := by
  induction ts with
  | nil => rfl
  | cons t r ih =>
    unfold valD lookI dctI at *
    rw [List.map_cons, List.find?_cons, List.find?_cons]
    by_cases h : t.1 = k
    · simp [h]
    · have h2 : decide ((Sum.inl t.1 : Key) = Sum.inl k) = false := by simp [h]
      simp only [h2, decide_eq_false h]
      exact ih
theorem val_keyed (acc : List Int) (k : Int) : (valD (keyed acc) (.inl k)).isSome = decide (k ∈ acc) := by
  induction acc with
  | nil => rfl
  | cons t r ih =>
    unfold valD keyed at *
    rw [List.map_cons, List.find?_cons]
    by_cases h : t = k
    · simp [h]
    · have h' : ¬ k = t := fun e => h e.symm
      have h2 : decide ((Sum.inl t : Key) = Sum.inl k) = false := by simp [h]
      simp only [h2]
      rw [ih]
      simp [h']
theorem ne_look {ts : List (Int × Int)} {k j : Int} : neTD ((valD (dctI ts) (.inl k)).getD .non) (.int j) = some (.val (.bl (decide (lookI ts k ≠ some j)))) := by
  rw [val_dctI]
  cases lookI ts k with
  | none => rfl
  | some v =>
    show some (W.val (.bl (!(v == j)))) = _
    by_cases h : v = j <;> simp [h]
theorem put_keyed (acc : List Int) (l : Int) : putD (keyed acc) (.inl l) (.bl true) = keyed (addI acc l) := by
  unfold putD addI
  by_cases h : l ∈ acc
  · rw [if_pos h, if_pos (by simp [keyed, h])]
    unfold keyed
    rw [List.map_map]
    apply List.map_congr_left
    intro x _
    simp
  · rw [if_neg h, if_neg (by simpa [keyed] using h)]
    simp [keyed]
theorem addI_len (acc : List Int) (l : Int) : (addI acc l).length ≤ acc.length + 1 := by unfold addI; split <;> simp
theorem openF_len (ts : List (Int × Int)) (acc : List Int) (l : Int) : (openF ts acc l).length ≤ acc.length + 1 := by
  unfold openF
  split
  · omega
  · exact addI_len _ _
theorem open_len' (ts : List (Int × Int)) : ∀ (ls acc : List Int), (ls.foldl (openF ts) acc).length ≤ acc.length + ls.length
  | [], acc => by simp
  | l :: ls, acc => by
    have := open_len' ts ls (openF ts acc l)
    have := openF_len ts acc l
    simp only [List.foldl_cons, List.length_cons]
    omega
theorem open_len (ts : List (Int × Int)) (ls : List Int) : (openV ts ls).length ≤ ls.length := by
  have := open_len' ts ls []
  simp at this
  exact this
theorem open_snoc (ts : List (Int × Int)) (ls : List Int) (l : Int) : openV ts (ls ++ [l]) = openF ts (openV ts ls) l := by simp [openV, List.foldl_append]
theorem fe_opened {ts : List (Int × Int)} {ls : List Int} (h : ls.length ≤ 1000) : fm_opened [.dct (dctI ts), .tup (ls.map D.int)] = some (.ret (.own (.lst ((openV ts ls).map D.int))) []) := by
  show (pairsOf (dctI ts)).bind _ = _
  rw [pairsOf_map]
  show (intsOf (ls.map D.int)).bind _ = _
  rw [intsOf_map]
  exact grd_pos h
theorem fe_both {ls : List Int} (h : ls.length ≤ 1000) : fm_has_both [.tup (ls.map D.int)] = some (.ret (.val (.bl (bothF [] ls))) []) := by
  show (intsOf (ls.map D.int)).bind _ = _
  rw [intsOf_map]
  exact grd_pos h
def openG (ts : List (Int × Int)) (ls : List Int) (pre : List D) : Env' := [some (.sh (.dct (dctI ts))), some (.sh (.tup (ls.map D.int))), some (.ow false (.dct (keyed (openV ts (pre.map toI))))), pre.getLast?.map fun d => C.sh d]
theorem spec_opened : ∀ ds r, fm_opened ds = some r → runF den_opened 4 [false, false] ds = some r := by
  intro ds r h
  match ds, h with
  | [.dct es, .tup ds], h =>
    cases hp : pairsOf es with
    | none => simp [fm_opened, hp] at h
    | some ts =>
    cases hb : intsOf ds with
    | none => simp [fm_opened, hp, hb] at h
    | some ls =>
      have := intsOf_eq hb
      subst this
      have := pairsOf_eq hp
      subst this
      have hlen : ls.length ≤ 1000 := by
        have h' : (pairsOf (dctI ts)).bind _ = some r := h
        rw [pairsOf_map] at h'
        have h2 : (intsOf (ls.map D.int)).bind _ = some r := h'
        rw [intsOf_map] at h2
        exact (grd_some h2).1
      rw [fe_opened hlen] at h
      cases h
      have hl := forL_fold (ds := ls.map D.int) (tg := tgN 3) (s1 := (ifS (mTst (mBin neTD (mGet1 (mVar 0) (mCB absD (mCons (mVar 3) mNil))) (mUn negD (mVar 3)))) (putS 2 (mC (.bl true)) (mVar 3)) nxS)) (openG ts ls) (by
        intro pre d post e
        have hd : d ∈ ls.map D.int := by rw [e]; simp
        obtain ⟨l, _, rfl⟩ := List.mem_map.mp hd
        have hz : small (keyed (openV ts (pre.map toI))).length := by
          have := congrArg List.length e
          have := open_len ts (pre.map toI)
          simp [keyed] at *
          show List.length _ ≤ 1000000
          omega
        have hn := ne_look (ts := ts) (k := l.natAbs) (j := -l)
        refine ⟨_, rfl, .inl ?_⟩
        by_cases hc : lookI ts l.natAbs = some (-l)
        · apply ev_to
          · apply ev_ifF
            · walk_at "ev"
            · simp [hc]
            · walk_at "ev"
          · simp [openG, open_snoc, toI, openF, hc]
        · have hput : putTo 2 (.int l) (.bl true) ((openG ts ls pre).set 3 (some (.sh (.int l)))) = some (.nx (((openG ts ls pre).set 3 (some (.sh (.int l)))).set 2 (some (.ow false (.dct (keyed (addI (openV ts (pre.map toI)) l))))))) := by
            rw [← put_keyed]
            exact grd_pos hz
          apply ev_to
          · apply ev_ifT
            · walk_at "ev"
            · simp [hc]
            · walk_at "ev"
          · simp [openG, open_snoc, toI, openF, hc])
      apply run_of
      · walk_at "ev"
      · simp [openG, outS, finsOf, keyed, toI, Function.comp_def]

theorem both_loop (L : List D) : ∀ (ls acc : List Int) (o : Option C), acc.length + ls.length ≤ 1000 → ∃ b c, forL (tgN 2) (seqS (ifS (mTst (mBin inD (mUn negD (mVar 2)) (mVar 1))) (retS (mC (.bl true))) nxS)
  (putS 1 (mC (.bl true)) (mVar 2))) (ls.map D.int) [some (.sh (.tup L)), some (.ow false (.dct (keyed acc))), o] = if bothF acc ls = true then some (.rt (.val (.bl true)) [some (.sh (.tup L)), b, c]) else some (.nx [some (.sh (.tup L)), b, c])
  | [], acc, o, _ => ⟨_, _, rfl⟩
  | l :: ls, acc, o, hz => by
    have hin : inD (.int (-l)) (.dct (keyed acc)) = some (.val (.bl (decide (-l ∈ acc)))) := by
      show some (W.val (.bl (valD (keyed acc) (.inl (-l))).isSome)) = _
      rw [val_keyed]
    by_cases hc : -l ∈ acc
    · refine ⟨some (.ow false (.dct (keyed acc))), some (.sh (.int l)), ?_⟩
      rw [if_pos (by simp [bothF, hc])]
      have hb : (seqS (ifS (mTst (mBin inD (mUn negD (mVar 2)) (mVar 1))) (retS (mC (.bl true))) nxS) (putS 1 (mC (.bl true)) (mVar 2))) [some (.sh (.tup L)), some (.ow false (.dct (keyed acc))), some (.sh (.int l))] = some (.rt (.val (.bl true)) [some (.sh (.tup L)), some (.ow false (.dct (keyed acc))), some (.sh (.int l))]) := by
        apply ev_seqR
        apply ev_ifT
        · walk_at "ev"
        · simp [hc]
        · walk_at "ev"
      rw [List.map_cons]
      unfold forL
      simp only [show tgN 2 (D.int l) [some (.sh (.tup L)), some (.ow false (.dct (keyed acc))), o] = some [some (.sh (.tup L)), some (.ow false (.dct (keyed acc))), some (.sh (.int l))] from rfl, hb]
    · obtain ⟨b, c, ih⟩ := both_loop L ls (addI acc l) (some (.sh (.int l))) (by have := addI_len acc l; simp at hz; omega)
      refine ⟨b, c, ?_⟩
      have hz2 : small (keyed acc).length := by
        show List.length _ ≤ 1000000
        simp [keyed] at *
        omega
      have hput : putTo 1 (.int l) (.bl true) [some (.sh (.tup L)), some (.ow false (.dct (keyed acc))), some (.sh (.int l))] = some (.nx [some (.sh (.tup L)), some (.ow false (.dct (keyed (addI acc l)))), some (.sh (.int l))]) := by
        rw [← put_keyed]
        exact grd_pos hz2
      have hb : (seqS (ifS (mTst (mBin inD (mUn negD (mVar 2)) (mVar 1))) (retS (mC (.bl true))) nxS) (putS 1 (mC (.bl true)) (mVar 2))) [some (.sh (.tup L)), some (.ow false (.dct (keyed acc))), some (.sh (.int l))] = some (.nx [some (.sh (.tup L)), some (.ow false (.dct (keyed (addI acc l)))), some (.sh (.int l))]) := by
        apply ev_seq
        · apply ev_ifF
          · walk_at "ev"
          · simp [hc]
          · walk_at "ev"
        · walk_at "ev"
      rw [List.map_cons]
      unfold forL
      simp only [show tgN 2 (D.int l) [some (.sh (.tup L)), some (.ow false (.dct (keyed acc))), o] = some [some (.sh (.tup L)), some (.ow false (.dct (keyed acc))), some (.sh (.int l))] from rfl, hb]
      rw [ih]
      simp [bothF, hc]
theorem spec_has_both : ∀ ds r, fm_has_both ds = some r → runF den_has_both 3 [false] ds = some r := by
  intro ds r h
  match ds, h with
  | [.tup ds], h =>
    cases hb : intsOf ds with
    | none => simp [fm_has_both, hb] at h
    | some ls =>
      have := intsOf_eq hb
      subst this
      have hlen : ls.length ≤ 1000 := by
        have h2 : (intsOf (ls.map D.int)).bind _ = some r := h
        rw [intsOf_map] at h2
        exact (grd_some h2).1
      rw [fe_both hlen] at h
      cases h
      obtain ⟨b, c, hl⟩ := both_loop (ls.map D.int) ls [] none (by simpa using hlen)
      cases hB : bothF [] ls with
      | true =>
        rw [hB, if_pos rfl] at hl
        apply run_of
        · apply ev_seq
          · walk_at "ev"
          · apply ev_seqR
            walk_at "ev"
        · rfl
      | false =>
        rw [hB, if_neg (by simp)] at hl
        apply run_of
        · apply ev_seq
          · walk_at "ev"
          · apply ev_seq
            · walk_at "ev"
            · walk_at "ev"
        · rfl
/-! ### how many are met -/
theorem met_eq (ns : List Int) : metF ns ns.length = ns.foldl addI [] := by
  have e : (List.range ns.length).map (fun i => ns.getD i 0) = ns := by
    apply List.ext_getElem
    · simp
    · intro i h1 h2
      simp at h1
      simp [h1]
  show ((List.range ns.length).map _).foldl PyProof.Rows.step_dedup [] = _
  rw [e]
  congr 1
  funext acc x
  unfold PyProof.Rows.step_dedup addI
  by_cases h : x ∈ acc <;> simp [h]
abbrev ab (l : Int) : Int := (l.natAbs : Int)
theorem met_lt : ∀ (ls acc A : List Int), (∀ x ∈ acc, ab x ∈ A) → A.length < acc.length → ((ls.map ab).foldl addI A).length < (ls.foldl addI acc).length
  | [], acc, A, _, h => h
  | l :: ls, acc, A, hm, h => by
    simp only [List.map_cons, List.foldl_cons]
    by_cases h1 : l ∈ acc
    · have h2 := hm l h1
      have e1 : addI acc l = acc := if_pos h1
      have e2 : addI A (ab l) = A := if_pos h2
      rw [e1, e2]
      exact met_lt ls acc A hm h
    · have e1 : addI acc l = acc ++ [l] := if_neg h1
      rw [e1]
      have := addI_len A (ab l)
      refine met_lt ls _ _ (fun x hx => ?_) (by simp; omega)
      rw [List.mem_append, List.mem_singleton] at hx
      unfold addI
      rcases hx with hx | rfl
      · have := hm x hx
        split <;> simp [this]
      · split
        · assumption
        · simp
theorem met_both : ∀ (ls acc : List Int), (∀ l ∈ ls, l ≠ 0) → (∀ x ∈ acc, -x ∉ acc) → decide (((ls.map ab).foldl addI (acc.map ab)).length < (ls.foldl addI acc).length) = bothF acc ls
  | [], acc, _, _ => by simp [bothF]
  | l :: ls, acc, h0, hn => by
    have hl := h0 l List.mem_cons_self
    simp only [List.map_cons, List.foldl_cons, bothF]
    by_cases hc : -l ∈ acc
    · have h1 : l ∉ acc := fun h => hn l h hc
      have e1 : addI acc l = acc ++ [l] := if_neg h1
      have h2 : ab l ∈ acc.map ab := List.mem_map.mpr ⟨-l, hc, by simp [ab]⟩
      have e2 : addI (acc.map ab) (ab l) = acc.map ab := if_pos h2
      rw [e1, e2]
      have := met_lt ls (acc ++ [l]) (acc.map ab) (fun x hx => by
        rw [List.mem_append, List.mem_singleton] at hx
        rcases hx with hx | rfl
        · exact List.mem_map_of_mem hx
        · exact h2) (by simp)
      simp [hc, this]
    · have e2 : addI (acc.map ab) (ab l) = (addI acc l).map ab := by
        unfold addI
        by_cases h1 : l ∈ acc
        · rw [if_pos h1, if_pos (List.mem_map_of_mem h1)]
        · rw [if_neg h1, if_neg]
          · simp
          · intro h
            obtain ⟨x, hx, e⟩ := List.mem_map.mp h
            have : x = l ∨ x = -l := by unfold ab at e; omega
            rcases this with rfl | rfl
            · exact h1 hx
            · exact hc hx
      rw [e2, met_both ls (addI acc l) (fun x hx => h0 x (List.mem_cons_of_mem _ hx)) (fun x hx => by
        unfold addI at *
        by_cases h1 : l ∈ acc
        · rw [if_pos h1] at *
          exact hn x hx
        · rw [if_neg h1] at *
          rw [List.mem_append, List.mem_singleton] at *
          rcases hx with hx | rfl
          · rintro (h | h)
            · exact hn x hx h
            · exact hc (by rw [← h, Int.neg_neg]; exact hx)
          · rintro (h | h)
            · exact hc h
            · omega)]
      simp [hc]

/-! ### the law -/
theorem lit_ne {p v : Int} (h : 0 < v) : litV p v ≠ 0 := by
  unfold litV
  have h1 := Int.emod_nonneg (p / 2) (b := v) (by omega)
  have h2 : p % 2 = 0 ∨ p % 2 = 1 := by omega
  rcases h2 with h2 | h2 <;> rw [h2]
  · omega
  · intro h
    omega
theorem clause_ne {ns : List Int} {b v most : Int} (h : 0 < v) : ∀ l ∈ clauseV ns b v most, l ≠ 0 := by
  intro l hl
  obtain ⟨k, _, rfl⟩ := List.mem_map.mp hl
  exact lit_ne h
theorem clause_len {ns : List Int} {b v most : Int} (h : 0 ≤ most) (h' : most < 997) : (clauseV ns b v most).length ≤ 1000 := by
  unfold clauseV
  rw [List.length_map, List.length_range]
  have := size_hi (mixV ns b) most h
  omega
theorem look_mem {ts : List (Int × Int)} {k v : Int} (h : lookI ts k = some v) : (k, v) ∈ ts := by
  unfold lookI at h
  cases e : ts.find? fun kv => decide (kv.1 = k) with
  | none => rw [e] at h; cases h
  | some kv =>
    rw [e] at h
    have h1 := List.mem_of_find?_eq_some e
    have h2 := List.find?_some e
    simp at h2 h
    rw [← h2, ← h]
    exact h1
theorem look_of {ts : List (Int × Int)} (hd : (ts.map (·.1)).Nodup) : ∀ {kv : Int × Int}, kv ∈ ts → lookI ts kv.1 = some kv.2 := by
  induction ts with
  | nil => intro kv h; cases h
  | cons t r ih =>
    intro kv h
    rw [List.map_cons, List.nodup_cons] at hd
    unfold lookI
    rw [List.find?_cons]
    rcases List.mem_cons.mp h with rfl | h
    · simp
    · have : ¬ t.1 = kv.1 := fun e => hd.1 (by rw [e]; exact List.mem_map_of_mem h)
      simp only [decide_eq_false this]
      exact ih hd.2 h
theorem eq_look {ts : List (Int × Int)} {k l : Int} : eqTD ((valD (dctI ts) (.inl k)).getD (.int l)) (.int l) = some (.val (.bl (decide ((lookI ts k).getD l = l)))) := by
  rw [val_dctI]
  cases lookI ts k with
  | none =>
    show some (W.val (.bl (l == l))) = _
    simp
  | some v =>
    show some (W.val (.bl (v == l))) = _
    by_cases h : v = l <;> simp [h]
theorem inL_ints (l : Int) (acc : List Int) : inL (.int l) (acc.map D.int) = some (decide (l ∈ acc)) := by
  induction acc with
  | nil => rfl
  | cons a r ih =>
    show (match eqD 7 (.int a) (.int l), inL (.int l) (r.map D.int) with | some a, some b => some (a || b) | _, _ => none) = _
    rw [ih]
    show some ((a == l) || decide (l ∈ r)) = _
    by_cases h : l = a
    · simp [h]
    · have h' : ¬ a = l := fun e => h e.symm
      simp [h, h']
theorem nin_ints (l : Int) (acc : List Int) : notInD (.int l) (.lst (acc.map D.int)) = some (.val (.bl (!decide (l ∈ acc)))) := by
  show (inL (.int l) (acc.map D.int)).bind _ = _
  rw [inL_ints]
  rfl
theorem eqL_ints (n : Nat) (acc : List Int) : eqL (eqD n) (acc.map D.int) (acc.map D.int) = some true := by
  induction acc with
  | nil => rfl
  | cons a r ih =>
    show (match eqD n (.int a) (.int a), eqL (eqD n) (r.map D.int) (r.map D.int) with | some a, some b => some (a && b) | _, _ => none) = _
    rw [ih]
    have : eqD n (.int a) (.int a) = some true := by cases n <;> simp [eqD, eqF]
    rw [this]
    rfl
theorem ne_ints (acc : List Int) : neTD (.lst (acc.map D.int)) (.lst (acc.map D.int)) = some (.val (.bl false)) := by
  show (eqL (eqD 7) _ _).bind _ = _
  rw [eqL_ints]
  rfl
theorem eqKV_self (ts : List (Int × Int)) (hd : (ts.map (·.1)).Nodup) : ∀ (us : List (Int × Int)), (∀ kv ∈ us, kv ∈ ts) → eqKV (eqD 6) (dctI ts) (dctI us) = some true
  | [], _ => rfl
  | u :: us, h => by
    have ih := eqKV_self ts hd us fun kv hk => h kv (List.mem_cons_of_mem _ hk)
    show eqKV (eqD 6) (dctI ts) ((.inl u.1, .int u.2) :: dctI us) = _
    unfold eqKV
    have e : valD (dctI ts) (.inl u.1) = some (.int u.2) := by rw [val_dctI, look_of hd (h u List.mem_cons_self)]; rfl
    simp only [e, ih]
    have : eqD 6 (.int u.2) (.int u.2) = some true := by simp [eqD, eqF]
    rw [this]
    rfl
theorem ne_dct (ts : List (Int × Int)) (hd : (ts.map (·.1)).Nodup) : neTD (.dct (dctI ts)) (.dct (dctI ts)) = some (.val (.bl false)) := by
  show (if (dctI ts).length = (dctI ts).length then eqKV (eqD 6) (dctI ts) (dctI ts) else some false).bind _ = _
  rw [if_pos rfl, eqKV_self ts hd ts fun _ h => h]
  rfl
theorem lenset_l (X : List Int) (h : X.length < 4000) : lensetD [.lst (X.map D.int)] = some (.val (.int ((X.foldl addI []).length : Nat))) := by
  show (intsOf (X.map D.int)).bind _ = _
  rw [intsOf_map, ← met_eq]
  exact grd_pos h
theorem lenset_t (X : List Int) (h : X.length < 4000) : lensetD [.tup (X.map D.int)] = some (.val (.int ((X.foldl addI []).length : Nat))) := by
  show (intsOf (X.map D.int)).bind _ = _
  rw [intsOf_map, ← met_eq]
  exact grd_pos h
theorem put_new {ts : List (Int × Int)} {k v : Int} (h : ∀ kv ∈ ts, kv.1 ≤ k) : putD (dctI ts) (.inl (k + 1)) (.int v) = dctI (ts ++ [(k + 1, v)]) := by
  unfold putD
  rw [if_neg]
  · simp [dctI]
  · simp [dctI]
    intro a hm
    have := h _ hm
    simp at this
    omega
def tsOk (ts : List (Int × Int)) (j : Int) : Prop := (∀ kv ∈ ts, (kv.2 = kv.1 ∨ kv.2 = -kv.1) ∧ kv.1 ≤ j) ∧ (ts.map (·.1)).Nodup ∧ (ts.length : Int) ≤ j
theorem ts_new {ts : List (Int × Int)} {k v : Int} (h : tsOk ts k) (hv : v = k + 1 ∨ v = -(k + 1)) : tsOk (ts ++ [(k + 1, v)]) (k + 1) := by
  obtain ⟨h1, h2, h3⟩ := h
  refine ⟨fun kv hk => ?_, ?_, by simp; omega⟩
  · rw [List.mem_append, List.mem_singleton] at hk
    rcases hk with hk | rfl
    · exact ⟨(h1 kv hk).1, by have := (h1 kv hk).2; omega⟩
    · exact ⟨hv, Int.le_refl _⟩
  · rw [List.map_append, List.nodup_append]
    refine ⟨h2, by simp, fun a ha b hb => ?_⟩
    simp at hb
    obtain ⟨kv, hk, rfl⟩ := List.mem_map.mp ha
    have := (h1 kv hk).2
    omega
theorem ts_more {ts : List (Int × Int)} {k : Int} (h : tsOk ts k) : tsOk ts (k + 1) := ⟨fun kv hk => ⟨(h.1 kv hk).1, by have := (h.1 kv hk).2; omega⟩, h.2.1, by have := h.2.2; omega⟩
def lawE (ns ls : List Int) (ts : List (Int × Int)) (o3 o4 o5 o6 : Option C) : Env' := [some (.sh (.lst (ns.map D.int))), some (.sh (.tup (ls.map D.int))), some (.ow false (.dct (dctI ts))), o3, o4, o5, o6, none, none, none, none]
theorem loop1 (ns ls : List Int) : ∃ ρ', forL (tgN 3) (seqS (setS 4 (mBin modD (mCall [false, false] fm_law_mix (mCons (mVar 0) (mCons (mBin addD (mC (.int 10)) (mVar 3)) mNil))) (mC (.int 3))))
  (ifS (mTst (mBin (cmpI fun i j => decide (j < i)) (mVar 4) (mC (.int 0)))) (putS 2 (mBin mulD (mBin addD (mVar 3) (mC (.int 1))) (mBin subD (mC (.int 3)) (mBin mulD (mC (.int 2)) (mVar 4)))) (mBin addD (mVar 3) (mC (.int 1)))) nxS))
  ((List.range 4).map fun k => D.int (0 + ((k : Nat) : Int))) (lawE ns ls [] none none none none) = some (.nx ρ') ∧ ∃ ts o3 o4, ρ' = lawE ns ls ts o3 o4 none none ∧ tsOk ts 4 := by
  have key := forL_inv (ds := (List.range 4).map fun k => D.int (0 + ((k : Nat) : Int))) (tg := tgN 3) (s1 := (seqS (setS 4 (mBin modD (mCall [false, false] fm_law_mix (mCons (mVar 0) (mCons (mBin addD (mC (.int 10)) (mVar 3)) mNil))) (mC (.int 3))))
  (ifS (mTst (mBin (cmpI fun i j => decide (j < i)) (mVar 4) (mC (.int 0)))) (putS 2 (mBin mulD (mBin addD (mVar 3) (mC (.int 1))) (mBin subD (mC (.int 3)) (mBin mulD (mC (.int 2)) (mVar 4)))) (mBin addD (mVar 3) (mC (.int 1)))) nxS))) (ρ := lawE ns ls [] none none none none)
    (fun j ρ => ∃ ts o3 o4, ρ = lawE ns ls ts o3 o4 none none ∧ tsOk ts (j : Int)) (by
      rintro j d ρ hd ⟨ts, o3, o4, rfl, hok⟩
      have hj : j < 4 := by
        have := (List.getElem?_eq_some_iff.mp hd).1
        simpa using this
      have : d = .int (j : Int) := by
        rw [List.getElem?_map, List.getElem?_range hj] at hd
        simp at hd
        exact hd.symm
      subst this
      generalize hm : mixV ns (10 + (j : Int)) % 3 = n
      have hn : 0 ≤ n ∧ n < 3 := by omega
      have hz : small (dctI ts).length := by
        show List.length _ ≤ 1000000
        have := hok.2.2
        simp [dctI]
        omega
      by_cases hc : 0 < n
      · have hput : putTo 2 (.int ((j : Int) + 1)) (.int (((j : Int) + 1) * (3 - 2 * n))) (lawE ns ls ts (some (.sh (.int (j : Int)))) (some (.sh (.int n))) none none) = some (.nx (lawE ns ls (ts ++ [((j : Int) + 1, ((j : Int) + 1) * (3 - 2 * n))]) (some (.sh (.int (j : Int)))) (some (.sh (.int n))) none none)) := by
          unfold lawE
          rw [← put_new fun kv hk => (hok.1 kv hk).2]
          exact grd_pos hz
        refine ⟨_, _, rfl, .inl ?_, ts ++ [((j : Int) + 1, ((j : Int) + 1) * (3 - 2 * n))], some (.sh (.int (j : Int))), some (.sh (.int n)), rfl, ?_⟩
        · apply ev_seq
          · walk_at "ev"
          · rw [hm]
            clear hm hd
            apply ev_ifT
            · walk_at "ev"
            · simp [hc]
            · walk_at "ev"
        · have : n = 1 ∨ n = 2 := by omega
          exact ts_new hok (by rcases this with rfl | rfl <;> omega)
      · refine ⟨_, _, rfl, .inl ?_, ts, some (.sh (.int (j : Int))), some (.sh (.int n)), rfl, ts_more hok⟩
        apply ev_seq
        · walk_at "ev"
        · rw [hm]
          apply ev_ifF
          · walk_at "ev"
          · simp [hc]
          · walk_at "ev") ⟨[], none, none, rfl, by simp [tsOk]⟩
  simpa using key

theorem loop2 (ns ls : List Int) (ts : List (Int × Int)) (o3 o4 : Option C) (hok : ∀ kv ∈ ts, kv.2 = kv.1 ∨ kv.2 = -kv.1) (h0 : ∀ l ∈ ls, l ≠ 0) (hlen : ls.length ≤ 1000) : ∃ o6, forL (tgN 6) (ifS (mAnd (mTst (mBin eqTD (mGet2 (mVar 2) (mCB absD (mCons (mVar 6) mNil)) (mVar 6)) (mVar 6))) (mTst (mBin notInD (mVar 6) (mVar 5)))) (dropS (mAppend 5 (mCons (mVar 6) mNil))) nxS)
  (ls.map D.int) (lawE ns ls ts o3 o4 (some (.ow false (.lst []))) none) = some (.nx (lawE ns ls ts o3 o4 (some (.ow false (.lst ((openV ts ls).map D.int)))) o6)) := by
  have hl := forL_fold (ds := ls.map D.int) (tg := tgN 6) (s1 := (ifS (mAnd (mTst (mBin eqTD (mGet2 (mVar 2) (mCB absD (mCons (mVar 6) mNil)) (mVar 6)) (mVar 6))) (mTst (mBin notInD (mVar 6) (mVar 5)))) (dropS (mAppend 5 (mCons (mVar 6) mNil))) nxS))
    (fun pre => lawE ns ls ts o3 o4 (some (.ow false (.lst ((openV ts (pre.map toI)).map D.int)))) (pre.getLast?.map fun d => C.sh d)) (by
      intro pre d post e
      have hd : d ∈ ls.map D.int := by rw [e]; simp
      obtain ⟨l, hm, rfl⟩ := List.mem_map.mp hd
      have hz : small ((openV ts (pre.map toI)).map D.int).length := by
        have := congrArg List.length e
        have := open_len ts (pre.map toI)
        simp at *
        show List.length _ ≤ 1000000
        omega
      have hne := h0 l hm
      clear e hd
      have e2 : openV ts ((pre ++ [D.int l]).map toI) = openF ts (openV ts (pre.map toI)) l := by simp [open_snoc, toI]
      simp only [e2]
      clear e2
      generalize openV ts (pre.map toI) = acc at *
      have q1 := eq_look (ts := ts) (k := l.natAbs) (l := l)
      have q2 := nin_ints l acc
      have hA : lookI ts l.natAbs = some (-l) ↔ ¬ (lookI ts l.natAbs).getD l = l := by
        cases hk : lookI ts l.natAbs with
        | none => simp
        | some v =>
          have := hok _ (look_mem hk)
          simp at this ⊢
          omega
      by_cases hc : (lookI ts l.natAbs).getD l = l
      · have hF : openF ts acc l = addI acc l := if_neg fun h => hA.mp h hc
        rw [hF]
        by_cases hb : l ∈ acc
        · have hF2 : addI acc l = acc := if_pos hb
          rw [hF2]
          refine ⟨_, rfl, .inl ?_⟩
          apply ev_to
          · apply ev_ifF
            · walk_at "ev"
            · simp [hb]
            · walk_at "ev"
          · simp [lawE]
        · have hF2 : addI acc l = acc ++ [l] := if_neg hb
          rw [hF2]
          refine ⟨_, rfl, .inl ?_⟩
          apply ev_to
          · apply ev_ifT
            · walk_at "ev"
            · simp [hb, hc]
            · walk_at "ev"
          · simp [lawE]
      · have hF : openF ts acc l = acc := if_pos (hA.mpr hc)
        rw [hF]
        refine ⟨_, rfl, .inl ?_⟩
        apply ev_to
        · apply ev_ifF
          · walk_at "ev"
          · simp [hc]
          · walk_at "ev"
        · simp [lawE])
  simp [toI, Function.comp_def] at hl
  exact ⟨_, hl⟩

theorem fe_wholes (X : List Int) (h : X.length ≤ 1000) : fm_law_wholes [.lst (X.map D.int)] = some (.ret (.val (.bl true)) []) := by
  have h1 : (X.map D.int).all noTy = true := by rw [List.all_map, List.all_eq_true]; intro x _; rfl
  have h2 : (X.map D.int).all isWholeD = true := by rw [List.all_map, List.all_eq_true]; intro x _; rfl
  show grd _ _ = _
  rw [h2]
  exact grd_pos ⟨h1, by show List.length _ ≤ 1000000; rw [List.length_map]; omega⟩
theorem law_true : ∀ ns : List Int, ns.length ≤ 63 → runF den_law 11 [false] [.lst (ns.map D.int)] = some (.ret (.val (.bl true)) []) := by
  intro ns _
  have hcl := fe_clause (ns := ns) (b := 0) (v := 4) (most := 6) (by decide) (by decide) (by decide) (by decide)
  have h0 := clause_ne (ns := ns) (b := 0) (v := 4) (most := 6) (by decide)
  have hlen := clause_len (ns := ns) (b := 0) (v := 4) (most := 6) (by decide) (by decide)
  generalize clauseV ns 0 4 6 = ls at *
  obtain ⟨ρ', hl1, ts, o3, o4, rfl, hok⟩ := loop1 ns ls
  obtain ⟨o6, hl2⟩ := loop2 ns ls ts o3 o4 (fun kv hk => (hok.1 kv hk).1) h0 hlen
  have hr : ints1 [.int 4] = some ((List.range 4).map fun k => D.int (0 + ((k : Nat) : Int))) := rfl
  have hop := fe_opened (ts := ts) hlen
  have hoL := open_len ts ls
  have hfl : (flatW (.own (.lst ((openV ts ls).map D.int))) && ([] : List D).all flatO) = true := by
    show (List.all _ _ && true) = true
    rw [all_flat_ints]
    rfl
  have hw := fe_wholes (openV ts ls) (by omega)
  have hne1 := ne_ints (openV ts ls)
  have hne2 := ne_dct ts hok.2.1
  have hbo := fe_both hlen
  have hs1 := lenset_l (ls.map ab) (by simp; omega)
  have hs2 := lenset_t ls (by omega)
  have hz : small (ls.map D.int).length := by show List.length _ ≤ 1000000; rw [List.length_map]; omega
  have hco : compL (tgN 0) mYes (mCB absD (mCons (mVar 0) mNil)) [none] (ls.map D.int) = some ((ls.map ab).map D.int) := by
    rw [show (ls.map ab).map D.int = (ls.map D.int).map (fun d => D.int (ab (toI d))) by simp [toI, Function.comp_def]]
    apply compL_map
    intro d hd
    obtain ⟨l, _, rfl⟩ := List.mem_map.mp hd
    refine' ⟨_, _, _, _, rfl, ?x, ?y⟩
    case x => walk_at "ev"
    case y => rfl
  have hm := met_both ls [] h0 (by simp)
  have hq : eqTD (.bl (bothF [] ls)) (.bl (decide ((((ls.map ab).foldl addI []).length : Int) < ((ls.foldl addI []).length : Int)))) = some (.val (.bl true)) := by
    rw [← hm]
    show some (W.val (.bl (_ == _))) = _
    simp
  clear hm h0 hok hoL hlen
  generalize openV ts ls = X at *
  apply run_of
  · apply ev_seq
    · walk_at "ev"
    · apply ev_seq
      · walk_at "ev"
      · apply ev_seq
        · walk_at "ev"
        · apply ev_seq
          · walk_at "ev"
          · apply ev_seq
            · walk_at "ev"
            · apply ev_seq
              · walk_at "ev"
              · apply ev_seq
                · walk_at "ev"
                · apply ev_seq
                  · apply ev_ifF
                    · walk_at "ev"
                    · rfl
                    · walk_at "ev"
                  · apply ev_seq
                    · walk_at "ev"
                    · apply ev_seq
                      · walk_at "ev"
                      · walk_at "ev"
  · rfl

end K10
open PySem PySem.W PyProof.Rows
set_option maxRecDepth 100000 in
set_option maxHeartbeats 0 in
theorem PySem.Challenge.cw_clausekeep_k10_open_literals_holds : PySem.Challenge.rw_clausekeep_k10_open_literals.Holds := by
  w_on; o_law; k_head; (case hw => w_witness2)
  k_fill
  refine L2.walk_law (l := PySem.Challenge.rw_clausekeep_k10_open_literals) (k := 4) (x := "_law_script") rfl rfl ⟨rfl, by decide, by decide⟩ (fun w h Y => PySem.W.kIn_of Y) ?F
  case F =>
    intro w mg fa h KX G hmg
    have D_law_cell : L2.Def (L2.KOf KX) mg "_law_cell" K10.s_law_cell ["_law_script", "_law_k"] := by
      refine' L2.def_mk KX G ?a ?l ?c ?k ?b
      (case a => (dsimp only [L2.KOf]; k_is)); (case l => (dsimp only [L2.KOf]; k_is)); (case c => (dsimp only [L2.KOf]; k_is)); (case k => (dsimp only [L2.KOf]; k_is))
      (case b => exact fun _ _ _ _ _ _ us hl => match us, hl with | [_, _], _ => rfl)
    have D_law_mix : L2.Def (L2.KOf KX) mg "_law_mix" K10.s_law_mix ["_law_script", "_law_k"] := by
      refine' L2.def_mk KX G ?a ?l ?c ?k ?b
      (case a => (dsimp only [L2.KOf]; k_is)); (case l => (dsimp only [L2.KOf]; k_is)); (case c => (dsimp only [L2.KOf]; k_is)); (case k => (dsimp only [L2.KOf]; k_is))
      (case b => exact fun _ _ _ _ _ _ us hl => match us, hl with | [_, _], _ => rfl)
    have D_law_whole : L2.Def (L2.KOf KX) mg "_law_whole" K10.s_law_whole ["_law_found"] := by
      refine' L2.def_mk KX G ?a ?l ?c ?k ?b
      (case a => (dsimp only [L2.KOf]; k_is)); (case l => (dsimp only [L2.KOf]; k_is)); (case c => (dsimp only [L2.KOf]; k_is)); (case k => (dsimp only [L2.KOf]; k_is))
      (case b => exact fun _ _ _ _ _ _ us hl => match us, hl with | [_], _ => rfl)
    have D_law_wholes : L2.Def (L2.KOf KX) mg "_law_wholes" K10.s_law_wholes ["_law_found"] := by
      refine' L2.def_mk KX G ?a ?l ?c ?k ?b
      (case a => (dsimp only [L2.KOf]; k_is)); (case l => (dsimp only [L2.KOf]; k_is)); (case c => (dsimp only [L2.KOf]; k_is)); (case k => (dsimp only [L2.KOf]; k_is))
      (case b => exact fun _ _ _ _ _ _ us hl => match us, hl with | [_], _ => rfl)
    have D_law_clause : L2.Def (L2.KOf KX) mg "_law_clause" K10.s_law_clause ["_law_script", "_law_base", "_law_variables", "_law_most"] := by
      refine' L2.def_mk KX G ?a ?l ?c ?k ?b
      (case a => (dsimp only [L2.KOf]; k_is)); (case l => (dsimp only [L2.KOf]; k_is)); (case c => (dsimp only [L2.KOf]; k_is)); (case k => (dsimp only [L2.KOf]; k_is))
      (case b => exact fun _ _ _ _ _ _ us hl => match us, hl with | [_, _, _, _], _ => rfl)
    have D_opened : L2.Def (L2.KOf KX) mg "opened" K10.s_opened ["truths", "clause"] := by
      refine' L2.def_mk KX G ?a ?l ?c ?k ?b
      (case a => (dsimp only [L2.KOf]; k_is)); (case l => (dsimp only [L2.KOf]; k_is)); (case c => (dsimp only [L2.KOf]; k_is)); (case k => (dsimp only [L2.KOf]; k_is))
      (case b => exact fun _ _ _ _ _ _ us hl => match us, hl with | [_, _], _ => rfl)
    have D_has_both : L2.Def (L2.KOf KX) mg "has_both" K10.s_has_both ["clause"] := by
      refine' L2.def_mk KX G ?a ?l ?c ?k ?b
      (case a => (dsimp only [L2.KOf]; k_is)); (case l => (dsimp only [L2.KOf]; k_is)); (case c => (dsimp only [L2.KOf]; k_is)); (case k => (dsimp only [L2.KOf]; k_is))
      (case b => exact fun _ _ _ _ _ _ us hl => match us, hl with | [_], _ => rfl)
    have D_law : L2.Def (L2.KOf KX) mg "law" K10.s_law ["_law_script"] := by
      refine' L2.def_mk KX G ?a ?l ?c ?k ?b
      (case a => (dsimp only [L2.KOf]; k_is)); (case l => (dsimp only [L2.KOf]; k_is)); (case c => (dsimp only [L2.KOf]; k_is)); (case k => (dsimp only [L2.KOf]; k_is))
      (case b => exact fun _ _ _ _ _ _ us hl => match us, hl with | [_], _ => rfl)
    have z_len : mg "len" = none := PySem.W.mg_none_of KX G (by k_is)
    have z_isinstance : mg "isinstance" = none := PySem.W.mg_none_of KX G (by k_is)
    have z_int : mg "int" = none := PySem.W.mg_none_of KX G (by k_is)
    have z_bool : mg "bool" = none := PySem.W.mg_none_of KX G (by k_is)
    have z_list : mg "list" = none := PySem.W.mg_none_of KX G (by k_is)
    have z_all : mg "all" = none := PySem.W.mg_none_of KX G (by k_is)
    have z_range : mg "range" = none := PySem.W.mg_none_of KX G (by k_is)
    have z_tuple : mg "tuple" = none := PySem.W.mg_none_of KX G (by k_is)
    have z_abs : mg "abs" = none := PySem.W.mg_none_of KX G (by k_is)
    have z_dict : mg "dict" = none := PySem.W.mg_none_of KX G (by k_is)
    have z_set : mg "set" = none := PySem.W.mg_none_of KX G (by k_is)
    have H_law_cell := fun base => D_law_cell.has (P := PySem.Challenge.rw_clausekeep_k10_open_literals.prog) (w := w) (base := base) fun f fd F => (K10.run_law_cell F z_len).imp (L3.SpD.imp K10.spec_law_cell)
    have H_law_mix := fun base => D_law_mix.has (P := PySem.Challenge.rw_clausekeep_k10_open_literals.prog) (w := w) (base := base) fun f fd F => (K10.run_law_mix F (H_law_cell base)).imp (L3.SpD.imp K10.spec_law_mix)
    have H_law_whole := fun base => D_law_whole.has (P := PySem.Challenge.rw_clausekeep_k10_open_literals.prog) (w := w) (base := base) fun f fd F => (K10.run_law_whole F z_isinstance z_int z_bool).imp (L3.SpD.imp K10.spec_law_whole)
    have H_law_wholes := fun base => D_law_wholes.has (P := PySem.Challenge.rw_clausekeep_k10_open_literals.prog) (w := w) (base := base) fun f fd F => (K10.run_law_wholes F z_isinstance z_list z_all (H_law_whole base)).imp (L3.SpD.imp K10.spec_law_wholes)
    have H_law_clause := fun base => D_law_clause.has (P := PySem.Challenge.rw_clausekeep_k10_open_literals.prog) (w := w) (base := base) fun f fd F => (K10.run_law_clause F z_range z_tuple (H_law_mix base)).imp (L3.SpD.imp K10.spec_law_clause)
    have H_opened := fun base => D_opened.has (P := PySem.Challenge.rw_clausekeep_k10_open_literals.prog) (w := w) (base := base) fun f fd F => (K10.run_opened F z_list z_abs).imp (L3.SpD.imp K10.spec_opened)
    have H_has_both := fun base => D_has_both.has (P := PySem.Challenge.rw_clausekeep_k10_open_literals.prog) (w := w) (base := base) fun f fd F => (K10.run_has_both F ).imp (L3.SpD.imp K10.spec_has_both)
    exact L2.law_of D_law hmg (fun f fd F base _ _ => (K10.run_law F z_range z_dict z_len z_isinstance z_bool z_set z_abs (H_law_clause base) (H_opened base) (H_has_both base) (H_law_mix base) (H_law_wholes base)).imp (L3.law_imp K10.law_true))
#print axioms PySem.Challenge.cw_clausekeep_k10_open_literals_holds
