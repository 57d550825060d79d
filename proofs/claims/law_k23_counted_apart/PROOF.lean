import PyProof.Rows.All
import Wide.All
import OpenK.AllK
import Wide.FinOn
import Lean
import PyProof.EqAt
import PyProof.EqKinds
import PyProof.TupleCall
import KE.KDictList
import KE.KDictOf
import KE.KDictSum
import KE.KEqDict
import KE.KMinBuiltin
import OpenK.KOwn
import PyProof.AutoSeq1
import PyProof.DictUpdate
import PyProof.ExcBaseAll.ValueError
import PyProof.FString5
import PyProof.IsInstance
import PyProof.IsiH_list
import PyProof.NeKinds
import PyProof.NsDelKeeps
import PyProof.Rows.All
import PyProof.Rows.CallKwBuiltin
import PyProof.Rows.RuleN_abs
import PyProof.Rows.SetFrom
import PyProof.Rows.SortWalk
import PyProof.Rows.TupAdd
import PyProof.RulesAs
import PyProof.StationsW
import PyProof.TupleIter
import PyProof.WalkInts
import PyProof.WalksMore
import PySem.Challenge.RW_clausekeep_k23_counted_apart
set_option Elab.async false
set_option linter.all false
set_option maxRecDepth 100000
namespace L2
open PySem PySem.Spec PyProof.Rows
abbrev Key := Sum Int Str
def keyIs : Key → Value → Bool
 | .inl k, v => Value.isInt k v
 | .inr x, v => Value.isStrOf x v
def keyH (w : World) : Key → Int
 | .inl k => hashInt k
 | .inr x => hashStr w x
theorem keyIs_shape : ∀ {k : Key} {v : Value}, keyIs k v = true → (∃ i t, k = Sum.inl i ∧ v = Value.int i t) ∨ (∃ x t, k = Sum.inr x ∧ v = Value.str x t)
 | .inl i, v, h => by
  obtain ⟨t, e⟩ := Value.isInt_shape (k := i) (v := v) h
  exact .inl ⟨i, t, rfl, e⟩
 | .inr x, v, h => by
  obtain ⟨t, e⟩ := Value.isStrOf_shape (x := x) (v := v) h
  exact .inr ⟨x, t, rfl, e⟩
theorem keyIs_int (i : Int) (t : Tok) : keyIs (.inl i) (.int i t) = true := by simp [keyIs, Value.isInt]
theorem keyIs_str (x : Str) (t : Tok) : keyIs (.inr x) (.str x t) = true := by simp [keyIs, Value.isStrOf]
theorem key_ll (a b : Int) : decide ((Sum.inl a : Key) = Sum.inl b) = (a == b) := by
 by_cases e : a = b
 ·subst e; simp
 ·have h : ¬ (Sum.inl a : Key) = Sum.inl b := fun q => e (Sum.inl.inj q)
  rw [decide_eq_false h]
  exact (beq_eq_false_iff_ne.mpr e).symm
theorem key_rr (a b : Str) : decide ((Sum.inr a : Key) = Sum.inr b) = decide (a = b) := by
 by_cases e : a = b
 ·subst e; simp
 ·have h : ¬ (Sum.inr a : Key) = Sum.inr b := fun q => e (Sum.inr.inj q)
  rw [decide_eq_false h, decide_eq_false e]
theorem key_lr (a : Int) (b : Str) : decide ((Sum.inl a : Key) = Sum.inr b) = false := decide_eq_false (fun q => nomatch q)
theorem key_rl (a : Str) (b : Int) : decide ((Sum.inr a : Key) = Sum.inl b) = false := decide_eq_false (fun q => nomatch q)
def mixKind (prog : Program) (w : World) : PySem.KeyKind prog w Key where
 is := keyIs
 hash := keyH w
 inj := fun v a b ha hb => by
  rcases keyIs_shape ha with ⟨i, t, rfl, rfl⟩ | ⟨x, t, rfl, rfl⟩
  ·rcases keyIs_shape hb with ⟨j, u, rfl, e⟩ | ⟨y, u, rfl, e⟩
   ·injection e with e1 _; rw [e1]
   ·exact nomatch e
  ·rcases keyIs_shape hb with ⟨j, u, rfl, e⟩ | ⟨y, u, rfl, e⟩
   ·exact nomatch e
   ·injection e with e1 _; rw [e1]
 byValue := fun k v h => by
  rcases keyIs_shape h with ⟨i, t, rfl, rfl⟩ | ⟨x, t, rfl, rfl⟩ <;> rfl
 pyHash := fun hv h => by
  rcases keyIs_shape hv with ⟨i, t, rfl, rfl⟩ | ⟨x, t, rfl, rfl⟩
  ·exact wpAny_pyHash_int h
  ·exact wpAny_pyHash_str h
 eqBool := fun hu hv h => by
  rcases keyIs_shape hu with ⟨i, t, rfl, rfl⟩ | ⟨x, t, rfl, rfl⟩
  ·rcases keyIs_shape hv with ⟨j, u, rfl, rfl⟩ | ⟨y, u, rfl, rfl⟩
   ·rw [key_ll] at h; exact wpAny_eqBool_int h
   ·rw [key_lr] at h; exact SeqAt.EqAt.int_str i t y u _ _ _ _ h
  ·rcases keyIs_shape hv with ⟨j, u, rfl, rfl⟩ | ⟨y, u, rfl, rfl⟩
   ·rw [key_rl] at h; exact SeqAt.EqAt.str_int x t j u _ _ _ _ h
   ·rw [key_rr] at h; exact wpAny_eqBool_str h
 «strs» := fun k x t v h => by
  rcases keyIs_shape h with ⟨i, u, rfl, e⟩ | ⟨y, u, rfl, e⟩
  ·exact nomatch e
  ·injection e with e1 _
   subst e1
   cases v <;> rfl
theorem mixKind_int (prog : Program) (w : World) (i : Int) (t : Tok) : (mixKind prog w).is (.inl i) (.int i t) = true := keyIs_int i t
theorem mixKind_str (prog : Program) (w : World) (x : Str) (t : Tok) : (mixKind prog w).is (.inr x) (.str x t) = true := keyIs_str x t
end L2
namespace L2
open PySem PySem.Spec PyProof.Rows
inductive V where
 | non | bl (b : Bool) | int (i : Int) | str (x : Str) | byt (b : Array UInt8) | flt (b : UInt64) | ref (a : Addr) | ty (n : String)
 deriving DecidableEq
def RelV : V → Value → Prop
 | .non, u => u = Value.none
 | .bl b, u => u = Value.bool b
 | .int i, u => ∃ t, u = Value.int i t
 | .str x, u => ∃ t, u = Value.str x t
 | .byt b, u => ∃ t, u = Value.bytes b t
 | .flt b, u => ∃ t, u = Value.float b t
 | .ref a, u => u = Value.ref a
 | .ty n, u => u = Value.type n
abbrev Vals : List V → List Value → Prop := Paired RelV
theorem Vals.length {xs : List V} {us : List Value} (r : Vals xs us) : xs.length = us.length := Paired.length r
theorem Vals.get : ∀ {xs : List V} {us : List Value} {i : Nat} {x : V}, Vals xs us → xs[i]? = some x → ∃ u, us[i]? = some u ∧ RelV x u
 | _, _, _, _, .nil, e => by simp at e
 | _, _, 0, _, .cons r _, e => by simp at e; subst e; exact ⟨_, rfl, r⟩
 | _, _, i + 1, x, .cons _ t, e => by
  obtain ⟨u, h1, h2⟩ := Vals.get (i := i) (x := x) t (by simpa using e)
  exact ⟨u, by simpa using h1, h2⟩
theorem Vals.set {x : V} {u : Value} (r : RelV x u) : ∀ {xs : List V} {us : List Value} (i : Nat), Vals xs us → Vals (xs.set i x) (us.set i u)
 | _, _, _, .nil => .nil
 | _, _, 0, .cons _ t => .cons r t
 | _, _, i + 1, .cons q t => .cons q (Vals.set r i t)
theorem Vals.append : ∀ {xs ys : List V} {us ws : List Value}, Vals xs us → Vals ys ws → Vals (xs ++ ys) (us ++ ws)
 | _, _, _, _, .nil, s => s
 | _, _, _, _, .cons r t, s => .cons r (Vals.append t s)
theorem Vals.take : ∀ {xs : List V} {us : List Value} (n : Nat), Vals xs us → Vals (xs.take n) (us.take n)
 | _, _, 0, _ => .nil
 | _, _, _ + 1, .nil => .nil
 | _, _, n + 1, .cons r t => .cons r (Vals.take n t)
theorem Vals.drop : ∀ {xs : List V} {us : List Value} (n : Nat), Vals xs us → Vals (xs.drop n) (us.drop n)
 | _, _, 0, r => r
 | _, _, _ + 1, .nil => .nil
 | _, _, n + 1, .cons _ t => Vals.drop n t
theorem Vals.none_of : ∀ {xs : List V} {us : List Value} {i : Nat}, Vals xs us → xs[i]? = none → us[i]? = none := fun {xs us i} r e => by
 have h1 := r.length
 have h2 : xs.length ≤ i := List.getElem?_eq_none_iff.mp e
 exact List.getElem?_eq_none_iff.mpr (by omega)
def RelO : Option V → Option Value → Prop
 | some v, some u => RelV v u
 | none, none => True
 | _, _ => False
def KV {κ : Type} : List (κ × V) → List (κ × Value) → Prop := Paired fun (p : κ × V) (q : κ × Value) => p.1 = q.1 ∧ RelV p.2 q.2
def kV : Key → V
 | .inl i => .int i
 | .inr x => .str x
inductive HO where
 
 | lst (xs : List V)
 
 | tup (xs : List V)
 
 | dK (kvs : List (Key × V)) | dT (kvs : List (List Key × V))
 
 | set (S : Int → Bool) (n : Nat)
 
 | ins (C dx : Addr) (fs : List (Str × V))
 
 | own (x : Addr)
 
 | xd (fs : List (Str × V))
 
 | met (f x : Addr)
 
 | rng (lo hi : Int)
 
 | frz (o : Obj) (u : HO)
 
 | tbl (ps : Array Value)
 
 | ext (φ : Heap → Prop)
abbrev Hp := Addr → Option HO
def upd (H : Hp) (a : Addr) (o : HO) : Hp := fun b => if b = a then some o else H b
theorem upd_same {H : Hp} {a : Addr} {o : HO} : upd H a o a = some o := by unfold upd; rw [if_pos rfl]
theorem upd_ne {H : Hp} {a b : Addr} {o : HO} (h : b ≠ a) : upd H a o b = H b := by unfold upd; rw [if_neg h]
theorem ne_of_none {H : Hp} {a b : Addr} {o : HO} (h : H a = some o) (h' : H b = none) : a ≠ b := by
 intro e; subst e; rw [h] at h'; cases h'
section
variable (P : Program) (w : World)
def ObjOk (H : Hp) (h : Heap) (a : Addr) : HO → Prop
 | .lst xs => xs.length ≤ sizeLine ∧ ∃ (its : List Value) (n : Nat), Vals xs its ∧ h.get? a = some { cls := .type "list", data := .seq its.toArray n }
 | .tup xs => xs.length ≤ sizeLine ∧ ∃ its : List Value, Vals xs its ∧ IsTup h a its.toArray
 | .dK kvs => kvs.length ≤ sizeLine ∧ (a == sysModules) = false ∧ ∃ vs, KV kvs vs ∧ h.DictOf (mixKind P w) a vs
 | .dT kvs => kvs.length ≤ sizeLine ∧ (a == sysModules) = false ∧ ∃ xs : List (List Key × Addr × Value),
   Paired (fun (p : List Key × V) (q : List Key × Addr × Value) => p.1 = q.1 ∧ H q.2.1 = some (.tup (p.1.map kV)) ∧ RelV p.2 q.2.2) kvs xs ∧
   ∃ o es ep, h.get? a = some o ∧ o.ExactDict ∧ o.data = .dict es ep ∧ es.toList = xs.map (entryOfKey (tupleKind (mixKind P w))) ∧ (xs.map (·.1)).Nodup
 | .set S n => h.SetOf (intKind P w) a S n
 | .ins C dx fs => H dx = some (.own a) ∧ fs.length ≤ 1000 ∧ dx ≠ a ∧ h.get? a = some (PySem.W.instObj C dx) ∧
   ∃ mA, h.Ns1 dx mA ∧ (∀ f, RelO (fs.lookup f) (mA f)) ∧ PySem.Within mA (fs.map (·.1))
 | .own _ => ∃ o, h.get? a = some o
 | .xd fs => ∃ mA, h.Ns1 a mA ∧ ∀ f, RelO (fs.lookup f) (mA f)
 | .rng lo hi => ∃ t u v, h.get? a = some { cls := .type "range", data := .fields #[.int lo t, .int hi u, .int 1 v] }
 | .frz o u => h.get? a = some o ∧ ObjOk H h a u
 | .tbl ps => h.get? a = some { cls := .none, data := .fields ps }
 | .met f x => h.get? a = some (PySem.W.methodObj (.ref f) (.ref x))
 | .ext φ => φ h ∧ (∃ o, h.get? a = some o) ∧ ∀ h1 h2 : Heap, φ h1 → (∀ o, h1.get? a = some o → h2.get? a = some o) → φ h2
def HOk (H : Hp) (h : Heap) : Prop := ∀ a o, H a = some o → ObjOk P w H h a o
end
section
variable {P : Program} {w : World} {H H' : Hp} {h h' : Heap} {a : Addr} {o : HO}
theorem ObjOk.lt (x : ObjOk P w H h a o) : a < h.objs.size := by
 cases o with
 | lst xs => obtain ⟨_, _, _, _, e⟩ := x; exact Heap.lt_size e
 | tup xs => obtain ⟨_, _, _, p⟩ := x; exact p.lt
 | dK kvs => obtain ⟨_, _, _, _, o, _, _, e, _⟩ := x; exact Heap.lt_size e
 | dT kvs => obtain ⟨_, _, _, _, o, _, _, e, _⟩ := x; exact Heap.lt_size e
 | set S n => obtain ⟨o, _, _, _, e, _⟩ := x; exact Heap.lt_size e
 | ins C dx fs => obtain ⟨_, _, _, e, _⟩ := x; exact Heap.lt_size e
 | own y => obtain ⟨_, e⟩ := x; exact Heap.lt_size e
 | xd fs => obtain ⟨_, ⟨_, _, _, e, _⟩, _⟩ := x; exact Heap.lt_size e
 | rng lo hi => obtain ⟨_, _, _, e⟩ := x; exact Heap.lt_size e
 | frz ob u => obtain ⟨e, _⟩ := x; exact Heap.lt_size e
 | tbl ps => exact Heap.lt_size (show h.get? a = some _ from x)
 | met f y => exact Heap.lt_size (show h.get? a = some _ from x)
 | ext φ => obtain ⟨_, ⟨_, e⟩, _⟩ := x; exact Heap.lt_size e
theorem Paired.mapP {α β : Type} {F G : α → β → Prop} : ∀ {l₁ : List α} {l₂ : List β}, Paired F l₁ l₂ → (∀ a b, F a b → G a b) → Paired G l₁ l₂
 | _, _, .nil, _ => .nil
 | _, _, .cons r t, f => .cons (f _ _ r) (Paired.mapP t f)
theorem ObjOk.stay (x : ObjOk P w H h a o) (k : ∀ b u, (b = a ∨ H b = some (.own a)) → h.get? b = some u → h'.get? b = some u)
  (ho : ∀ b, H b = some (.own a) → H' b = some (.own a)) (ht : ∀ b xs, H b = some (.tup xs) → H' b = some (.tup xs)) : ObjOk P w H' h' a o := by
 induction o with
 | lst xs => obtain ⟨z, its, n, r, e⟩ := x; exact ⟨z, its, n, r, k _ _ (.inl rfl) e⟩
 | tup xs => obtain ⟨z, its, r, ob, e, c⟩ := x; exact ⟨z, its, r, ob, k _ _ (.inl rfl) e, c⟩
 | dK kvs => obtain ⟨z, y, vs, r, ob, es, ep, e, c⟩ := x; exact ⟨z, y, vs, r, ob, es, ep, k _ _ (.inl rfl) e, c⟩
 | dT kvs =>
  obtain ⟨z, y, xs, r, ob, es, ep, e, c⟩ := x
  exact ⟨z, y, xs, Paired.mapP r fun p q z => ⟨z.1, ht _ _ z.2.1, z.2.2⟩, ob, es, ep, k _ _ (.inl rfl) e, c⟩
 | set S n => obtain ⟨ob, es, ep, t, e, c⟩ := x; exact ⟨ob, es, ep, t, k _ _ (.inl rfl) e, c⟩
 | ins C dx fs =>
  obtain ⟨d, z, ne, e, mA, ⟨od, es, ep, e2, c⟩, r⟩ := x
  exact ⟨ho _ d, z, ne, k _ _ (.inl rfl) e, mA, ⟨od, es, ep, k _ _ (.inr d) e2, c⟩, r⟩
 | own y => obtain ⟨ob, e⟩ := x; exact ⟨ob, k _ _ (.inl rfl) e⟩
 | xd fs => obtain ⟨mA, ⟨od, es, ep, e, c⟩, r⟩ := x; exact ⟨mA, ⟨od, es, ep, k _ _ (.inl rfl) e, c⟩, r⟩
 | rng lo hi => obtain ⟨t, u, v, e⟩ := x; exact ⟨t, u, v, k _ _ (.inl rfl) e⟩
 | frz ob u ih => obtain ⟨e, q⟩ := x; exact ⟨k _ _ (.inl rfl) e, ih q⟩
 | tbl ps =>
  have e : h.get? a = some { cls := .none, data := .fields ps } := x
  show h'.get? a = some { cls := .none, data := .fields ps }
  exact k a _ (.inl rfl) e
 | met f y =>
  have e : h.get? a = some (PySem.W.methodObj (.ref f) (.ref y)) := x
  show h'.get? a = some (PySem.W.methodObj (.ref f) (.ref y))
  exact k a _ (.inl rfl) e
 | ext φ => obtain ⟨p, ⟨o, e⟩, st⟩ := x; exact ⟨st _ _ p fun o q => k _ _ (.inl rfl) q, ⟨o, k _ _ (.inl rfl) e⟩, st⟩
theorem HOk.lt (x : HOk P w H h) (e : H a = some o) : a < h.objs.size := (x a o e).lt
theorem HOk.fresh (x : HOk P w H h) (e : h.objs.size ≤ a) : H a = none := by
 cases q : H a with
 | none => rfl
 | some u => exact absurd (Nat.lt_of_lt_of_le (x.lt q) e) (Nat.lt_irrefl _)
theorem HOk.kept (x : HOk P w H h) (k : ∀ b u, h.get? b = some u → h'.get? b = some u) : HOk P w H h' := fun a o e =>
 (x a o e).stay (fun b u _ q => k b u q) (fun _ q => q) fun _ _ q => q
theorem HOk.laid (x : HOk P w H h) (k : ∀ b u, h.get? b = some u → h'.get? b = some u) (hp : h.objs.size ≤ a) (new : ObjOk P w (upd H a o) h' a o) : HOk P w (upd H a o) h' := fun b u e => by
 have hn := x.fresh hp
 by_cases hb : b = a
 ·subst hb; rw [upd_same] at e; cases e; exact new
 ·rw [upd_ne hb] at e
  exact (x b u e).stay (fun c v _ q => k c v q) (fun c q => by rw [upd_ne (ne_of_none q hn)]; exact q) fun c xs q => by rw [upd_ne (ne_of_none q hn)]; exact q
end
def Rd (H : Hp) (a : Addr) (u : HO) : Prop := H a = some u ∨ ∃ o, H a = some (.frz o u)
theorem Rd.of {H : Hp} {a : Addr} {u : HO} (h : H a = some u) : Rd H a u := .inl h
theorem Rd.ok {P : Program} {w : World} {H : Hp} {h : Heap} {a : Addr} {u : HO} (r : Rd H a u) (x : HOk P w H h) : ObjOk P w H h a u := by
 rcases r with r | ⟨o, r⟩
 ·exact x a u r
 ·obtain ⟨_, q⟩ := x a _ r
  exact q
def Mut : Option HO → Prop
 | some (.lst _) => True
 | some (.dK _) => True
 | some (.dT _) => True
 | some (.set _ _) => True
 | some (.ins _ _ _) => True
 | some (.ext _) => True
 | _ => False
section
variable {P : Program} {w : World} {H : Hp} {h h' : Heap} {x e : Addr} {o' : HO}
theorem HOk.write (ok : HOk P w H h) (mu : Mut (H x)) (he : e = x ∨ H e = some (.own x)) (k : ∀ b u, b ≠ e → h.get? b = some u → h'.get? b = some u) (heo : ∃ u, h'.get? e = some u)
  (new : ObjOk P w (upd H x o') h' x o') : HOk P w (upd H x o') h' := fun b u q => by
 have nown : ∀ c y, H c = some (.own y) → c ≠ x := fun c y r z => by subst z; rw [r] at mu; exact mu
 have ntup : ∀ c xs, H c = some (.tup xs) → c ≠ x := fun c xs r z => by subst z; rw [r] at mu; exact mu
 by_cases hb : b = x
 ·subst hb; rw [upd_same] at q; cases q; exact new
 ·rw [upd_ne hb] at q
  by_cases hbe : b = e
  ·have q' : H b = some (.own x) := by
    rcases he with z | z
    ·exact absurd (hbe.trans z) hb
    ·rw [hbe]; exact z
   rw [q] at q'; cases q'
   obtain ⟨v, hv⟩ := heo
   exact ⟨v, by rw [hbe]; exact hv⟩
  ·refine (ok b u q).stay (fun c v hc r => k c v ?_ r) (fun c r => by rw [upd_ne (nown c b r)]; exact r) fun c xs r => by rw [upd_ne (ntup c xs r)]; exact r
   rcases hc with rfl | hc
   ·exact hbe
   ·rintro rfl
    rcases he with z | z
    ·exact nown c b hc z
    ·rw [hc] at z; cases z; exact hb rfl
end
structure Un (fs ex : List Addr) (H H' : Hp) (h h' : Heap) : Prop where
 keep : ∀ b o, h.get? b = some o → H b = none → b ∉ fs → b ∉ ex → h'.get? b = some o
 slot : ∀ b o, h.get? b = some o → H b = none → b ∈ fs → b ∉ ex → ∃ sl, h'.get? b = some { o with slots := sl }
 free : ∀ b o, h.get? b = some o → H b = none → b ∉ ex → H' b = none
 there : ∀ b o, h.get? b = some o → b ∉ ex → ∃ o', h'.get? b = some o'
 tups : ∀ b xs, H b = some (.tup xs) → H' b = some (.tup xs)
 frzs : ∀ b o u, H b = some (.frz o u) → H' b = some (.frz o u)
 tbls : ∀ b ps, H b = some (.tbl ps) → ∃ more, H' b = some (.tbl (ps ++ more))
section
variable {fs fs' ex ex' : List Addr} {H H1 H2 : Hp} {h h1 h2 h' : Heap} {a x e : Addr} {o : HO}
theorem Un.any (u : Un fs ex H H1 h h1) {b : Addr} {ob : Obj} (q : h.get? b = some ob) (n : H b = none) (hx : b ∉ ex) : ∃ sl, h1.get? b = some { ob with slots := sl } := by
 by_cases hb : b ∈ fs
 ·exact u.slot b ob q n hb hx
 ·exact ⟨ob.slots, u.keep b ob q n hb hx⟩
theorem Un.trans (a : Un fs ex H H1 h h1) (b : Un fs ex H1 H2 h1 h2) : Un fs ex H H2 h h2 where
 keep := fun c ob q n hc hx => b.keep c ob (a.keep c ob q n hc hx) (a.free c ob q n hx) hc hx
 slot := fun c ob q n hc hx => by
  obtain ⟨sl, e1⟩ := a.slot c ob q n hc hx
  obtain ⟨sl', e2⟩ := b.slot c _ e1 (a.free c ob q n hx) hc hx
  exact ⟨sl', e2⟩
 free := fun c ob q n hx => by
  obtain ⟨o', e1⟩ := a.there c ob q hx
  exact b.free c o' e1 (a.free c ob q n hx) hx
 there := fun c ob q hx => by
  obtain ⟨o', e1⟩ := a.there c ob q hx
  exact b.there c o' e1 hx
 tups := fun c xs q => b.tups c xs (a.tups c xs q)
 frzs := fun c ob xs q => b.frzs c ob xs (a.frzs c ob xs q)
 tbls := fun c ps q => by
  obtain ⟨m1, e1⟩ := a.tbls c ps q
  obtain ⟨m2, e2⟩ := b.tbls c _ e1
  exact ⟨m1 ++ m2, by rw [e2, Array.append_assoc]⟩
theorem Un.kept (k : ∀ b u, h.get? b = some u → h'.get? b = some u) : Un fs ex H H h h' :=
 ⟨fun b ob q _ _ _ => k b ob q, fun b ob q _ _ _ => ⟨ob.slots, k b ob q⟩, fun _ _ _ n _ => n, fun b ob q _ => ⟨ob, k b ob q⟩, fun _ _ q => q, fun _ _ _ q => q, fun _ ps q => ⟨#[], by rw [q]; simp⟩⟩
theorem Un.refl : Un fs ex H H h h := Un.kept fun _ _ q => q
theorem Un.laid (k : ∀ b u, h.get? b = some u → h'.get? b = some u) (hp : h.objs.size ≤ a) (hn : H a = none) : Un fs ex H (upd H a o) h h' where
 keep := fun b u q _ _ _ => k b u q
 slot := fun b u q _ _ _ => ⟨u.slots, k b u q⟩
 free := fun b u q n _ => by rw [upd_ne (Nat.ne_of_lt (Nat.lt_of_lt_of_le (Heap.lt_size q) hp))]; exact n
 there := fun b u q _ => ⟨u, k b u q⟩
 tups := fun b xs q => by rw [upd_ne (ne_of_none q hn)]; exact q
 frzs := fun b u xs q => by rw [upd_ne (ne_of_none q hn)]; exact q
 tbls := fun b ps q => ⟨#[], by rw [upd_ne (ne_of_none q hn), q]; simp⟩
theorem Un.write (mu : Mut (H x)) (he : e = x ∨ H e = some (.own x)) (k : ∀ b u, b ≠ e → h.get? b = some u → h'.get? b = some u) (heo : ∃ u, h'.get? e = some u) : Un fs ex H (upd H x o) h h' := by
 have hx : ∀ b, H b = none → b ≠ x := fun b n z => by subst z; rw [n] at mu; exact mu
 have hb : ∀ b, H b = none → b ≠ e := fun b n z => by
  subst z
  rcases he with r | r
  ·exact hx b n r
  ·rw [n] at r; cases r
 have hm : ∀ b u, H b = some u → ¬ Mut (some u) → b ≠ x := fun b u q nm z => by subst z; rw [q] at mu; exact nm mu
 refine ⟨fun b u q n _ _ => k b u (hb b n) q, fun b u q n _ _ => ⟨u.slots, k b u (hb b n) q⟩, fun b u q n _ => by rw [upd_ne (hx b n)]; exact n, fun b u q _ => ?_,
  fun b xs q => by rw [upd_ne (hm b _ q fun z => z)]; exact q, fun b u xs q => by rw [upd_ne (hm b _ q fun z => z)]; exact q, fun b ps q => ⟨#[], by rw [upd_ne (hm b _ q fun z => z), q]; simp⟩⟩
 by_cases hbe : b = e
 ·subst hbe; exact heo
 ·exact ⟨u, k b u hbe q⟩
theorem Un.mono (u : Un fs ex H H1 h h1) (hs : ∀ b ∈ fs, b ∈ fs') (hx : ∀ b ∈ ex, b ∈ ex') : Un fs' ex' H H1 h h1 :=
 ⟨fun b ob q n hb he => u.keep b ob q n (fun z => hb (hs b z)) fun z => he (hx b z), fun _ _ q n _ he => u.any q n fun z => he (hx _ z), fun b ob q n he => u.free b ob q n fun z => he (hx b z), fun b ob q he => u.there b ob q fun z => he (hx b z), u.tups, u.frzs, u.tbls⟩
end
def trk (h : Heap) (H : Hp) : List Addr := (List.range h.objs.size).filter fun a => (H a).isSome
def hidT (h : Heap) (H : Hp) : Heap := PySem.W.hideAll h (trk h H)
theorem hidT_size (h : Heap) (H : Hp) : (hidT h H).objs.size = h.objs.size := PySem.W.hideAll_size _ _
theorem hidT_get {h : Heap} {H : Hp} {b : Addr} {o : Obj} (e : h.get? b = some o) (n : H b = none) : (hidT h H).get? b = some o :=
 PySem.W.hideAll_get _ e fun hm => by
  have q : (H b).isSome = true := (List.mem_filter.mp hm).2
  rw [n] at q; simp at q
theorem of_hidT {h : Heap} {H : Hp} {b : Addr} {o : Obj} (e : (hidT h H).get? b = some o) : h.get? b = some o ∧ H b = none := by
 have e' : h.get? b = some o := PySem.W.of_hideAll (trk h H) e
 refine ⟨e', ?_⟩
 cases q : H b with
 | none => rfl
 | some x =>
  have hm : b ∈ trk h H := List.mem_filter.mpr ⟨List.mem_range.mpr (Heap.lt_size e'), by simp [q]⟩
  have z : (hidT h H).get? b = none := PySem.W.hideAll_none (trk h H) hm
  rw [z] at e; cases e
def allNews (g h : Heap) (L : Addr) : List (Addr × Obj) := (List.range h.objs.size).filterMap fun a => if a = L ∨ (g.get? a).isSome = true then none else (h.get? a).map fun o => (a, o)
def rest (g h : Heap) (L d : Addr) : List (Addr × Obj) := (allNews g h L).filter fun p => decide (p.1 ≠ d)
end L2
namespace L2
open PySem PySem.Spec PyProof.Rows
structure Mod (K : PySem.W.Frag) (mg : Str → Option Value) (base : Heap) : Prop where
 kin : K.In base
 glob : base.Ns mainGlobals mg
 blt : ∃ mb, base.Ns builtinsNs mb ∧ ∀ x : Str, x ≠ "__name__" → mb x = bootBuiltins x
 nolimit : base.NoLimit
structure Cx where
 prog : Program
 w : World
 K : PySem.W.Frag
 mg : Str → Option Value
 base : Heap
 A : Around
 N : List Str
 s₀ : Shared
 H₀ : Hp
 env : Env
 outer : List Env
 stack : List Env
 ex : List Addr
 fn : Str → Bool
 calm : Bool
 pn : List (Addr × Obj)
 xe : Value → Shared → Prop
def frs (l : List Env) : List Addr := l.filterMap (·.frame)
abbrev Cx.fs (X : Cx) : List Addr := frs X.outer
def Vis (sc : Scope) (x : Str) : Prop := sc.names.lookup x = some .local ∨ sc.names.lookup x = some .cell ∨ sc.names.lookup x = some .free
def Loc (sc : Scope) (x : Str) : Prop := sc.names.lookup x = some .local ∨ sc.names.lookup x = some .cell
def Look (env : Env) (h : Heap) (m : Str → Option Value) (x : Str) (u : Value) : Prop :=
 (env.kindOf x = some .local ∧ m x = some u) ∨ ((env.kindOf x = some .cell ∨ env.kindOf x = some .free) ∧ ∃ c, env.cells.lookup x = some c ∧ h.IsCell c (some u))
structure Cx.Ok (X : Cx) : Prop where
 mod : Mod X.K X.mg X.base
 kind : X.env.scope.kind = .function
 glob : X.env.globals = mainGlobals
 blt : X.env.builtins = builtinsNs
 above : X.s₀.heap.objs.size ≤ X.env.locals
 inj : ∀ x y c, X.env.cells.lookup x = some c → X.env.cells.lookup y = some c → x = y
 has : ∀ x, (X.env.kindOf x = some .cell ∨ X.env.kindOf x = some .free) → ∃ c, X.env.cells.lookup x = some c
 cab : ∀ x c, X.fn x = true → X.env.cells.lookup x = some c → X.s₀.heap.objs.size ≤ c
 hd : X.calm = true → X.A.handled = none
 frames : X.A.frames = some X.stack
 stk : X.stack = X.outer ∨ (X.stack = X.env :: X.outer ∧ X.env.frame = some X.env.locals)
 exf : ∀ b ∈ X.ex, b ≠ X.env.locals ∧ ∀ x c, X.env.cells.lookup x = some c → c ≠ b
 bs : ∀ b o, X.base.get? b = some o → X.s₀.heap.get? b = some o ∧ X.H₀ b = none
 bsz : X.base.objs.size ≤ X.s₀.heap.objs.size
 noex : ∀ b o, X.base.get? b = some o → b ∉ X.ex
 exfs : ∀ b ∈ X.ex, b ∉ X.fs
 funs : X.s₀.heap.FunFrames X.base X.outer
 frf : ∀ b ∈ X.fs, X.H₀ b = none
structure Inv (X : Cx) (pins : List (Addr × Obj)) (σ : List (Option V)) (H : Hp) (s : Shared) : Prop where
 ok : X.Ok
 os : s.os = X.s₀.os
 bare : AllBare s.gens
 base : Un X.fs X.ex X.H₀ H X.s₀.heap s.heap
 loc : ∃ m, s.heap.Ns X.env.locals m ∧ ∀ (i : Nat) (x : Str) (v : V), X.N[i]? = some x → σ[i]? = some (some v) → Vis X.env.scope x → ∃ u, RelV v u ∧ Look X.env s.heap m x u
 cell : ∀ x c, X.env.cells.lookup x = some c → ∃ v, s.heap.IsCell c v
 free : H X.env.locals = none
 freeC : ∀ x c, X.env.cells.lookup x = some c → H c = none
 pin : ∀ p ∈ X.pn ++ pins, s.heap.get? p.1 = some p.2 ∧ H p.1 = none ∧ p.1 ≠ X.env.locals ∧ p.1 ∉ X.fs ∧ ∀ v, p.2.data ≠ .cell v
 hok : HOk X.prog X.w H s.heap
 len : σ.length = X.N.length
section
variable {X : Cx} {pins : List (Addr × Obj)} {σ : List (Option V)} {H H' : Hp} {s : Shared} {h' : Heap}
theorem Cx.Ok.nofr (ok : X.Ok) {b : Addr} {o : Obj} (e : X.base.get? b = some o) : b ∉ X.fs := fun hb => by
 have := (ok.funs.mem hb).1
 rw [e] at this; cases this
theorem Inv.bs (I : Inv X pins σ H s) : ∀ b o, X.base.get? b = some o → s.heap.get? b = some o ∧ H b = none := fun b o e =>
 ⟨I.base.keep b o (I.ok.bs b o e).1 (I.ok.bs b o e).2 (I.ok.nofr e) (I.ok.noex b o e), I.base.free b o (I.ok.bs b o e).1 (I.ok.bs b o e).2 (I.ok.noex b o e)⟩
theorem Inv.bk (I : Inv X pins σ H s) : ∀ b o, X.base.get? b = some o → s.heap.get? b = some o := fun b o e => (I.bs b o e).1
theorem Inv.mod (I : Inv X pins σ H s) : Mod X.K X.mg X.base := I.ok.mod
theorem Inv.kIn (I : Inv X pins σ H s) : X.K.In s.heap := I.ok.mod.kin.keeps I.bk
theorem Inv.nolimit (I : Inv X pins σ H s) : s.heap.NoLimit := I.ok.mod.nolimit.keeps I.bk
theorem Inv.fr (I : Inv X pins σ H s) : ∃ m, Fr X.base X.env.locals s.heap m :=
 let ⟨m, hn, _⟩ := I.loc
 ⟨m, hn, I.bk, Nat.le_trans I.ok.bsz I.ok.above⟩
theorem Inv.lt (I : Inv X pins σ H s) : X.env.locals < s.heap.objs.size := let ⟨_, hn, _⟩ := I.loc; hn.lt
theorem Inv.sz (I : Inv X pins σ H s) : X.s₀.heap.objs.size ≤ s.heap.objs.size := Nat.le_trans I.ok.above (Nat.le_of_lt I.lt)
theorem Inv.nofs (I : Inv X pins σ H s) {a : Addr} (h : s.heap.objs.size ≤ a) : a ∉ X.fs := fun hb => by
 obtain ⟨_, o, ho, _⟩ := I.ok.funs.mem hb
 exact absurd (Nat.lt_of_lt_of_le (Heap.lt_size ho) (Nat.le_trans I.sz h)) (Nat.lt_irrefl _)
theorem Inv.cne (I : Inv X pins σ H s) : ∀ x c, X.env.cells.lookup x = some c → c ≠ X.env.locals := fun x c e z => by
 obtain ⟨v, o, ho, hd⟩ := I.cell x c e
 obtain ⟨m, ⟨o', es, ep, ho', hd', _⟩, _⟩ := I.loc
 rw [z, ho'] at ho; cases ho; rw [hd'] at hd; cases hd
theorem Inv.funs (I : Inv X pins σ H s) : s.heap.FunFrames X.base X.outer := by
 have all : ∀ (l : List Env), (∀ b ∈ frs l, b ∈ X.fs) → X.s₀.heap.FunFrames X.base l → s.heap.FunFrames X.base l := by
  intro l
  induction l with
  | nil => intro _ _; trivial
  | cons env r ih =>
   intro hs hl
   obtain ⟨hk, ⟨L, o, hf, hn, ho, hd⟩, hr⟩ := hl
   have hL : L ∈ X.fs := hs L (by unfold frs; rw [List.filterMap_cons, hf]; exact List.mem_cons_self)
   obtain ⟨sl, e⟩ := I.base.slot L o ho (I.ok.frf L hL) hL fun z => I.ok.exfs L z hL
   exact ⟨hk, ⟨L, _, hf, hn, e, hd⟩, ih (fun b hb => hs b (by unfold frs; rw [List.filterMap_cons, hf]; exact List.mem_cons_of_mem _ hb)) hr⟩
 exact all X.outer (fun _ hb => hb) I.ok.funs
theorem Inv.stack (I : Inv X pins σ H s) : s.heap.FunFrames X.base X.stack := by
 rcases I.ok.stk with e | ⟨e, hf⟩
 ·rw [e]; exact I.funs
 ·rw [e]
  obtain ⟨m, hn, _⟩ := I.loc
  refine .cons (by rw [I.ok.kind]; decide) hf hn ?_ I.funs
  exact Heap.get?_none_of_le (Nat.le_trans I.ok.bsz I.ok.above)
theorem Inv.stkSub (I : Inv X pins σ H s) : ∀ b ∈ frs X.stack, b ∈ X.env.locals :: X.fs := fun b hb => by
 rcases I.ok.stk with e | ⟨e, hf⟩
 ·rw [e] at hb; exact List.mem_cons_of_mem _ hb
 ·rw [e] at hb
  unfold frs at hb
  rw [List.filterMap_cons, hf] at hb
  exact hb
theorem Inv.stkFree (I : Inv X pins σ H s) : ∀ b ∈ frs X.stack, H b = none := fun b hb => by
 rcases List.mem_cons.mp (I.stkSub b hb) with e | hb
 ·rw [e]; exact I.free
 ·obtain ⟨_, o, ho, _⟩ := I.ok.funs.mem hb
  exact I.base.free b o ho (I.ok.frf b hb) fun z => I.ok.exfs b z hb
theorem Inv.step {g' : Array GenState} {t' : Nat} {d' : Drawn} {ch : List Addr} (I : Inv X pins σ H s)
  (hch : ∀ b ∈ ch, (b ∈ X.ex ∨ X.s₀.heap.objs.size ≤ b) ∧ b ≠ X.env.locals ∧ (∀ x c, X.env.cells.lookup x = some c → c ≠ b) ∧ ∀ p ∈ X.pn ++ pins, p.1 ≠ b)
  (keep : ∀ b o, b ≠ X.env.locals → b ∉ X.fs → b ∉ ch → s.heap.get? b = some o → H b = none → h'.get? b = some o)
  (slot : ∀ b o, b ≠ X.env.locals → b ∈ X.fs → b ∉ ch → s.heap.get? b = some o → H b = none → ∃ sl, h'.get? b = some { o with slots := sl }) (free : ∀ b o, b ∉ ch → s.heap.get? b = some o → H b = none → H' b = none)
  (there : ∀ b o, b ∉ ch → s.heap.get? b = some o → ∃ o', h'.get? b = some o')
  (tups : ∀ b xs, H b = some (.tup xs) → H' b = some (.tup xs)) (frzs : ∀ b o u, H b = some (.frz o u) → H' b = some (.frz o u)) (tbls : ∀ b ps, H b = some (.tbl ps) → ∃ more, H' b = some (.tbl (ps ++ more)))
  (ns : ∀ m, s.heap.Ns X.env.locals m → h'.Ns X.env.locals m) (hok : HOk X.prog X.w H' h') (hg : AllBare g') :
  Inv X pins σ H' { s with heap := h', gens := g', drawn := d', toks := t' } := by
 have neL : ∀ b o, X.s₀.heap.get? b = some o → b ≠ X.env.locals := fun b o e => Nat.ne_of_lt (Nat.lt_of_lt_of_le (Heap.lt_size e) I.ok.above)
 have neC : ∀ b o, X.s₀.heap.get? b = some o → b ∉ X.ex → b ∉ ch := fun b o e hx hb => by
  rcases (hch b hb).1 with z | z
  ·exact hx z
  ·exact absurd (Nat.lt_of_lt_of_le (Heap.lt_size e) z) (Nat.lt_irrefl _)
 have cellK : ∀ x c, X.env.cells.lookup x = some c → ∀ v, s.heap.IsCell c v → h'.IsCell c v := fun x c e v ⟨o, ho, hd⟩ => by
  have nch : c ∉ ch := fun z => (hch c z).2.2.1 x c e rfl
  by_cases hc : c ∈ X.fs
  ·obtain ⟨sl, q⟩ := slot c o (I.cne x c e) hc nch ho (I.freeC x c e)
   exact ⟨_, q, hd⟩
  ·exact ⟨o, keep c o (I.cne x c e) hc nch ho (I.freeC x c e), hd⟩
 refine ⟨I.ok, I.os, hg, ⟨fun b o e n hb hx => ?_, fun b o e n hb hx => ?_, fun b o e n hx => ?_, fun b o e hx => ?_, fun b xs e => tups b xs (I.base.tups b xs e), fun b o xs e => frzs b o xs (I.base.frzs b o xs e), fun b ps e => ?_⟩, ?_, fun x c e => ?_, ?_, fun x c e => ?_, fun p hp => ?_, hok, I.len⟩
 ·exact keep b o (neL b o e) hb (neC b o e hx) (I.base.keep b o e n hb hx) (I.base.free b o e n hx)
 ·obtain ⟨sl, e1⟩ := I.base.slot b o e n hb hx
  obtain ⟨sl', e2⟩ := slot b _ (neL b o e) hb (neC b o e hx) e1 (I.base.free b o e n hx)
  exact ⟨sl', e2⟩
 ·obtain ⟨o', e1⟩ := I.base.there b o e hx
  exact free b o' (neC b o e hx) e1 (I.base.free b o e n hx)
 ·obtain ⟨o', e1⟩ := I.base.there b o e hx
  exact there b o' (neC b o e hx) e1
 ·obtain ⟨m1, e1⟩ := I.base.tbls b ps e
  obtain ⟨m2, e2⟩ := tbls b _ e1
  exact ⟨m1 ++ m2, by rw [e2, Array.append_assoc]⟩
 ·obtain ⟨m, hn, hl⟩ := I.loc
  refine ⟨m, ns m hn, fun i x v e1 e2 e3 => ?_⟩
  obtain ⟨u, r, l⟩ := hl i x v e1 e2 e3
  refine ⟨u, r, ?_⟩
  rcases l with l | ⟨k, c, e, z⟩
  ·exact .inl l
  ·exact .inr ⟨k, c, e, cellK x c e _ z⟩
 ·obtain ⟨v, z⟩ := I.cell x c e
  exact ⟨v, cellK x c e v z⟩
 ·obtain ⟨m, ⟨o, _, _, ho, _⟩, _⟩ := I.loc
  exact free _ o (fun z => (hch _ z).2.1 rfl) ho I.free
 ·obtain ⟨v, o, ho, hd⟩ := I.cell x c e
  exact free c o (fun z => (hch c z).2.2.1 x c e rfl) ho (I.freeC x c e)
 ·obtain ⟨e, n, ne, nf, d⟩ := I.pin p hp
  have nch : p.1 ∉ ch := fun z => (hch p.1 z).2.2.2 p hp rfl
  exact ⟨keep p.1 p.2 ne nf nch e n, free p.1 p.2 nch e n, ne, nf, d⟩
theorem Inv.un {t' : Nat} (I : Inv X pins σ H s) (u : Un X.fs [] H H' s.heap h') (hok : HOk X.prog X.w H' h') : Inv X pins σ H' { s with heap := h', toks := t' } := by
 obtain ⟨m, ⟨o, es, ep, ho, r⟩, _⟩ := id I.loc
 obtain ⟨sl, hL⟩ := u.any ho I.free (by simp)
 exact I.step (g' := s.gens) (d' := s.drawn) (ch := []) (fun _ z => nomatch z) (fun b o _ hb _ e n => u.keep b o e n hb (by simp)) (fun b o _ hb _ e n => u.slot b o e n hb (by simp)) (fun b o _ e n => u.free b o e n (by simp)) (fun b o _ e => u.there b o e (by simp)) u.tups u.frzs u.tbls (fun m' hm => by
  obtain ⟨o', es', ep', ho', r'⟩ := hm
  rw [ho] at ho'; cases ho'
  exact ⟨_, es', ep', hL, r'⟩) hok I.bare
theorem Inv.call {g' : Array GenState} {t' : Nat} {d' : Drawn} {ch : List Addr} (I : Inv X pins σ H s) (u : Un (frs X.stack) ch H H' s.heap h') (hok : HOk X.prog X.w H' h') (hg : AllBare g')
  (hch : ∀ b ∈ ch, (b ∈ X.ex ∨ X.s₀.heap.objs.size ≤ b) ∧ b ≠ X.env.locals ∧ (∀ x c, X.env.cells.lookup x = some c → c ≠ b) ∧ ∀ p ∈ X.pn ++ pins, p.1 ≠ b) :
  Inv X pins σ H' { s with heap := h', gens := g', drawn := d', toks := t' } := by
 obtain ⟨m, ⟨o, es, ep, ho, r⟩, _⟩ := id I.loc
 obtain ⟨sl, hL⟩ := u.any ho I.free fun z => (hch _ z).2.1 rfl
 exact I.step (ch := ch) hch (fun b o hL hb hc e n => u.keep b o e n (fun z => (List.mem_cons.mp (I.stkSub b z)).elim hL hb) hc) (fun b o _ _ hc e n => u.any e n hc) (fun b o hc e n => u.free b o e n hc) (fun b o hc e => u.there b o e hc) u.tups u.frzs u.tbls (fun m' hm => by
  obtain ⟨o', es', ep', ho', r'⟩ := hm
  rw [ho] at ho'; cases ho'
  exact ⟨_, es', ep', hL, r'⟩) hok hg
theorem Inv.turned {t' : Nat} {it : Addr} (I : Inv X pins σ H s) (k : ∀ b o, b ≠ it → s.heap.get? b = some o → h'.get? b = some o) (hn : H it = none) (hL : it ≠ X.env.locals)
  (h1 : it ∈ X.ex ∨ X.s₀.heap.objs.size ≤ it) (h2 : ∀ x c, X.env.cells.lookup x = some c → c ≠ it) (h3 : ∀ p ∈ X.pn ++ pins, p.1 ≠ it) : Inv X pins σ H { s with heap := h', toks := t' } := by
 have nit : ∀ b u, H b = some u → b ≠ it := fun b u e z => by rw [z, hn] at e; cases e
 refine I.step (g' := s.gens) (d' := s.drawn) (ch := [it]) (fun b hb => ?_) (fun b o _ _ hc e _ => k b o (fun z => hc (by simp [z])) e) (fun b o _ _ hc e _ => ⟨o.slots, k b o (fun z => hc (by simp [z])) e⟩) (fun _ _ _ _ n => n)
  (fun b o hc e => ⟨o, k b o (fun z => hc (by simp [z])) e⟩) (fun _ _ e => e) (fun _ _ _ e => e) (fun b ps e => ⟨#[], by rw [e]; simp⟩) (fun m hm => ?_) (fun b u e => ?_) I.bare
 ·have e : b = it := by simpa using hb
  subst e
  exact ⟨h1, hL, h2, h3⟩
 ·obtain ⟨o, es, ep, ho, r⟩ := hm
  exact ⟨o, es, ep, k _ o (Ne.symm hL) ho, r⟩
 ·refine (I.hok b u e).stay (fun c v hc q => k c v ?_ q) (fun _ q => q) fun _ _ q => q
  rcases hc with z | z
  ·rw [z]; exact nit b u e
  ·exact nit c _ z
theorem Inv.tok (I : Inv X pins σ H s) (t : Nat) : Inv X pins σ H { s with toks := t } := I.un (h' := s.heap) (t' := t) Un.refl I.hok
theorem Inv.kept {t' : Nat} (I : Inv X pins σ H s) (k : ∀ b u, s.heap.get? b = some u → h'.get? b = some u) : Inv X pins σ H { s with heap := h', toks := t' } := I.un (Un.kept k) (I.hok.kept k)
theorem Inv.laid {a : Addr} {o : HO} {t' : Nat} (I : Inv X pins σ H s) (k : ∀ b u, s.heap.get? b = some u → h'.get? b = some u) (hp : s.heap.objs.size ≤ a) (new : ObjOk X.prog X.w (upd H a o) h' a o) :
  Inv X pins σ (upd H a o) { s with heap := h', toks := t' } := I.un (Un.laid k hp (I.hok.fresh hp)) (I.hok.laid k hp new)
theorem Inv.write {x e : Addr} {o : HO} {t' : Nat} (I : Inv X pins σ H s) (mu : Mut (H x)) (he : e = x ∨ H e = some (.own x)) (k : ∀ b u, b ≠ e → s.heap.get? b = some u → h'.get? b = some u) (heo : ∃ u, h'.get? e = some u)
  (new : ObjOk X.prog X.w (upd H x o) h' x o) : Inv X pins σ (upd H x o) { s with heap := h', toks := t' } := I.un (Un.write mu he k heo) (I.hok.write mu he k heo new)
theorem Inv.weak {σ' : List (Option V)} (I : Inv X pins σ H s) (hl : σ'.length = σ.length) (w : ∀ (i : Nat) v, σ'[i]? = some (some v) → σ[i]? = some (some v)) : Inv X pins σ' H s :=
 ⟨I.ok, I.os, I.bare, I.base, let ⟨m, hn, hl'⟩ := I.loc; ⟨m, hn, fun i x v e1 e2 e3 => hl' i x v e1 (w i v e2) e3⟩, I.cell, I.free, I.freeC, I.pin, I.hok, hl.trans I.len⟩
theorem Inv.pins_of {pins' : List (Addr × Obj)} (I : Inv X pins σ H s) (h : ∀ p ∈ pins', s.heap.get? p.1 = some p.2 ∧ H p.1 = none ∧ p.1 ≠ X.env.locals ∧ p.1 ∉ X.fs ∧ ∀ v, p.2.data ≠ .cell v) : Inv X pins' σ H s :=
 ⟨I.ok, I.os, I.bare, I.base, I.loc, I.cell, I.free, I.freeC, fun p hp => (List.mem_append.mp hp).elim (fun z => I.pin p (List.mem_append_left _ z)) (h p), I.hok, I.len⟩
theorem nodup_ix {N : List Str} (hN : N.Nodup) {i j : Nat} {x : Str} (a : N[i]? = some x) (b : N[j]? = some x) : i = j := by
 obtain ⟨h1, e1⟩ := List.getElem?_eq_some_iff.mp a
 obtain ⟨h2, e2⟩ := List.getElem?_eq_some_iff.mp b
 exact (List.getElem_inj hN).mp (e1.trans e2.symm)
theorem store_ok2 {M : Model} {A : Around} {E : Value → Shared → Prop} {i : Nat} {x : Str} {v : V} {u : Value} {Q : Unit → Shared → Prop} (I : Inv X pins σ H s) (hN : X.N.Nodup) (hi : X.N[i]? = some x) (hx : Loc X.env.scope x) (r : RelV v u)
  (h : ∀ s', Inv X pins (σ.set i (some v)) H s' → (∃ a, Heap.SameBut a s.heap s'.heap ∧ (a = X.env.locals ∨ X.env.cells.lookup x = some a)) → Q () s') (hf : X.fn x = true ∨ X.env.scope.names.lookup x = some .local := by first | exact .inl rfl | exact .inr rfl | assumption) : wpAny M A (storeName X.env x u) Q E s := by
 obtain ⟨m, hn, hl⟩ := id I.loc
 have hcls : (X.env.scope.kind == .class || (X.env.scope.kind == .module && X.env.locals != X.env.globals)) = false := by rw [I.ok.kind]; rfl
 have hiσ : i < σ.length := by rw [I.len]; exact (List.getElem?_eq_some_iff.mp hi).1
 have cne := I.cne
 have tracked : ∀ {a : Addr} {h' : Heap}, (∃ o, s.heap.get? a = some o ∧ H a = none) → Heap.SameBut a s.heap h' → HOk X.prog X.w H h' := fun {a h'} ha hs b ob e => by
  obtain ⟨_, _, hfree⟩ := ha
  refine (I.hok b ob e).stay (fun c w' hc q => (hs.2 c ?_).trans q) (fun _ q => q) fun _ _ q => q
  rintro rfl
  rcases hc with rfl | hc
  ·rw [hfree] at e; cases e
  ·rw [hfree] at hc; cases hc
 rcases hx with hk | hk
 ·refine wpAny_storeName_local hk hn (fun h' hn' hs => ?_) hcls
  obtain ⟨oL, _, _, hoL, _⟩ := id hn
  refine h _ ⟨I.ok, I.os, I.bare, ⟨fun b o e n hb hx => ?_, fun b o e n hb hx => ?_, I.base.free, fun b o e hx => ?_, I.base.tups, I.base.frzs, I.base.tbls⟩, ⟨_, hn', fun j y v' e1 e2 e3 => ?_⟩, fun y c e => ?_, I.free, I.freeC, fun p hp => ?_, tracked ⟨oL, hoL, I.free⟩ hs, by simpa using I.len⟩ ⟨_, hs, .inl rfl⟩
  ·exact (hs.2 b (Nat.ne_of_lt (Nat.lt_of_lt_of_le (Heap.lt_size e) I.ok.above))).trans (I.base.keep b o e n hb hx)
  ·obtain ⟨sl, e1⟩ := I.base.slot b o e n hb hx
   exact ⟨sl, (hs.2 b (Nat.ne_of_lt (Nat.lt_of_lt_of_le (Heap.lt_size e) I.ok.above))).trans e1⟩
  ·obtain ⟨o', e1⟩ := I.base.there b o e hx
   exact ⟨o', (hs.2 b (Nat.ne_of_lt (Nat.lt_of_lt_of_le (Heap.lt_size e) I.ok.above))).trans e1⟩
  ·by_cases hj : j = i
   ·subst hj
    rw [hi] at e1; cases e1
    rw [List.getElem?_set_self hiσ] at e2
    cases e2
    exact ⟨u, r, .inl ⟨hk, by simp⟩⟩
   ·rw [List.getElem?_set_ne (Ne.symm hj)] at e2
    obtain ⟨u', r', q⟩ := hl j y v' e1 e2 e3
    refine ⟨u', r', ?_⟩
    rcases q with ⟨k, e⟩ | ⟨k, c, e, z⟩
    ·refine .inl ⟨k, ?_⟩
     have : y ≠ x := fun e => hj (nodup_ix hN e1 (e ▸ hi))
     simp [this, e]
    ·exact .inr ⟨k, c, e, z.sameBut hs (cne y c e)⟩
  ·obtain ⟨w', z⟩ := I.cell y c e
   exact ⟨w', z.sameBut hs (cne y c e)⟩
  ·obtain ⟨e, n, ne, nf, d⟩ := I.pin p hp
   exact ⟨(hs.2 p.1 ne).trans e, n, ne, nf, d⟩
 ·have hfn : X.fn x = true := by
   rcases hf with z | z
   ·exact z
   ·rw [z] at hk; cases hk
  obtain ⟨c, hc⟩ := I.ok.has x (.inl hk)
  obtain ⟨w', z⟩ := I.cell x c hc
  refine wpAny_storeName_cell I.ok.kind hk hc z (fun h' hc' hs => ?_)
  obtain ⟨oc, hoc, hocd⟩ := id z
  refine h { s with heap := h' } ⟨I.ok, I.os, I.bare, ⟨fun b o e n hb hx => ?_, fun b o e n hb hx => ?_, I.base.free, fun b o e hx => ?_, I.base.tups, I.base.frzs, I.base.tbls⟩, ⟨m, hn.sameBut hs (Ne.symm (cne x c hc)), fun j y v' e1 e2 e3 => ?_⟩, fun y c' e => ?_, I.free, I.freeC, fun p hp => ?_, tracked ⟨oc, hoc, I.freeC x c hc⟩ hs, by simpa using I.len⟩ ⟨c, hs, .inr hc⟩
  ·exact (hs.2 b (Nat.ne_of_lt (Nat.lt_of_lt_of_le (Heap.lt_size e) (I.ok.cab x c hfn hc)))).trans (I.base.keep b o e n hb hx)
  ·obtain ⟨sl, e1⟩ := I.base.slot b o e n hb hx
   exact ⟨sl, (hs.2 b (Nat.ne_of_lt (Nat.lt_of_lt_of_le (Heap.lt_size e) (I.ok.cab x c hfn hc)))).trans e1⟩
  ·obtain ⟨o', e1⟩ := I.base.there b o e hx
   exact ⟨o', (hs.2 b (Nat.ne_of_lt (Nat.lt_of_lt_of_le (Heap.lt_size e) (I.ok.cab x c hfn hc)))).trans e1⟩
  ·by_cases hj : j = i
   ·subst hj
    rw [hi] at e1; cases e1
    rw [List.getElem?_set_self hiσ] at e2
    cases e2
    exact ⟨u, r, .inr ⟨.inl hk, c, hc, hc'⟩⟩
   ·rw [List.getElem?_set_ne (Ne.symm hj)] at e2
    obtain ⟨u', r', q⟩ := hl j y v' e1 e2 e3
    refine ⟨u', r', ?_⟩
    rcases q with q | ⟨k, c', e, z'⟩
    ·exact .inl q
    ·refine .inr ⟨k, c', e, z'.sameBut hs ?_⟩
     rintro rfl
     exact hj (nodup_ix hN e1 (I.ok.inj _ _ _ e hc ▸ hi))
  ·by_cases hcc : c' = c
   ·subst hcc; exact ⟨_, hc'⟩
   ·obtain ⟨w2, z2⟩ := I.cell y c' e
    exact ⟨w2, z2.sameBut hs hcc⟩
  ·obtain ⟨e, n, ne, nf, d⟩ := I.pin p hp
   refine ⟨(hs.2 p.1 ?_).trans e, n, ne, nf, d⟩
   intro q
   rw [q, hoc] at e
   have q' : oc = p.2 := Option.some.inj e
   exact d w' (by rw [← q']; exact hocd)
theorem store_ok {M : Model} {A : Around} {E : Value → Shared → Prop} {i : Nat} {x : Str} {v : V} {u : Value} {Q : Unit → Shared → Prop} (I : Inv X pins σ H s) (hN : X.N.Nodup) (hi : X.N[i]? = some x) (hx : Loc X.env.scope x) (r : RelV v u)
  (h : ∀ s', Inv X pins (σ.set i (some v)) H s' → Q () s') (hf : X.fn x = true ∨ X.env.scope.names.lookup x = some .local := by first | exact .inl rfl | exact .inr rfl | assumption) : wpAny M A (storeName X.env x u) Q E s :=
 store_ok2 I hN hi hx r (fun s' I' _ => h s' I') hf
theorem Inv.call' {s' : Shared} {ch : List Addr} (I : Inv X pins σ H s) (ho : s'.os = s.os) (u : Un (frs X.stack) ch H H' s.heap s'.heap) (hok : HOk X.prog X.w H' s'.heap) (hg : AllBare s'.gens)
  (hch : ∀ b ∈ ch, (b ∈ X.ex ∨ X.s₀.heap.objs.size ≤ b) ∧ b ≠ X.env.locals ∧ (∀ x c, X.env.cells.lookup x = some c → c ≠ b) ∧ ∀ p ∈ X.pn ++ pins, p.1 ≠ b) : Inv X pins σ H' s' := by
 obtain ⟨h', g', d', t', o'⟩ := s'
 have e : o' = s.os := ho
 subst e
 exact I.call (g' := g') (t' := t') (d' := d') u hok hg hch
end
abbrev XK := Value → Option Addr → Hp → Prop
abbrev St := List (Option V)
abbrev VK := V → Hp → Prop
abbrev TE := St → Hp → VK → Prop
abbrev TT := St → Hp → (Bool → Hp → Prop) → Prop
abbrev TA := St → Hp → (List V → Hp → Prop) → Prop
structure Ends where
 nx : St → Hp → Prop
 rt : VK
 bk : St → Hp → Prop := fun _ _ => False
 ct : St → Hp → Prop := fun _ _ => False
abbrev TS := Ends → St → Hp → Prop
def EP (X : Cx) (pins : List (Addr × Obj)) (σ : St) (Q : VK) (u : Value) (s' : Shared) : Prop := ∃ v H', Inv X pins σ H' s' ∧ RelV v u ∧ Q v H'
def TP (X : Cx) (pins : List (Addr × Obj)) (σ : St) (Q : Bool → Hp → Prop) (b : Bool) (s' : Shared) : Prop := ∃ H', Inv X pins σ H' s' ∧ Q b H'
def AP (X : Cx) (pins : List (Addr × Obj)) (σ : St) (Q : List V → Hp → Prop) (us : List Value) (s' : Shared) : Prop := ∃ vs H', Inv X pins σ H' s' ∧ Vals vs us ∧ Q vs H'
def SP (X : Cx) (pins : List (Addr × Obj)) (D : Ends) (f : Flow) (s' : Shared) : Prop :=
 match f with
 | .next => ∃ σ' H', Inv X pins σ' H' s' ∧ D.nx σ' H'
 | .brk => ∃ σ' H', Inv X pins σ' H' s' ∧ D.bk σ' H'
 | .cont => ∃ σ' H', Inv X pins σ' H' s' ∧ D.ct σ' H'
 | .ret u => ∃ v σ' H', Inv X pins σ' H' s' ∧ RelV v u ∧ D.rt v H'
def PE (X : Cx) (e : Expr) (t : TE) : Prop :=
 ∀ (pins : List (Addr × Obj)) (s : Shared) (σ : St) (H : Hp) (Q : VK), Inv X pins σ H s → t σ H Q → wpAny (model X.prog X.w) X.A (eval e X.env) (EP X pins σ Q) X.xe s
def PT (X : Cx) (e : Expr) (t : TT) : Prop :=
 ∀ (pins : List (Addr × Obj)) (s : Shared) (σ : St) (H : Hp) (Q : Bool → Hp → Prop), Inv X pins σ H s → t σ H Q → wpAny (model X.prog X.w) X.A (isTrue e X.env (eval e X.env)) (TP X pins σ Q) X.xe s
def PW (X : Cx) (e : Expr) (t : TT) : Prop :=
 ∀ (whole : Sem Value) (pins : List (Addr × Obj)) (s : Shared) (σ : St) (H : Hp) (Q : Bool → Hp → Prop), Inv X pins σ H s → t σ H Q → wpAny (model X.prog X.w) X.A (isTrue e X.env whole) (TP X pins σ Q) X.xe s
def PA (X : Cx) (es : List Expr) (t : TA) : Prop :=
 ∀ (pos : Pos) (pins : List (Addr × Obj)) (s : Shared) (σ : St) (H : Hp) (Q : List V → Hp → Prop), Inv X pins σ H s → t σ H Q → wpAny (model X.prog X.w) X.A (spliced (backTo pos (starEach es X.env))) (AP X pins σ Q) X.xe s
def PS (X : Cx) (st : Stmt) (t : TS) : Prop :=
 ∀ (pins : List (Addr × Obj)) (s : Shared) (σ : St) (H : Hp) (D : Ends), Inv X pins σ H s → t D σ H → wpAny (model X.prog X.w) X.A (exec st X.env) (SP X pins D) X.xe s
def PSs (X : Cx) (st : List Stmt) (t : TS) : Prop :=
 ∀ (pins : List (Addr × Obj)) (s : Shared) (σ : St) (H : Hp) (D : Ends), Inv X pins σ H s → t D σ H → wpAny (model X.prog X.w) X.A (execs st X.env) (SP X pins D) X.xe s
theorem thn {α : Type} {t : Sem α} {Q Q' : α → Shared → Prop} {M : Model} {A : Around} {E : Value → Shared → Prop} {s : Shared} (h : wpAny M A t Q E s) (hQ : ∀ a s, Q a s → Q' a s) : wpAny M A t Q' E s := wpAny_mono h hQ fun _ _ x => x
end L2
namespace L2
open PySem PySem.Spec PyProof.Rows
section
variable {X : Cx}
def tVar (i : Nat) : TE := fun σ H Q => ∃ v, σ[i]? = some (some v) ∧ Q v H
def tC (v : V) : TE := fun _ H Q => Q v H
theorem pe_var {i : Nat} {x : Str} {pos : Pos} (hN : X.N[i]? = some x) (hv : Vis X.env.scope x) (hd : (x == ("__debug__" : Str)) = false := by decide) (hcd : (x == ("__classdict__" : Str)) = false := by decide) : PE X (.Name x pos) (tVar i) := by
 intro pins s σ H Q I h
 obtain ⟨v, e, h⟩ := h
 obtain ⟨m, hn, hl⟩ := I.loc
 obtain ⟨u, r, l⟩ := hl i x v hN e hv
 have fin : EP X pins σ Q u s := ⟨v, H, I, r, h⟩
 rcases l with ⟨hk, hm⟩ | ⟨hk, c, hc, hcell⟩
 ·exact wpAny_Name (wpAny_loadName_local I.ok.kind hk hn hm fin) hd
 ·rcases hk with hk | hk
  ·exact wpAny_Name (wpAny_loadName_cell I.ok.kind hk hc hcell fin) hd
  ·exact wpAny_Name (wpAny_loadName_free I.ok.kind hk hc hcell fin hcd) hd
theorem pe_int {i j pos} : PE X (.Constant (.int i) j pos) (tC (.int i)) := fun _ _ _ H _ I h => wpAny_Constant_int ⟨.int i, H, I.tok _, ⟨_, rfl⟩, h⟩
def Gl (X : Cx) (x : Str) : Prop := X.env.kindOf x = some .globalImplicit
theorem ld_glob {E : Value → Shared → Prop} {pins : List (Addr × Obj)} {s : Shared} {σ : St} {H : Hp} {x : Str} {u : Value} {pos : Pos} {Q : Value → Shared → Prop} (I : Inv X pins σ H s) (hg : Gl X x) (hm : X.mg x = some u) (h : Q u s)
  (hd : (x == ("__debug__" : Str)) = false := by decide) : wpAny (model X.prog X.w) X.A (eval (.Name x pos) X.env) Q E s :=
 Calls.Name_function_global I.ok.kind hg (Calls.loadGlobal_global (by rw [I.ok.glob]; exact I.mod.glob.keeps I.bk) hm h) hd
theorem ld_blt {E : Value → Shared → Prop} {pins : List (Addr × Obj)} {s : Shared} {σ : St} {H : Hp} {x : Str} {u : Value} {pos : Pos} {Q : Value → Shared → Prop} (I : Inv X pins σ H s) (hg : Gl X x) (hm : X.mg x = none) (hv : bootBuiltins x = some u) (h : Q u s)
  (hn : x ≠ "__name__" := by decide) (hd : (x == ("__debug__" : Str)) = false := by decide) : wpAny (model X.prog X.w) X.A (eval (.Name x pos) X.env) Q E s := by
 obtain ⟨mb, h1, h2⟩ := I.mod.blt
 exact Calls.Name_function_global I.ok.kind hg (Calls.loadGlobal_builtin (by rw [I.ok.glob]; exact I.mod.glob.keeps I.bk) hm (by rw [I.ok.blt]; exact h1.keeps I.bk) ((h2 x hn).trans hv) h) hd
theorem pe_bltn {x : Str} {v : V} {u : Value} {pos : Pos} (hg : Gl X x) (hm : X.mg x = none) (hv : bootBuiltins x = some u) (r : RelV v u) (hn : x ≠ "__name__" := by decide) (hd : (x == ("__debug__" : Str)) = false := by decide) : PE X (.Name x pos) (tC v) :=
 fun _ _ _ H _ I h => ld_blt I hg hm hv ⟨v, H, I, r, h⟩ hn hd
variable {a b : Expr} {ta tb : TE} {pos : Pos}
variable {tA tB' : TT} {rest : List Expr}
def tAndV (ta tb : TE) : TE := fun σ H Q => ta σ H fun x H1 => ∃ c, x = .bl c ∧ if c = true then tb σ H1 Q else Q (.bl false) H1
def tNotV (ta : TE) : TE := fun σ H Q => ta σ H fun x H1 => ∃ c, x = .bl c ∧ Q (.bl (!c)) H1
theorem pe_one {op} {t : TE} (h : PE X a t) : PE X (.BoolOp op [a] pos) t := fun pins s σ H Q I hw => BoolOp_one (h pins s σ H Q I hw)
theorem pe_and (ha : PE X a ta) (hb : PE X (.BoolOp .And (b :: rest) pos) tb) : PE X (.BoolOp .And (a :: b :: rest) pos) (tAndV ta tb) := by
 intro pins s σ H Q I h
 refine BoolOp_and (thn (ha pins s σ H _ I h) fun v s1 ⟨x, H1, I1, r1, q1⟩ => ?_)
 obtain ⟨c, rfl, q1⟩ := q1
 cases r1
 refine wpAny_truthy_bool ?_
 cases c with
 | true => exact hb pins s1 σ H1 Q I1 q1
 | false => exact ⟨.bl false, H1, I1, rfl, q1⟩
theorem pe_not (ha : PE X a ta) : PE X (.UnaryOp .Not a pos) (tNotV ta) := by
 intro pins s σ H Q I h
 refine UnaryOp_ (thn (ha pins s σ H _ I h) fun v s1 ⟨x, H1, I1, r1, q1⟩ => ?_)
 obtain ⟨c, rfl, q1⟩ := q1
 cases r1
 exact not_of (wpAny_truthy_bool ⟨.bl (!c), H1, I1, rfl, q1⟩)
end
end L2
namespace L2
open PySem PySem.Spec PyProof.Rows
def SqL (K : PySem.W.Frag) (H : Hp) (a : Addr) (xs : List V) : Prop :=
 Rd H a (.lst xs) ∨
  ∃ (o : Obj) (its : Array Value) (n : Nat), K.lookup a = some o ∧ o.cls = .type "list" ∧ o.dict = none ∧ o.data = .seq its n ∧ its.size ≤ sizeLine ∧ Vals xs its.toList
def SqT (K : PySem.W.Frag) (H : Hp) (a : Addr) (xs : List V) : Prop :=
 Rd H a (.tup xs) ∨
  ∃ (o : Obj) (its : Array Value) (n : Nat), K.lookup a = some o ∧ o.cls = .type "tuple" ∧ o.data = .seq its n ∧ its.size ≤ sizeLine ∧ Vals xs its.toList
def absV : Value → Option V
 | .none => some .non
 | .bool b => some (.bl b)
 | .int i _ => some (.int i)
 | .str x _ => some (.str x)
 | .bytes b _ => some (.byt b)
 | .float b _ => some (.flt b)
 | .ref a => some (.ref a)
 | .type n => some (.ty n)
 | _ => none
theorem RelV.abs {x : V} {u : Value} (r : RelV x u) : absV u = some x := by
 cases x with
 | non => cases r; rfl
 | bl _ => cases r; rfl
 | int _ => obtain ⟨t, rfl⟩ := r; rfl
 | str _ => obtain ⟨t, rfl⟩ := r; rfl
 | byt _ => obtain ⟨t, rfl⟩ := r; rfl
 | flt _ => obtain ⟨t, rfl⟩ := r; rfl
 | ref _ => cases r; rfl
 | ty _ => cases r; rfl
theorem RelV.inj {x y : V} {u : Value} (r : RelV x u) (q : RelV y u) : x = y := Option.some.inj (r.abs.symm.trans q.abs)
theorem Vals.inj : ∀ {xs ys : List V} {us : List Value}, Vals xs us → Vals ys us → xs = ys
 | _, _, _, .nil, .nil => rfl
 | _, _, _, .cons r t, .cons r' t' => by rw [r.inj r', Vals.inj t t']
section
variable {X : Cx} {pins : List (Addr × Obj)} {σ : St} {H : Hp} {s : Shared} {a : Addr} {xs ys : List V}
theorem SqL.of {K : PySem.W.Frag} (h : H a = some (.lst xs)) : SqL K H a xs := .inl (.inl h)
theorem SqT.of {K : PySem.W.Frag} (h : H a = some (.tup xs)) : SqT K H a xs := .inl (.inl h)
theorem Inv.list (I : Inv X pins σ H s) (h : SqL X.K H a xs) : ∃ its : List Value, Vals xs its ∧ PlainL s.heap a its.toArray ∧ xs.length ≤ sizeLine := by
 rcases h with h | ⟨o, its, n, hk, hc, hd, hs, hz, r⟩
 ·obtain ⟨z, its, n, r, e⟩ := h.ok I.hok
  exact ⟨its, r, ⟨_, n, e, rfl, rfl, rfl⟩, z⟩
 ·refine ⟨its.toList, r, ⟨o, n, I.kIn a o hk, hc, hd, by simpa using hs⟩, ?_⟩
  have e := r.length
  simp only [Array.length_toList] at e
  omega
theorem Inv.tuple (I : Inv X pins σ H s) (h : SqT X.K H a xs) : ∃ its : List Value, Vals xs its ∧ IsTup s.heap a its.toArray ∧ xs.length ≤ sizeLine := by
 rcases h with h | ⟨o, its, n, hk, hc, hs, hz, r⟩
 ·obtain ⟨z, its, r, p⟩ := h.ok I.hok
  exact ⟨its, r, p, z⟩
 ·refine ⟨its.toList, r, ⟨o, I.kIn a o hk, hc, n, by simpa using hs⟩, ?_⟩
  have e := r.length
  simp only [Array.length_toList] at e
  omega
theorem Inv.list_inj (I : Inv X pins σ H s) (h : SqL X.K H a xs) (h' : SqL X.K H a ys) : xs = ys := by
 obtain ⟨its, r, ⟨o, n, e, _, _, d⟩, _⟩ := I.list h
 obtain ⟨its', r', ⟨o', n', e', _, _, d'⟩, _⟩ := I.list h'
 rw [e] at e'; cases e'
 rw [d] at d'
 injection d' with d1 _
 have : its = its' := by simpa using congrArg Array.toList d1
 subst this
 exact r.inj r'
theorem Inv.tuple_inj (I : Inv X pins σ H s) (h : SqT X.K H a xs) (h' : SqT X.K H a ys) : xs = ys := by
 obtain ⟨its, r, ⟨o, e, _, n, d⟩, _⟩ := I.tuple h
 obtain ⟨its', r', ⟨o', e', _, n', d'⟩, _⟩ := I.tuple h'
 rw [e] at e'; cases e'
 rw [d] at d'
 injection d' with d1 _
 have : its = its' := by simpa using congrArg Array.toList d1
 subst this
 exact r.inj r'
end
abbrev Cx.wish (X : Cx) (E : Value → Shared → Prop) : Cx := { X with xe := E }
abbrev Cx.nox (X : Cx) : Cx := X.wish fun _ _ => False
theorem Cx.Ok.wish {X : Cx} (ok : X.Ok) (E : Value → Shared → Prop) : (X.wish E).Ok :=
 ⟨ok.mod, ok.kind, ok.glob, ok.blt, ok.above, ok.inj, ok.has, ok.cab, ok.hd, ok.frames, ok.stk, ok.exf, ok.bs, ok.bsz, ok.noex, ok.exfs, ok.funs, ok.frf⟩
theorem Cx.Ok.unwish {X : Cx} {E : Value → Shared → Prop} (ok : (X.wish E).Ok) : X.Ok :=
 ⟨ok.mod, ok.kind, ok.glob, ok.blt, ok.above, ok.inj, ok.has, ok.cab, ok.hd, ok.frames, ok.stk, ok.exf, ok.bs, ok.bsz, ok.noex, ok.exfs, ok.funs, ok.frf⟩
section
variable {X : Cx} {pins : List (Addr × Obj)} {σ : St} {H : Hp} {s : Shared} {E : Value → Shared → Prop}
theorem Inv.wish (I : Inv X pins σ H s) (E : Value → Shared → Prop) : Inv (X.wish E) pins σ H s := ⟨I.ok.wish E, I.os, I.bare, I.base, I.loc, I.cell, I.free, I.freeC, I.pin, I.hok, I.len⟩
theorem Inv.unwish (I : Inv (X.wish E) pins σ H s) : Inv X pins σ H s := ⟨I.ok.unwish, I.os, I.bare, I.base, I.loc, I.cell, I.free, I.freeC, I.pin, I.hok, I.len⟩
theorem SP.unwish {D : Ends} {f : Flow} {s' : Shared} (h : SP (X.wish E) pins D f s') : SP X pins D f s' := by
 cases f with
 | next => obtain ⟨σ', H', I, q⟩ := h; exact ⟨σ', H', I.unwish, q⟩
 | brk => obtain ⟨σ', H', I, q⟩ := h; exact ⟨σ', H', I.unwish, q⟩
 | cont => obtain ⟨σ', H', I, q⟩ := h; exact ⟨σ', H', I.unwish, q⟩
 | ret u => obtain ⟨v, σ', H', I, r, q⟩ := h; exact ⟨v, σ', H', I.unwish, r, q⟩
theorem PE.nox {e : Expr} {t : TE} (h : PE X.nox e t) : PE X e t := fun pins s σ H Q I hw =>
 wpAny_mono (h pins s σ H Q (I.wish _) hw) (fun _ _ ⟨v, H', I', r, q⟩ => ⟨v, H', I'.unwish, r, q⟩) fun _ _ z => False.elim z
theorem PT.nox {e : Expr} {t : TT} (h : PT X.nox e t) : PT X e t := fun pins s σ H Q I hw =>
 wpAny_mono (h pins s σ H Q (I.wish _) hw) (fun _ _ ⟨H', I', q⟩ => ⟨H', I'.unwish, q⟩) fun _ _ z => False.elim z
theorem PSs.nox {st : List Stmt} {t : TS} (h : PSs X.nox st t) : PSs X st t := fun pins s σ H D I hw =>
 wpAny_mono (h pins s σ H D (I.wish _) hw) (fun _ _ q => q.unwish) fun _ _ z => False.elim z
end
section
variable {X : Cx} {st : Stmt} {rest : List Stmt} {t u : TS} {e : Expr} {te : TE} {pos : Pos}
def tNext : TS := fun D σ H => D.nx σ H
def tSeq (t u : TS) : TS := fun D σ H => t { D with nx := u D } σ H
theorem pss_nil : PSs X [] tNext := fun _ _ σ H _ I h => wpAny_execs_nil ⟨σ, H, I, h⟩
theorem pss_cons (h1 : PS X st t) (h2 : PSs X rest u) : PSs X (st :: rest) (tSeq t u) := by
 intro pins s σ H D I h
 refine wpAny_execs_cons (thn (h1 pins s σ H { D with nx := u D } I h) fun f s1 q => ?_)
 cases f with
 | next =>
  obtain ⟨σ', H', I', q⟩ := q
  exact h2 pins s1 σ' H' D I' q
 | ret v => exact q
 | brk => exact q
 | cont => exact q
theorem pss_one (h1 : PS X st t) : PSs X [st] t := by
 intro pins s σ H D I h
 refine wpAny_execs_cons (thn (h1 pins s σ H D I h) fun f s1 q => ?_)
 cases f with
 | next => exact wpAny_execs_nil q
 | ret v => exact q
 | brk => exact q
 | cont => exact q
theorem Inv.quiet {pins : List (Addr × Obj)} {σ : St} {H : Hp} {s : Shared} (I : Inv X pins σ H s) : interactive X.env = false := by simp [interactive, I.ok.kind]
def tDrop (te : TE) : TS := fun D σ H => te σ H fun _ H1 => D.nx σ H1
theorem ps_expr (he : PE X e te) (hs : swapsWith e none pos.line X.env = pure false := by rfl) : PS X (.Expr e pos) (tDrop te) := by
 intro pins s σ H D I h
 exact wpAny_Expr_any (thn (he pins s σ H _ I h) fun v s1 ⟨x, H1, I1, r1, q1⟩ => ⟨σ, H1, I1, q1⟩) I.quiet hs
def tRet (te : TE) : TS := fun D σ H => te σ H D.rt
theorem ps_ret (he : PE X e te) : PS X (.Return (some e) pos) (tRet te) := by
 intro pins s σ H D I h
 exact wpAny_Return_some (thn (he pins s σ H _ I h) fun v s1 ⟨x, H1, I1, r1, q1⟩ => ⟨x, σ, H1, I1, r1, q1⟩)
def tIfS (c : TT) (t u : TS) : TS := fun D σ H => c σ H fun b H1 => if b = true then t D σ H1 else u D σ H1
theorem ps_if {c : Expr} {a b : List Stmt} {tc : TT} (hc : PT X c tc) (ha : PSs X a t) (hb : PSs X b u) : PS X (.If c a b pos) (tIfS tc t u) := by
 intro pins s σ H D I h
 refine wpAny_If (thn (hc pins s σ H _ I h) fun d s1 ⟨H1, I1, q1⟩ => ?_)
 cases d with
 | true => exact ha pins s1 σ H1 D I1 q1
 | false => exact hb pins s1 σ H1 D I1 q1
end
abbrev TG := V → St → Hp → (St → Hp → Prop) → Prop
def PG (X : Cx) (target : Expr) (t : TG) : Prop :=
 ∀ (pins : List (Addr × Obj)) (s : Shared) (σ : St) (H : Hp) (v : V) (u : Value) (Q : St → Hp → Prop), Inv X pins σ H s → RelV v u → t v σ H Q →
  wpAny (model X.prog X.w) X.A (assign target X.env u) (fun _ s' => ∃ σ' H', Inv X pins σ' H' s' ∧ Q σ' H') X.xe s
abbrev TSet := V → V → V → Hp → (Hp → Prop) → Prop
def PSet (X : Cx) (t : TSet) : Prop :=
 ∀ (pins : List (Addr × Obj)) (s : Shared) (σ : St) (H : Hp) (o i v : V) (ov iv u : Value) (Q : Hp → Prop), Inv X pins σ H s → RelV o ov → RelV i iv → RelV v u → t o i v H Q →
  wpAny (model X.prog X.w) X.A (setItem ov iv u) (fun _ s' => ∃ H', Inv X pins σ H' s' ∧ Q H') X.xe s
abbrev TIp := V → V → Hp → VK → Prop
def PIp (X : Cx) (op : Operator) (t : TIp) : Prop :=
 ∀ (pins : List (Addr × Obj)) (s : Shared) (σ : St) (H : Hp) (x y : V) (v u : Value) (Q : VK), Inv X pins σ H s → RelV x v → RelV y u → t x y H Q →
  wpAny (model X.prog X.w) X.A (inplaceOp op v u) (EP X pins σ Q) X.xe s
section
variable {X : Cx} {pos : Pos}
def gName (i : Nat) : TG := fun v σ H Q => Q (σ.set i (some v)) H
theorem pg_name {i : Nat} {x : Str} (hN : X.N.Nodup) (hi : X.N[i]? = some x) (hx : Loc X.env.scope x) (hf : X.fn x = true ∨ X.env.scope.names.lookup x = some .local := by first | exact .inl rfl | exact .inr rfl | assumption) : PG X (.Name x pos) (gName i) := by
 intro pins s σ H v u Q I r h
 exact wpAny_assign_Name (store_ok I hN hi hx r (fun s' I' => ⟨_, H, I', h⟩) hf)
def tAsg (te : TE) (g : TG) : TS := fun D σ H => te σ H fun x H1 => g x σ H1 D.nx
theorem ps_set {i : Nat} {x : Str} {e : Expr} {te : TE} {pos' : Pos} (hN : X.N.Nodup) (hi : X.N[i]? = some x) (hx : Loc X.env.scope x) (he : PE X e te) (hs : swapsWith e (some (.Name x pos')) pos.line X.env = pure false := by rfl) (hf : X.fn x = true ∨ X.env.scope.names.lookup x = some .local := by first | exact .inl rfl | exact .inr rfl | assumption) :
  PS X (.Assign [.Name x pos'] e pos) (tAsg te (gName i)) := by
 intro pins s σ H D I h
 refine wpAny_Assign_Name (thn (he pins s σ H _ I h) fun v s1 ⟨y, H1, I1, r1, q1⟩ => ?_) hs
 exact store_ok I1 hN hi hx r1 (fun s2 I2 => ⟨_, H1, I2, q1⟩) hf
def tAug (i : Nat) (te : TE) (ti : TIp) : TS := fun D σ H => ∃ x, σ[i]? = some (some x) ∧ te σ H fun y H1 => ti x y H1 fun z H2 => D.nx (σ.set i (some z)) H2
theorem ps_aug {i : Nat} {x : Str} {e : Expr} {te : TE} {op : Operator} {ti : TIp} {pos' : Pos} (hN : X.N.Nodup) (hi : X.N[i]? = some x) (hx : Loc X.env.scope x) (he : PE X e te) (ho : PIp X op ti) (hf : X.fn x = true ∨ X.env.scope.names.lookup x = some .local := by first | exact .inl rfl | exact .inr rfl | assumption) :
  PS X (.AugAssign (.Name x pos') op e pos) (tAug i te ti) := by
 intro pins s σ H D I h
 obtain ⟨v, e1, h⟩ := h
 obtain ⟨m, hn, hl⟩ := I.loc
 have vis : Vis X.env.scope x := by rcases hx with k | k; exact .inl k; exact .inr (.inl k)
 obtain ⟨u, r, l⟩ := hl i x v hi e1 vis
 refine wpAny_AugAssign_Name ?_
 have go : wpAny (model X.prog X.w) X.A (eval e X.env) (fun w s₂ => wpAny (model X.prog X.w) X.A (inplaceOp op u w) (fun r s₃ => wpAny (model X.prog X.w) X.A (storeName X.env x r) (fun _ => SP X pins D .next) X.xe s₃) X.xe s₂) X.xe s := by
  refine thn (he pins s σ H _ I h) fun w s1 ⟨y, H1, I1, r1, q1⟩ => ?_
  refine thn (ho pins s1 σ H1 v y u w _ I1 r r1 q1) fun z s2 ⟨zv, H2, I2, r2, q2⟩ => ?_
  exact store_ok I2 hN hi hx r2 (fun s3 I3 => ⟨_, H2, I3, q2⟩) hf
 rcases l with ⟨hk, hm⟩ | ⟨hk, c, hc, hcell⟩
 ·exact wpAny_loadName_local I.ok.kind hk hn hm go
 ·rcases hk with hk | hk
  ·exact wpAny_loadName_cell I.ok.kind hk hc hcell go
  ·rcases hx with k | k
   ·have : X.env.scope.names.lookup x = some .free := hk
    rw [k] at this; cases this
   ·have : X.env.scope.names.lookup x = some .free := hk
    rw [k] at this; cases this
end
structure It where
 go : Nat → Hp → Prop
 yld : Nat → Hp → V → Hp → Prop
 stop : Nat → Hp → Prop
def FpOk (X : Cx) (pins : List (Addr × Obj)) (H : Hp) (b : Addr) : Prop :=
 H b = none ∧ b ≠ X.env.locals ∧ b ∉ X.fs ∧ (b ∈ X.ex ∨ X.s₀.heap.objs.size ≤ b) ∧ (∀ x c, X.env.cells.lookup x = some c → c ≠ b) ∧ ∀ p ∈ X.pn ++ pins, p.1 ≠ b
theorem Inv.fpOk {X : Cx} {pins : List (Addr × Obj)} {σ : St} {H H' : Hp} {s : Shared} {b : Addr} (I : Inv X pins σ H s) (hb : s.heap.objs.size ≤ b) (hn : H' b = none) : FpOk X pins H' b := by
 refine ⟨hn, Nat.ne_of_gt (Nat.lt_of_lt_of_le I.lt hb), I.nofs hb, .inr (Nat.le_trans I.sz hb), fun x c e z => ?_, fun p hp z => ?_⟩
 ·obtain ⟨v, q⟩ := I.cell x c e
  exact absurd (Nat.lt_of_lt_of_le q.lt (by rw [z]; exact hb)) (Nat.lt_irrefl _)
 ·exact absurd (Nat.lt_of_lt_of_le (Heap.lt_size (I.pin p hp).1) (by rw [z]; exact hb)) (Nat.lt_irrefl _)
structure Turn (P : Program) (w : World) (K : PySem.W.Frag) (tg : Expr) (J : It) (fp : List Addr) (it : Addr) (tn : Nat → Heap → Prop) : Prop where
 mem : it ∈ fp
 obj : ∀ i h, tn i h → ∀ b ∈ fp, ∃ o, h.get? b = some o ∧ ∀ v, o.data ≠ .cell v
 keep : ∀ i h h', tn i h → (∀ b ∈ fp, ∀ o, h.get? b = some o → h'.get? b = some o) → tn i h'
 item : ∀ (X : Cx), X.prog = P → X.w = w → X.K = K → X.calm = true → ∀ (i : Nat) (pins : List (Addr × Obj)) (s : Shared) (σ : St) (H : Hp) (E : Value → Shared → Prop), Inv X pins σ H s → (∀ b ∈ fp, FpOk X pins H b) → tn i s.heap → J.go i H →
  wpAny (model P w) X.A (pyNext (.ref it)) (fun r s1 => ∃ u, r = some u ∧
   wpAny (model P w) X.A (letOwnedTupleGo tg (.ref it) u) (fun _ s2 => ∃ x H', Inv X pins σ H' s2 ∧ RelV x u ∧ J.yld i H x H' ∧ tn (i + 1) s2.heap ∧ ∀ b ∈ fp, H' b = none) E s1) E s
 done : ∀ (X : Cx), X.prog = P → X.w = w → X.K = K → X.calm = true → ∀ (i : Nat) (pins : List (Addr × Obj)) (s : Shared) (σ : St) (H : Hp) (E : Value → Shared → Prop), Inv X pins σ H s → (∀ b ∈ fp, FpOk X pins H b) → tn i s.heap → J.stop i H →
  wpAny (model P w) X.A (pyNext (.ref it)) (fun r s1 => r = none ∧ Inv X pins σ H s1) E s
 self : ∀ (A : Around) (i : Nat) (s : Shared) (Q : Value → Shared → Prop) (E : Value → Shared → Prop), tn i s.heap → Q (.ref it) s → wpAny (model P w) A (pyIter (.ref it)) Q E s
abbrev TI := St → Hp → (It → Hp → Prop) → Prop
def PIE (X : Cx) (pins : List (Addr × Obj)) (σ : St) (tg : Expr) (R : It → Hp → Prop) (itv : Value) (s2 : Shared) : Prop :=
 ∃ (it : Addr) (fp : List Addr) (tn : Nat → Heap → Prop) (J : It) (H' : Hp), itv = .ref it ∧ Inv X pins σ H' s2 ∧ Turn X.prog X.w X.K tg J fp it tn ∧ tn 0 s2.heap ∧ (∀ b ∈ fp, FpOk X pins H' b) ∧ R J H'
def PI (X : Cx) (tg iter : Expr) (wi : TI) : Prop :=
 ∀ (pins : List (Addr × Obj)) (s : Shared) (σ : St) (H : Hp) (R : It → Hp → Prop), Inv X pins σ H s → wi σ H R →
  wpAny (model X.prog X.w) X.A (eval iter X.env) (fun v s1 => wpAny (model X.prog X.w) X.A (pyIter v) (PIE X pins σ tg R) X.xe s1) X.xe s
theorem go_of {M : Model} {A : Around} {E : Value → Shared → Prop} {s : Shared} {tg : Expr} {it : Addr} {u : Value} {o : Obj} {n : String} {vs : Array Value} {Q : Unit → Shared → Prop} (ho : s.heap.get? it = some o) (hc : o.cls = .type n) (hd : o.data = .fields vs)
    (hn : ["enumerate", "zip", "dict_itemiterator", "dict_reverseitemiterator", "odict_iterator", "itertools.zip_longest", "itertools.pairwise"].contains n = false) (hQ : Q () s) : wpAny M A (letOwnedTupleGo tg (.ref it) u) Q E s := by
  unfold letOwnedTupleGo
  cases tg <;> first
    | exact wpAny_pure hQ
    | (cases u <;> first
        | exact wpAny_pure hQ
        | (refine wpAny_bind (wpAny_load ho ?_)
           rw [hc, hd]
           show wpAny M A (if (["enumerate", "zip", "dict_itemiterator", "dict_reverseitemiterator", "odict_iterator", "itertools.zip_longest", "itertools.pairwise"].contains n && vs[0]? == some (rawInt _)) = true then _ else _) Q E s
           rw [if_neg (by intro h; rw [hn, Bool.false_and] at h; cases h)]
           exact wpAny_pure hQ))
def Itl (K : PySem.W.Frag) (a : Addr) : It :=
 ⟨fun i H => ∃ xs x, SqL K H a xs ∧ xs[i]? = some x, fun i H x H' => H' = H ∧ ∀ xs, SqL K H a xs → xs[i]? = some x, fun i H => ∃ xs, SqL K H a xs ∧ xs.length ≤ i⟩
def Itt (K : PySem.W.Frag) (a : Addr) : It :=
 ⟨fun i H => ∃ xs x, SqT K H a xs ∧ xs[i]? = some x, fun i H x H' => H' = H ∧ ∀ xs, SqT K H a xs → xs[i]? = some x, fun i H => ∃ xs, SqT K H a xs ∧ xs.length ≤ i⟩
def Itr (lo : Int) (n : Nat) : It := ⟨fun i _ => i < n, fun i H x H' => H' = H ∧ x = .int (lo + i), fun i _ => n ≤ i⟩
theorem turn_list {P : Program} {w : World} {K : PySem.W.Frag} {tg : Expr} (a it : Addr) : Turn P w K tg (Itl K a) [it] it (fun i h => h.IsListIter it a i) where
 mem := by simp
 obj := fun i h st b hb => by
  have e : b = it := by simpa using hb
  subst e
  obtain ⟨o, e, c, d⟩ := st
  exact ⟨o, e, fun v z => by rw [d] at z; cases z⟩
 keep := fun i h h' st k => st.at fun o e => k it (by simp) o e
 item := by
  intro X hP hw hK hc i pins s σ H E I hf st hg
  subst hP hw hK
  obtain ⟨xs, x, hq, hx⟩ := hg
  obtain ⟨its, rv, p, hz⟩ := I.list hq
  obtain ⟨u, hu, ru⟩ := rv.get hx
  obtain ⟨f0, f1, f2, f3, f4, f5⟩ := hf it (by simp)
  refine wpAny_pyNext_list_item st p.isList (x := u) (by simpa using hu) fun h' st' sb => ?_
  have I1 : Inv X pins σ H { s with heap := h' } := I.turned (t' := s.toks) (fun b o hb e => (sb.2 b hb).trans e) f0 f1 f3 f4 f5
  obtain ⟨o, e, c, d⟩ := id st'
  exact ⟨u, rfl, go_of (s := { s with heap := h' }) e c d (by decide) ⟨x, H, I1, ru, ⟨rfl, fun ys hy => by rw [I.list_inj hy hq]; exact hx⟩, st', fun b hb => (hf b hb).1⟩⟩
 done := by
  intro X hP hw hK hc i pins s σ H E I hf st hg
  subst hP hw hK
  obtain ⟨xs, hq, hx⟩ := hg
  obtain ⟨its, rv, p, hz⟩ := I.list hq
  obtain ⟨f0, f1, f2, f3, f4, f5⟩ := hf it (by simp)
  have hl := rv.length
  exact wpAny_pyNext_list_end (I.ok.hd hc) st p.isList (by simp; omega) fun h' eb => ⟨rfl, I.turned (t' := s.toks) (fun b o hb e => eb b o hb e) f0 f1 f3 f4 f5⟩
 self := fun _ _ _ _ _ st h => wpAny_pyIter_listiter st h
theorem turn_tuple {P : Program} {w : World} {K : PySem.W.Frag} {tg : Expr} (a it : Addr) : Turn P w K tg (Itt K a) [it] it (fun i h => h.IsTupleIter it a i) where
 mem := by simp
 obj := fun i h st b hb => by
  have e : b = it := by simpa using hb
  subst e
  obtain ⟨o, e, c, d⟩ := st
  exact ⟨o, e, fun v z => by rw [d] at z; cases z⟩
 keep := fun i h h' st k => st.at fun o e => k it (by simp) o e
 item := by
  intro X hP hw hK hc i pins s σ H E I hf st hg
  subst hP hw hK
  obtain ⟨xs, x, hq, hx⟩ := hg
  obtain ⟨its, rv, p, hz⟩ := I.tuple hq
  obtain ⟨u, hu, ru⟩ := rv.get hx
  obtain ⟨f0, f1, f2, f3, f4, f5⟩ := hf it (by simp)
  refine wpAny_pyNext_tuple_item st (show s.heap.IsTuple a its.toArray from p) (x := u) (by simpa using hu) fun h' st' sb => ?_
  have I1 : Inv X pins σ H { s with heap := h' } := I.turned (t' := s.toks) (fun b o hb e => (sb.2 b hb).trans e) f0 f1 f3 f4 f5
  obtain ⟨o, e, c, d⟩ := id st'
  exact ⟨u, rfl, go_of (s := { s with heap := h' }) e c d (by decide) ⟨x, H, I1, ru, ⟨rfl, fun ys hy => by rw [I.tuple_inj hy hq]; exact hx⟩, st', fun b hb => (hf b hb).1⟩⟩
 done := by
  intro X hP hw hK hc i pins s σ H E I hf st hg
  subst hP hw hK
  obtain ⟨xs, hq, hx⟩ := hg
  obtain ⟨its, rv, p, hz⟩ := I.tuple hq
  obtain ⟨f0, f1, f2, f3, f4, f5⟩ := hf it (by simp)
  have hl := rv.length
  exact wpAny_pyNext_tuple_end (I.ok.hd hc) st (show s.heap.IsTuple a its.toArray from p) (by simp; omega) fun h' eb => ⟨rfl, I.turned (t' := s.toks) (fun b o hb e => eb b o hb e) f0 f1 f3 f4 f5⟩
 self := fun _ _ _ _ _ st h => wpAny_pyIter_tupleiter st h
theorem turn_range {P : Program} {w : World} {K : PySem.W.Frag} {tg : Expr} (it : Addr) (lo : Int) (n : Nat) : Turn P w K tg (Itr lo n) [it] it (fun i h => IsRangeIter h it (lo + (i : Nat) * 1) ((n : Int) - (i : Nat)) 1) where
 mem := by simp
 obj := fun i h st b hb => by
  have e : b = it := by simpa using hb
  subst e
  exact ⟨_, st, fun v z => by
   have z' : Data.fields _ = Data.cell v := z
   cases z'⟩
 keep := fun i h h' st k => k it (by simp) _ st
 item := by
  intro X hP hw hK hc i pins s σ H E I hf st hg
  subst hP hw hK
  obtain ⟨f0, f1, f2, f3, f4, f5⟩ := hf it (by simp)
  have W := Walks.range (prog := X.prog) (w := X.w) (I.ok.hd hc) it lo 1 n
  refine W.item i s _ _ hg st fun v h' tk hv st' kk => ?_
  obtain ⟨t, rfl⟩ := hv
  have I1 : Inv X pins σ H { s with heap := h', toks := tk } := I.turned (fun b o hb e => kk b o (by simpa using hb) e) f0 f1 f3 f4 f5
  refine ⟨_, rfl, go_of (s := { s with heap := h', toks := tk }) (n := "range_iterator") st' rfl rfl (by decide) ⟨.int (lo + i), H, I1, ⟨t, ?_⟩, ⟨rfl, rfl⟩, st', fun b hb => (hf b hb).1⟩⟩
  rw [Int.mul_one]
 done := by
  intro X hP hw hK hc i pins s σ H E I hf st hg
  subst hP hw hK
  obtain ⟨f0, f1, f2, f3, f4, f5⟩ := hf it (by simp)
  exact wpAny_pyNext_range_end (I.ok.hd hc) st (by have : n ≤ i := hg; omega) fun h' eb => ⟨rfl, I.turned (t' := s.toks) (fun b o hb e => eb b o hb e) f0 f1 f3 f4 f5⟩
 self := fun _ _ _ _ _ st h => wpAny_pyIter_rangeiter st h
end L2
namespace L2
open PySem PySem.Spec PyProof.Rows
section
variable {X : Cx} {tg : Expr}
theorem range_it {pins : List (Addr × Obj)} {σ : St} {H : Hp} {s : Shared} {R : It → Hp → Prop} {E : Value → Shared → Prop} {lo hi : Int} {t u v : Tok} {tk : Nat} (I : Inv X pins σ H s) (h1 : -(2 ^ 62) ≤ lo) (h2 : lo < 2 ^ 62) (h3 : -(2 ^ 62) ≤ hi) (h4 : hi < 2 ^ 62)
  (q : R (Itr lo (hi - lo).toNat) H) : wpAny (model X.prog X.w) X.A (pyIter (.ref s.heap.objs.size)) (PIE X pins σ tg R) E { s with heap := s.heap.push { cls := .type "range", data := .fields #[.int lo t, .int hi u, .int 1 v] }, toks := tk } := by
 refine wpAny_pyIter_range (IsRange.new ..) (small_one h1 h2 h3 h4) ?_
 have I1 : Inv X pins σ H { s with heap := s.heap.push { cls := .type "range", data := .fields #[.int lo t, .int hi u, .int 1 v] }, toks := tk } := I.kept fun b o e => Heap.get?_push_of_some _ e
 refine ⟨(s.heap.push { cls := .type "range", data := .fields #[.int lo t, .int hi u, .int 1 v] }).objs.size, [(s.heap.push { cls := .type "range", data := .fields #[.int lo t, .int hi u, .int 1 v] }).objs.size], _, _, H, rfl,
  I1.kept (t' := tk) fun b o e => Heap.get?_push_of_some _ e, turn_range _ lo (hi - lo).toNat, ?_, fun b hb => ?_, q⟩
 ·have e1 : lo + ((0 : Nat) : Int) * 1 = lo := by simp
  have e2 : (((hi - lo).toNat : Nat) : Int) - ((0 : Nat) : Int) = Builtin.Range.rangeSize lo hi 1 := by rw [rangeSize_one]; split <;> omega
  show IsRangeIter _ _ (lo + ((0 : Nat) : Int) * 1) ((((hi - lo).toNat : Nat) : Int) - ((0 : Nat) : Int)) 1
  rw [e1, e2]
  exact Heap.get?_push_size _ rfl
 ·have e : b = (s.heap.push { cls := .type "range", data := .fields #[.int lo t, .int hi u, .int 1 v] }).objs.size := by simpa using hb
  subst e
  exact I1.fpOk (Nat.le_refl _) (I1.hok.fresh (Nat.le_refl _))
def iRng1 (ta : TA) : TI := fun σ H R => ta σ H fun vs H1 => ∃ j : Int, vs = [.int j] ∧ -(2 ^ 62) ≤ j ∧ j < 2 ^ 62 ∧ R (Itr 0 j.toNat) H1
theorem pi_range1 {a : Expr} {ta : TA} {p pos : Pos} (hg : Gl X "range") (hm : X.mg "range" = none) (ha : PA X [a] ta) (hs : starEach [a] X.env = [(false, eval a X.env)] := by rfl) : PI X tg (.Call (.Name "range" p) [a] [] pos) (iRng1 ta) := by
 intro pins s σ H R I h
 refine Call_ (ld_blt I hg hm boot_range (PyProof.Rows.callWith_type1 (thn (ha pos pins s σ H _ I h) fun us s1 ⟨vs, H1, I1, r1, q1⟩ => ?_) hs rfl))
 obtain ⟨j, e, q1, q2, q⟩ := q1
 subst e
 cases r1 with
 | cons r rr =>
  cases rr
  obtain ⟨t, rfl⟩ := r
  exact call_range_1 (range_it I1 (by omega) (by omega) q1 q2 (by simpa using q))
def tFor (wi : TI) (g : TG) (tb : TS) : TS := fun D σ H => wi σ H fun J H1 => ∃ W : Nat → Nat → St → Hp → Prop, (∃ m, W 0 m σ H1) ∧ ∀ i m σ H, W i m σ H →
 (J.stop i H ∧ D.nx σ H) ∨ (J.go i H ∧ ∃ N : St → Hp → Prop, (∀ σ' H', N σ' H' → ∃ m', m' < m ∧ W (i + 1) m' σ' H') ∧ ∀ x H', J.yld i H x H' → g x σ H' fun σ2 H2 => tb { D with nx := N, ct := N, bk := D.nx } σ2 H2)
def pinsAt (fp : List Addr) (h : Heap) : List (Addr × Obj) := fp.filterMap fun b => (h.get? b).map fun o => (b, o)
theorem mem_pinsAt {fp : List Addr} {h : Heap} {b : Addr} {o : Obj} (hb : b ∈ fp) (e : h.get? b = some o) : (b, o) ∈ pinsAt fp h := List.mem_filterMap.mpr ⟨b, hb, by rw [e]; rfl⟩
theorem of_pinsAt {fp : List Addr} {h : Heap} {p : Addr × Obj} (hp : p ∈ pinsAt fp h) : p.1 ∈ fp ∧ h.get? p.1 = some p.2 := by
 obtain ⟨b, hb, e⟩ := List.mem_filterMap.mp hp
 cases q : h.get? b with
 | none => rw [q] at e; cases e
 | some o =>
  rw [q] at e
  have e' : (b, o) = p := Option.some.inj e
  subst e'
  exact ⟨hb, q⟩
theorem Inv.pinned {pins : List (Addr × Obj)} {σ : St} {H : Hp} {s : Shared} {fp : List Addr} (I : Inv X pins σ H s) (hf : ∀ b ∈ fp, FpOk X pins H b) (ho : ∀ b ∈ fp, ∃ o, s.heap.get? b = some o ∧ ∀ v, o.data ≠ .cell v) : Inv X (pins ++ pinsAt fp s.heap) σ H s :=
 I.pins_of fun p hp => (List.mem_append.mp hp).elim (fun z => I.pin p (List.mem_append_right _ z)) fun z => by
  obtain ⟨hb, e⟩ := of_pinsAt z
  obtain ⟨f0, f1, f2, _⟩ := hf p.1 hb
  obtain ⟨o, e', d⟩ := ho p.1 hb
  rw [e] at e'; cases e'
  exact ⟨e, f0, f1, f2, d⟩
theorem Inv.unpinned {pins pl : List (Addr × Obj)} {σ : St} {H : Hp} {s : Shared} (I : Inv X (pins ++ pl) σ H s) : Inv X pins σ H s := I.pins_of fun p hp => I.pin p (List.mem_append_right _ (List.mem_append_left _ hp))
theorem ps_for {iter : Expr} {body : List Stmt} {wi : TI} {g : TG} {tb : TS} {pos : Pos} (hp : PassesOwn (model X.prog X.w) X.A X.env X.xe) (hc : X.calm = true) (hi : PI X tg iter wi) (hg : PG X tg g) (hb : PSs X body tb)
  (hs : ∀ x, foldedSetIterable iter X.env x = pure x := by intro _; rfl) : PS X (.For tg iter body [] pos) (tFor wi g tb) := by
 intro pins s σ H D I h
 refine wpAny_For (thn (hi pins s σ H _ I h) fun v s1 h1 => thn h1 fun itv s2 h2 => ?_) hs
 obtain ⟨it, fp, tn, J, H2, e, I2, T, st2, f2, W, ⟨m0, w0⟩, turn⟩ := h2
 subst e
 
 have stat : ∀ {H' : Hp}, (∀ b ∈ fp, H' b = none) → ∀ b ∈ fp, FpOk X pins H' b := fun hn b hb => ⟨hn b hb, (f2 b hb).2⟩
 refine codeAny_forLoop_any (fun n s' => ∃ i σ' H', Inv X pins σ' H' s' ∧ tn i s'.heap ∧ (∀ b ∈ fp, H' b = none) ∧ W i n σ' H') ?_ m0 ⟨0, σ, H2, I2, st2, fun b hb => (f2 b hb).1, w0⟩
 rintro n s3 ⟨i, σ3, H3, I3, st3, fr3, w3⟩
 rcases turn i n σ3 H3 w3 with ⟨stop, qn⟩ | ⟨go, N, hN, step⟩
 ·refine wpAny_passesOwn hp (thn (T.done X rfl rfl rfl hc i pins s3 σ3 H3 X.xe I3 (stat fr3) st3 stop) fun r s4 ⟨hr, I4⟩ => ?_)
  subst hr
  exact wpAny_execs_nil ⟨σ3, H3, I4, qn⟩
 ·refine wpAny_passesOwn hp (thn (T.item X rfl rfl rfl hc i pins s3 σ3 H3 X.xe I3 (stat fr3) st3 go) fun r s4 ⟨u, hr, h4⟩ => ?_)
  subst hr
  refine wpAny_passesOwn hp (thn h4 fun _ s5 ⟨x, H5, I5, r5, y5, st5, fr5⟩ => ?_)
  have I5' := I5.pinned (stat fr5) (T.obj _ _ st5)
  refine wpAny_passesOwn hp (thn (hg _ s5 σ3 H5 x u _ I5' r5 (step x H5 y5)) fun _ s6 ⟨σ6, H6, I6, q6⟩ => ?_)
  refine wpAny_passesOwn hp (thn (hb _ s6 σ6 H6 _ I6 q6) fun f s7 q7 => ?_)
  have again : ∀ {σ7 : St} {H7 : Hp}, Inv X (pins ++ pinsAt fp s5.heap) σ7 H7 s7 → N σ7 H7 → ∃ m, m < n ∧ ∃ i σ' H', Inv X pins σ' H' s7 ∧ tn i s7.heap ∧ (∀ b ∈ fp, H' b = none) ∧ W i m σ' H' := fun {σ7 H7} I7 n7 => by
   obtain ⟨m', hm, w7⟩ := hN σ7 H7 n7
   refine ⟨m', hm, i + 1, σ7, H7, I7.unpinned, T.keep _ _ _ st5 fun b hb o e => (I7.pin (b, o) (List.mem_append_right _ (List.mem_append_right _ (mem_pinsAt hb e)))).1, fun b hb => ?_, w7⟩
   obtain ⟨o, e, d⟩ := T.obj _ _ st5 b hb
   exact (I7.pin (b, o) (List.mem_append_right _ (List.mem_append_right _ (mem_pinsAt hb e)))).2.1
  cases f with
  | next => obtain ⟨σ7, H7, I7, n7⟩ := q7; exact again I7 n7
  | cont => obtain ⟨σ7, H7, I7, n7⟩ := q7; exact again I7 n7
  | brk => obtain ⟨σ7, H7, I7, q7⟩ := q7; exact ⟨σ7, H7, I7.unpinned, q7⟩
  | ret v => obtain ⟨x7, σ7, H7, I7, r7, q7⟩ := q7; exact ⟨x7, σ7, H7, I7.unpinned, r7, q7⟩
end
end L2
namespace L2
open PySem PySem.Spec PyProof.Rows
abbrev R2 := V → V → Hp → VK → Prop
def OpR (X : Cx) (f : Value → Value → Sem Value) (r : R2) : Prop :=
 ∀ (pins : List (Addr × Obj)) (s : Shared) (σ : St) (H : Hp) (x y : V) (v u : Value) (Q : VK), Inv X pins σ H s → RelV x v → RelV y u → r x y H Q →
  wpAny (model X.prog X.w) X.A (f v u) (EP X pins σ Q) X.xe s
def UnR (X : Cx) (f : Value → Sem Value) (r : V → Hp → VK → Prop) : Prop :=
 ∀ (pins : List (Addr × Obj)) (s : Shared) (σ : St) (H : Hp) (x : V) (v : Value) (Q : VK), Inv X pins σ H s → RelV x v → r x H Q →
  wpAny (model X.prog X.w) X.A (f v) (EP X pins σ Q) X.xe s
def CallR (X : Cx) (f : Value) (r : List V → Hp → VK → Prop) : Prop :=
 ∀ (pins : List (Addr × Obj)) (s : Shared) (σ : St) (H : Hp) (xs : List V) (us : List Value) (Q : VK), Inv X pins σ H s → Vals xs us → r xs H Q →
  wpAny (model X.prog X.w) X.A (call f us) (EP X pins σ Q) X.xe s
def TruR (X : Cx) (r : V → Hp → (Bool → Hp → Prop) → Prop) : Prop :=
 ∀ (pins : List (Addr × Obj)) (s : Shared) (σ : St) (H : Hp) (x : V) (v : Value) (Q : Bool → Hp → Prop), Inv X pins σ H s → RelV x v → r x H Q →
  wpAny (model X.prog X.w) X.A (truthy v) (TP X pins σ Q) X.xe s
def tOp (r : R2) (ta tb : TE) : TE := fun σ H Q => ta σ H fun x H1 => tb σ H1 fun y H2 => r x y H2 Q
def tUn (r : V → Hp → VK → Prop) (ta : TE) : TE := fun σ H Q => ta σ H fun x H1 => r x H1 Q
def rI (C : Int → Int → Prop) (g : Int → Int → V) : R2 := fun x y H Q => ∃ i j, x = .int i ∧ y = .int j ∧ C i j ∧ Q (g i j) H
def rI0 (g : Int → Int → V) : R2 := fun x y H Q => ∃ i j, x = .int i ∧ y = .int j ∧ Q (g i j) H
def rU (g : Int → V) : V → Hp → VK → Prop := fun x H Q => ∃ i, x = .int i ∧ Q (g i) H
section
variable {X : Cx} {a b c : Expr} {ta tb tc : TE} {pos : Pos}
theorem binT (ha : PE X a ta) (hb : PE X b tb) {pins : List (Addr × Obj)} {s : Shared} {σ : St} {H : Hp} {R : V → V → Hp → Prop} (I : Inv X pins σ H s)
  (h : ta σ H fun x H1 => tb σ H1 fun y H2 => R x y H2) {Q : Value → Shared → Prop} {f : Value → Value → Sem Value}
  (hf : ∀ v u s2 x y H2, Inv X pins σ H2 s2 → RelV x v → RelV y u → R x y H2 → wpAny (model X.prog X.w) X.A (f v u) Q X.xe s2) :
  wpAny (model X.prog X.w) X.A (eval a X.env) (fun v s₁ => wpAny (model X.prog X.w) X.A (eval b X.env) (fun u s₂ => wpAny (model X.prog X.w) X.A (f v u) Q X.xe s₂) X.xe s₁) X.xe s := by
 refine thn (ha pins s σ H _ I h) fun v s1 ⟨x, H1, I1, r1, q1⟩ => ?_
 refine thn (hb pins s1 σ H1 _ I1 q1) fun u s2 ⟨y, H2, I2, r2, q2⟩ => ?_
 exact hf v u s2 x y H2 I2 r1 r2 q2
theorem pe_op {op : Operator} {r : R2} (ho : OpR X (binaryOp op) r) (ha : PE X a ta) (hb : PE X b tb) : PE X (.BinOp a op b pos) (tOp r ta tb) := by
 intro pins s σ H Q I h
 exact wpAny_BinOp (binT ha hb I h fun v u s2 x y H2 I2 rx ry q => ho pins s2 σ H2 x y v u Q I2 rx ry q)
theorem pe_un {op : UnaryOp} {r : V → Hp → VK → Prop} (ho : UnR X (unaryOp op) r) (ha : PE X a ta) : PE X (.UnaryOp op a pos) (tUn r ta) := by
 intro pins s σ H Q I h
 exact UnaryOp_ (thn (ha pins s σ H _ I h) fun v s1 ⟨x, H1, I1, r1, q1⟩ => ho pins s1 σ H1 x v Q I1 r1 q1)
theorem opI {f : Value → Value → Sem Value} {C : Int → Int → Prop} {g : Int → Int → Int}
  (rule : ∀ (i j : Int) (t u : Tok) (s : Shared) (Q : Value → Shared → Prop) (E : Value → Shared → Prop), C i j → Q (.int (g i j) s.toks) { s with toks := s.toks + 1 } → wpAny (model X.prog X.w) X.A (f (.int i t) (.int j u)) Q E s) :
  OpR X f (rI C fun i j => .int (g i j)) := by
 intro pins s σ H x y v u Q I rx ry h
 obtain ⟨i, j, rfl, rfl, hc, q⟩ := h
 obtain ⟨t, rfl⟩ := rx
 obtain ⟨t', rfl⟩ := ry
 exact rule i j t t' s _ _ hc ⟨.int (g i j), H, I.tok _, ⟨_, rfl⟩, q⟩
theorem opI0 {f : Value → Value → Sem Value} {g : Int → Int → Int}
  (rule : ∀ (i j : Int) (t u : Tok) (s : Shared) (Q : Value → Shared → Prop) (E : Value → Shared → Prop), Q (.int (g i j) s.toks) { s with toks := s.toks + 1 } → wpAny (model X.prog X.w) X.A (f (.int i t) (.int j u)) Q E s) :
  OpR X f (rI0 fun i j => .int (g i j)) := by
 intro pins s σ H x y v u Q I rx ry h
 obtain ⟨i, j, rfl, rfl, q⟩ := h
 obtain ⟨t, rfl⟩ := rx
 obtain ⟨t', rfl⟩ := ry
 exact rule i j t t' s _ _ ⟨.int (g i j), H, I.tok _, ⟨_, rfl⟩, q⟩
theorem opB0 {f : Value → Value → Sem Value} {g : Int → Int → Bool}
  (rule : ∀ (i j : Int) (t u : Tok) (s : Shared) (Q : Value → Shared → Prop) (E : Value → Shared → Prop), Q (.bool (g i j)) s → wpAny (model X.prog X.w) X.A (f (.int i t) (.int j u)) Q E s) :
  OpR X f (rI0 fun i j => .bl (g i j)) := by
 intro pins s σ H x y v u Q I rx ry h
 obtain ⟨i, j, rfl, rfl, q⟩ := h
 obtain ⟨t, rfl⟩ := rx
 obtain ⟨t', rfl⟩ := ry
 exact rule i j t t' s _ _ ⟨.bl (g i j), H, I, rfl, q⟩
def CDiv (i j : Int) : Prop := 0 < j ∧ j < 1073741824
def CPow (i j : Int) : Prop := 0 ≤ j ∧ j ≤ 1000000 ∧ i.natAbs < 2 ^ 64
def CMul (i j : Int) : Prop := (-(2 ^ 64) < i ∧ i < 2 ^ 64) ∨ (-(2 ^ 64) < j ∧ j < 2 ^ 64)
theorem CMul.ok {i j : Int} (h : CMul i j) : IntMulOk i j := by
 rcases h with ⟨h1, h2⟩ | ⟨h1, h2⟩
 ·exact .of_left (intBits_le_64 h1 h2)
 ·exact .of_right (intBits_le_64 h1 h2)
theorem op_add : OpR X (binaryOp .Add) (rI0 fun i j => .int (i + j)) := opI0 fun _ _ _ _ _ _ _ q => add_int q
theorem op_sub : OpR X (binaryOp .Sub) (rI0 fun i j => .int (i - j)) := opI0 fun _ _ _ _ _ _ _ q => sub_int q
theorem op_mul : OpR X (binaryOp .Mult) (rI CMul fun i j => .int (i * j)) := opI fun _ _ _ _ _ _ _ hc q => mul_int q hc.ok
theorem op_fdiv : OpR X (binaryOp .FloorDiv) (rI CDiv fun i j => .int (i / j)) := opI fun i j _ _ _ _ _ hc q => by
 have h1 : (0 : Int) < j := hc.1
 have h2 : j < 1073741824 := hc.2
 exact floordiv_int (by omega) (by rw [Int.fdiv_eq_ediv_of_nonneg i (by omega)]; exact q) (.inl (PyProof.noPylong_small (by omega)))
theorem op_mod : OpR X (binaryOp .Mod) (rI (fun _ j => 0 < j) fun i j => .int (i % j)) := opI fun i j _ _ _ _ _ hc q => by
 have h1 : (0 : Int) < j := hc
 exact mod_int' (by omega) (by rw [Int.fmod_eq_emod_of_nonneg i (by omega)]; exact q)
theorem unI {f : Value → Sem Value} {g : Int → Int}
  (rule : ∀ (i : Int) (t : Tok) (s : Shared) (Q : Value → Shared → Prop) (E : Value → Shared → Prop), Q (.int (g i) s.toks) { s with toks := s.toks + 1 } → wpAny (model X.prog X.w) X.A (f (.int i t)) Q E s) :
  UnR X f (rU fun i => .int (g i)) := by
 intro pins s σ H x v Q I rx h
 obtain ⟨i, rfl, q⟩ := h
 obtain ⟨t, rfl⟩ := rx
 exact rule i t s _ _ ⟨.int (g i), H, I.tok _, ⟨_, rfl⟩, q⟩
theorem un_neg : UnR X (unaryOp .USub) (rU fun i => .int (-i)) := unI fun _ _ _ _ _ q => neg_int q
end
section
variable {X : Cx} {a b c : Expr} {ta tb tc : TE} {pos : Pos}
theorem fin_bl {pins : List (Addr × Obj)} {σ : St} {H : Hp} {s : Shared} {Q : VK} {k k' : Bool} (I : Inv X pins σ H s) (q : Q (.bl k) H) (e : k = k') : EP X pins σ Q (.bool k') s := by
 subst e
 exact ⟨.bl k, H, I, rfl, q⟩
theorem op_lt : OpR X (compareOp .Lt) (rI0 fun i j => .bl (decide (i < j))) := opB0 fun _ _ _ _ _ _ _ q => lt_int q
theorem op_le : OpR X (compareOp .LtE) (rI0 fun i j => .bl (decide (i ≤ j))) := opB0 fun _ _ _ _ _ _ _ q => le_int q
theorem op_in_str : OpR X (compareOp .In) (fun x y H Q => ∃ i j, x = .str i ∧ y = .str j ∧ Q (.bl (!(Builtin.Str.occurrences j i 0 j.length 1).isEmpty)) H) := by
 intro pins s σ H x y v u Q I rx ry h
 obtain ⟨i, j, rfl, rfl, q⟩ := h
 obtain ⟨t, rfl⟩ := rx
 obtain ⟨t', rfl⟩ := ry
 exact in_str (fin_bl I q rfl)
theorem OpR.or {f : Value → Value → Sem Value} {r r' : R2} (h : OpR X f r) (h' : OpR X f r') : OpR X f (fun x y H Q => r x y H Q ∨ r' x y H Q) := by
 intro pins s σ H x y v u Q I rx ry q
 rcases q with q | q
 ·exact h pins s σ H x y v u Q I rx ry q
 ·exact h' pins s σ H x y v u Q I rx ry q
theorem nomark (b : Expr) {op : CmpOp} (h : op ≠ .In := by decide) (h2 : op ≠ .NotIn := by decide) : behindInMarks op b = false := by
 have e1 : (op == CmpOp.In) = false := by cases op <;> first | rfl | exact absurd rfl h
 have e2 : (op == CmpOp.NotIn) = false := by cases op <;> first | rfl | exact absurd rfl h2
 cases b <;> simp [behindInMarks, e1, e2]
theorem pe_cmpR {op : CmpOp} {r : R2} (ho : OpR X (compareOp op) r) (ha : PE X a ta) (hb : PE X b tb) (hm : behindInMarks op b = false) : PE X (.Compare a [op] [b] pos) (tOp r ta tb) := by
 intro pins s σ H Q I h
 exact wpAny_Compare1 (binT ha hb I h fun v u s2 x y H2 I2 rx ry q => ho pins s2 σ H2 x y v u Q I2 rx ry q) hm
def tTest (t : TE) : TT := fun σ H Q => t σ H fun x H' => ∃ k, x = .bl k ∧ Q k H'
theorem pt_cmpR {op : CmpOp} {r : R2} (ho : OpR X (compareOp op) r) (ha : PE X a ta) (hb : PE X b tb) (hm : behindInMarks op b = false) : PT X (.Compare a [op] [b] pos) (tTest (tOp r ta tb)) := by
 intro pins s σ H Q I h
 refine wpAny_isTrue_Compare1 (thn (ha pins s σ H _ I h) fun v s1 ⟨x, H1, I1, r1, q1⟩ => thn (hb pins s1 σ H1 _ I1 q1) fun u s2 ⟨y, H2, I2, r2, q2⟩ =>
  thn (ho pins s2 σ H2 x y v u _ I2 r1 r2 q2) fun c s3 ⟨z, H3, I3, r3, k, e, q3⟩ => ?_) hm
 subst e
 cases r3
 exact wpAny_truthy_bool ⟨H3, I3, q3⟩
def TruV (K : PySem.W.Frag) (x : V) (H : Hp) (k : Bool) : Prop :=
 match x with
 | .non => k = false
 | .bl b => k = b
 | .int i => k = (i != 0)
 | .str y => y.length ≤ sizeLine ∧ k = ((y.length : Int) != 0)
 | .byt y => y.size ≤ sizeLine ∧ k = ((y.size : Int) != 0)
 | .ref p => (∃ xs, SqL K H p xs ∧ k = !xs.isEmpty) ∨ (∃ xs, SqT K H p xs ∧ k = !xs.isEmpty) ∨ ∃ kvs, H p = some (.dK kvs) ∧ k = !kvs.isEmpty
 | _ => False
theorem isEmpty_kv {κ : Type} {kvs : List (κ × V)} {vs : List (κ × Value)} (r : KV kvs vs) : (!vs.isEmpty) = !kvs.isEmpty := by
 cases r <;> rfl
theorem isEmpty_of {xs : List V} {its : List Value} (r : Vals xs its) : (!its.toArray.isEmpty) = !xs.isEmpty := by
 cases r <;> simp
theorem line63 : (sizeLine : Nat) < 2 ^ 63 := by rw [sizeLine_eq]; decide
theorem tru_ok : TruR X (fun x H Q => ∃ k, TruV X.K x H k ∧ Q k H) := by
 intro pins s σ H x v Q I rx h
 obtain ⟨k, e, q⟩ := h
 have hl := line63
 have hs : sizeLine = 16777216 := sizeLine_eq
 cases x with
 | non =>
  cases rx
  have e' : k = false := e
  subst e'
  exact truthy_none ⟨H, I, q⟩
 | bl b =>
  cases rx
  have e' : k = b := e
  subst e'
  exact wpAny_truthy_bool ⟨H, I, q⟩
 | int i =>
  obtain ⟨t, rfl⟩ := rx
  have e' : k = (i != 0) := e
  subst e'
  exact PySem.P.truthy_int ⟨H, I, q⟩
 | str y =>
  obtain ⟨t, rfl⟩ := rx
  obtain ⟨hy, e'⟩ : y.length ≤ sizeLine ∧ k = ((y.length : Int) != 0) := e
  subst e'
  exact PySem.P.truthy_str (by omega) ⟨H, I.tok _, q⟩
 | byt y =>
  obtain ⟨t, rfl⟩ := rx
  obtain ⟨hy, e'⟩ : y.size ≤ sizeLine ∧ k = ((y.size : Int) != 0) := e
  subst e'
  exact PySem.W.truthy_bytes (by omega) ⟨H, I.tok _, q⟩
 | ref p =>
  cases rx
  have e' : (∃ xs, SqL X.K H p xs ∧ k = !xs.isEmpty) ∨ (∃ xs, SqT X.K H p xs ∧ k = !xs.isEmpty) ∨ ∃ kvs, H p = some (.dK kvs) ∧ k = !kvs.isEmpty := e
  rcases e' with ⟨xs, hx, e'⟩ | ⟨xs, hx, e'⟩ | ⟨kvs, hx, e'⟩
  ·subst e'
   obtain ⟨its, r, pl, hz⟩ := I.list hx
   have hlen := r.length
   exact wpAny_truthy_list pl.isList (by simp only [List.size_toArray]; omega) ⟨H, I.tok _, by rw [isEmpty_of r]; exact q⟩
  ·subst e'
   obtain ⟨its, r, pl, hz⟩ := I.tuple hx
   have hlen := r.length
   exact truthy_tuple pl (by simp only [List.size_toArray]; omega) ⟨H, I.tok _, by rw [isEmpty_of r]; exact q⟩
  ·subst e'
   obtain ⟨hz, hS, vs, r, m⟩ : kvs.length ≤ sizeLine ∧ (p == sysModules) = false ∧ ∃ vs, KV kvs vs ∧ s.heap.DictOf (mixKind X.prog X.w) p vs := I.hok p _ hx
   have hlen : kvs.length = vs.length := Paired.length r
   exact wpAny_truthy_dict hS m (by omega) ⟨H, I.tok _, by rw [isEmpty_kv r]; exact q⟩
 | _ => exact (show False from e).elim
theorem pt_truth (ha : PE X a ta) (he : ∀ whole, isTrue a X.env whole = (do let v ← whole; standAt a.pos; holding [v] (truthy v))) :
  PT X a (fun σ H Q => ta σ H fun x H' => ∃ k, TruV X.K x H' k ∧ Q k H') := by
 intro pins s σ H Q I h
 exact isTrue_plain (thn (ha pins s σ H _ I h) fun v s1 ⟨x, H1, I1, r1, q1⟩ => tru_ok pins s1 σ H1 x v Q I1 r1 q1) (he _)
theorem op_add_str : OpR X (binaryOp .Add) (fun x y H Q => ∃ i j, x = .str i ∧ y = .str j ∧ i.length + j.length ≤ sizeLine ∧ Q (.str (i ++ j)) H) := by
 intro pins s σ H x y v u Q I rx ry h
 obtain ⟨i, j, rfl, rfl, hz, q⟩ := h
 obtain ⟨t, rfl⟩ := rx
 obtain ⟨t', rfl⟩ := ry
 exact add_str (fun t' tk => ⟨.str (i ++ j), H, I.tok _, ⟨_, rfl⟩, q⟩) hz
theorem vals1 {x : V} {us : List Value} (r : Vals [x] us) : ∃ u, us = [u] ∧ RelV x u := by
 cases r with
 | cons r1 r2 => cases r2; exact ⟨_, rfl, r1⟩
theorem vals2 {x y : V} {us : List Value} (r : Vals [x, y] us) : ∃ u w', us = [u, w'] ∧ RelV x u ∧ RelV y w' := by
 cases r with
 | cons r1 r2 =>
  cases r2 with
  | cons r3 r4 => cases r4; exact ⟨_, _, rfl, r1, r3⟩
theorem call_int1 : CallR X (.type "int") (fun xs H Q => (∃ i, xs = [.int i] ∧ Q (.int i) H) ∨ ∃ k, xs = [.bl k] ∧ Q (.int (if k then 1 else 0)) H) := by
 intro pins s σ H xs us Q I r h
 rcases h with ⟨i, rfl, q⟩ | ⟨k, rfl, q⟩
 ·obtain ⟨u, rfl, t, rfl⟩ := vals1 r
  exact call_int_int ⟨.int i, H, I, ⟨_, rfl⟩, q⟩
 ·obtain ⟨u, rfl, r1⟩ := vals1 r
  cases r1
  exact call_int_bool ⟨.int (if k then 1 else 0), H, I.tok _, ⟨_, rfl⟩, q⟩
end
end L2
namespace L2
open PySem PySem.Spec PyProof.Rows
structure ObjM (h : Heap) (x dx C : Addr) (mA : Str → Option Value) : Prop where
 obj : h.get? x = some (PySem.W.instObj C dx)
 ns : h.Ns1 dx mA
 ne : dx ≠ x
theorem lookIn_ns {h : Heap} {dx : Addr} {mA : Str → Option Value} (n : h.Ns1 dx mA) : ∃ od, h.get? dx = some od ∧ ∀ name, PySem.W.lookIn name od = some (mA name) := by
 obtain ⟨o, es, ep, ho, hd, hk, _, hm⟩ := n
 refine ⟨o, ho, fun name => ?_⟩
 have e := hm name
 unfold nsFind findBy at e
 rw [← Array.find?_toList] at e
 unfold PySem.W.lookIn
 rw [hd]
 dsimp only
 split
 ·rename_i y q
  rw [q] at e
  exact congrArg some e
 ·rename_i q
  rw [q] at e
  have a : es.toList.any (·.refKey) = false := by
   rw [List.any_eq_false]
   intro y hy
   obtain ⟨z, t, hkey⟩ := hk y (Array.mem_toList_iff.mp hy)
   simp [DictEntry.refKey, hkey]
  have a' : ¬ es.toList.any (·.refKey) = true := by rw [a]; exact Bool.false_ne_true
  rw [if_neg a']
  exact congrArg some e
theorem ObjM.look {h : Heap} {x dx C : Addr} {mA : Str → Option Value} (I : ObjM h x dx C mA) : ∃ od, PySem.W.InstAt h x (PySem.W.instObj C dx) C (some od) ∧ ∀ name, PySem.W.lookIn name od = some (mA name) :=
 let ⟨od, ho, hl⟩ := lookIn_ns I.ns
 ⟨od, ⟨I.obj, rfl, rfl, ho⟩, hl⟩
theorem RelO.some_of {v : V} {o : Option Value} (r : RelO (some v) o) : ∃ u, o = some u ∧ RelV v u := by
 cases o with
 | none => exact (show False from r).elim
 | some u => exact ⟨u, rfl, r⟩
theorem RelO.none_of {o : Option Value} (r : RelO none o) : o = none := by
 cases o with
 | none => rfl
 | some u => exact (show False from r).elim
structure Cls (K : PySem.W.Frag) (C : Addr) : Prop where
 pg : PySem.W.plainGet K C Str.empty = true
 hd : PySem.W.hasDictIn K C = true
 po : PySem.W.plainOver K C = true
 sa : PySem.W.findIn K (.ref C) "__setattr__" = some (some (.builtin "object.__setattr__"))
theorem Cls.get {K : PySem.W.Frag} {C : Addr} (c : Cls K C) (f : Str) : PySem.W.plainGet K C f = true := c.pg
end L2
namespace L2
open PySem PySem.Spec PyProof.Rows
structure Room (k : Nat) (A : Around) : Prop where
 hd : A.handled = none
 dp : A.depth + 3 * k + 5 < recursionLimit
 un : A.units + 16 * k + 200 < cLine
theorem Room.mono {j k : Nat} {A : Around} (r : Room k A) (h : j ≤ k) : Room j A := ⟨r.hd, by have := r.dp; omega, by have := r.un; omega⟩
theorem Room.deeper {k : Nat} {A : Around} (r : Room (k + 1) A) (env : Env) : Room k (A.deeper env) :=
 ⟨r.hd, by have := r.dp; show A.depth + 1 + 3 * k + 5 < _; omega, by have := r.un; show A.units + 3 + 16 * k + 200 < _; omega⟩
theorem Room.in1 {k : Nat} {A : Around} (r : Room (k + 1) A) : Room k A.in1 :=
 ⟨r.hd, by have := r.dp; show A.depth + 3 * k + 5 < _; omega, by have := r.un; show A.units + 1 + 16 * k + 200 < _; omega⟩
theorem Room.depth {k : Nat} {A : Around} (r : Room k A) : A.depth < recursionLimit := by have := r.dp; omega
theorem Room.units {k : Nat} {A : Around} (r : Room k A) : A.units + 64 < cLine := by have := r.un; omega
def tNil : TA := fun _ H Q => Q [] H
def tCons (ta : TE) (tr : TA) : TA := fun σ H Q => ta σ H fun x H1 => tr σ H1 fun xs H2 => Q (x :: xs) H2
section
variable {X : Cx} {e : Expr} {es : List Expr} {te : TE} {t : TA} {pos : Pos}
theorem pa_nil : PA X [] tNil := fun _ _ _ _ H Q I h => Calls.spliced_nil ⟨[], H, I, .nil, h⟩
theorem pa_cons (ha : PE X e te) (hr : PA X es t) (hs : starEach (e :: es) X.env = (false, eval e X.env) :: starEach es X.env := by rfl) : PA X (e :: es) (tCons te t) := by
 intro pos pins s σ H Q I h
 rw [hs]
 show wpAny _ _ (spliced ((false, eval e X.env) :: backTo pos (starEach es X.env))) _ _ s
 refine Calls.spliced_cons (thn (ha pins s σ H _ I h) fun u s1 ⟨x, H1, I1, r1, q1⟩ => ?_)
 exact thn (hr pos pins s1 σ H1 _ I1 q1) fun us s2 ⟨xs, H2, I2, r2, q2⟩ => ⟨x :: xs, H2, I2, .cons r1 r2, q2⟩
def tTup (t : TA) : TE := fun σ H Q => t σ H fun xs H1 => xs.length ≤ sizeLine ∧ ∀ p, H1 p = none → Q (.ref p) (upd H1 p (.tup xs))
def tLst (t : TA) : TE := fun σ H Q => t σ H fun xs H1 => xs.length ≤ sizeLine ∧ ∀ p, H1 p = none → Q (.ref p) (upd H1 p (.lst xs))
theorem pe_tup {x1} (h : PA X es t) : PE X (.Tuple es x1 pos) (tTup t) := by
 intro pins s σ H Q I hq
 refine wpAny_Tuple_spliced (thn (h pos pins s σ H _ I hq) fun us s1 ⟨xs, H1, I1, r, z, q⟩ => ⟨by rw [← r.length]; exact z, ?_⟩)
 have hf : H1 s1.heap.objs.size = none := I1.hok.fresh (Nat.le_refl _)
 refine ⟨.ref s1.heap.objs.size, upd H1 s1.heap.objs.size (.tup xs), I1.laid (t' := s1.toks) (fun b u e => Heap.get?_push_of_some _ e) (Nat.le_refl _) ?_, rfl, q _ hf⟩
 exact ⟨z, us, r, ⟨_, Heap.get?_push_size _ rfl, rfl, _, rfl⟩⟩
theorem pe_lst (h : PA X es t) : PE X (.List es pos) (tLst t) := by
 intro pins s σ H Q I hq
 refine wpAny_List_spliced (thn (h pos pins s σ H _ I hq) fun us s1 ⟨xs, H1, I1, r, z, q⟩ => ⟨by rw [← r.length]; exact z, ?_⟩)
 have hf : H1 s1.heap.objs.size = none := I1.hok.fresh (Nat.le_refl _)
 refine ⟨.ref s1.heap.objs.size, upd H1 s1.heap.objs.size (.lst xs), I1.laid (t' := s1.toks) (fun b u e => Heap.get?_push_of_some _ e) (Nat.le_refl _) ?_, rfl, q _ hf⟩
 exact ⟨z, us, 0, r, Heap.get?_push_size _ rfl⟩
end
abbrev Sp := List V → Hp → VK → XK → Prop
abbrev CXT := List Env → Hp → Shared → XK → Value → Shared → Prop
structure Env0 (P : Program) (w : World) (K : PySem.W.Frag) (mg : Str → Option Value) (base : Heap) (A : Around) (outer : List Env) (s : Shared) (H : Hp) : Prop where
 frames : A.frames = some outer
 mod : Mod K mg base
 bs : ∀ b o, base.get? b = some o → s.heap.get? b = some o ∧ H b = none
 bsz : base.objs.size ≤ s.heap.objs.size
 funs : s.heap.FunFrames base outer
 frf : ∀ b ∈ frs outer, H b = none
 hok : HOk P w H s.heap
 bare : AllBare s.gens
def CE (outer : List Env) (P : Program) (w : World) (H : Hp) (s : Shared) (Q : VK) (u : Value) (s' : Shared) : Prop :=
 ∃ v H', s'.os = s.os ∧ AllBare s'.gens ∧ Un (frs outer) [] H H' s.heap s'.heap ∧ HOk P w H' s'.heap ∧ RelV v u ∧ Q v H'
def CR (CX : CXT) (outer : List Env) (P : Program) (w : World) (H : Hp) (s : Shared) (Q : VK) (E : XK) (r : Result) (s' : Shared) : Prop :=
 match r with
 | .ok (.ret u) => CE outer P w H s Q u s'
 | .ok _ => False
 | .error e => CX outer H s E e s'
structure FnOk (P : Program) (w : World) (K : PySem.W.Frag) (mg : Str → Option Value) (base : Heap) (CX : CXT) (k : Nat) (f : Addr) (fd : FuncData) (ps : List Str) (sp : Sp) : Prop where
 len : ∀ vs H Q E, sp vs H Q E → vs.length = ps.length
 run : ∀ (A : Around) (outer : List Env) (s : Shared) (H : Hp) (args : Args) (us : List Value) (vs : List V) (Q : VK) (E : XK), Room k A → Env0 P w K mg base A outer s H → BindsTo s fd args (ps.zip us) → Vals vs us → sp vs H Q E →
  codeAny (model P w) A (.call (.ref f) args) (CR CX outer P w H s Q E) s
theorem FnOk.mono {P : Program} {w : World} {K : PySem.W.Frag} {mg : Str → Option Value} {base : Heap} {CX : CXT} {j k : Nat} {f : Addr} {fd : FuncData} {ps : List Str} {sp : Sp} (F : FnOk P w K mg base CX j f fd ps sp) (h : j ≤ k) :
  FnOk P w K mg base CX k f fd ps sp := ⟨F.len, fun A outer s H args us vs Q E hr => F.run A outer s H args us vs Q E (hr.mono h)⟩
theorem FnOk.imp {P : Program} {w : World} {K : PySem.W.Frag} {mg : Str → Option Value} {base : Heap} {CX : CXT} {k : Nat} {f : Addr} {fd : FuncData} {ps : List Str} {sp sp' : Sp} (F : FnOk P w K mg base CX k f fd ps sp)
  (h : ∀ vs H Q E, sp' vs H Q E → sp vs H Q E) : FnOk P w K mg base CX k f fd ps sp' :=
 ⟨fun vs H Q E q => F.len vs H Q E (h _ _ _ _ q), fun A outer s H args us vs Q E hr he hb hv hs => F.run A outer s H args us vs Q E hr he hb hv (h _ _ _ _ hs)⟩
theorem Env0.in1 {P : Program} {w : World} {K : PySem.W.Frag} {mg : Str → Option Value} {base : Heap} {A : Around} {outer : List Env} {s : Shared} {H : Hp} (e : Env0 P w K mg base A outer s H) :
  Env0 P w K mg base A.in1 outer s H := ⟨e.frames, e.mod, e.bs, e.bsz, e.funs, e.frf, e.hok, e.bare⟩
section
variable {X : Cx} {pins : List (Addr × Obj)} {σ : St} {H : Hp} {s s' : Shared}
theorem Inv.env0 (I : Inv X pins σ H s) : Env0 X.prog X.w X.K X.mg X.base X.A X.stack s H :=
 ⟨I.ok.frames, I.ok.mod, I.bs, Nat.le_trans I.ok.bsz I.sz, I.stack, I.stkFree, I.hok, I.bare⟩
theorem Inv.after {Q : VK} {u : Value} (I : Inv X pins σ H s) (h : CE X.stack X.prog X.w H s Q u s') : EP X pins σ Q u s' := by
 obtain ⟨v, H', os, bare, un, hok, r, q⟩ := h
 obtain ⟨hh, g, d, t, os'⟩ := s'
 obtain rfl : os' = s.os := os
 exact ⟨v, H', I.call (h' := hh) (g' := g) (d' := d) (t' := t) (ch := []) un hok bare (fun b z => absurd z (by simp)), r, q⟩
end
def tCall (sp : Sp) (dvs : List V) (E : XK) (t : TA) : TE := fun σ H Q => t σ H fun vs H1 => sp (vs ++ dvs) H1 Q E
def Binds (K : PySem.W.Frag) (fd : FuncData) (ps : List Str) (ds : List Value) : Prop :=
 ∀ (s : Shared) (us : List Value), K.In s.heap → (us ++ ds).length = ps.length → BindsTo s fd ⟨us, []⟩ (ps.zip (us ++ ds))
theorem Binds.all {K : PySem.W.Frag} {fd : FuncData} {ps : List Str} (h : ∀ us : List Value, us.length = ps.length → bindArgs fd ⟨us, []⟩ = pure (ps.zip us)) : Binds K fd ps [] := fun s us _ hl => by
 rw [List.append_nil] at hl ⊢
 exact .of_eq (h us hl)
def Passes (CX : CXT) (X : Cx) (E : XK) : Prop := ∀ (pins : List (Addr × Obj)) (σ : St) (H : Hp) (s : Shared) (e : Value) (s' : Shared), Inv X pins σ H s → CX X.stack H s E e s' → X.xe e s'
section
variable {X : Cx} {CX : CXT} {k : Nat} {f C : Addr} {fd : FuncData} {ps : List Str} {sp : Sp} {dvs : List V} {ds : List Value} {E : XK} {x m : Str} {p pos apos : Pos} {e o : Expr} {es : List Expr} {ta : TE} {t : TA}
theorem run_fn {pins : List (Addr × Obj)} {σ : St} {H : Hp} {s : Shared} {Q : VK} {us : List Value} {vs : List V} (F : FnOk X.prog X.w X.K X.mg X.base CX k f fd ps sp) (hr : Room k X.A) (hb : Binds X.K fd ps ds) (hd : Vals dvs ds) (hx : Passes CX X E)
  (I : Inv X pins σ H s) (r : Vals vs us) (h : sp (vs ++ dvs) H Q E) : wpAny (model X.prog X.w) X.A (call (.ref f) us) (EP X pins σ Q) X.xe s := by
 have r2 : Vals (vs ++ dvs) (us ++ ds) := r.append hd
 have hl : (us ++ ds).length = ps.length := by rw [← r2.length]; exact F.len _ _ _ _ h
 refine wpAny_call (codeAny_mono (F.run X.A X.stack s H ⟨us, []⟩ (us ++ ds) (vs ++ dvs) Q E hr I.env0 (hb s us I.kIn hl) r2 h) fun r s' hq => ?_)
 cases r with
 | error e => exact hx pins σ H s e s' I hq
 | ok fl =>
  cases fl with
  | ret u => exact I.after hq
  | next => exact False.elim hq
  | brk => exact False.elim hq
  | cont => exact False.elim hq
theorem pe_call (F : FnOk X.prog X.w X.K X.mg X.base CX k f fd ps sp) (hr : Room k X.A) (hg : Gl X x) (hm : X.mg x = some (.ref f)) (hk : PySem.W.keepIn X.K (.ref f) = true) (hb : Binds X.K fd ps ds) (hd : Vals dvs ds) (hx : Passes CX X E)
  (ha : PA X (e :: es) t) (hdb : (x == ("__debug__" : Str)) = false := by decide) (he : starEach (e :: es) X.env = (false, eval e X.env) :: starEach es X.env := by rfl) (hpl : (backTo pos (starEach es X.env)).any (·.1) = false := by rfl) :
  PE X (.Call (.Name x p) (e :: es) [] pos) (tCall sp dvs E t) := by
 intro pins s σ H Q I h
 refine wpAny_Call_Name_kw (ld_glob I hg hm ?_ hdb)
 refine PySem.W.callWith_K (h₀ := X.base) I.ok.mod.kin hk (thn (ha pos pins s σ H _ I h) fun us s1 ⟨vs, H1, I1, r, q⟩ => ⟨I1.kIn, ?_⟩) he hpl
 exact run_fn F hr hb hd hx I1 r q
end
structure FnScope (N P : List Str) (sc : Scope) : Prop where
 kind : sc.kind = .function
 co : sc.isCoroutine = false
 gen : sc.isGenerator = false
 nd : N.Nodup
 pre : N.take P.length = P
 par : ∀ x ∈ P, sc.names.lookup x = some .local ∨ sc.names.lookup x = some .cell
 nofree : ∀ y ∈ sc.names, y.2 ≠ .free
theorem bindL_out {kindOf : Str → Option NameKind} {x : Str} : ∀ {binds : List (Str × Value)} {m : Str → Option Value}, (∀ v, (x, v) ∉ binds) → bindL kindOf binds m x = m x
 | [], _, _ => rfl
 | (n, v) :: r, m, h => by
  unfold bindL
  rw [bindL_out fun w hw => h w (List.mem_cons_of_mem _ hw)]
  split
  ·have : x ≠ n := by rintro rfl; exact h v List.mem_cons_self
   simp [this]
  ·rfl
theorem bindC_out {kindOf : Str → Option NameKind} {x : Str} : ∀ {binds : List (Str × Value)} {m : Str → Option Value}, (∀ v, (x, v) ∉ binds) → bindC kindOf binds m x = m x
 | [], _, _ => rfl
 | (n, v) :: r, m, h => by
  unfold bindC
  rw [bindC_out fun w hw => h w (List.mem_cons_of_mem _ hw)]
  split
  ·rfl
  ·have : x ≠ n := by rintro rfl; exact h v List.mem_cons_self
   simp [this]
theorem bindL_get {kindOf : Str → Option NameKind} {x : Str} {v : Value} : ∀ {P : List Str} {vs : List Value} {i : Nat} {m : Str → Option Value}, P.Nodup → P[i]? = some x → vs[i]? = some v → kindOf x = some .local →
  bindL kindOf (P.zip vs) m x = some v
 | [], _, _, _, _, h, _, _ => by simp at h
 | _ :: _, [], _, _, _, _, h, _ => by simp at h
 | p :: P, w :: vs, 0, m, nd, h1, h2, hk => by
  simp at h1 h2; subst h1; subst h2
  show bindL kindOf ((p, w) :: P.zip vs) m p = _
  unfold bindL
  rw [bindL_out fun v hv => (List.nodup_cons.mp nd).1 (List.of_mem_zip hv).1, if_pos hk]
  simp
 | p :: P, w :: vs, i + 1, m, nd, h1, h2, hk => by
  show bindL kindOf ((p, w) :: P.zip vs) m x = _
  unfold bindL
  exact bindL_get (i := i) (List.nodup_cons.mp nd).2 (by simpa using h1) (by simpa using h2) hk
theorem bindC_get {kindOf : Str → Option NameKind} {x : Str} {v : Value} : ∀ {P : List Str} {vs : List Value} {i : Nat} {m : Str → Option Value}, P.Nodup → P[i]? = some x → vs[i]? = some v → kindOf x ≠ some .local →
  bindC kindOf (P.zip vs) m x = some v
 | [], _, _, _, _, h, _, _ => by simp at h
 | _ :: _, [], _, _, _, _, h, _ => by simp at h
 | p :: P, w :: vs, 0, m, nd, h1, h2, hk => by
  simp at h1 h2; subst h1; subst h2
  show bindC kindOf ((p, w) :: P.zip vs) m p = _
  unfold bindC
  rw [bindC_out fun v hv => (List.nodup_cons.mp nd).1 (List.of_mem_zip hv).1, if_neg hk]
  simp
 | p :: P, w :: vs, i + 1, m, nd, h1, h2, hk => by
  show bindC kindOf ((p, w) :: P.zip vs) m x = _
  unfold bindC
  exact bindC_get (i := i) (List.nodup_cons.mp nd).2 (by simpa using h1) (by simpa using h2) hk
def start (N : List Str) (vs : List V) : St := vs.map some ++ List.replicate (N.length - vs.length) none
def cxOf (CX : CXT) (P : Program) (w : World) (K : PySem.W.Frag) (mg : Str → Option Value) (base : Heap) (N : List Str) (qual : Str) (scope : Scope) (f : Addr) (cd : Value) (A : Around) (outer : List Env) (s : Shared) (H : Hp) (E : XK) : Cx where
 prog := P
 w := w
 K := K
 mg := mg
 base := base
 A := A.deeper (envOfC qual scope s.heap.objs.size f cd)
 N := N
 s₀ := s
 H₀ := H
 env := envOfC qual scope s.heap.objs.size f cd
 outer := outer
 stack := envOfC qual scope s.heap.objs.size f cd :: outer
 ex := []
 calm := true
 fn := fun _ => true
 pn := []
 xe := fun e s' => wpAny (model P w) (A.deeper (envOfC qual scope s.heap.objs.size f cd)) (leaving (envOfC qual scope s.heap.objs.size f cd) e) (fun _ s'' => CX outer H s E e s'') (fun e' s'' => CX outer H s E e' s'') s'
theorem cell_has {sc : Scope} {n : Nat} {x : Str} (h : sc.names.lookup x = some .cell) : ∃ c, (cellsFrom n sc.names []).lookup x = some c := by
 have q := PySem.W.cellsFrom_some sc.names n [] (.inl h)
 exact Option.isSome_iff_exists.mp q
theorem inv_start {CX : CXT} {P : Program} {w : World} {K : PySem.W.Frag} {mg : Str → Option Value} {base : Heap} {N ps : List Str} {qual : Str} {scope : Scope} {f : Addr} {cd : Value} {A : Around} {outer : List Env} {s s1 : Shared} {H : Hp} {E : XK} {us : List Value} {vs : List V}
  (S : FnScope N ps scope) (hd : A.handled = none) (e0 : Env0 P w K mg base A outer s H) (hl : vs.length = ps.length) (r : Vals vs us)
  (x : InCallC s s.heap.objs.size (bindL (envOfC qual scope s.heap.objs.size f cd).kindOf (ps.zip us) fun _ => none) (cellsFrom (s.heap.objs.size + 1) scope.names []) (bindC (envOfC qual scope s.heap.objs.size f cd).kindOf (ps.zip us) fun _ => none) s1) :
  Inv (cxOf CX P w K mg base N qual scope f cd A outer s H E) [] (start N vs) H s1 := by
 have hpl : ps.length ≤ N.length := by have := congrArg List.length S.pre; rw [List.length_take] at this; omega
 obtain ⟨h1, tk, rfl, hk⟩ := x.done
 have noA : ∀ b : Addr, b ∉ (cxOf CX P w K mg base N qual scope f cd A outer s H E).ex := fun b z => absurd (show b ∈ ([] : List Addr) from z) (by simp)
 refine ⟨⟨e0.mod, S.kind, rfl, rfl, Nat.le_refl _, fun y z c h1 h2 => ?_, fun y hy => ?_, fun y c _ h => ?_, fun _ => hd, Around.frames_deeper e0.frames, .inr ⟨rfl, rfl⟩, fun b z => absurd z (noA b), e0.bs, e0.bsz, fun b _ _ => noA b, fun b z => absurd z (noA b), e0.funs, e0.frf⟩,
  rfl, e0.bare, Un.kept hk, ⟨_, x.toInCall.ns, fun i y v h1 h2 h3 => ?_⟩, fun y c h => ⟨_, x.cell y c h⟩, e0.hok.fresh (Nat.le_refl _), fun y c h => ?_, fun p hp => absurd (show p ∈ ([] : List (Addr × Obj)) from hp) (by simp), e0.hok.kept hk, ?_⟩
 ·exact name_of_addr x.apart (PySem.mem_of_lookup h1) (PySem.mem_of_lookup h2)
 ·have hy : scope.names.lookup y = some .cell ∨ scope.names.lookup y = some .free := hy
  rcases hy with hy | hy
  ·exact cell_has hy
  ·exact absurd rfl (S.nofree _ (PySem.mem_of_lookup hy))
 ·exact Nat.le_of_lt (x.above y c (PySem.mem_of_lookup h))
 ·have hi : i < vs.length := by
   unfold start at h2
   by_cases hi : i < vs.length
   ·exact hi
   ·rw [List.getElem?_append_right (by simpa using hi)] at h2
    rw [List.getElem?_replicate] at h2
    split at h2 <;> cases h2
  have ha : vs[i]? = some v := by
   unfold start at h2
   rw [List.getElem?_append_left (by simpa using hi), List.getElem?_map] at h2
   cases e : vs[i]? with
   | none => rw [e] at h2; cases h2
   | some a => rw [e] at h2; cases h2; rfl
  obtain ⟨u, hu, rv⟩ := r.get ha
  have hp : ps[i]? = some y := by
   rw [← S.pre, List.getElem?_take_of_lt (by omega)]; exact h1
  have ndP : ps.Nodup := by rw [← S.pre]; exact S.nd.sublist (List.take_sublist _ _)
  refine ⟨u, rv, ?_⟩
  rcases S.par y (List.mem_of_getElem? hp) with k | k
  ·exact .inl ⟨k, bindL_get ndP hp hu k⟩
  ·obtain ⟨c, e⟩ := cell_has (n := s.heap.objs.size + 1) k
   refine .inr ⟨.inl k, c, e, ?_⟩
   have q := x.cell y c e
   rw [bindC_get ndP hp hu (by show scope.names.lookup y ≠ _; rw [k]; decide)] at q
   exact q
 ·exact e0.hok.fresh (Nat.le_of_lt (x.above y c (PySem.mem_of_lookup h)))
 ·unfold start
  show _ = N.length
  rw [List.length_append, List.length_map, List.length_replicate]
  omega
theorem fn_of {CX : CXT} {P : Program} {w : World} {K : PySem.W.Frag} {mg : Str → Option Value} {base : Heap} {k : Nat} {f : Addr} {name qual : Str} {params : Arguments} {body : List Stmt} {scope : Scope} {dV kV doc pm cdv ct oc : Value} {an od : Option Addr}
  {osl : Array (Option Value)} {N ps : List Str} {sp : Sp} (lk : K.lookup f = some ⟨oc, od, .func (PySem.W.fnOf name qual params body scope dV kV doc pm an cdv ct), osl⟩) (hcd : PySem.W.codeIn K cdv qual = true) (S : FnScope N ps scope)
  (len : ∀ vs H Q E, sp vs H Q E → vs.length = ps.length)
  (hbody : ∀ (A : Around) (outer : List Env) (s : Shared) (H : Hp) (vs : List V) (Q : VK) (E : XK), Room k (A.deeper (envOfC qual scope s.heap.objs.size f cdv)) → sp vs H Q E →
   ∃ t, PSs (cxOf CX P w K mg base N qual scope f cdv A outer s H E) body t ∧ t { nx := fun _ H' => Q .non H', rt := Q } (start N vs) H) :
  FnOk P w K mg base CX (k + 1) f (PySem.W.fnOf name qual params body scope dV kV doc pm an cdv ct) ps sp := by
 refine ⟨len, fun A outer s H args us vs Q E hr e0 hb r hsp => ?_⟩
 have hl := len _ _ _ _ hsp
 have KX : K.In s.heap := e0.mod.kin.keeps fun b o e => (e0.bs b o e).1
 have lim : s.heap.NoLimit := e0.mod.nolimit.keeps fun b o e => (e0.bs b o e).1
 have hkind : ∀ y ∈ ps.zip us, scope.names.lookup y.1 = some .local ∨ (scope.names.lookup y.1 = some .cell ∧ ((cellsFrom (s.heap.objs.size + 1) scope.names []).lookup y.1).isSome = true) := fun ⟨n, v⟩ hy => by
  rcases S.par n (List.of_mem_zip hy).1 with q | q
  ·exact .inl q
  ·exact .inr ⟨q, PySem.W.cellsFrom_some _ _ _ (.inl q)⟩
 refine codeAny_call_function hr.depth (KX _ _ lk) rfl S.co S.gen rfl (PySem.W.codeRec_of KX hcd) (hb _ _ _ _ ?_)
 refine wpAny_newFunctionEnv_cells S.kind hkind fun env he s1 x => ?_
 subst he
 refine ⟨lim.keeps x.toInCall.keep, codeAny_func ?_⟩
 obtain ⟨t, ht, hq⟩ := hbody A outer s H vs Q E (hr.deeper _) hsp
 have I : Inv (cxOf CX P w K mg base N qual scope f cdv A outer s H E) [] (start N vs) H s1 := inv_start S hr.hd e0 hl r x
 refine wpAny_mono (ht [] s1 (start N vs) H _ I hq) (fun fl s' hs => ?_) fun e s' hs => hs
 have fin : ∀ {σ' : St} {H' : Hp} {v : V} {u : Value}, Inv (cxOf CX P w K mg base N qual scope f cdv A outer s H E) [] σ' H' s' → RelV v u → Q v H' → CE outer P w H s Q u s' :=
  fun {σ' H' v u} J rv q => ⟨v, H', J.os, J.bare, J.base, J.hok, rv, q⟩
 cases fl with
 | ret u =>
  obtain ⟨v, σ', H', J, rv, q⟩ := hs
  exact fin J rv q
 | next =>
  obtain ⟨σ', H', J, q⟩ := hs
  exact fin (v := V.non) (u := Value.none) J rfl q
 | brk =>
  obtain ⟨_, _, _, q⟩ := hs
  exact False.elim q
 | cont =>
  obtain ⟨_, _, _, q⟩ := hs
  exact False.elim q
end L2
namespace L2
open PySem PySem.Spec PyProof.Rows
section
variable {X : Cx} {x : Str} {p pos : Pos} {e : Expr} {es : List Expr} {t : TA} {id T : String} {r : List V → Hp → VK → Prop}
def tCB (r : List V → Hp → VK → Prop) (t : TA) : TE := fun σ H Q => t σ H fun vs H1 => r vs H1 Q
theorem pe_callB (hc : CallR X (.builtin id) r) (hg : Gl X x) (hm : X.mg x = none) (hv : bootBuiltins x = some (.builtin id)) (ha : PA X (e :: es) t) (hn : x ≠ "__name__" := by decide) (hdb : (x == ("__debug__" : Str)) = false := by decide)
  (he : starEach (e :: es) X.env = (false, eval e X.env) :: starEach es X.env := by rfl) (hpl : (backTo pos (starEach es X.env)).any (·.1) = false := by rfl) : PE X (.Call (.Name x p) (e :: es) [] pos) (tCB r t) := by
 intro pins s σ H Q I h
 refine wpAny_Call_Name_kw (ld_blt I hg hm hv ?_ hn hdb)
 exact PyProof.Rows.callWith_builtin1 (thn (ha pos pins s σ H _ I h) fun us s1 ⟨vs, H1, I1, r1, q1⟩ => hc pins s1 σ H1 vs us Q I1 r1 q1) he hpl
theorem pe_callTy (hc : CallR X (.type T) r) (hg : Gl X x) (hm : X.mg x = none) (hv : bootBuiltins x = some (.type T)) (ha : PA X (e :: es) t) (hn : x ≠ "__name__" := by decide) (hdb : (x == ("__debug__" : Str)) = false := by decide)
  (he : starEach (e :: es) X.env = (false, eval e X.env) :: starEach es X.env := by rfl) (hpl : (backTo pos (starEach es X.env)).any (·.1) = false := by rfl) : PE X (.Call (.Name x p) (e :: es) [] pos) (tCB r t) := by
 intro pins s σ H Q I h
 refine wpAny_Call_Name_kw (ld_blt I hg hm hv ?_ hn hdb)
 exact PyProof.Rows.callWith_type1 (thn (ha pos pins s σ H _ I h) fun us s1 ⟨vs, H1, I1, r1, q1⟩ => hc pins s1 σ H1 vs us Q I1 r1 q1) he hpl
end
end L2
namespace HT
open PySem PyProof.Rows
section
variable {prog : Program} {w : World} {A : Around} {E : Value → Shared → Prop} {s : Shared}
def sIx (n d : Nat) : Option Int → Nat
 | none => d
 | some v => if v < 0 then (v + (n : Int)).toNat else min v.toNat n
end
end HT
namespace L2
open PySem PySem.Spec PyProof.Rows
abbrev TO := St → Hp → (Option Int → Hp → Prop) → Prop
section
variable {X : Cx} {e : Expr} {te : TE} {lo hi : Option Expr} {tl th : TO} {pos p2 : Pos}
def SlR (X : Cx) (r : V → Option Int → Option Int → Hp → VK → Prop) : Prop :=
 ∀ (pins : List (Addr × Obj)) (s : Shared) (σ : St) (H : Hp) (x : V) (v vl vu : Value) (lo hi : Option Int) (sl : Addr) (Q : VK), Inv X pins σ H s → RelV x v → s.heap.IsSliceOf sl vl vu .none → IsPart vl lo → IsPart vu hi → r x lo hi H Q →
  ∃ T id, typeLookup (.type T) "__getitem__" = pure (some (.builtin id)) ∧ s.TypeIs v T ∧ wpAny (model X.prog X.w) X.A (getItem v (.ref sl)) (EP X pins σ Q) X.xe s
theorem SlR.or {r r' : V → Option Int → Option Int → Hp → VK → Prop} (h : SlR X r) (h' : SlR X r') : SlR X (fun x lo hi H Q => r x lo hi H Q ∨ r' x lo hi H Q) := by
 intro pins s σ H x v vl vu lo hi sl Q I rx hs pl pu q
 rcases q with q | q
 ·exact h pins s σ H x v vl vu lo hi sl Q I rx hs pl pu q
 ·exact h' pins s σ H x v vl vu lo hi sl Q I rx hs pl pu q
end
end L2
namespace L2
open PySem PySem.Spec PyProof.Rows
def ixN (n : Nat) (i : Int) : Option Nat := if 0 ≤ i then (if i < n then some i.toNat else none) else if -(n : Int) ≤ i then some (i + n).toNat else none
def atI {α : Type} (xs : List α) (i : Int) : Option α := (ixN xs.length i).bind fun j => xs[j]?
theorem ixN_seq {n : Nat} {i : Int} {j : Nat} (h : ixN n i = some j) : seqIndex? i n = some j ∧ j < n ∧ -(n : Int) ≤ i ∧ i < n := by
 unfold ixN at h
 by_cases h0 : 0 ≤ i
 ·rw [if_pos h0] at h
  by_cases h1 : i < n
  ·rw [if_pos h1] at h
   have e : i.toNat = j := Option.some.inj h
   exact ⟨by rw [seqIndex_of h0 h1, e], by omega, by omega, h1⟩
  ·rw [if_neg h1] at h; cases h
 ·rw [if_neg h0] at h
  by_cases h1 : -(n : Int) ≤ i
  ·rw [if_pos h1] at h
   have e : (i + n).toNat = j := Option.some.inj h
   exact ⟨by rw [seqIndex_neg (by omega) h1, e], by omega, h1, by omega⟩
  ·rw [if_neg h1] at h; cases h
theorem atI_get {α : Type} {xs : List α} {i : Int} {v : α} (h : atI xs i = some v) : ∃ j, seqIndex? i xs.length = some j ∧ xs[j]? = some v ∧ j < xs.length ∧ -(xs.length : Int) ≤ i ∧ i < xs.length := by
 unfold atI at h
 cases e : ixN xs.length i with
 | none => rw [e] at h; cases h
 | some j =>
  rw [e] at h
  obtain ⟨h1, h2, h3, h4⟩ := ixN_seq e
  exact ⟨j, h1, h, h2, h3, h4⟩
theorem atI_nat {α : Type} {xs : List α} {j : Nat} {v : α} (h : xs[j]? = some v) : atI xs (j : Int) = some v := by
 have hj : j < xs.length := (List.getElem?_eq_some_iff.mp h).1
 have e : ixN xs.length (j : Int) = some j := by
  unfold ixN
  rw [if_pos (by omega), if_pos (by omega)]; simp
 unfold atI; rw [e]; exact h
def PlainIx (b : Expr) : Prop := ∀ o i, subscripted b false o i = operate [o, i] (getItem o i)
def IxR (X : Cx) (r : R2) : Prop :=
 ∀ (value slice : Expr) (pins : List (Addr × Obj)) (s : Shared) (σ : St) (H : Hp) (x y : V) (v u : Value) (Q : VK), Inv X pins σ H s → RelV x v → RelV y u → r x y H Q →
  subscripted slice false v u = operate [v, u] (getItem v u) → wpAny (model X.prog X.w) X.A (subscriptTail value slice v u) (EP X pins σ Q) X.xe s
def MtR (X : Cx) (id : String) (r : V → List V → Hp → VK → Prop) : Prop :=
 ∀ (pins : List (Addr × Obj)) (s : Shared) (σ : St) (H : Hp) (x : V) (xs : List V) (v : Value) (us : List Value) (Q : VK), Inv X pins σ H s → RelV x v → Vals xs us → r x xs H Q →
  wpAny (model X.prog X.w) X.A (call (.builtin id) (v :: us)) (EP X pins σ Q) X.xe s
section
variable {X : Cx} {a b : Expr} {ta tb : TE} {pos : Pos}
theorem IxR.or {r r' : R2} (h : IxR X r) (h' : IxR X r') : IxR X (fun x y H Q => r x y H Q ∨ r' x y H Q) := by
 intro value slice pins s σ H x y v u Q I rx ry q hs
 rcases q with q | q
 ·exact h value slice pins s σ H x y v u Q I rx ry q hs
 ·exact h' value slice pins s σ H x y v u Q I rx ry q hs
theorem MtR.or {id : String} {r r' : V → List V → Hp → VK → Prop} (h : MtR X id r) (h' : MtR X id r') : MtR X id (fun x xs H Q => r x xs H Q ∨ r' x xs H Q) := by
 intro pins s σ H x xs v us Q I rx rs q
 rcases q with q | q
 ·exact h pins s σ H x xs v us Q I rx rs q
 ·exact h' pins s σ H x xs v us Q I rx rs q
theorem pe_ix {r : R2} (hr : IxR X r) (ha : PE X a ta) (hb : PE X b tb) (hs : PlainIx b) : PE X (.Subscript a b pos) (tOp r ta tb) := by
 intro pins s σ H Q I h
 exact Subscript_ (binT ha hb I h fun v u s2 x y H2 I2 rx ry q => hr a b pins s2 σ H2 x y v u Q I2 rx ry q (hs _ _))
def rIxL (K : PySem.W.Frag) : R2 := fun x y H Q => ∃ p xs i v, x = .ref p ∧ y = .int i ∧ SqL K H p xs ∧ atI xs i = some v ∧ Q v H
def rIxT (K : PySem.W.Frag) : R2 := fun x y H Q => ∃ p xs i v, x = .ref p ∧ y = .int i ∧ SqT K H p xs ∧ atI xs i = some v ∧ Q v H
def rIxS : R2 := fun x y H Q => ∃ z i c, x = .str z ∧ y = .int i ∧ z.length ≤ sizeLine ∧ atI z.cps.toList i = some c ∧ Q (.str ⟨#[c]⟩) H
theorem ix_list : IxR X (rIxL X.K) := by
 intro value slice pins s σ H x y v u Q I rx ry h hs
 obtain ⟨p, xs, i, z, rfl, rfl, hq, he, q⟩ := h
 cases rx
 obtain ⟨t, rfl⟩ := ry
 obtain ⟨its, r, pl, hz⟩ := I.list hq
 obtain ⟨j, h1, h2, h3, h4, h5⟩ := atI_get he
 obtain ⟨w, ew, rw'⟩ := r.get h2
 have hl := r.length
 have hn := line63
 have fin : EP X pins σ Q w s := ⟨z, H, I, rw', q⟩
 by_cases h0 : 0 ≤ i
 ·have hj : i.toNat = j := by
   rw [seqIndex_of h0 h5] at h1
   exact Option.some.inj h1
  exact item_listR pl.isList h0 (by omega) (by rw [hj]; simpa using ew) fin hs
 ·have hj : (i + (its.toArray.size : Int)).toNat = j := by
   rw [seqIndex_neg (by omega) h4] at h1
   rw [List.size_toArray, ← hl]
   exact Option.some.inj h1
  exact subscriptTail_builtinR (x := w) pl.isList.typeIs slot_list_getitem.lookup
   (wpAny_getItem_list_neg (Q := fun r s' => r = w ∧ EP X pins σ Q r s') pl.isList (by omega) (by rw [List.size_toArray] <;> omega) (by omega) (by rw [hj]; simpa using ew) ⟨rfl, fin⟩) hs
theorem ix_tup : IxR X (rIxT X.K) := by
 intro value slice pins s σ H x y v u Q I rx ry h hs
 obtain ⟨p, xs, i, z, rfl, rfl, hq, he, q⟩ := h
 cases rx
 obtain ⟨t, rfl⟩ := ry
 obtain ⟨its, r, pl, hz⟩ := I.tuple hq
 obtain ⟨j, h1, h2, h3, h4, h5⟩ := atI_get he
 obtain ⟨w, ew, rw'⟩ := r.get h2
 have hl := r.length
 have hn := line63
 have fin : EP X pins σ Q w s := ⟨z, H, I, rw', q⟩
 exact subscriptTail_builtinR (x := w) pl.typeIs slot_tuple_getitem.lookup
  (getItem_tuple (j := j) (Q := fun r s' => r = w ∧ EP X pins σ Q r s') pl (by omega) (by omega) (by rw [List.size_toArray, ← hl]; exact h1) (by simpa using ew) ⟨rfl, fin⟩) hs
theorem ix_str : IxR X rIxS := by
 intro value slice pins s σ H x y v u Q I rx ry h hs
 obtain ⟨z, i, c, rfl, rfl, hz, he, q⟩ := h
 obtain ⟨t, rfl⟩ := rx
 obtain ⟨t', rfl⟩ := ry
 obtain ⟨j, h1, h2, h3, h4, h5⟩ := atI_get he
 have hl : z.cps.toList.length = z.length := by simp [Str.length]
 rw [hl] at h1 h4 h5
 have hn := line63
 exact tail_any (typeIs_str s z t) slot_str_getitem.lookup (getItem_str (c := c) (by
  have e1 : decide (i < -(2 ^ 63 : Int)) = false := decide_eq_false (by omega)
  have e2 : decide (i ≥ 2 ^ 63) = false := decide_eq_false (by omega)
  rw [e1, e2, Bool.or_false]) (by rw [h1]; simpa using h2) ⟨.str ⟨#[c]⟩, H, I.tok _, ⟨_, rfl⟩, q⟩) hs
theorem Inv.lst {pins : List (Addr × Obj)} {σ : St} {H : Hp} {s : Shared} {p : Addr} {xs : List V} (I : Inv X pins σ H s) (h : H p = some (.lst xs)) :
  ∃ (its : List Value) (n : Nat), Vals xs its ∧ s.heap.get? p = some { cls := .type "list", data := .seq its.toArray n } ∧ xs.length ≤ sizeLine := by
 obtain ⟨z, its, n, r, e⟩ := I.hok p _ h
 exact ⟨its, n, r, e, z⟩
theorem op_notIn_str : OpR X (compareOp .NotIn) (fun x y H Q => ∃ i j, x = .str i ∧ y = .str j ∧ Q (.bl (!(!(Builtin.Str.occurrences j i 0 j.length 1).isEmpty))) H) := by
 intro pins s σ H x y v u Q I rx ry h
 obtain ⟨i, j, rfl, rfl, q⟩ := h
 obtain ⟨t, rfl⟩ := rx
 obtain ⟨t', rfl⟩ := ry
 exact notIn_str ⟨.bl _, H, I, rfl, q⟩
theorem call_len_seq : CallR X (.builtin "len") (fun xs H Q => ∃ p ys, xs = [.ref p] ∧ (SqL X.K H p ys ∨ SqT X.K H p ys) ∧ Q (.int ys.length) H) := by
 intro pins s σ H xs us Q I r h
 obtain ⟨p, ys, rfl, hq, q⟩ := h
 obtain ⟨u, rfl, rx⟩ := vals1 r
 cases rx
 have hn := line63
 rcases hq with hq | hq
 ·obtain ⟨its, r', pl, hz⟩ := I.list hq
  have hlen := r'.length
  exact Calls.call_len_list pl.isList (by simp only [List.size_toArray] <;> omega) ⟨.int ys.length, H, I.tok _, ⟨s.toks + 1, by rw [List.size_toArray, hlen]⟩, q⟩
 ·obtain ⟨its, r', pl, hz⟩ := I.tuple hq
  have hlen := r'.length
  exact len_tuple pl (by simp only [List.size_toArray] <;> omega) ⟨.int ys.length, H, I.tok _, ⟨s.toks + 1, by rw [List.size_toArray, hlen]⟩, q⟩
theorem call_len_str : CallR X (.builtin "len") (fun xs H Q => ∃ z, xs = [.str z] ∧ z.length ≤ sizeLine ∧ Q (.int z.length) H) := by
 intro pins s σ H xs us Q I r h
 obtain ⟨z, rfl, hz, q⟩ := h
 obtain ⟨u, rfl, t, rfl⟩ := vals1 r
 have hn := line63
 exact len_str (by omega) ⟨.int z.length, H, I.tok _, ⟨_, rfl⟩, q⟩
theorem CallR.or {f : Value} {r r' : List V → Hp → VK → Prop} (h : CallR X f r) (h' : CallR X f r') : CallR X f (fun xs H Q => r xs H Q ∨ r' xs H Q) := by
 intro pins s σ H xs us Q I rs q
 rcases q with q | q
 ·exact h pins s σ H xs us Q I rs q
 ·exact h' pins s σ H xs us Q I rs q
theorem call_list_of : CallR X (.type "list") (fun xs H Q => ∃ p ys, xs = [.ref p] ∧ (SqL X.K H p ys ∨ SqT X.K H p ys) ∧ ∀ l, H l = none → Q (.ref l) (upd H l (.lst ys))) := by
 intro pins s σ H xs us Q I r h
 obtain ⟨p, ys, rfl, hq, q⟩ := h
 obtain ⟨u, rfl, rx⟩ := vals1 r
 cases rx
 have fin : ∀ (its : List Value), Vals ys its → ys.length ≤ sizeLine → ∀ (h' : Heap) (c' : Nat), (∀ b o', s.heap.get? b = some o' → h'.get? b = some o') →
   h'.get? s.heap.objs.size = some { cls := .type "list", dict := none, data := .seq its.toArray c', slots := #[] } → EP X pins σ Q (.ref s.heap.objs.size) { s with heap := h' } := fun its r' hz h' c' kp e =>
  ⟨.ref s.heap.objs.size, _, I.laid (t' := s.toks) kp (Nat.le_refl _) (show ObjOk X.prog X.w _ h' _ (.lst ys) from ⟨hz, its, c', r', e⟩), rfl, q _ (I.hok.fresh (Nat.le_refl _))⟩
 rcases hq with hq | hq
 ·obtain ⟨its, r', pl, hz⟩ := I.list hq
  have hlen := r'.length
  obtain ⟨o, ho, hc, n, hd⟩ := pl.isList
  exact call_list_seq p (.inl rfl) ho hc hd (fun h' c' kp e => fin its r' hz h' c' kp e) (by simp only [List.size_toArray] <;> omega)
 ·obtain ⟨its, r', pl, hz⟩ := I.tuple hq
  have hlen := r'.length
  obtain ⟨o, ho, hc, n, hd⟩ := pl
  exact call_list_seq p (.inr rfl) ho hc hd (fun h' c' kp e => fin its r' hz h' c' kp e) (by simp only [List.size_toArray] <;> omega)
theorem call_tuple_of : CallR X (.type "tuple") (fun xs H Q => ∃ p ys, xs = [.ref p] ∧ ((SqL X.K H p ys ∧ ∀ l, H l = none → Q (.ref l) (upd H l (.tup ys))) ∨ (SqT X.K H p ys ∧ Q (.ref p) H))) := by
 intro pins s σ H xs us Q I r h
 obtain ⟨p, ys, rfl, h⟩ := h
 obtain ⟨u, rfl, rx⟩ := vals1 r
 cases rx
 rcases h with ⟨hq, q⟩ | ⟨hq, q⟩
 ·obtain ⟨its, r', pl, hz⟩ := I.list hq
  have hlen := r'.length
  refine call_tuple_list pl.isList (fun h' kp => ?_) (by simp only [List.size_toArray] <;> omega)
  have I1 : Inv X pins σ H { s with heap := h' } := I.kept (t' := s.toks) kp
  have I2 : Inv X pins σ (upd H h'.objs.size (.tup ys)) { s with heap := h'.push { cls := .type "tuple", data := .seq its.toArray } } :=
   I1.laid (t' := s.toks) (fun b o e => Heap.get?_push_of_some _ e) (Nat.le_refl _) (show ObjOk X.prog X.w _ _ _ (.tup ys) from ⟨hz, its, r', IsTup.new _ _⟩)
  exact ⟨.ref h'.objs.size, _, I2, rfl, q _ (I1.hok.fresh (Nat.le_refl _))⟩
 ·obtain ⟨its, r', pl, hz⟩ := I.tuple hq
  exact call_tuple_same pl ⟨.ref p, H, I, rfl, q⟩
def tyV (K : PySem.W.Frag) (T : String) (x : V) (H : Hp) : Prop := match x with
 | .str _ => T = "str"
 | .int _ => T = "int"
 | .ref p => (T = "list" ∧ ∃ xs, SqL K H p xs) ∨ (T = "tuple" ∧ ∃ o, K.lookup p = some o ∧ o.cls = .type "tuple" ∧ o.dict = none) ∨
   (T = "dict" ∧ ((∃ kvs, H p = some (.dK kvs)) ∨ ∃ kvs, H p = some (.dT kvs))) ∨ (T = "set" ∧ ∃ S n, H p = some (.set S n))
 | _ => False
theorem tyV_is {pins : List (Addr × Obj)} {σ : St} {H : Hp} {s : Shared} {T : String} {x : V} {v : Value} (I : Inv X pins σ H s) (r : RelV x v) (ty : tyV X.K T x H) :
  s.TypeIs v T ∧ ∀ a, v = .ref a → ∃ ob, s.heap.get? a = some ob ∧ ob.dict = none := by
 cases x with
 | str z =>
  obtain ⟨t, rfl⟩ := r
  cases (show T = "str" from ty)
  exact ⟨typeIs_str s z t, fun _ e => nomatch e⟩
 | int i =>
  obtain ⟨t, rfl⟩ := r
  cases (show T = "int" from ty)
  exact ⟨typeIs_int s i t, fun _ e => nomatch e⟩
 | ref p =>
  cases r
  rcases ty with ⟨rfl, xs, hq⟩ | ⟨rfl, o, hk, hc, hd⟩ | ⟨rfl, hk⟩ | ⟨rfl, S, n, hk⟩
  ·obtain ⟨its, _, pl, _⟩ := I.list hq
   refine ⟨pl.isList.typeIs, fun a e => ?_⟩
   cases e
   obtain ⟨o, n, e, c, hd, _⟩ := pl
   exact ⟨o, e, hd⟩
  ·refine ⟨⟨o, I.kIn p o hk, hc⟩, fun a e => ?_⟩
   cases e
   exact ⟨o, I.kIn _ o hk, hd⟩
  ·have z : ∃ o, s.heap.get? p = some o ∧ o.ExactDict := by
    rcases hk with ⟨kvs, hk⟩ | ⟨kvs, hk⟩
    ·obtain ⟨_, _, _, _, o, _, _, e, ex, _⟩ := I.hok p _ hk
     exact ⟨o, e, ex⟩
    ·obtain ⟨_, _, _, _, o, _, _, e, ex, _⟩ := I.hok p _ hk
     exact ⟨o, e, ex⟩
   obtain ⟨o, e, ex⟩ := z
   refine ⟨⟨o, e, ex.1⟩, fun a e2 => ?_⟩
   cases e2
   exact ⟨o, e, ex.2.1⟩
  ·obtain ⟨o, _, _, _, e, ex, _⟩ := I.hok p _ hk
   refine ⟨⟨o, e, ex.1⟩, fun a e2 => ?_⟩
   cases e2
   exact ⟨o, e, ex.2.1⟩
 | _ => exact False.elim ty
def tBM (K : PySem.W.Frag) (T : String) (r : V → List V → Hp → VK → Prop) (to : TE) (t : TA) : TE := fun σ H Q => to σ H fun x H1 => tyV K T x H1 ∧ t σ H1 fun xs H2 => r x xs H2 Q
variable {o e : Expr} {es : List Expr} {to : TE} {t : TA} {name : Str} {apos cpos : Pos} {T id : String} {r : V → List V → Hp → VK → Prop}
theorem pe_bm (pa : PlainAttrs T) (slot : Slot T name id) (hty : typeOf (.builtin id) = pure (.type "method_descriptor")) (hm : MtR X id r) (ho : PE X o to) (ha : PA X (e :: es) t)
  (hbase : attributeBase o name X.env (eval o X.env) = eval o X.env := by rfl)
  (hfew : ((backTo cpos (starEach (e :: es) X.env)).all (fun x => !x.1) && (backToKw cpos (keywordEach [] X.env)).all (fun x => x.1.isSome)
   && decide ((e :: es).length + ([] : List Keyword).length + (if ([] : List Keyword).isEmpty then 0 else 1) < 30)) = true := by rfl)
  (hline : (apos.endLine == cpos.line) = true := by rfl) (hs : starEach (e :: es) X.env = (false, eval e X.env) :: starEach es X.env := by rfl) (hplain : (backTo cpos (starEach es X.env)).any (·.1) = false := by rfl) :
  PE X (.Call (.Attribute o name apos) (e :: es) [] cpos) (tBM X.K T r to t) := by
 intro pins s σ H Q I h
 refine wpAny_Call_method_late hbase hfew hline rfl (thn (ho pins s σ H _ I h) fun v s1 ⟨x, H1, I1, r1, ty, q1⟩ => ?_)
 obtain ⟨h1, h2⟩ := tyV_is I1 r1 ty
 refine ⟨T, id, pa, slot, hty, h1, h2, ?_⟩
 have hA := ha cpos pins s1 σ H1 _ I1 q1
 rw [hs] at hA ⊢
 refine Calls.callWith_builtin (by show (false || (backTo cpos (starEach es X.env)).any (·.1)) = false; rw [hplain] <;> rfl) (Calls.evalArgs_plain ?_)
 exact thn hA fun us s2 ⟨vs, H2, I2, r2, q2⟩ => hm pins s2 σ H2 x vs v us Q I2 r1 r2 q2
end
end L2
namespace L2
open PySem PySem.Spec PyProof.Rows
def MtM (X : Cx) (id : String) (r : V → List V → Hp → VK → Prop) : Prop :=
 ∀ (pins : List (Addr × Obj)) (s : Shared) (σ : St) (H : Hp) (x : V) (xs : List V) (v : Value) (us : List Value) (Q : VK), Inv X pins σ H s → RelV x v → Vals xs us → r x xs H Q →
  wpAny (model X.prog X.w) X.A (call (.builtin id) (v :: us)) (EP X pins σ Q) X.xe s
theorem Vals.one : ∀ {x : V} {us : List Value}, Vals [x] us → ∃ u, us = [u] ∧ RelV x u
 | _, _, .cons r .nil => ⟨_, rfl, r⟩
theorem Vals.zero : ∀ {us : List Value}, Vals [] us → us = []
 | _, .nil => rfl
theorem Vals.rep {xs : List V} {us : List Value} (h : Vals xs us) : ∀ k : Nat, Vals (List.replicate k xs).flatten (List.replicate k us).flatten
 | 0 => .nil
 | k + 1 => by
  rw [List.replicate_succ, List.replicate_succ, List.flatten_cons, List.flatten_cons]
  exact Vals.append h (Vals.rep h k)
section
variable {X : Cx} {pins : List (Addr × Obj)} {σ : St} {H : Hp} {s : Shared} {l b : Addr} {xs ys zs : List V}
theorem Inv.lset {its its' : List Value} {n : Nat} {f : Array Value → Array Value} {t' : Nat} (I : Inv X pins σ H s) (hH : H l = some (.lst xs))
  (e : s.heap.get? l = some { cls := .type "list", data := .seq its.toArray n }) (hf : f its.toArray = its'.toArray) (hv : Vals ys its') (hz : ys.length ≤ sizeLine) :
  Inv X pins σ (upd H l (.lst ys)) { s with heap := s.heap.update l (Obj.mapSeq f), toks := t' } := by
 have q := PySem.IsL.update e f
 rw [hf] at q
 refine I.write (x := l) (e := l) (by rw [hH]; exact trivial) (.inl rfl) (fun b' u hb hu => (Heap.get?_update_other s.heap (Obj.mapSeq f) (Ne.symm hb)).trans hu) ⟨_, q⟩ ?_
 exact ⟨hz, its', _, hv, q⟩
theorem Inv.lnew {its : List Value} {t' : Nat} (I : Inv X pins σ H s) (hv : Vals ys its) (hz : ys.length ≤ sizeLine) :
  Inv X pins σ (upd H s.heap.objs.size (.lst ys)) { s with heap := s.heap.push { cls := .type "list", data := .seq its.toArray }, toks := t' } :=
 I.laid (fun _ _ q => Heap.get?_push_of_some _ q) (Nat.le_refl _) ⟨hz, its, 0, hv, Heap.get?_push_size _ rfl⟩
theorem Inv.fresh (I : Inv X pins σ H s) : H s.heap.objs.size = none := I.hok.fresh (Nat.le_refl _)
theorem Inv.lstM (I : Inv X pins σ H s) (hH : H l = some (.lst xs)) : xs.length ≤ sizeLine ∧ ∃ (its : List Value) (n : Nat), Vals xs its ∧ xs.length = its.length ∧ s.heap.get? l = some { cls := .type "list", data := .seq its.toArray n } := by
 obtain ⟨z, its, n, r, e⟩ := I.hok l _ hH
 exact ⟨z, its, n, r, r.length, e⟩
end
section
variable {X : Cx}
def rAppend : V → List V → Hp → VK → Prop := fun x vs H Q => ∃ l xs y, x = .ref l ∧ vs = [y] ∧ H l = some (.lst xs) ∧ xs.length < sizeLine ∧ Q .non (upd H l (.lst (xs ++ [y])))
theorem mt_append : MtM X "list.append" rAppend := by
 intro pins s σ H x vs v us Q I rx rv h
 obtain ⟨l, xs, y, rfl, rfl, hH, hz, q⟩ := h
 cases rx
 obtain ⟨u, rfl, ru⟩ := rv.one
 obtain ⟨z, its, n, r, hl, e⟩ := I.lstM hH
 refine call_meets F.slot_list_append ⟨_, e, rfl⟩ F.entry_list_append (F.args_list_append_2 _ _) (PySem.list_append l its.toArray n u (by rw [List.size_toArray]; omega)) ⟨e, ?_⟩
 refine ⟨.non, _, I.lset (its' := its ++ [u]) hH e (by simp) (r.append (.cons ru .nil)) ?_, rfl, q⟩
 rw [List.length_append, List.length_singleton]
 omega
end
end L2
namespace Att
open PySem PySem.W PySem.Calls PyProof.Rows
theorem ints_of_wellAll {P : Params} {h : Heap} : ∀ (ns : List Int) (vs : List Value), WellAll P h vs (ns.map WData.int) → IntsAre vs ns := by
 intro ns
 induction ns with
 | nil =>
  intro vs w
  rw [List.map_nil] at w
  cases w
  exact .nil
 | cons n ns ih =>
  intro vs w
  rw [List.map_cons] at w
  cases w with
  | cons a b =>
   cases a
   exact .cons _ _ (ih _ b)
theorem script_of {l : OpenLaw} {n : Nat} (hn : l.most = some n) {P : Params} {h : Heap} {args : List WData} {vals : List Value}
  (hpre : l.row.toRowW.claim.pre args = true) (hwl : WellAll P h vals args) :
  ∃ a vs ns, vals = [Value.ref a] ∧ args = [WData.list (ns.map WData.int)] ∧ h.get? a = some { cls := .type "list", data := .seq vs.toArray } ∧ IntsAre vs ns ∧ ns.length ≤ n := by
 have hsh : WShape.hasAll [] args [.list .int] = true := (pre_splitW hpre).1
 have hc : l.pre.holds [] { args := args } = true := (pre_splitW hpre).2
 obtain ⟨d, r, rfl, h1, h2⟩ := hasAllW_cons hsh
 obtain rfl := hasAllW_nil h2
 obtain ⟨xs, rfl, h3⟩ := hasW_list h1
 obtain ⟨ns, rfl⟩ := items_int h3
 have hlen : ns.length ≤ n := by
  unfold OpenLaw.pre at hc
  have h4 : (WTm.not (.lt (.lit (.int (n : Int))) (.len (.arg 0)))).holds [] { args := [.list (ns.map .int)] } = true := by
   have h4 := (holds_andW hc).1
   rw [hn] at h4
   exact h4
  have h5 := condW_of h4 (w_not (w_lt w_lit (w_len_list (w_arg rfl))))
  rw [List.length_map] at h5
  refine Nat.le_of_not_lt fun q => ?_
  have q' : (n : Int) < ((ns.length : Nat) : Int) := by omega
  first
   | (rw [decide_eq_true q'] at h5; exact absurd h5 (by decide))
   | (simp at h5; omega)
 cases hwl with
 | cons w1 w2 =>
  cases w2
  cases w1 with
  | list ho hall => exact ⟨_, _, ns, rfl, rfl, ho, ints_of_wellAll ns _ hall, hlen⟩
theorem post_true (l : OpenLaw) (args : List WData) : l.row.toRowW.claim.post args (.bool true) args = true :=
 postW_of (r := l.row.toRowW) (X := (true == true))
  (show WShape.has [] (.bool true) .bool = true by first | rfl | decide | simp [WShape.has, WShape.arms, WShape.armsAll])
  (show (WTm.eq .res (.lit (.bool true))).value [] { args := args, res := some (.bool true), after := args } = some (.bool (true == true)) from w_eq_bool (w_res rfl) w_lit) rfl
theorem attach_call {l : OpenLaw} {n : Nat} {q : Program} {loose : List Str} {XP : (Str → Option Value) → Heap → Prop} {YP : World → Heap → Prop} {d : DefRec}
  (hn : l.most = some n) (hdf : d.params.defaults = [])
  (call : ∀ (w : World) (s₀ s₁ : Shared) (mg mb : Str → Option Value) (fa : Addr) (o : Obj) (pm cd doc : Value) (a : Addr) (vs : List Value) (ns : List Int),
   Ground q loose [] XP w s₀ mg mb s₁.heap → YP w s₁.heap →
   s₁.heap.get? fa = some o → o.data = .func (docDef d.name d.params d.body d.scope pm cd doc) → s₁.heap.CodeRec cd d.name → mg d.name = some (.ref fa) →
   s₁.heap.get? a = some { cls := .type "list", data := .seq vs.toArray } → IntsAre vs ns → ns.length ≤ n → s₁.gens = #[] →
   codeAny (model l.prog w) callerA (.call (.ref fa) ⟨[.ref a], []⟩) (fun r s' => r = .ok (.ret (.bool true)) ∧ OldK s₁.heap s'.heap ∧ s'.os = s₁.os ∧ AllBare s'.gens) s₁) :
  WalkO q loose XP YP l.row.toRowW d [] (fun f vs => PySem.call f vs) := by
 intro w s₀ s₁ mg mb G Y fa o pm cd doc dV kV ho hd hcd hD hmg hg args vals as hpre hlay hrd hwl hlo
 obtain rfl : dV = .none := Dflts.none hD hdf
 obtain rfl : kV = .none := Dflts.noKw hD
 obtain ⟨a, vs, ns, rfl, rfl, hobj, hints, hlen⟩ := script_of hn hpre hwl
 refine enter_call (codeAny_mono (call w s₀ s₁ mg mb fa o pm cd doc a vs ns G Y ho (fd_plain hd) hcd hmg hobj hints hlen hg) fun r s' hq => ?_)
 obtain ⟨rfl, h2, h3, h4⟩ := hq
 exact ⟨.inl ⟨.bool true, .bool true, [], rfl, fun _ => rfl, .bool true, post_true l _, fun _ => ⟨List.Pairwise.nil, fun _ hm => (nomatch hm)⟩⟩, h2, h3, h4⟩
end Att
namespace L2
open PySem PySem.Spec PyProof.Rows
theorem vals_ints : ∀ {vs : List Value} {ns : List Int}, IntsAre vs ns → Vals (ns.map V.int) vs
 | _, _, .nil => .nil
 | _, _, .cons n t h => .cons ⟨t, rfl⟩ (vals_ints h)
def Only (H : Hp) : Prop := ∀ b, H b = none ∨ ∃ o xs, H b = some (.frz o (.lst xs))
theorem law_call {P : Program} {w : World} {K : PySem.W.Frag} {mg mb : Str → Option Value} {CX : CXT} {k : Nat} {fa a : Addr} {fd : FuncData} {x : Str} {sp : Sp} {s₁ : Shared} {vs : List Value} {ns : List Int}
  (KX : K.In s₁.heap) (hns : s₁.heap.Ns mainGlobals mg) (hb : s₁.heap.Ns builtinsNs mb) (hbb : ∀ x : Str, x ≠ "__name__" → mb x = bootBuiltins x) (hlim : s₁.heap.NoLimit) (hg : s₁.gens = #[])
  (ha : s₁.heap.get? a = some { cls := .type "list", data := .seq vs.toArray }) (hi : IntsAre vs ns) (hl : ns.length ≤ sizeLine) (hr : Room k callerA)
  (F : ∀ base : Heap, K.In base → base.Ns mainGlobals mg → FnOk P w K mg base CX k fa fd [x] sp) (hbind : ∀ (s : Shared) (u : Value), BindsTo s fd ⟨[u], []⟩ [(x, u)])
  (hsp : ∀ H : Hp, Only H → SqL K H a (ns.map V.int) → sp [.ref a] H (fun v _ => v = .bl true) fun _ _ _ => False)
  (hCX : ∀ H e s', CX [] H s₁ (fun _ _ _ => False) e s' → False) :
  codeAny (model P w) callerA (.call (.ref fa) ⟨[.ref a], []⟩) (fun r s' => r = .ok (.ret (.bool true)) ∧ OldK s₁.heap s'.heap ∧ s'.os = s₁.os ∧ AllBare s'.gens) s₁ := by
 have rv := vals_ints hi
 have lenV := hi.length
 
 have core : ∀ H : Hp, Only H → SqL K H a (ns.map V.int) → HOk P w H s₁.heap → (∀ b, H b ≠ none → b = a) → (H a ≠ none → K.lookup a = none) →
   codeAny (model P w) callerA (.call (.ref fa) ⟨[.ref a], []⟩) (fun r s' => r = .ok (.ret (.bool true)) ∧ OldK s₁.heap s'.heap ∧ s'.os = s₁.os ∧ AllBare s'.gens) s₁ := by
  intro H hO hS hok hA hK
  have base_of : ∀ {b : Addr} {o : Obj}, s₁.heap.get? b = some o → H b = none → (hidT s₁.heap H).get? b = some o := fun e n => hidT_get e n
  have noA : ∀ {b : Addr} {o : Obj} {es : Array DictEntry} {ep : Nat}, s₁.heap.get? b = some o → o.data = .dict es ep → H b = none := fun {b o es ep} e d => by
   cases q : H b with
   | none => rfl
   | some u =>
    have e' : b = a := hA b (by rw [q]; simp)
    subst e'
    rw [ha] at e; cases e
    have d' : Data.seq vs.toArray _ = Data.dict es ep := d
    cases d'
  have nsK : ∀ {b : Addr} {m : Str → Option Value}, s₁.heap.Ns b m → (hidT s₁.heap H).Ns b m := fun {b m} ⟨o, es, ep, e, d, r⟩ => ⟨o, es, ep, base_of e (noA e d), d, r⟩
  have hKb : K.In (hidT s₁.heap H) := fun b o e => base_of (KX b o e) (by
   cases q : H b with
   | none => rfl
   | some u =>
    have e' : b = a := hA b (by rw [q]; simp)
    subst e'
    rw [hK (by rw [q]; simp)] at e; cases e)
  have hM : Mod K mg (hidT s₁.heap H) := ⟨hKb, nsK hns, ⟨mb, nsK hb, hbb⟩, let ⟨mc, h1, h2⟩ := hlim; ⟨mc, nsK h1, h2⟩⟩
  have e0 : Env0 P w K mg (hidT s₁.heap H) callerA [] s₁ H := ⟨rfl, hM, fun b o e => of_hidT e, Nat.le_of_eq (hidT_size _ _), trivial, fun b hb => absurd (show b ∈ ([] : List Addr) from hb) (by simp), hok, .of_eq hg⟩
  refine codeAny_mono ((F _ hKb (nsK hns)).run callerA [] s₁ H ⟨[.ref a], []⟩ [.ref a] [.ref a] _ _ hr e0 (hbind s₁ (.ref a)) (.cons rfl .nil) (hsp H hO hS)) fun r s' h => ?_
  cases r with
  | error e => exact (hCX H e s' h).elim
  | ok fl =>
   cases fl with
   | next => exact False.elim h
   | brk => exact False.elim h
   | cont => exact False.elim h
   | ret u =>
    obtain ⟨v, H', os, bare, un, hok', r', q⟩ := h
    have q' : v = .bl true := q
    subst q'
    obtain rfl : u = Value.bool true := r'
    refine ⟨rfl, OldK.of_keep fun b o e => ?_, os, bare⟩
    cases q : H b with
    | none => exact un.keep b o e q (by intro z; exact absurd (show b ∈ ([] : List Addr) from z) (by simp)) (by simp)
    | some u =>
     rcases hO b with z | ⟨ob, xs, z⟩
     ·rw [q] at z; cases z
     ·have z2 := un.frzs b ob _ z
      obtain ⟨e1, _⟩ := hok b _ z
      obtain ⟨e2, _⟩ := hok' b _ z2
      rw [e] at e1; cases e1
      exact e2
 cases hk : K.lookup a with
 | some o =>
  
  have e := KX a o hk
  rw [ha] at e
  cases e
  refine core (fun _ => none) (fun _ => .inl rfl) (.inr ⟨_, vs.toArray, _, hk, rfl, rfl, rfl, by rw [List.size_toArray, lenV]; exact hl, by simpa using rv⟩) (fun b u z => by have z' : (none : Option HO) = some u := z; cases z') (fun b z => absurd rfl z) fun z => absurd rfl z
 | none =>
  refine core (fun b => if b = a then some (.frz { cls := .type "list", data := .seq vs.toArray } (.lst (ns.map V.int))) else none) (fun b => ?_) (.inl (.inr ⟨{ cls := .type "list", data := .seq vs.toArray }, if_pos rfl⟩)) (fun b u z => ?_) (fun b z => ?_) fun _ => hk
  ·by_cases hb : b = a
   ·exact .inr ⟨_, _, if_pos hb⟩
   ·exact .inl (if_neg hb)
  ·by_cases hb : b = a
   ·have z' := (if_pos hb).symm.trans z
    cases z'
    subst hb
    exact ⟨ha, by rw [List.length_map]; exact hl, vs, _, rv, ha⟩
   ·have z' := (if_neg hb).symm.trans z
    cases z'
  ·by_cases hb : b = a
   ·exact hb
   ·exact absurd (if_neg hb) z
end L2
namespace L2
open PySem PySem.Spec PyProof.Rows
abbrev KOf {K : PySem.W.Frag} {h : Heap} (_ : K.In h) : PySem.W.Frag := K
theorem walk_of {l : PySem.W.OpenLaw} {n k : Nat} {q : Program} {loose : List Str} {XP : (Str → Option Value) → Heap → Prop} {YP : World → Heap → Prop} {d : DefRec} {K : Params → PySem.W.Frag} {CX : World → CXT} {sp : World → Sp} {x : Str}
  (hn : l.most = some n) (hn2 : n ≤ sizeLine) (hdf : d.params.defaults = []) (hr : Room k callerA)
  (hY : ∀ (w : World) (h : Heap), YP w h → (K w.params).In h)
  (F : ∀ (w : World) (mg : Str → Option Value) (fa : Addr) (h : Heap), (K w.params).In h → h.Ns mainGlobals mg → mg d.name = some (.ref fa) →
   ∃ fd : FuncData, (∀ (s : Shared) (u : Value), BindsTo s fd ⟨[u], []⟩ [(x, u)]) ∧
    ∀ base : Heap, (K w.params).In base → base.Ns mainGlobals mg → FnOk l.prog w (K w.params) mg base (CX w) k fa fd [x] (sp w))
  (hsp : ∀ (w : World) (H : Hp) (a : Addr) (ns : List Int), ns.length ≤ n → Only H → SqL (K w.params) H a (ns.map V.int) → sp w [.ref a] H (fun v _ => v = .bl true) fun _ _ _ => False)
  (hCX : ∀ (w : World) (H : Hp) (s : Shared) (e : Value) (s' : Shared), CX w [] H s (fun _ _ _ => False) e s' → False) :
  PySem.W.WalkO q loose XP YP l.row.toRowW d [] (fun f vs => PySem.call f vs) := by
 refine Att.attach_call hn hdf fun w s₀ s₁ mg mb fa o pm cd doc a vs ns G Y ho hd hcd hmg hobj hints hlen hg => ?_
 have KX := hY w _ Y
 obtain ⟨fd, hb, hF⟩ := F w mg fa _ KX G.T.g hmg
 exact law_call KX G.T.g G.T.b G.T.builtins G.T.nolimit hg hobj hints (Nat.le_trans hlen hn2) hr hF hb (fun H hO hS => hsp w H a ns hlen hO hS) fun H e s' => hCX w H s₁ e s'
end L2
namespace L2
open PySem PySem.Spec PyProof.Rows
def defArgs (s : Stmt) : Arguments := match s with
 | .FunctionDef _ a _ _ _ _ _ _ _ _ => a
 | _ => { posonlyargs := [], args := [], vararg := none, kwonlyargs := [], kw_defaults := [], kwarg := none, defaults := [] }
def defBody (s : Stmt) : List Stmt := match s with
 | .FunctionDef _ _ b _ _ _ _ _ _ _ => b
 | _ => []
def defScope (s : Stmt) : Scope := match s with
 | .FunctionDef _ _ _ _ _ _ sc _ _ _ => sc
 | _ => { kind := .function, names := [], isGenerator := false, isCoroutine := false }
abbrev CX0 : CXT := fun _ _ _ _ _ _ => False
abbrev E0 : XK := fun _ _ _ => False
theorem pass0 {X : Cx} : Passes CX0 X E0 := fun _ _ _ _ _ _ _ h => h.elim
structure Fun (K : PySem.W.Frag) (x qual : Str) (st : Stmt) (f : Addr) (fd : FuncData) : Prop where
 ex : ∃ (oc : Value) (od : Option Addr) (kV doc pm : Value) (an : Option Addr) (cdv ct : Value) (osl : Array (Option Value)),
  fd = PySem.W.fnOf x qual (defArgs st) (defBody st) (defScope st) .none kV doc pm an cdv ct ∧ K.lookup f = some ⟨oc, od, .func fd, osl⟩ ∧ PySem.W.codeIn K cdv qual = true
 kp : PySem.W.keepIn K (.ref f) = true
section
variable {P : Program} {w : World} {K : PySem.W.Frag} {mg : Str → Option Value} {base : Heap}
theorem Fun.ok {x qual : Str} {st : Stmt} {f : Addr} {fd : FuncData} {N ps : List Str} {k : Nat} {sp : Sp} (F : Fun K x qual st f fd) (S : FnScope N ps (defScope st)) (len : ∀ vs H Q E, sp vs H Q E → vs.length = ps.length)
  (hbody : ∀ (cdv : Value) (A : Around) (outer : List Env) (s : Shared) (H : Hp) (vs : List V) (Q : VK) (E : XK), Room k (A.deeper (envOfC qual (defScope st) s.heap.objs.size f cdv)) → sp vs H Q E →
   ∃ t, PSs (cxOf CX0 P w K mg base N qual (defScope st) f cdv A outer s H E).nox (defBody st) t ∧ t { nx := fun _ H' => Q .non H', rt := Q } (start N vs) H) : FnOk P w K mg base CX0 (k + 1) f fd ps sp := by
 obtain ⟨oc, od, kV, doc, pm, an, cdv, ct, osl, rfl, lk, hcd⟩ := F.ex
 refine fn_of lk hcd S len fun A outer s H vs Q E hr hsp => ?_
 obtain ⟨t, h, q⟩ := hbody cdv A outer s H vs Q E hr hsp
 exact ⟨t, h.nox, q⟩
theorem Fun.binds {x qual : Str} {st : Stmt} {f : Addr} {fd : FuncData} {ps : List Str} (F : Fun K x qual st f fd)
  (h : ∀ (kV doc pm : Value) (an : Option Addr) (cdv ct : Value) (us : List Value), us.length = ps.length → bindArgs (PySem.W.fnOf x qual (defArgs st) (defBody st) (defScope st) .none kV doc pm an cdv ct) ⟨us, []⟩ = pure (ps.zip us)) : Binds K fd ps [] := by
 obtain ⟨oc, od, kV, doc, pm, an, cdv, ct, osl, rfl, lk, hcd⟩ := F.ex
 exact .all (h kV doc pm an cdv ct)
theorem fun_mk {x qual : Str} {st : Stmt} {f : Addr} {oc : Value} {od an : Option Addr} {osl : Array (Option Value)} {kV doc pm cdv ct : Value} (l : K.lookup f = some ⟨oc, od, .func (PySem.W.fnOf x qual (defArgs st) (defBody st) (defScope st) .none kV doc pm an cdv ct), osl⟩)
  (c : PySem.W.codeIn K cdv qual = true) (k : PySem.W.keepIn K (.ref f) = true) : Fun K x qual st f (PySem.W.fnOf x qual (defArgs st) (defBody st) (defScope st) .none kV doc pm an cdv ct) := ⟨⟨oc, od, kV, doc, pm, an, cdv, ct, osl, rfl, l, c⟩, k⟩
end
def Same (H H' : Hp) : Prop := ∀ b o, H b = some o → H' b = some o
theorem Same.refl (H : Hp) : Same H H := fun _ _ h => h
theorem Same.trans {H H1 H2 : Hp} (a : Same H H1) (b : Same H1 H2) : Same H H2 := fun c o h => b c o (a c o h)
theorem Same.free {H H' : Hp} (e : Same H H') {l : Addr} (h : H' l = Option.none) : H l = Option.none := by
 cases q : H l with
 | none => rfl
 | some o =>
  rw [e l o q] at h
  cases h
theorem Same.seq {K : PySem.W.Frag} {H H' : Hp} {a : Addr} {xs : List V} (e : Same H H') (h : SqL K H a xs) : SqL K H' a xs := by
 rcases h with (h | ⟨o, h⟩) | h
 ·exact .inl (.inl (e _ _ h))
 ·exact .inl (.inr ⟨o, e _ _ h⟩)
 ·exact .inr h
end L2
namespace L2
open PySem PySem.Spec PyProof.Rows
section
variable {κ : Type} [DecidableEq κ]
def valV (kvs : List (κ × V)) (k : κ) : Option V := (kvs.find? fun kv => decide (kv.1 = k)).map (·.2)
def putK (kvs : List (κ × V)) (k : κ) (v : V) : List (κ × V) :=
 if (kvs.any fun kv => decide (kv.1 = k)) = true then kvs.map (fun kv => if kv.1 = k then (kv.1, v) else kv) else kvs ++ [(k, v)]
def dropK (kvs : List (κ × V)) (k : κ) : List (κ × V) := kvs.filter fun kv => decide (kv.1 ≠ k)
theorem valV_pos {p : κ × V} {r : List (κ × V)} {k : κ} (e : p.1 = k) : valV (p :: r) k = some p.2 := by simp [valV, List.find?_cons, e]
theorem valV_neg {p : κ × V} {r : List (κ × V)} {k : κ} (e : ¬ p.1 = k) : valV (p :: r) k = valV r k := by simp [valV, List.find?_cons, e]
theorem RelO.isSome_eq {o : Option V} {u : Option Value} (r : RelO o u) : o.isSome = u.isSome := by
 cases o with
 | none => cases u with
  | none => rfl
  | some _ => exact (show False from r).elim
 | some _ => cases u with
  | none => exact (show False from r).elim
  | some _ => rfl
theorem RelO.getD {o : Option V} {u : Option Value} {d : V} {d' : Value} (r : RelO o u) (rd : RelV d d') : RelV (o.getD d) (u.getD d') := by
 cases o with
 | none => cases u with
  | none => exact rd
  | some _ => exact (show False from r).elim
 | some _ => cases u with
  | none => exact (show False from r).elim
  | some _ => exact r
theorem KV.val {kvs : List (κ × V)} {vs : List (κ × Value)} (r : KV kvs vs) (k : κ) : RelO (valV kvs k) (valueAt vs k) := by
 unfold KV at r
 induction r with
 | nil => exact True.intro
 | @cons p q ps qs h t ih =>
  obtain ⟨h1, h2⟩ := h
  by_cases e : p.1 = k
  ·have e' : q.1 = k := h1.symm.trans e
   have b : valueAt (q :: qs) k = some q.2 := by simp [valueAt, List.find?_cons, e']
   rw [valV_pos e, b]; exact h2
  ·have e' : ¬ q.1 = k := fun z => e (h1.trans z)
   have b : valueAt (q :: qs) k = valueAt qs k := by simp [valueAt, List.find?_cons, e']
   rw [valV_neg e, b]; exact ih
theorem KV.any {kvs : List (κ × V)} {vs : List (κ × Value)} (r : KV kvs vs) (k : κ) : (kvs.any fun kv => decide (kv.1 = k)) = vs.any fun kv => decide (kv.1 = k) := by
 unfold KV at r
 induction r with
 | nil => rfl
 | cons h t ih => rw [List.any_cons, List.any_cons, ih, h.1]
theorem KV.drop {kvs : List (κ × V)} {vs : List (κ × Value)} (r : KV kvs vs) (k : κ) : KV (dropK kvs k) (without vs k) := by
 unfold KV at r ⊢
 unfold dropK without
 induction r with
 | nil => exact .nil
 | @cons p q ps qs h t ih =>
  obtain ⟨h1, h2⟩ := h
  rw [List.filter_cons, List.filter_cons]
  by_cases e : p.1 = k
  ·have a : ¬ decide (p.1 ≠ k) = true := by simp [e]
   have b : ¬ decide (q.1 ≠ k) = true := by simp [h1.symm.trans e]
   rw [if_neg a, if_neg b]; exact ih
  ·have e' : ¬ q.1 = k := fun z => e (h1.trans z)
   have a : decide (p.1 ≠ k) = true := by simp [e]
   have b : decide (q.1 ≠ k) = true := by simp [e']
   rw [if_pos a, if_pos b]; exact .cons ⟨h1, h2⟩ ih
theorem KV.keys {kvs : List (κ × V)} {vs : List (κ × Value)} (r : KV kvs vs) : kvs.map (·.1) = vs.map (·.1) := by
 unfold KV at r
 induction r with
 | nil => rfl
 | cons h t ih => rw [List.map_cons, List.map_cons, ih, h.1]
theorem KV.length {kvs : List (κ × V)} {vs : List (κ × Value)} (r : KV kvs vs) : kvs.length = vs.length := Paired.length r
end
theorem kV_is {P : Program} {w : World} {k : Key} {u : Value} (r : RelV (kV k) u) : (mixKind P w).is k u = true := by
 cases k with
 | inl i => obtain ⟨t, e⟩ := (show ∃ t, u = Value.int i t from r); subst e; exact mixKind_int P w i t
 | inr x => obtain ⟨t, e⟩ := (show ∃ t, u = Value.str x t from r); subst e; exact mixKind_str P w x t
theorem items_are {P : Program} {w : World} : ∀ {ks : List Key} {us : List Value}, Vals (ks.map kV) us → ItemsAre (mixKind P w) ks us
 | [], _, r => by rw [List.map_nil] at r; cases r; exact .nil
 | k :: ks, _, r => by
  rw [List.map_cons] at r
  cases r with
  | cons h t => exact .cons (kV_is h) (items_are t)
abbrev KT (H : Hp) : List (List Key × V) → List (List Key × Addr × Value) → Prop := Paired fun p q => p.1 = q.1 ∧ H q.2.1 = some (.tup (p.1.map kV)) ∧ RelV p.2 q.2.2
theorem KT.val {H : Hp} {kvs : List (List Key × V)} {xs : List (List Key × Addr × Value)} (r : KT H kvs xs) (k : List Key) : RelO (valV kvs k) ((atKey xs k).map (·.2)) := by
 induction r with
 | nil => exact True.intro
 | @cons p q ps qs h t ih =>
  obtain ⟨h1, _, h2⟩ := h
  by_cases e : p.1 = k
  ·have e' : q.1 = k := h1.symm.trans e
   have b : atKey (q :: qs) k = some q.2 := by simp [atKey, List.find?_cons, e']
   rw [valV_pos e, b]; exact h2
  ·have e' : ¬ q.1 = k := fun z => e (h1.trans z)
   have b : atKey (q :: qs) k = atKey qs k := by simp [atKey, List.find?_cons, e']
   rw [valV_neg e, b]; exact ih
theorem KT.keeps {H H' : Hp} {kvs : List (List Key × V)} {xs : List (List Key × Addr × Value)} (r : KT H kvs xs) (ht : ∀ b ys, H b = some (.tup ys) → H' b = some (.tup ys)) : KT H' kvs xs :=
 Paired.mapP r fun _ _ z => ⟨z.1, ht _ _ z.2.1, z.2.2⟩
section
variable {P : Program} {w : World} {H : Hp} {h : Heap} {a : Addr}
theorem rd_of {u : HO} (ok : HOk P w H h) (e : Rd H a u) : ObjOk P w H h a u := e.ok ok
theorem dk_rd {kvs : List (Key × V)} (ok : HOk P w H h) (e : Rd H a (.dK kvs)) : kvs.length ≤ sizeLine ∧ (a == sysModules) = false ∧ ∃ vs, KV kvs vs ∧ h.DictOf (mixKind P w) a vs :=
 show ObjOk P w H h a (.dK kvs) from rd_of ok e
theorem key_of {ks : List Key} (ok : HOk P w H h) (e : H a = some (.tup (ks.map kV))) : (tupleKind (mixKind P w)).is h ks a := by
 obtain ⟨_, its, r, o, h1, h2, n, h3⟩ := (show ObjOk P w H h a (.tup (ks.map kV)) from ok a _ e)
 exact ⟨o, its.toArray, n, h1, h2, h3, by simpa using items_are r⟩
theorem dt_rd {kvs : List (List Key × V)} (ok : HOk P w H h) (e : Rd H a (.dT kvs)) : kvs.length ≤ sizeLine ∧ (a == sysModules) = false ∧
  ∃ xs, KT H kvs xs ∧ h.DictOfH (tupleKind (mixKind P w)) a xs := by
 obtain ⟨z, y, xs, r, o, es, ep, h1, h2, h3, h4, h5⟩ := (show ObjOk P w H h a (.dT kvs) from rd_of ok e)
 refine ⟨z, y, xs, r, o, es, ep, h1, h2, h3, h4, fun x hx => ?_, h5⟩
 have all : ∀ {l : List (List Key × V)} {m : List (List Key × Addr × Value)}, KT H l m → ∀ x ∈ m, (tupleKind (mixKind P w)).is h x.1 x.2.1 := by
  intro l m q
  induction q with
  | nil => intro x hx; exact nomatch hx
  | @cons p q ps qs hq t ih =>
   intro x hx
   rcases List.mem_cons.mp hx with e | hx
   ·subst e
    exact key_of ok (by rw [← hq.1]; exact hq.2.1)
   ·exact ih x hx
 exact all r x hx
end
def DGet (H : Hp) (a : Addr) (y : V) (r : Option V) : Prop :=
 (∃ kvs k, Rd H a (.dK kvs) ∧ y = kV k ∧ r = valV kvs k) ∨ ∃ kvs k b, Rd H a (.dT kvs) ∧ y = .ref b ∧ H b = some (.tup (k.map kV)) ∧ r = valV kvs k
def DPut (H : Hp) (a : Addr) (y v : V) (H' : Hp) : Prop :=
 (∃ kvs k, H a = some (.dK kvs) ∧ y = kV k ∧ kvs.length < sizeLine ∧ H' = upd H a (.dK (putK kvs k v))) ∨
 ∃ kvs k b, H a = some (.dT kvs) ∧ y = .ref b ∧ H b = some (.tup (k.map kV)) ∧ kvs.length < sizeLine ∧ H' = upd H a (.dT (putK kvs k v))
theorem DGet.k {H : Hp} {a : Addr} {kvs : List (Key × V)} {k : Key} (e : H a = some (.dK kvs)) : DGet H a (kV k) (valV kvs k) := .inl ⟨kvs, k, .inl e, rfl, rfl⟩
theorem DGet.t {H : Hp} {a b : Addr} {kvs : List (List Key × V)} {k : List Key} (e : H a = some (.dT kvs)) (eb : H b = some (.tup (k.map kV))) : DGet H a (.ref b) (valV kvs k) := .inr ⟨kvs, k, b, .inl e, rfl, eb, rfl⟩
theorem DPut.k {H : Hp} {a : Addr} {kvs : List (Key × V)} {k : Key} {v : V} (e : H a = some (.dK kvs)) (hl : kvs.length < sizeLine) : DPut H a (kV k) v (upd H a (.dK (putK kvs k v))) := .inl ⟨kvs, k, e, rfl, hl, rfl⟩
theorem DPut.t {H : Hp} {a b : Addr} {kvs : List (List Key × V)} {k : List Key} {v : V} (e : H a = some (.dT kvs)) (eb : H b = some (.tup (k.map kV))) (hl : kvs.length < sizeLine) :
  DPut H a (.ref b) v (upd H a (.dT (putK kvs k v))) := .inr ⟨kvs, k, b, e, rfl, eb, hl, rfl⟩
section
variable {X : Cx} {pins : List (Addr × Obj)} {σ : St} {H : Hp} {s : Shared} {a : Addr} {y v : V} {u r : Value} {o : Option V} {A : Around} {E : Value → Shared → Prop}
theorem d_getItem {Q : Value → Shared → Prop} (hu : A.units + 1 < cLine) (I : Inv X pins σ H s) (g : DGet H a y (some v)) (ry : RelV y u) (h : ∀ w' s', Inv X pins σ H s' → RelV v w' → Q w' s') :
  wpAny (model X.prog X.w) A (getItem (.ref a) u) Q E s := by
 rcases g with ⟨kvs, k, e, ey, l⟩ | ⟨kvs, k, b, e, ey, eb, l⟩
 ·subst ey
  obtain ⟨z, hd, vs, rel, dd⟩ := dk_rd I.hok e
  obtain ⟨w', hw, rw'⟩ := RelO.some_of (v := v) (o := valueAt vs k) (by rw [l]; exact rel.val k)
  exact wpAny_getItem_of (kV_is ry) dd.mapOf hw (h w' _ (I.tok _) rw')
 ·subst ey
  cases (show u = Value.ref b from ry)
  obtain ⟨z, hd, xs, rel, dd⟩ := dt_rd I.hok e
  obtain ⟨w', hw, rw'⟩ := RelO.some_of (v := v) (o := (atKey xs k).map (·.2)) (by rw [l]; exact rel.val k)
  obtain ⟨p, hp, hp2⟩ := Option.map_eq_some_iff.mp hw
  refine wpAny_getItem_heap (tupleKind_room_in1 hu) (key_of I.hok eb) dd hp ?_
  rw [hp2]
  exact h w' _ (I.tok _) rw'
theorem d_in {Q : Value → Shared → Prop} (hu : A.units + 1 < cLine) (I : Inv X pins σ H s) (g : DGet H a y o) (ry : RelV y u) (h : ∀ s', Inv X pins σ H s' → Q (.bool o.isSome) s') :
  wpAny (model X.prog X.w) A (compareOp .In u (.ref a)) Q E s := by
 rcases g with ⟨kvs, k, e, ey, l⟩ | ⟨kvs, k, b, e, ey, eb, l⟩
 ·subst ey
  obtain ⟨z, hd, vs, rel, dd⟩ := dk_rd I.hok e
  refine wpAny_in_of (kV_is ry) hd dd.mapOf ?_
  rw [← (rel.val k).isSome_eq, ← l]
  exact h _ (I.tok _)
 ·subst ey
  cases (show u = Value.ref b from ry)
  obtain ⟨z, hd, xs, rel, dd⟩ := dt_rd I.hok e
  refine wpAny_in_heap (tupleKind_room_in1 hu) (key_of I.hok eb) hd dd ?_
  have q := (rel.val k).isSome_eq
  rw [Option.isSome_map] at q
  rw [← q, ← l]
  exact h _ (I.tok _)
theorem d_notIn {Q : Value → Shared → Prop} (hu : A.units + 1 < cLine) (I : Inv X pins σ H s) (g : DGet H a y o) (ry : RelV y u) (h : ∀ s', Inv X pins σ H s' → Q (.bool (!o.isSome)) s') :
  wpAny (model X.prog X.w) A (compareOp .NotIn u (.ref a)) Q E s := by
 rcases g with ⟨kvs, k, e, ey, l⟩ | ⟨kvs, k, b, e, ey, eb, l⟩
 ·subst ey
  obtain ⟨z, hd, vs, rel, dd⟩ := dk_rd I.hok e
  refine wpAny_notIn_of (kV_is ry) hd dd.mapOf ?_
  rw [← (rel.val k).isSome_eq, ← l]
  exact h _ (I.tok _)
 ·subst ey
  cases (show u = Value.ref b from ry)
  obtain ⟨z, hd, xs, rel, dd⟩ := dt_rd I.hok e
  refine wpAny_notIn_heap (tupleKind_room_in1 hu) (key_of I.hok eb) hd dd ?_
  have q := (rel.val k).isSome_eq
  rw [Option.isSome_map] at q
  rw [← q, ← l]
  exact h _ (I.tok _)
end
section
variable {X : Cx} {pins : List (Addr × Obj)} {σ : St} {H : Hp} {s : Shared} {a : Addr} {kvs : List (Key × V)} {k : Key} {u : Value} {A : Around} {E : Value → Shared → Prop}
theorem d_len {Q : Value → Shared → Prop} (I : Inv X pins σ H s) (e : Rd H a (.dK kvs)) (h : ∀ t s', Inv X pins σ H s' → Q (.int kvs.length t) s') : wpAny (model X.prog X.w) A (call (.builtin "len") [.ref a]) Q E s := by
 obtain ⟨z, hd, vs, rel, dd⟩ := dk_rd I.hok e
 refine call_len_dict hd dd (by rw [← rel.length]; rw [sizeLine_eq] at z; omega) ?_
 rw [← rel.length]
 exact h _ _ (I.tok _)
end
theorem dict_typeIs {X : Cx} {pins : List (Addr × Obj)} {σ : St} {H : Hp} {s : Shared} {a : Addr} {y : V} {o : Option V} (I : Inv X pins σ H s) (g : DGet H a y o) : s.TypeIs (.ref a) "dict" := by
 rcases g with ⟨kvs, k, e, _, _⟩ | ⟨kvs, k, b, e, _, _, _⟩
 ·obtain ⟨_, _, vs, _, dd⟩ := dk_rd I.hok e
  exact dd.typeIs
 ·obtain ⟨_, _, xs, _, dd⟩ := dt_rd I.hok e
  exact dd.typeIs
end L2
set_option Elab.async false
set_option linter.all false
set_option maxRecDepth 100000
set_option maxHeartbeats 4000000
namespace L2
open PySem PySem.Spec PyProof.Rows
theorem closure_go {env : Env} : ∀ (names : List (Str × NameKind)) (cs : List (Str × Addr)), (∀ n, (n, NameKind.free) ∈ names → ∃ c, env.cells.lookup n = some c) → (∀ n c, cs.lookup n = some c → env.cells.lookup n = some c) →
  ∃ cl, (forIn names cs (fun x r => match x with | (name, kind) => if (kind == NameKind.free) = true then do
   let c ← cellOf env name
   pure (ForInStep.yield ((name, c) :: r)) else pure (ForInStep.yield r)) : Sem (List (Str × Addr))) = pure cl ∧ (∀ n c, cl.lookup n = some c → env.cells.lookup n = some c) ∧ (∀ n, (n, NameKind.free) ∈ names → ∃ c, cl.lookup n = some c) ∧ (∀ n c, cs.lookup n = some c → ∃ c', cl.lookup n = some c')
 | [], cs, _, h2 => ⟨cs, rfl, h2, fun _ h => by simp at h, fun n c h => ⟨c, h⟩⟩
 | (name, kind) :: rest, cs, h1, h2 => by
  have h1' : ∀ n, (n, NameKind.free) ∈ rest → ∃ c, env.cells.lookup n = some c := fun n h => h1 n (List.mem_cons_of_mem _ h)
  rw [List.forIn_cons]
  by_cases hk : kind = NameKind.free
  ·subst hk
   obtain ⟨c, hc⟩ := h1 name List.mem_cons_self
   have h2' : ∀ n c', ((name, c) :: cs).lookup n = some c' → env.cells.lookup n = some c' := fun n c' h => by
    rw [List.lookup_cons] at h
    cases hb : n == name with
    | true =>
     rw [hb] at h
     have e : n = name := eq_of_beq hb
     subst e
     have e2 : c = c' := by simpa using h
     subst e2
     exact hc
    | false =>
     rw [hb] at h
     exact h2 n c' h
   obtain ⟨cl, e, a, b, d⟩ := closure_go rest ((name, c) :: cs) h1' h2'
   refine ⟨cl, ?_, a, fun n hn => ?_, fun n c' h => ?_⟩
   ·have hcell : cellOf env name = pure c := by unfold cellOf; rw [hc]
    simp only [beq_self_eq_true, if_true, hcell, pure_bind]
    exact e
   ·rcases List.mem_cons.mp hn with hn | hn
    ·have e3 : n = name := (Prod.mk.inj hn).1
     subst e3
     exact d n c (by simp [List.lookup_cons])
    ·exact b n hn
   ·cases hb : n == name with
    | true => exact d n c (by rw [List.lookup_cons, hb])
    | false => exact d n c' (by rw [List.lookup_cons, hb]; exact h)
  ·have hb : (kind == NameKind.free) = false := by simpa using hk
   obtain ⟨cl, e, a, b, d⟩ := closure_go rest cs h1' h2
   refine ⟨cl, ?_, a, fun n hn => ?_, d⟩
   ·simp only [hb, Bool.false_eq_true, if_false, pure_bind]
    exact e
   ·rcases List.mem_cons.mp hn with hn | hn
    ·exact absurd (Prod.mk.inj hn).2.symm hk
    ·exact b n hn
theorem closure_of {scope : Scope} {env : Env} (h : ∀ n, (n, NameKind.free) ∈ scope.names → ∃ c, env.cells.lookup n = some c) :
  ∃ cl, closureFor scope env = pure cl ∧ (∀ n c, cl.lookup n = some c → env.cells.lookup n = some c) ∧ (∀ n, (n, NameKind.free) ∈ scope.names → ∃ c, cl.lookup n = some c) := by
 obtain ⟨cl, e, a, b, _⟩ := closure_go (env := env) scope.names [] h (fun n c h => by simp at h)
 refine ⟨cl, ?_, a, b⟩
 unfold closureFor
 have e' := congrArg (fun (m : Sem (List (Str × Addr))) => m >>= fun cs => pure cs) e
 simp only [pure_bind] at e'
 exact e'
abbrev Cx.blk (X : Cx) (scope : Scope) (cl : List (Str × Addr)) (C : Addr) (M : List Str) (s : Shared) (H : Hp) (ex : List Addr) : Cx :=
 { X with N := M, s₀ := s, H₀ := H, env := compEnvC scope cl C X.env, outer := X.stack, stack := X.stack, ex := ex, fn := fun y => scope.names.lookup y == some .cell, pn := [], xe := fun _ _ => False }
structure Blk (X : Cx) (scope : Scope) (M : List Str) (own : Nat) (fr : List Nat) : Prop where
 kind : scope.kind = .function
 cells : ∀ y ∈ scope.names, y.2 = .cell → scope.names.lookup y.1 = some .cell
 names : ∀ y ∈ scope.names, y.2 = .local → scope.names.lookup y.1 = some .local
 free : ∀ y ∈ scope.names, y.2 = .free → X.env.kindOf y.1 = some .cell ∨ X.env.kindOf y.1 = some .free
 nd : M.Nodup
 len : M.length = own + fr.length
 at' : ∀ i j, fr[i]? = some j → M[own + i]? = X.N[j]? ∧ ∃ n, X.N[j]? = some n ∧ scope.names.lookup n = some .free ∧ (X.env.kindOf n = some .cell ∨ X.env.kindOf n = some .free)
def seen (own : Nat) (fr : List Nat) (σ : St) : St := List.replicate own none ++ fr.map fun j => (σ[j]?).join
theorem lookup_map {g : Str × NameKind → Str × NameKind} (hg : ∀ p, (g p).1 = p.1) : ∀ (names : List (Str × NameKind)) (n : Str), (names.map g).lookup n = (names.lookup n).map fun k => (g (n, k)).2
 | [], _ => rfl
 | (m, k) :: r, n => by
  have e : g (m, k) = (m, (g (m, k)).2) := Prod.ext (hg (m, k)) rfl
  rw [List.map_cons, e]
  by_cases hx : n = m
  ·subst hx
   simp [List.lookup_cons]
  ·have hb : (n == m) = false := by simpa using hx
   simp only [List.lookup_cons, hb]
   exact lookup_map hg r n
theorem relabel_names (scope : Scope) (env : Env) : ∃ g : Str × NameKind → Str × NameKind, (relabel scope env).names = scope.names.map g ∧ (∀ p, (g p).1 = p.1) ∧ ∀ n k, (g (n, k)).2 = k ∨ (k = .free ∧ (g (n, k)).2 = .cell) := by
 refine ⟨_, rfl, fun p => ?_, fun n k => ?_⟩
 ·obtain ⟨n, k⟩ := p
  dsimp only
  split <;> rfl
 ·dsimp only
  by_cases hc : (k == NameKind.free && env.scope.kind == ScopeKind.function && env.kindOf n == some NameKind.cell) = true
  ·rw [if_pos hc]
   refine .inr ⟨?_, rfl⟩
   simp only [Bool.and_eq_true] at hc
   exact eq_of_beq hc.1.1
  ·rw [if_neg hc]
   exact .inl rfl
theorem relabel_free {scope : Scope} {env : Env} {n : Str} (h : scope.names.lookup n = some .free) : (relabel scope env).names.lookup n = some .free ∨ (relabel scope env).names.lookup n = some .cell := by
 obtain ⟨g, e, h1, h2⟩ := relabel_names scope env
 rw [e, lookup_map h1, h]
 rcases h2 n .free with q | ⟨_, q⟩
 ·exact .inl (by show some (g (n, .free)).2 = _; rw [q])
 ·exact .inr (by show some (g (n, .free)).2 = _; rw [q])
theorem relabel_own {scope : Scope} {env : Env} {n : Str} (h : scope.names.lookup n = some .cell) : (relabel scope env).names.lookup n = some .cell := by
 obtain ⟨g, e, h1, h2⟩ := relabel_names scope env
 rw [e, lookup_map h1, h]
 rcases h2 n .cell with q | ⟨q, _⟩
 ·show some (g (n, .cell)).2 = _
  rw [q]
 ·cases q
theorem relabel_cell {scope : Scope} {env : Env} {n : Str} (h : (relabel scope env).names.lookup n = some .cell ∨ (relabel scope env).names.lookup n = some .free) : (n, NameKind.free) ∈ scope.names ∨ (n, NameKind.cell) ∈ scope.names := by
 obtain ⟨g, e, h1, h2⟩ := relabel_names scope env
 rw [e, lookup_map h1] at h
 cases hk : scope.names.lookup n with
 | none => rw [hk] at h; rcases h with h | h <;> cases h
 | some k =>
  have hm := PySem.mem_of_lookup hk
  rw [hk] at h
  have h' : (g (n, k)).2 = .cell ∨ (g (n, k)).2 = .free := by
   rcases h with h | h
   ·exact .inl (Option.some.inj h)
   ·exact .inr (Option.some.inj h)
  rcases h2 n k with q | ⟨q, _⟩
  ·rcases h' with z | z
   ·rw [q.symm.trans z] at hm; exact .inr hm
   ·rw [q.symm.trans z] at hm; exact .inl hm
  ·rw [q] at hm; exact .inl hm
theorem cellsFrom_app : ∀ (names : List (Str × NameKind)) (n : Nat) (acc : List (Str × Addr)), cellsFrom n names acc = cellsFrom n names [] ++ acc
 | [], _, _ => rfl
 | (x, k) :: r, n, acc => by
  unfold cellsFrom
  split
  ·rw [cellsFrom_app r (n + 1) ((x, n) :: acc), cellsFrom_app r (n + 1) [(x, n)], List.append_assoc]
   rfl
  ·exact cellsFrom_app r n acc
theorem cellsFrom_name : ∀ (names : List (Str × NameKind)) (n : Nat) (x : Str) (c : Addr), (x, c) ∈ cellsFrom n names [] → (x, NameKind.cell) ∈ names
 | [], _, _, _, h => by cases h
 | (y, k) :: r, n, x, c, h => by
  unfold cellsFrom at h
  split at h
  ·rename_i hk
   rw [cellsFrom_app] at h
   rcases List.mem_append.mp h with h | h
   ·exact List.mem_cons_of_mem _ (cellsFrom_name r (n + 1) x c h)
   ·have e := List.mem_singleton.mp h
    cases e
    rw [eq_of_beq hk]
    exact List.mem_cons_self
  ·exact List.mem_cons_of_mem _ (cellsFrom_name r n x c h)
theorem cellsFrom_has : ∀ (names : List (Str × NameKind)) (n : Nat) (x : Str), (x, NameKind.cell) ∈ names → ∃ c, (x, c) ∈ cellsFrom n names []
 | [], _, _, h => by cases h
 | (y, k) :: r, n, x, h => by
  unfold cellsFrom
  rcases List.mem_cons.mp h with h | h
  ·cases h
   rw [if_pos (by rfl), cellsFrom_app]
   exact ⟨n, List.mem_append_right _ (List.mem_singleton.mpr rfl)⟩
  ·split
   ·obtain ⟨c, hc⟩ := cellsFrom_has r (n + 1) x h
    rw [cellsFrom_app]
    exact ⟨c, List.mem_append_left _ hc⟩
   ·exact cellsFrom_has r n x h
theorem lookup_of_mem {x : Str} : ∀ {l : List (Str × Addr)} {c : Addr}, (x, c) ∈ l → ∃ c', l.lookup x = some c'
 | (k, v) :: r, c, h => by
  rw [List.lookup_cons]
  cases hb : x == k with
  | true => exact ⟨v, rfl⟩
  | false =>
   rcases List.mem_cons.mp h with e | h
   ·cases e
    simp at hb
   ·exact lookup_of_mem h
theorem cells_look {scope : Scope} {n : Nat} {cl : List (Str × Addr)} {x : Str} {c : Addr} (h : (cellsFrom n scope.names cl).lookup x = some c) : ((x, c) ∈ cellsFrom n scope.names [] ∧ (cellsFrom n scope.names []).lookup x = some c) ∨ cl.lookup x = some c := by
 rw [cellsFrom_app, List.lookup_append] at h
 cases e : (cellsFrom n scope.names []).lookup x with
 | some c' =>
  rw [e] at h
  cases h
  exact .inl ⟨mem_of_lookup e, rfl⟩
 | none => rw [e] at h; exact .inr h
theorem cells_there {scope : Scope} {n : Nat} {cl : List (Str × Addr)} {x : Str} (h : (x, NameKind.cell) ∈ scope.names ∨ ∃ c, cl.lookup x = some c) : ∃ c, (cellsFrom n scope.names cl).lookup x = some c := by
 rw [cellsFrom_app, List.lookup_append]
 cases e : (cellsFrom n scope.names []).lookup x with
 | some c' => exact ⟨c', rfl⟩
 | none =>
  rcases h with h | ⟨c, h⟩
  ·obtain ⟨c, hc⟩ := cellsFrom_has scope.names n x h
   obtain ⟨c', e'⟩ := lookup_of_mem hc
   rw [e] at e'
   cases e'
  ·exact ⟨c, h⟩
theorem newEnv_blk {M : Model} {A : Around} {E : Value → Shared → Prop} {s : Shared} {scope : Scope} {env : Env} {cl : List (Str × Addr)} {Q : Env → Shared → Prop}
  (h : Q { scope, locals := s.heap.objs.size, globals := env.globals, cells := cellsFrom (s.heap.objs.size + 1) scope.names cl, qual := env.qual, func := none, code := env.code, frame := env.frame, builtins := env.builtins } { s with heap := pushCells (s.heap.push { cls := .type "dict", data := .dict #[] }) scope.names }) :
  wpAny M A (newFunctionEnv scope env.globals cl [] env.qual none .none (some env)) Q E s := by
 simp only [newFunctionEnv, Option.isSome_some, if_true]
 refine wpAny_bind (wpAny_alloc ?_)
 refine wpAny_bind (wpAny_layCells _ (fun name kind cells => by cases hkc : kind == NameKind.cell <;> simp [hkc]) _ _ _ _ ?_)
 rw [show ({ s with heap := s.heap.push { cls := .type "dict", data := .dict #[] } } : Shared).heap.objs.size = s.heap.objs.size + 1 from Heap.size_push ..]
 exact wpAny_pure h
def PF (X : Cx) (ifs : List Expr) (t : TT) : Prop :=
 ∀ (pins : List (Addr × Obj)) (s : Shared) (σ : St) (H : Hp) (Q : Bool → Hp → Prop), Inv X pins σ H s → t σ H Q →
  wpAny (model X.prog X.w) X.A (forIn ifs true fun c r => if r = true then do let ok ← isTrue c X.env (eval c X.env); pure (ForInStep.yield ok) else pure (ForInStep.yield r)) (TP X pins σ Q) X.xe s
def tAll : TT := fun _ H Q => Q true H
theorem pf_nil {X : Cx} : PF X [] tAll := fun _ _ _ H _ I h => wpAny_tests_nil ⟨H, I, h⟩
theorem pf_one {X : Cx} {c : Expr} {t : TT} (h : PT X c t) : PF X [c] t := fun pins s σ H Q I hq => wpAny_tests_one (h pins s σ H Q I hq)
section
variable {prog : Program} {w : World} {A : Around} {R : Result → Shared → Prop} {s : Shared}
theorem compLoop_any {elt target iter : Expr} {ifs : List Expr} {scope : Scope} {pos : Pos} {it acc : Value} {env : Env} (I : Nat → Shared → Prop)
  (turn : ∀ n s, I n s → wpAny (model prog w) A (pyNext it) (fun r s1 => match r with
   | none => R (.ok .next) s1
   | some v => wpAny (model prog w) A (letOwnedTupleGo target it v) (fun _ s1' => wpAny (model prog w) A (assign target env v) (fun _ s2 =>
     wpAny (model prog w) A (forIn ifs true fun c r => if r = true then do let ok ← isTrue c env (eval c env); pure (ForInStep.yield ok) else pure (ForInStep.yield r)) (fun ok s3 =>
      if ok = true then wpAny (model prog w) A (eval elt env) (fun x s4 =>
       wpAny (model prog w) A (call (.builtin "list.append") [acc, x]) (fun _ s5 => ∃ m, m < n ∧ I m s5) (fun _ _ => False) s4) (fun _ _ => False) s3
      else ∃ m, m < n ∧ I m s3) (fun _ _ => False) s2) (fun _ _ => False) s1') (fun _ _ => False) s1) (fun _ _ => False) s)
  (n : Nat) (h : I n s) :
  codeAny (model prog w) A (.compLoop (.ListComp elt [⟨target, iter, ifs, 0⟩] scope pos) 0 it acc env) R s := by
 refine codeAny_loop rfl I (fun n s hI => ?_) n h
 show wpAny _ A ((compTurn (.ListComp elt [⟨target, iter, ifs, 0⟩] scope pos) 0 it acc env).onRaise (fun x => do noteFrame x env; theTreesLotGoes x)) _ _ s
 refine wpAny_noted ?_
 rw [compTurn_list]
 refine wpAny_bind (wpAny_standAt (wpAny_bind (wpAny_mono (turn n s hI) (fun r s1 h1 => ?_) fun _ _ h' => h'.elim)))
 cases r with
 | none => exact wpAny_pure h1
 | some v =>
  refine wpAny_bind (wpAny_mono h1 (fun _ s1' h1' => ?_) fun _ _ h' => h'.elim)
  refine wpAny_bind (wpAny_mono h1' (fun _ s2 h2 => wpAny_bind (wpAny_mono h2 (fun ok s3 h3 => ?_) fun _ _ h' => h'.elim)) fun _ _ h' => h'.elim)
  cases ok with
  | false => exact wpAny_pure ⟨rfl, h3⟩
  | true =>
   exact wpAny_bind (wpAny_bind (wpAny_mono h3 (fun x s4 h4 => wpAny_bind (wpAny_mono h4 (fun _ s5 h5 => wpAny_pure (wpAny_pure ⟨rfl, h5⟩)) fun _ _ h' => h'.elim)) fun _ _ h' => h'.elim))
end
def GKeeps (own : Nat) (fr : List Nat) (g : TG) : Prop := ∀ x σ H R, g x (seen own fr σ) H R → g x (seen own fr σ) H fun σ2 H3 => (∀ (i : Nat) v, (seen own fr σ)[i]? = some (some v) → σ2[i]? = some (some v)) ∧ R σ2 H3
def CompGo (J : It) (g : TG) (tf : TT) (te : TE) (own : Nat) (fr : List Nat) (σ : St) (Q : VK) (H1 : Hp) : Prop :=
 ∃ W : Nat → Nat → List V → Hp → Prop, (∃ m, W 0 m [] H1) ∧ ∀ i m ys H2, W i m ys H2 →
  (J.stop i H2 ∧ ∀ p, H2 p = none → Q (.ref p) (upd H2 p (.lst ys))) ∨
  (J.go i H2 ∧ ys.length < sizeLine ∧ ∃ N : List V → Hp → Prop, (∀ ys' H', N ys' H' → ∃ m', m' < m ∧ W (i + 1) m' ys' H') ∧
   ∀ x H', J.yld i H2 x H' → g x (seen own fr σ) H' fun σ2 H3 => tf σ2 H3 fun c H4 => if c = true then te σ2 H4 fun y H5 => N (ys ++ [y]) H5 else N ys H4)
def tComp (wi : TI) (g : TG) (tf : TT) (te : TE) (own : Nat) (fr : List Nat) : TE := fun σ H Q => wi σ H fun J H1 => CompGo J g tf te own fr σ Q H1
section
variable {X : Cx} {pins : List (Addr × Obj)} {σ : St} {H H2 : Hp} {s s2 : Shared}
theorem seen_get {own : Nat} {fr : List Nat} {σ : St} {i : Nat} {v : V} (h : (seen own fr σ)[i]? = some (some v)) : ∃ k j, i = own + k ∧ fr[k]? = some j ∧ σ[j]? = some (some v) := by
 unfold seen at h
 by_cases hi : i < own
 ·rw [List.getElem?_append_left (by simpa using hi), List.getElem?_replicate, if_pos hi] at h
  cases h
 ·rw [List.getElem?_append_right (by simpa using hi)] at h
  simp only [List.length_replicate, List.getElem?_map] at h
  cases e : fr[i - own]? with
  | none => rw [e] at h; cases h
  | some j =>
   rw [e] at h
   simp only [Option.map_some, Option.some.injEq] at h
   refine ⟨i - own, j, by omega, e, ?_⟩
   cases q : σ[j]? with
   | none => rw [q] at h; cases h
   | some o =>
    rw [q] at h
    have h' : o = some v := h
    rw [h']
theorem seen_length (own : Nat) (fr : List Nat) (σ : St) : (seen own fr σ).length = own + fr.length := by
 unfold seen
 rw [List.length_append, List.length_replicate, List.length_map]
theorem gk_name {own : Nat} {fr : List Nat} {i : Nat} (hi : i < own) : GKeeps own fr (gName i) := fun x σ H R h => ⟨fun k v e => by
 obtain ⟨j, _, rfl, _⟩ := seen_get e
 rw [List.getElem?_set_ne (by omega)]
 exact e, h⟩
theorem Inv.block {scope : Scope} {M : List Str} {own : Nat} {fr : List Nat} {cl : List (Str × Addr)} {h1 : Heap} {fp : List Addr} {t1 : Nat} (B : Blk X scope M own fr) (I : Inv X pins σ H2 s2)
  (cl1 : ∀ n c, cl.lookup n = some c → X.env.cells.lookup n = some c ∨ (scope.names.lookup n = some .cell ∧ s2.heap.objs.size + 1 < c ∧ h1.IsCell c none)) (cl3 : ∀ n n' c, cl.lookup n = some c → cl.lookup n' = some c → s2.heap.objs.size + 1 < c → n = n') (cl2 : ∀ n, (n, NameKind.free) ∈ scope.names ∨ (n, NameKind.cell) ∈ scope.names → ∃ c, cl.lookup n = some c)
  (cl4 : ∀ n c, cl.lookup n = some c → scope.names.lookup n = some .cell → s2.heap.objs.size + 1 < c)
  (hfp : ∀ b ∈ fp, FpOk X pins H2 b ∧ b < s2.heap.objs.size)
  (hns : h1.Ns (s2.heap.objs.size + 1) fun _ => none) (hsb : ∀ b o, b < s2.heap.objs.size + 1 → (s2.heap.push { cls := .type "list", data := .seq ([] : List Value).toArray }).get? b = some o → h1.get? b = some o) :
  Inv (X.blk scope cl (s2.heap.objs.size + 1) M { s2 with heap := s2.heap.push { cls := .type "list", data := .seq ([] : List Value).toArray } } H2 (s2.heap.objs.size :: fp))
   [(s2.heap.objs.size, { cls := .type "list", data := .seq ([] : List Value).toArray })] (seen own fr σ) H2 { s2 with heap := h1, toks := t1 } := by
 have hpush : ∀ b o, s2.heap.get? b = some o → (s2.heap.push { cls := .type "list", data := .seq ([] : List Value).toArray }).get? b = some o := fun b o e => Heap.get?_push_of_some _ e
 have old : ∀ b o, s2.heap.get? b = some o → h1.get? b = some o := fun b o e => hsb b o (Nat.lt_succ_of_lt (Heap.lt_size e)) (hpush b o e)
 have hD : h1.get? s2.heap.objs.size = some { cls := .type "list", data := .seq ([] : List Value).toArray } := hsb _ _ (Nat.lt_succ_self _) (Heap.get?_push_size _ rfl)
 have hHD : H2 s2.heap.objs.size = none := I.hok.fresh (Nat.le_refl _)
 have hHC : H2 (s2.heap.objs.size + 1) = none := I.hok.fresh (Nat.le_succ _)
 have cellLt : ∀ x c, X.env.cells.lookup x = some c → c < s2.heap.objs.size := fun x c e => by
  obtain ⟨v, q⟩ := I.cell x c e
  exact q.lt
 have szp : (s2.heap.push { cls := .type "list", data := .seq ([] : List Value).toArray }).objs.size = s2.heap.objs.size + 1 := Heap.size_push _ _
 have Ok : (X.blk scope cl (s2.heap.objs.size + 1) M { s2 with heap := s2.heap.push { cls := .type "list", data := .seq ([] : List Value).toArray } } H2 (s2.heap.objs.size :: fp)).Ok := by
  refine ⟨I.ok.mod, B.kind, I.ok.glob, I.ok.blt, ?_, ?_, ?_, ?_, I.ok.hd, I.ok.frames, .inl rfl, ?_, ?_, ?_, ?_, ?_, ?_, ?_⟩
  ·show (s2.heap.push _).objs.size ≤ s2.heap.objs.size + 1
   rw [szp]
   exact Nat.le_refl _
  ·intro x y c e1 e2
   rcases cl1 _ _ e1 with q1 | ⟨_, q1, _⟩
   ·rcases cl1 _ _ e2 with q2 | ⟨_, q2, _⟩
    ·exact I.ok.inj x y c q1 q2
    ·exact absurd (Nat.lt_trans (Nat.lt_succ_of_lt (cellLt x c q1)) q2) (Nat.lt_irrefl _)
   ·exact cl3 x y c e1 e2 q1
  ·intro x hx
   exact cl2 x (relabel_cell hx)
  ·intro x c hx e
   have q := cl4 x c e (eq_of_beq hx)
   show (s2.heap.push _).objs.size ≤ c
   rw [szp]
   omega
  ·intro b hb
   rcases List.mem_cons.mp hb with rfl | hb
   ·refine ⟨Nat.ne_of_lt (Nat.lt_succ_self _), fun x c e => ?_⟩
    rcases cl1 _ _ e with q | ⟨_, q, _⟩
    ·exact Nat.ne_of_lt (cellLt x c q)
    ·exact Nat.ne_of_gt (Nat.lt_trans (Nat.lt_succ_self _) q)
   ·refine ⟨Nat.ne_of_lt (Nat.lt_succ_of_lt (hfp b hb).2), fun x c e => ?_⟩
    rcases cl1 _ _ e with q | ⟨_, q, _⟩
    ·exact (hfp b hb).1.2.2.2.2.1 x c q
    ·exact Nat.ne_of_gt (Nat.lt_trans (Nat.lt_succ_of_lt (hfp b hb).2) q)
  ·intro b o e
   exact ⟨hpush b o (I.bs b o e).1, (I.bs b o e).2⟩
  ·show X.base.objs.size ≤ (s2.heap.push _).objs.size
   rw [szp]
   exact Nat.le_succ_of_le (Nat.le_trans I.ok.bsz I.sz)
  ·intro b o e hb
   rcases List.mem_cons.mp hb with rfl | hb
   ·exact absurd (Heap.lt_size (I.bs _ _ e).1) (Nat.lt_irrefl _)
   ·have q := (hfp b hb).1.2.2.2.1
    rcases q with q | q
    ·exact I.ok.noex b o e q
    ·exact absurd (Nat.lt_of_lt_of_le (Heap.lt_size (I.ok.bs b o e).1) q) (Nat.lt_irrefl _)
  ·intro b hb hf
   have hf' : b ∈ frs X.stack := hf
   rcases List.mem_cons.mp hb with rfl | hb
   ·rcases List.mem_cons.mp (I.stkSub _ hf') with e | e
    ·exact absurd I.lt (by rw [← e]; exact Nat.lt_irrefl _)
    ·exact I.nofs (Nat.le_refl _) e
   ·rcases List.mem_cons.mp (I.stkSub _ hf') with e | e
    ·exact (hfp b hb).1.2.1 e
    ·exact (hfp b hb).1.2.2.1 e
  ·have q := I.stack
   have all : ∀ (l : List Env), s2.heap.FunFrames X.base l → (s2.heap.push { cls := .type "list", data := .seq ([] : List Value).toArray }).FunFrames X.base l := by
    intro l
    induction l with
    | nil => intro _; trivial
    | cons env r ih =>
     intro hl
     obtain ⟨hk, ⟨L, o, hf, hn, ho, hd⟩, hr⟩ := hl
     exact ⟨hk, ⟨L, o, hf, hn, hpush L o ho, hd⟩, ih hr⟩
   exact all _ q
  ·intro b hb
   exact I.stkFree b hb
 refine ⟨Ok, rfl, I.bare, ?_, ?_, ?_, hHC, ?_, ?_, I.hok.kept old, ?_⟩
 ·refine Un.kept fun b u e => ?_
  exact hsb b u (by have := Heap.lt_size e; rw [szp] at this; exact this) e
 ·refine ⟨_, hns, fun i x v e1 e2 e3 => ?_⟩
  obtain ⟨k, j, rfl, hk, hv⟩ := seen_get e2
  obtain ⟨e4, n, e5, hfree, hcell⟩ := B.at' k j hk
  have ex : x = n := by
   have e1' : M[own + k]? = some x := e1
   rw [e4, e5] at e1'
   exact (Option.some.inj e1').symm
  subst ex
  obtain ⟨m, _, hl⟩ := I.loc
  have hvis : Vis X.env.scope x := by
   rcases hcell with h | h
   ·exact .inr (.inl h)
   ·exact .inr (.inr h)
  obtain ⟨u, ru, lk⟩ := hl j x v e5 hv hvis
  refine ⟨u, ru, .inr ⟨?_, ?_⟩⟩
  ·have q := relabel_free (scope := scope) (env := X.env) hfree
   exact q.symm
  ·have hcell' : ∃ c, X.env.cells.lookup x = some c ∧ s2.heap.IsCell c (some u) := by
    rcases lk with ⟨q, _⟩ | ⟨_, q⟩
    ·rcases hcell with h | h
     ·rw [h] at q; cases q
     ·rw [h] at q; cases q
    ·exact q
   obtain ⟨c, e6, e7⟩ := hcell'
   obtain ⟨c', e8⟩ := cl2 x (.inl (PySem.mem_of_lookup hfree))
   rcases cl1 x c' e8 with e9 | ⟨e9, _⟩
   ·rw [e6] at e9
    cases e9
    obtain ⟨o, ho, hd⟩ := e7
    exact ⟨c, e8, o, old c o ho, hd⟩
   ·rw [hfree] at e9
    cases e9
 ·intro x c e
  rcases cl1 _ _ e with q | ⟨_, _, q⟩
  ·obtain ⟨v, o, ho, hd⟩ := I.cell x c q
   exact ⟨v, o, old c o ho, hd⟩
  ·exact ⟨_, q⟩
 ·intro x c e
  rcases cl1 _ _ e with q | ⟨_, q, _⟩
  ·exact I.freeC x c q
  ·exact I.hok.fresh (by omega)
 ·intro p hp
  have e : p = (s2.heap.objs.size, { cls := .type "list", data := .seq ([] : List Value).toArray }) := List.mem_singleton.mp hp
  subst e
  refine ⟨hD, hHD, Nat.ne_of_lt (Nat.lt_succ_self _), fun hf => ?_, fun v z => ?_⟩
  ·rcases List.mem_cons.mp (I.stkSub _ hf) with e | e
   ·exact absurd I.lt (by rw [← e]; exact Nat.lt_irrefl _)
   ·exact I.nofs (Nat.le_refl _) e
  ·have z' : Data.seq ([] : List Value).toArray _ = Data.cell v := z
   cases z'
 ·rw [seen_length]
  exact B.len.symm
theorem Inv.blockEnd {scope : Scope} {M : List Str} {cl : List (Str × Addr)} {fp : List Addr} {τ : St} {H' : Hp} {s' : Shared} {h' : Heap} {ys : List V} {its : List Value} {n : Nat} (I : Inv X pins σ H2 s2)
  (hfp : ∀ b ∈ fp, FpOk X pins H2 b)
  (J : Inv (X.blk scope cl (s2.heap.objs.size + 1) M { s2 with heap := s2.heap.push { cls := .type "list", data := .seq ([] : List Value).toArray } } H2 (s2.heap.objs.size :: fp))
   [(s2.heap.objs.size, { cls := .type "list", data := .seq its.toArray n })] τ H' s')
  (hv : Vals ys its) (hz : ys.length ≤ sizeLine) (hs : Heap.SameBut (s2.heap.objs.size + 1) s'.heap h') : Inv X pins σ (upd H' s2.heap.objs.size (.lst ys)) { s' with heap := h' } := by
 obtain ⟨eD, nD, _, _, _⟩ := J.pin _ (List.mem_append_right _ (List.mem_singleton.mpr rfl))
 have nC : H' (s2.heap.objs.size + 1) = none := J.free
 have kp : ∀ b o, b ≠ s2.heap.objs.size + 1 → s'.heap.get? b = some o → h'.get? b = some o := fun b o hb e => (hs.2 b hb).trans e
 have hpush : ∀ b o, s2.heap.get? b = some o → (s2.heap.push { cls := .type "list", data := .seq ([] : List Value).toArray }).get? b = some o := fun b o e => Heap.get?_push_of_some _ e
 have neD : ∀ b o, s2.heap.get? b = some o → b ≠ s2.heap.objs.size := fun b o e => Nat.ne_of_lt (Heap.lt_size e)
 have neC : ∀ b o, s2.heap.get? b = some o → b ≠ s2.heap.objs.size + 1 := fun b o e => Nat.ne_of_lt (Nat.lt_succ_of_lt (Heap.lt_size e))
 have hex : ∀ b o, s2.heap.get? b = some o → b ∉ fp → b ∉ s2.heap.objs.size :: fp := fun b o e h z => (List.mem_cons.mp z).elim (neD b o e) h
 have neT : ∀ b u, H' b = some u → b ≠ s2.heap.objs.size := fun b u e z => by rw [z, nD] at e; cases e
 have neTC : ∀ b u, H' b = some u → b ≠ s2.heap.objs.size + 1 := fun b u e z => by rw [z, nC] at e; cases e
 refine I.call' (s' := { s' with heap := h' }) (ch := fp) J.os ?_ ?_ J.bare fun b hb => ?_
 ·refine ⟨fun b o e n hb hx => ?_, fun b o e n hb hx => ?_, fun b o e n hx => ?_, fun b o e hx => ?_, fun b xs e => ?_, fun b o xs e => ?_, fun b ps e => ?_⟩
  ·exact kp b o (neC b o e) (J.base.keep b o (hpush b o e) n hb (hex b o e hx))
  ·obtain ⟨sl, q⟩ := J.base.slot b o (hpush b o e) n hb (hex b o e hx)
   exact ⟨sl, kp b _ (neC b o e) q⟩
  ·rw [upd_ne (neD b o e)]
   exact J.base.free b o (hpush b o e) n (hex b o e hx)
  ·obtain ⟨o', q⟩ := J.base.there b o (hpush b o e) (hex b o e hx)
   exact ⟨o', kp b _ (neC b o e) q⟩
  ·have q := J.base.tups b xs e
   rw [upd_ne (neT b _ q)]
   exact q
  ·have q := J.base.frzs b o xs e
   rw [upd_ne (neT b _ q)]
   exact q
  ·obtain ⟨more, q⟩ := J.base.tbls b ps e
   rw [upd_ne (neT b _ q)]
   exact ⟨more, q⟩
 ·intro a o e
  by_cases ha : a = s2.heap.objs.size
  ·subst ha
   rw [upd_same] at e
   cases e
   exact ⟨hz, its, n, hv, kp _ _ (Nat.ne_of_lt (Nat.lt_succ_self _)) eD⟩
  ·rw [upd_ne ha] at e
   refine (J.hok a o e).stay (fun c v hc q => kp c v ?_ q) (fun c q => by rw [upd_ne (neT c _ q)]; exact q) fun c xs q => by rw [upd_ne (neT c _ q)]; exact q
   rcases hc with rfl | hc
   ·exact neTC c o e
   ·exact neTC c _ hc
 ·obtain ⟨f0, f1, f2, f3, f4, f5⟩ := hfp b hb
  exact ⟨f3, f1, f4, f5⟩
theorem append_acc {E : Value → Shared → Prop} {D : Addr} {its : List Value} {n : Nat} {u : Value} {Q : Value → Shared → Prop} {pr : Program} {w : World} {A : Around} (e : s.heap.get? D = some { cls := .type "list", data := .seq its.toArray n }) (hz : its.length ≤ sizeLine)
  (h : ∀ h' n', h'.get? D = some { cls := .type "list", data := .seq (its ++ [u]).toArray n' } → (∀ b o, b ≠ D → s.heap.get? b = some o → h'.get? b = some o) → Q .none { s with heap := h' }) :
  wpAny (model pr w) A (call (.builtin "list.append") [.ref D, u]) Q E s := by
 refine call_meets F.slot_list_append ⟨_, e, rfl⟩ F.entry_list_append (F.args_list_append_2 _ _) (PySem.list_append D its.toArray n u (by rw [List.size_toArray]; omega)) ⟨e, ?_⟩
 have q := PySem.IsL.update e (fun xs => xs.push u)
 have ea : its.toArray.push u = (its ++ [u]).toArray := by simp
 have q' : (s.heap.update D (Obj.mapSeq fun xs => xs.push u)).get? D = some { cls := .type "list", data := .seq (its ++ [u]).toArray (if (its.toArray.push u).size == its.toArray.size then n else n + 1) } := by
  rw [← ea]
  exact q
 exact h _ _ q' fun b o hb eb => (Heap.get?_update_other s.heap _ (Ne.symm hb)).trans eb
variable {scope : Scope} {M : List Str} {own : Nat} {fr : List Nat} {tg iter elt : Expr} {ifs : List Expr} {pos : Pos} {wi : TI} {g : TG} {tf : TT} {te : TE}
theorem comp_run {use : Option (Value → Sem Unit)} {Q' : Value → Shared → Prop} {Q : VK} (B : Blk X scope M own fr) (hc : X.calm = true) (hi : PI X tg iter wi)
  (hg : ∀ cl C s H ex, PG (X.blk scope cl C M s H ex) tg g) (hk : GKeeps own fr g) (hf : ∀ cl C s H ex, PF (X.blk scope cl C M s H ex) ifs tf) (he : ∀ cl C s H ex, PE (X.blk scope cl C M s H ex) elt te)
  (hs : ∀ x, foldedSetIterable iter X.env x = pure x) (I : Inv X pins σ H s) (h : tComp wi g tf te own fr σ H Q)
  (fin : ∀ (D C : Addr) (H' : Hp) (s' : Shared), (∃ m, s'.heap.Ns C m) → FpOk X pins H' C → Inv X pins σ H' s' → Q (.ref D) H' → compPost (model X.prog X.w) X.A X.xe use Q' (.ref D) C (.ok .next) s') :
  wpAny (model X.prog X.w) X.A (comprehension (.ListComp elt [⟨tg, iter, ifs, 0⟩] scope pos) scope X.env (firstIterPos [⟨tg, iter, ifs, 0⟩] pos) (newList []) false (eval iter X.env) use) Q' X.xe s := by
 obtain ⟨cl, hclos, cl1, cl2⟩ := closure_of (scope := scope) (env := X.env) fun n hn => I.ok.has n (B.free _ hn rfl)
 refine wpAny_comprehension_free (cl := cl) rfl hs hclos B.kind B.names ?_
 refine thn (hi pins s σ H _ I h) fun v s1 h1 => thn h1 fun itv s2 h2 => ?_
 obtain ⟨it, fp, tn, J, H2, e, I2, T, st2, f2, W, ⟨m0, w0⟩, turn⟩ := h2
 subst e
 refine wpAny_newObj_type (newEnv_blk ?_)
 dsimp only
 have szp : (s2.heap.push { cls := .type "list", dict := none, data := .seq ([] : List Value).toArray }).objs.size = s2.heap.objs.size + 1 := Heap.size_push _ _
 have hns1 := (Heap.Ns.new (s2.heap.push { cls := .type "list", dict := none, data := .seq ([] : List Value).toArray }) (.type "dict")).keeps (pushCells_keeps scope.names _)
 have hkp1 : ∀ b o, (s2.heap.push { cls := .type "list", dict := none, data := .seq ([] : List Value).toArray }).get? b = some o → (pushCells ((s2.heap.push { cls := .type "list", dict := none, data := .seq ([] : List Value).toArray }).push { cls := .type "dict", data := .dict #[] }) scope.names).get? b = some o := fun b o e => pushCells_keeps _ _ b o (Heap.get?_push_of_some _ e)
 have ok1 := cellsFrom_ok scope.names ((s2.heap.push { cls := .type "list", dict := none, data := .seq ([] : List Value).toArray }).push { cls := .type "dict", data := .dict #[] }) (s2.heap.objs.size + 2) [] ⟨fun _ _ hm => (nomatch hm), List.Pairwise.nil⟩ (by rw [Heap.size_push, szp]; exact Nat.le_refl _)
 rw [Heap.size_push, szp] at ok1
 rw [szp] at hns1 ⊢
 generalize pushCells ((s2.heap.push { cls := .type "list", dict := none, data := .seq ([] : List Value).toArray }).push { cls := .type "dict", data := .dict #[] }) scope.names = h1 at hns1 hkp1 ok1 ⊢
 have cl3 : ∀ n n' c, (cellsFrom (s2.heap.objs.size + 1 + 1) scope.names cl).lookup n = some c → (cellsFrom (s2.heap.objs.size + 1 + 1) scope.names cl).lookup n' = some c → s2.heap.objs.size + 1 < c → n = n' := by
  intro n n' c e1 e2 hc'
  rcases cells_look e1 with ⟨m1, _⟩ | q1
  ·rcases cells_look e2 with ⟨m2, _⟩ | q2
   ·exact name_of_addr ok1.apart m1 m2
   ·obtain ⟨v, q⟩ := I2.cell _ _ (cl1 _ _ q2)
    exact absurd (Nat.lt_trans (Nat.lt_succ_of_lt q.lt) hc') (Nat.lt_irrefl _)
  ·obtain ⟨v, q⟩ := I2.cell _ _ (cl1 _ _ q1)
   exact absurd (Nat.lt_trans (Nat.lt_succ_of_lt q.lt) hc') (Nat.lt_irrefl _)
 have cl4 : ∀ n c, (cellsFrom (s2.heap.objs.size + 1 + 1) scope.names cl).lookup n = some c → X.env.cells.lookup n = some c ∨ (scope.names.lookup n = some .cell ∧ s2.heap.objs.size + 1 < c ∧ h1.IsCell c none) := by
  intro n c e
  rcases cells_look e with ⟨m1, _⟩ | q1
  ·obtain ⟨a1, a2⟩ := ok1.empty n c m1
   exact .inr ⟨B.cells _ (cellsFrom_name _ _ _ _ m1) rfl, by omega, a1⟩
  ·exact .inl (cl1 _ _ q1)
 have cl5 : ∀ n c, (cellsFrom (s2.heap.objs.size + 1 + 1) scope.names cl).lookup n = some c → scope.names.lookup n = some .cell → s2.heap.objs.size + 1 < c := by
  intro n c e hn
  obtain ⟨c0, hc0⟩ := cellsFrom_has scope.names (s2.heap.objs.size + 1 + 1) n (mem_of_lookup hn)
  obtain ⟨c', e'⟩ := lookup_of_mem hc0
  rw [cellsFrom_app, List.lookup_append, e'] at e
  cases e
  have := (ok1.empty n c (mem_of_lookup e')).2
  omega
 have cl6 : ∀ n, (n, NameKind.free) ∈ scope.names ∨ (n, NameKind.cell) ∈ scope.names → ∃ c, (cellsFrom (s2.heap.objs.size + 1 + 1) scope.names cl).lookup n = some c := fun n h => cells_there (h.symm.imp id (cl2 n))
 generalize cellsFrom (s2.heap.objs.size + 1 + 1) scope.names cl = cx at cl3 cl4 cl5 cl6 ⊢
 have hlt : ∀ b ∈ fp, b < s2.heap.objs.size := fun b hb => by
  obtain ⟨o, eo, _⟩ := T.obj _ _ st2 b hb
  exact Heap.lt_size eo
 have hsb2 : ∀ b o, b < s2.heap.objs.size + 1 → (s2.heap.push { cls := .type "list", data := .seq ([] : List Value).toArray }).get? b = some o → h1.get? b = some o := fun b o hb e =>
  hkp1 b o e
 have hns2 : h1.Ns (s2.heap.objs.size + 1) fun _ => none := hns1
 have J0 := Inv.block (cl := cx) (h1 := h1) (fp := fp) (t1 := s2.toks) B I2 cl4 cl3 cl6 cl5 (fun b hb => ⟨f2 b hb, hlt b hb⟩) hns2 hsb2
 have st1 : tn 0 h1 := T.keep _ _ _ st2 fun b hb o e => hsb2 b o (Nat.lt_succ_of_lt (hlt b hb)) (Heap.get?_push_of_some _ e)
 
 have stat : ∀ {H' : Hp} {o : Obj}, (∀ b ∈ fp, H' b = none) → ∀ b ∈ fp, FpOk (X.blk scope cx (s2.heap.objs.size + 1) M { s2 with heap := s2.heap.push { cls := .type "list", data := .seq ([] : List Value).toArray } } H2 (s2.heap.objs.size :: fp)) [(s2.heap.objs.size, o)] H' b := by
  intro H' o hn b hb
  obtain ⟨f0, f1, ff, f3, f4, f5⟩ := f2 b hb
  refine ⟨hn b hb, Nat.ne_of_lt (Nat.lt_succ_of_lt (hlt b hb)), fun z => ?_, .inl (List.mem_cons_of_mem _ hb), fun x c e => ?_, fun p hp z => ?_⟩
  ·rcases List.mem_cons.mp (I2.stkSub b z) with e | e
   ·exact f1 e
   ·exact ff e
  ·rcases cl4 x c e with q | ⟨_, q, _⟩
   ·exact f4 x c q
   ·exact Nat.ne_of_gt (Nat.lt_trans (Nat.lt_succ_of_lt (hlt b hb)) q)
  ·have e : p = (s2.heap.objs.size, o) := List.mem_singleton.mp hp
   subst e
   exact absurd (hlt b hb) (by rw [← z]; exact Nat.lt_irrefl _)
 have loop : ∀ s3 : Shared, s3 = { s2 with heap := h1, toks := s2.toks } →
   codeAny (model X.prog X.w) X.A (.compLoop (.ListComp elt [⟨tg, iter, ifs, 0⟩] scope pos) 0 (.ref it) (.ref s2.heap.objs.size) (compEnvC scope cx (s2.heap.objs.size + 1) X.env))
    (compPost (model X.prog X.w) X.A X.xe use Q' (.ref s2.heap.objs.size) (s2.heap.objs.size + 1)) s3 := by
  rintro s3 rfl
  refine compLoop_any (fun n s' => ∃ (i : Nat) (τ : St) (H' : Hp) (ys : List V) (its : List Value) (k : Nat), Inv (X.blk scope cx (s2.heap.objs.size + 1) M { s2 with heap := s2.heap.push { cls := .type "list", data := .seq ([] : List Value).toArray } } H2 (s2.heap.objs.size :: fp)) [(s2.heap.objs.size, { cls := .type "list", data := .seq its.toArray k })] (seen own fr σ) H' s' ∧
   tn i s'.heap ∧ (∀ b ∈ fp, H' b = none) ∧ Vals ys its ∧ ys.length ≤ sizeLine ∧ W i n ys H') ?_ m0 ⟨0, seen own fr σ, H2, [], [], 0, J0, st1, fun b hb => (f2 b hb).1, .nil, Nat.zero_le _, w0⟩
  rintro n s4 ⟨i, τ, H4, ys, its, k, J4, st4, fr4, hv4, hz4, w4⟩
  rcases turn i n ys H4 w4 with ⟨stop, qn⟩ | ⟨go, hz, N, hN, step⟩
  ·refine thn (T.done (X.blk scope cx (s2.heap.objs.size + 1) M { s2 with heap := s2.heap.push { cls := .type "list", data := .seq ([] : List Value).toArray } } H2 (s2.heap.objs.size :: fp)) rfl rfl rfl hc i _ s4 _ H4 _ J4 (stat fr4) st4 stop) fun r s5 ⟨hr, J5⟩ => ?_
   subst hr
   obtain ⟨m5, hn5, _⟩ := J5.loc
   have nD : H4 s2.heap.objs.size = none := (J5.pin _ (List.mem_append_right _ (List.mem_singleton.mpr rfl))).2.1
   exact fin s2.heap.objs.size (s2.heap.objs.size + 1) _ s5 ⟨m5, hn5⟩ (I2.fpOk (Nat.le_succ _) (by rw [upd_ne (Nat.ne_of_gt (Nat.lt_succ_self _))]; exact J5.free)) (Inv.blockEnd I2 f2 J5 hv4 hz4 (.refl ..)) (qn _ nD)
  ·refine thn (T.item (X.blk scope cx (s2.heap.objs.size + 1) M { s2 with heap := s2.heap.push { cls := .type "list", data := .seq ([] : List Value).toArray } } H2 (s2.heap.objs.size :: fp)) rfl rfl rfl hc i _ s4 _ H4 _ J4 (stat fr4) st4 go) fun r s5 ⟨u, hr, h5⟩ => ?_
   subst hr
   refine thn h5 fun _ s6 ⟨x, H6, J6, r6, y6, st6, fr6⟩ => ?_
   have J6' := J6.pinned (stat fr6) (T.obj _ _ st6)
   refine thn (hg _ _ _ _ _ _ s6 _ H6 x u _ J6' r6 (hk _ _ _ _ (step x H6 y6))) fun _ s7 ⟨σ7, H7, J7, kp7, q7⟩ => ?_
   refine thn (hf _ _ _ _ _ _ s7 σ7 H7 _ J7 q7) fun ok s8 ⟨H8, J8, q8⟩ => ?_
   have tnK : ∀ {τ' : St} {H' : Hp} {s' : Shared}, Inv (X.blk scope cx (s2.heap.objs.size + 1) M { s2 with heap := s2.heap.push { cls := .type "list", data := .seq ([] : List Value).toArray } } H2 (s2.heap.objs.size :: fp)) ([(s2.heap.objs.size, { cls := .type "list", data := .seq its.toArray k })] ++ pinsAt fp s6.heap) τ' H' s' →
     tn (i + 1) s'.heap ∧ (∀ b ∈ fp, H' b = none) := fun {τ' H' s'} K => by
    refine ⟨T.keep _ _ _ st6 fun b hb o e => (K.pin (b, o) (List.mem_append_right _ (List.mem_append_right _ (mem_pinsAt hb e)))).1, fun b hb => ?_⟩
    obtain ⟨o, e, d⟩ := T.obj _ _ st6 b hb
    exact (K.pin (b, o) (List.mem_append_right _ (List.mem_append_right _ (mem_pinsAt hb e)))).2.1
   have back : ∀ {pl : List (Addr × Obj)} {H' : Hp} {s' : Shared}, Inv (X.blk scope cx (s2.heap.objs.size + 1) M { s2 with heap := s2.heap.push { cls := .type "list", data := .seq ([] : List Value).toArray } } H2 (s2.heap.objs.size :: fp)) pl σ7 H' s' → Inv (X.blk scope cx (s2.heap.objs.size + 1) M { s2 with heap := s2.heap.push { cls := .type "list", data := .seq ([] : List Value).toArray } } H2 (s2.heap.objs.size :: fp)) pl (seen own fr σ) H' s' := fun {pl H' s'} K => K.weak (by rw [seen_length, K.len]; exact B.len.symm) kp7
   cases ok with
   | false =>
    obtain ⟨hm', hl⟩ := tnK J8
    obtain ⟨m', hm, w8⟩ := hN ys H8 (by simpa using q8)
    exact ⟨m', hm, i + 1, seen own fr σ, H8, ys, its, k, back J8.unpinned, hm', hl, hv4, hz4, w8⟩
   | true =>
    simp only [if_true] at q8 ⊢
    refine thn (he _ _ _ _ _ _ s8 σ7 H8 _ J8 q8) fun u9 s9 ⟨y, H9, J9, r9, q9⟩ => ?_
    obtain ⟨hm', hl⟩ := tnK J9
    obtain ⟨m', hm, w9⟩ := hN (ys ++ [y]) H9 q9
    obtain ⟨eD, nD, d1, d2, d3⟩ := J9.pin (s2.heap.objs.size, { cls := .type "list", data := .seq its.toArray k }) (List.mem_append_right _ (List.mem_append_left _ (List.mem_singleton.mpr rfl)))
    refine append_acc eD (by rw [← hv4.length]; exact Nat.le_of_lt hz) fun h' n' e' kp => ?_
    have K0 : Inv (X.blk scope cx (s2.heap.objs.size + 1) M { s2 with heap := s2.heap.push { cls := .type "list", data := .seq ([] : List Value).toArray } } H2 (s2.heap.objs.size :: fp)) [] σ7 H9 s9 := J9.pins_of fun p hp => absurd hp (by simp)
    have K1 := K0.turned (t' := s9.toks) (h' := h') (it := s2.heap.objs.size) kp nD d1 (.inl List.mem_cons_self) (fun x c e => (J9.ok.exf _ List.mem_cons_self).2 x c e) (fun p hp => absurd (show p ∈ ([] : List (Addr × Obj)) from hp) (by simp))
    have K2 := K1.pins_of (pins' := [(s2.heap.objs.size, { cls := .type "list", data := .seq (its ++ [u9]).toArray n' })]) fun p hp => by
     have e : p = _ := List.mem_singleton.mp hp
     subst e
     exact ⟨e', nD, d1, d2, fun v z => by
      have z' : Data.seq (its ++ [u9]).toArray _ = Data.cell v := z
      cases z'⟩
    refine ⟨m', hm, i + 1, seen own fr σ, H9, ys ++ [y], its ++ [u9], n', back K2, T.keep _ _ _ hm' fun b hb o e => kp b o (Nat.ne_of_lt (hlt b hb)) e, hl, hv4.append (.cons r9 .nil), by rw [List.length_append, List.length_singleton]; exact hz, w9⟩
 exact codeAny_compStart_list (loop _ rfl) (T.self X.A 0 _ _ _ st1 (loop _ rfl))
theorem pe_lcomp (B : Blk X scope M own fr) (hc : X.calm = true) (hi : PI X tg iter wi)
  (hg : ∀ cl C s H ex, PG (X.blk scope cl C M s H ex) tg g) (hk : GKeeps own fr g) (hf : ∀ cl C s H ex, PF (X.blk scope cl C M s H ex) ifs tf) (he : ∀ cl C s H ex, PE (X.blk scope cl C M s H ex) elt te)
  (hs : ∀ x, foldedSetIterable iter X.env x = pure x := by intro _; rfl) : PE X (.ListComp elt [⟨tg, iter, ifs, 0⟩] scope pos) (tComp wi g tf te own fr) := by
 intro pins s σ H Q I h
 rw [eval_ListComp]
 refine comp_run (use := none) B hc hi hg hk hf he hs I h fun D C H' s' ⟨m, hn⟩ fc I' q => ?_
 obtain ⟨f0, f1, f2, f3, f4, f5⟩ := fc
 exact ⟨m, hn, fun h' hs' => ⟨.ref D, H', I'.turned (t' := s'.toks) (fun b o hb e => (hs'.2 b hb).trans e) f0 f1 f3 f4 f5, rfl, q⟩⟩
theorem ps_setc {i : Nat} {y : Str} {py spos : Pos} (B : Blk X scope M own fr) (hc : X.calm = true) (hN : X.N.Nodup) (hy : X.N[i]? = some y) (hx : X.env.kindOf y = some .local) (hi : PI X tg iter wi)
  (hg : ∀ cl C s H ex, PG (X.blk scope cl C M s H ex) tg g) (hk : GKeeps own fr g) (hf : ∀ cl C s H ex, PF (X.blk scope cl C M s H ex) ifs tf) (he : ∀ cl C s H ex, PE (X.blk scope cl C M s H ex) elt te)
  (hsw : swapsWith (.ListComp elt [⟨tg, iter, ifs, 0⟩] scope pos) (some (.Name y py)) spos.line X.env = pure true := by with_unfolding_all rfl)
  (hs : ∀ x, foldedSetIterable iter X.env x = pure x := by intro _; rfl) : PS X (.Assign [.Name y py] (.ListComp elt [⟨tg, iter, ifs, 0⟩] scope pos) spos) (tAsg (tComp wi g tf te own fr) (gName i)) := by
 intro pins s σ H D I h
 rw [exec_Assign_Name_used _ _ _ _ hsw]
 refine wpAny_bind (wpAny_standAt (wpAny_bind ?_))
 show wpAny _ _ (do let _ ← comprehension (.ListComp elt [⟨tg, iter, ifs, 0⟩] scope pos) scope X.env _ (newList []) false (eval iter X.env) (some (assign (.Name y py) X.env))) _ _ s
 refine wpAny_bind (wpAny_mono (comp_run (use := some (assign (.Name y py) X.env)) (Q' := fun _ s' => SP X pins D .next s') B hc hi hg hk hf he hs I h fun Dl C H' s' ⟨m, hn⟩ fc I' q => ?_) (fun _ s' hq => wpAny_pure (wpAny_pure hq)) fun _ _ e => e)
 obtain ⟨f0, f1, f2, f3, f4, f5⟩ := fc
 show wpAny _ _ (assign (.Name y py) X.env (.ref Dl)) _ _ _
 refine wpAny_assign_Name (store_ok2 I' hN hy (.inl hx) (v := .ref Dl) rfl (fun s2 I2 ⟨a, sb, ha⟩ => ?_) (.inr hx))
 have hCa : C ≠ a := by
  rcases ha with rfl | ha
  ·exact f1
  ·exact fun z => f4 _ _ ha z.symm
 refine ⟨m, hn.sameBut sb hCa, fun h' hs' => ?_⟩
 exact ⟨_, H', I2.turned (t' := s2.toks) (fun b o hb e => (hs'.2 b hb).trans e) f0 f1 f3 f4 f5, q⟩
def namesOk (scope : Scope) (fs : List Str) : Bool := scope.names.all fun y => (y.2 != .cell || scope.names.lookup y.1 == some .cell) && (y.2 != .free || fs.contains y.1) && (y.2 != .local || scope.names.lookup y.1 == some .local)
theorem Blk.mk' {fs : List Str} (kind : scope.kind = .function) (h : namesOk scope fs = true) (nd : M.Nodup) (len : M.length = own + fr.length) (hk : ∀ n ∈ fs, X.env.kindOf n = some .cell ∨ X.env.kindOf n = some .free)
  (at' : ∀ i j, fr[i]? = some j → M[own + i]? = X.N[j]? ∧ ∃ n, X.N[j]? = some n ∧ scope.names.lookup n = some .free ∧ (X.env.kindOf n = some .cell ∨ X.env.kindOf n = some .free)) : Blk X scope M own fr := by
 have h' := List.all_eq_true.mp h
 refine ⟨kind, fun y hy e => ?_, fun y hy e => ?_, fun y hy e => ?_, nd, len, at'⟩
 ·have q := h' y hy
  simp only [Bool.and_eq_true] at q
  have q2 := q.1.1
  rw [e] at q2
  simpa using q2
 ·have q := h' y hy
  simp only [Bool.and_eq_true] at q
  have q2 := q.2
  rw [e] at q2
  simpa using q2
 ·have q := h' y hy
  simp only [Bool.and_eq_true] at q
  have q2 := q.1.2
  rw [e] at q2
  exact hk y.1 (by simpa using q2)
theorem pe_c1 {x : Str} {px : Pos} {M' : List Str} (B : Blk X scope (x :: M') 1 fr) (hi : PI X (.Name x px) iter wi) (hf : ∀ cl C s H ex, PF (X.blk scope cl C (x :: M') s H ex) ifs tf) (he : ∀ cl C s H ex, PE (X.blk scope cl C (x :: M') s H ex) elt te)
  (hc : X.calm = true := by rfl) (hx : scope.names.lookup x = some .local ∨ scope.names.lookup x = some .cell := by first | exact .inl rfl | exact .inr rfl) (hs : ∀ x, foldedSetIterable iter X.env x = pure x := by intro _; rfl) : PE X (.ListComp elt [⟨.Name x px, iter, ifs, 0⟩] scope pos) (tComp wi (gName 0) tf te 1 fr) :=
 pe_lcomp B hc hi (fun _ _ _ _ _ => pg_name B.nd rfl (hx.imp lookup_relabel_local relabel_own) (hx.symm.imp (fun h => by show (scope.names.lookup x == some .cell) = true; rw [h]; rfl) lookup_relabel_local)) (gk_name (by decide)) hf he hs
theorem ps_c1 {i : Nat} {y : Str} {py spos : Pos} {x : Str} {px : Pos} {M' : List Str} (B : Blk X scope (x :: M') 1 fr) (hN : X.N.Nodup) (hi : PI X (.Name x px) iter wi) (hf : ∀ cl C s H ex, PF (X.blk scope cl C (x :: M') s H ex) ifs tf) (he : ∀ cl C s H ex, PE (X.blk scope cl C (x :: M') s H ex) elt te)
  (hy : X.N[i]? = some y := by rfl) (hly : X.env.kindOf y = some .local := by rfl) (hc : X.calm = true := by rfl) (hx : scope.names.lookup x = some .local ∨ scope.names.lookup x = some .cell := by first | exact .inl rfl | exact .inr rfl)
  (hsw : swapsWith (.ListComp elt [⟨.Name x px, iter, ifs, 0⟩] scope pos) (some (.Name y py)) spos.line X.env = pure true := by with_unfolding_all rfl)
  (hs : ∀ x, foldedSetIterable iter X.env x = pure x := by intro _; rfl) : PS X (.Assign [.Name y py] (.ListComp elt [⟨.Name x px, iter, ifs, 0⟩] scope pos) spos) (tAsg (tComp wi (gName 0) tf te 1 fr) (gName i)) :=
 ps_setc B hc hN hy hly hi (fun _ _ _ _ _ => pg_name B.nd rfl (hx.imp lookup_relabel_local relabel_own) (hx.symm.imp (fun h => by show (scope.names.lookup x == some .cell) = true; rw [h]; rfl) lookup_relabel_local)) (gk_name (by decide)) hf he hsw hs
end
end L2
set_option Elab.async false
set_option linter.all false
set_option maxRecDepth 100000
set_option maxHeartbeats 4000000
namespace L2
open PySem PySem.Spec PyProof.Rows
abbrev tx (cs : List Nat) : Str := ⟨cs.toArray⟩
theorem tx_cps (x : Str) : tx x.cps.toList = x := by cases x; rfl
theorem tx_inj {a b : List Nat} : tx a = tx b ↔ a = b := by
 constructor
 ·intro h
  have e : a.toArray = b.toArray := congrArg Str.cps h
  simpa using e
 ·rintro rfl; rfl
theorem tx_len (a : List Nat) : (tx a).length = a.length := by show a.toArray.size = a.length; simp
theorem tx_app (a b : List Nat) : tx a ++ tx b = tx (a ++ b) := by
 show Str.mk (a.toArray ++ b.toArray) = Str.mk (a ++ b).toArray
 congr 1
 simp
def Its (x : Str) : It := ⟨fun i _ => i < x.cps.size, fun i H v H' => H' = H ∧ ∃ c, x.cps[i]? = some c ∧ v = .str ⟨#[c]⟩, fun i _ => x.cps.size ≤ i⟩
theorem turn_strA {P : Program} {w : World} {K : PySem.W.Frag} {tg : Expr} (x : Str) (t : Tok) (it : Addr) : Turn P w K tg (Its x) [it] it (fun i h => h.IsStrIter it "str_ascii_iterator" x t i) where
 mem := by simp
 obj := fun i h st b hb => by
  have e : b = it := by simpa using hb
  subst e
  obtain ⟨o, e, c, d⟩ := st
  exact ⟨o, e, fun v z => by rw [d] at z; cases z⟩
 keep := fun i h h' st k => let ⟨o, ho, r⟩ := st; ⟨o, k it (by simp) o ho, r⟩
 item := by
  intro X hP hw hK hc i pins s σ H E I hf st hg
  subst hP hw hK
  obtain ⟨f0, f1, f2, f3, f4, f5⟩ := hf it (by simp)
  have hg' : i < x.cps.size := hg
  refine wpAny_pyNext_ascii_item st (c := x.cps[i]) (by simp [hg']) fun h' st' sb => ?_
  have I1 : Inv X pins σ H { s with heap := h', toks := s.toks + 1 } := I.turned (fun b o hb e => (sb.2 b hb).trans e) f0 f1 f3 f4 f5
  obtain ⟨o, e, c, d⟩ := id st'
  exact ⟨_, rfl, go_of (s := { s with heap := h', toks := s.toks + 1 }) e c d (by decide) ⟨.str ⟨#[x.cps[i]]⟩, H, I1, ⟨_, rfl⟩, ⟨rfl, _, by simp [hg'], rfl⟩, st', fun b hb => (hf b hb).1⟩⟩
 done := by
  intro X hP hw hK hc i pins s σ H E I hf st hg
  subst hP hw hK
  obtain ⟨f0, f1, f2, f3, f4, f5⟩ := hf it (by simp)
  have hg' : x.cps.size ≤ i := hg
  exact wpAny_pyNext_ascii_end (I.ok.hd hc) st (by simp [hg']) fun h' eb => ⟨rfl, I.turned (t' := s.toks) (fun b o hb e => eb b o hb e) f0 f1 f3 f4 f5⟩
 self := fun _ _ _ _ _ st h => wpAny_pyIter_striter_ascii st h
theorem turn_strW {P : Program} {w : World} {K : PySem.W.Frag} {tg : Expr} (x : Str) (t : Tok) (it : Addr) : Turn P w K tg (Its x) [it] it (fun i h => h.IsStrIter it "str_iterator" x t i) where
 mem := by simp
 obj := fun i h st b hb => by
  have e : b = it := by simpa using hb
  subst e
  obtain ⟨o, e, c, d⟩ := st
  exact ⟨o, e, fun v z => by rw [d] at z; cases z⟩
 keep := fun i h h' st k => let ⟨o, ho, r⟩ := st; ⟨o, k it (by simp) o ho, r⟩
 item := by
  intro X hP hw hK hc i pins s σ H E I hf st hg
  subst hP hw hK
  obtain ⟨f0, f1, f2, f3, f4, f5⟩ := hf it (by simp)
  have hg' : i < x.cps.size := hg
  refine wpAny_pyNext_wide_item st (c := x.cps[i]) (by simp [hg']) fun h' st' sb => ?_
  have I1 : Inv X pins σ H { s with heap := h', toks := s.toks + 1 } := I.turned (fun b o hb e => (sb.2 b hb).trans e) f0 f1 f3 f4 f5
  obtain ⟨o, e, c, d⟩ := id st'
  exact ⟨_, rfl, go_of (s := { s with heap := h', toks := s.toks + 1 }) e c d (by decide) ⟨.str ⟨#[x.cps[i]]⟩, H, I1, ⟨_, rfl⟩, ⟨rfl, _, by simp [hg'], rfl⟩, st', fun b hb => (hf b hb).1⟩⟩
 done := by
  intro X hP hw hK hc i pins s σ H E I hf st hg
  subst hP hw hK
  obtain ⟨f0, f1, f2, f3, f4, f5⟩ := hf it (by simp)
  have hg' : x.cps.size ≤ i := hg
  exact wpAny_pyNext_wide_end (I.ok.hd hc) st (by simp [hg']) fun h' eb => ⟨rfl, I.turned (t' := s.toks) (fun b o hb e => eb b o hb e) f0 f1 f3 f4 f5⟩
 self := fun _ _ _ _ _ st h => wpAny_pyIter_striter_wide st h
section
variable {X : Cx}
theorem call_int_str : CallR X (.type "int") (fun xs H Q => ∃ x n, xs = [.str x] ∧ intText? x = some n ∧ x.length ≤ 640 ∧ Q (.int n) H) := by
 intro pins s σ H xs us Q I r h
 obtain ⟨x, n, rfl, hn, hl, q⟩ := h
 obtain ⟨u, rfl, t, rfl⟩ := vals1 r
 exact PySem.W.KIN.call_text hn hl ⟨.int n, H, I.tok _, ⟨_, rfl⟩, q⟩
def cutN (cs : List Nat) (lo hi : Option Int) : List Nat := (cs.drop (HT.sIx cs.length 0 lo)).take (HT.sIx cs.length cs.length hi - HT.sIx cs.length 0 lo)
theorem all_range (bs : List Bool) : (List.range bs.length).all (fun i => bs.getD i false) = bs.all id := by
 have key : ∀ (bs pre : List Bool), (List.range' pre.length bs.length).all (fun i => (pre ++ bs).getD i false) = bs.all id := by
  intro bs
  induction bs with
  | nil => intro pre; rfl
  | cons b r ih =>
   intro pre
   have q := ih (pre ++ [b])
   rw [List.length_cons, List.range'_succ, List.all_cons, List.all_cons]
   have e : (pre ++ b :: r).getD pre.length false = b := by simp
   have e2 : pre ++ b :: r = (pre ++ [b]) ++ r := by simp
   rw [e, e2]
   have e3 : (pre ++ [b]).length = pre.length + 1 := by simp
   rw [e3] at q
   rw [q]
   rfl
 have q := key bs []
 simpa [List.range_eq_range'] using q
theorem any_range (bs : List Bool) : (List.range bs.length).any (fun i => bs.getD i false) = bs.any id := by
 have key : ∀ (bs pre : List Bool), (List.range' pre.length bs.length).any (fun i => (pre ++ bs).getD i false) = bs.any id := by
  intro bs
  induction bs with
  | nil => intro pre; rfl
  | cons b r ih =>
   intro pre
   have q := ih (pre ++ [b])
   rw [List.length_cons, List.range'_succ, List.any_cons, List.any_cons]
   have e : (pre ++ b :: r).getD pre.length false = b := by simp
   have e2 : pre ++ b :: r = (pre ++ [b]) ++ r := by simp
   rw [e, e2]
   have e3 : (pre ++ [b]).length = pre.length + 1 := by simp
   rw [e3] at q
   rw [q]
   rfl
 have q := key bs []
 simpa [List.range_eq_range'] using q
theorem bools_get {bs : List Bool} {its : List Value} {i : Nat} {v : Value} (r : Vals (bs.map V.bl) its) (h : its[i]? = some v) : v = .bool (bs.getD i false) := by
 have hi : i < its.length := (List.getElem?_eq_some_iff.mp h).1
 have hl := r.length
 rw [List.length_map] at hl
 have hb : i < bs.length := by omega
 obtain ⟨u, hu, ru⟩ := r.get (i := i) (x := V.bl bs[i]) (by simp [hb])
 rw [h] at hu
 cases hu
 have e : bs.getD i false = bs[i] := by simp [hb]
 rw [e]
 exact ru
theorem call_all (hc : X.calm = true) : CallR X (.builtin "all") (fun xs H Q => ∃ (p : Addr) (bs : List Bool), xs = [.ref p] ∧ SqL X.K H p (bs.map V.bl) ∧ Q (.bl (bs.all id)) H) := by
 intro pins s σ H xs us Q I r h
 obtain ⟨p, bs, rfl, hq, q⟩ := h
 obtain ⟨u, rfl, rx⟩ := vals1 r
 cases rx
 obtain ⟨its, rv, pl, hz⟩ := I.list hq
 have hlen : its.toArray.size = bs.length := by
  rw [List.size_toArray, ← rv.length, List.length_map]
 have hp : p < s.heap.objs.size := by
  obtain ⟨o, ho, _⟩ := pl.isList
  exact Heap.lt_size ho
 refine call_all_walk (wpAny_pyIter_list pl.isList ?_)
 refine ⟨s.heap.objs.size, _, _, its.toArray.size, _, _, fun i => bs.getD i false, rfl, Walks.list (A := X.A.in1) (I.ok.hd hc) s.heap.objs.size p (Nat.ne_of_lt hp) its.toArray, And.intro ⟨_, Heap.get?_push_size _ rfl, rfl, rfl⟩ (pl.isList.at fun o e => Heap.get?_push_of_some _ e), fun i v s1 Q1 E1 hv hQ => ?_, fun h' tk hk => ?_⟩
 ·have ev : v = .bool (bs.getD i false) := bools_get rv (by simpa using hv)
  subst ev
  exact wpAny_truthy_bool hQ
 ·rw [hlen, all_range]
  refine ⟨.bl _, H, I.kept (t' := tk) fun b o e => hk b o (fun z => ?_) (Heap.get?_push_of_some _ e), rfl, q⟩
  have e2 : b = s.heap.objs.size := by simpa using z
  subst e2
  exact absurd (Heap.lt_size e) (Nat.lt_irrefl _)
theorem call_any (hc : X.calm = true) : CallR X (.builtin "any") (fun xs H Q => ∃ (p : Addr) (bs : List Bool), xs = [.ref p] ∧ SqL X.K H p (bs.map V.bl) ∧ Q (.bl (bs.any id)) H) := by
 intro pins s σ H xs us Q I r h
 obtain ⟨p, bs, rfl, hq, q⟩ := h
 obtain ⟨u, rfl, rx⟩ := vals1 r
 cases rx
 obtain ⟨its, rv, pl, hz⟩ := I.list hq
 have hlen : its.toArray.size = bs.length := by
  rw [List.size_toArray, ← rv.length, List.length_map]
 have hp : p < s.heap.objs.size := by
  obtain ⟨o, ho, _⟩ := pl.isList
  exact Heap.lt_size ho
 refine call_any_walk (wpAny_pyIter_list pl.isList ?_)
 refine ⟨s.heap.objs.size, _, _, its.toArray.size, _, _, fun i => bs.getD i false, rfl, Walks.list (A := X.A.in1) (I.ok.hd hc) s.heap.objs.size p (Nat.ne_of_lt hp) its.toArray, And.intro ⟨_, Heap.get?_push_size _ rfl, rfl, rfl⟩ (pl.isList.at fun o e => Heap.get?_push_of_some _ e), fun i v s1 Q1 E1 hv hQ => ?_, fun h' tk hk => ?_⟩
 ·have ev : v = .bool (bs.getD i false) := bools_get rv (by simpa using hv)
  subst ev
  exact wpAny_truthy_bool hQ
 ·rw [hlen, any_range]
  refine ⟨.bl _, H, I.kept (t' := tk) fun b o e => hk b o (fun z => ?_) (Heap.get?_push_of_some _ e), rfl, q⟩
  have e2 : b = s.heap.objs.size := by simpa using z
  subst e2
  exact absurd (Heap.lt_size e) (Nat.lt_irrefl _)
end
end L2
set_option Elab.async false
set_option linter.all false
set_option maxRecDepth 100000
set_option maxHeartbeats 4000000
namespace L2
open PySem PySem.Spec PyProof.Rows
def Def (K : PySem.W.Frag) (mg : Str → Option Value) (x : Str) (st : Stmt) (ps : List Str) : Prop :=
 ∃ (f : Addr) (fd : FuncData), Fun K x x st f fd ∧ (∀ us : List Value, us.length = ps.length → bindArgs fd ⟨us, []⟩ = pure (ps.zip us)) ∧ mg x = some (.ref f)
theorem def_mk {K : PySem.W.Frag} {h : Heap} {mg : Str → Option Value} {x : Str} {st : Stmt} {ps : List Str} {f : Addr} {od an : Option Addr} {sl : Array (Option Value)} {oc kV dc pm cd ct : Value} (X : K.In h) (G : h.Ns mainGlobals mg)
  (a : PySem.W.nsIn K mainGlobals x = some (some (.ref f))) (l : K.lookup f = some ⟨oc, od, .func (PySem.W.fnOf x x (defArgs st) (defBody st) (defScope st) .none kV dc pm an cd ct), sl⟩) (c : PySem.W.codeIn K cd x = true) (k : PySem.W.keepIn K (.ref f) = true)
  (b : ∀ (kV doc pm : Value) (an : Option Addr) (cdv ct : Value) (us : List Value), us.length = ps.length → bindArgs (PySem.W.fnOf x x (defArgs st) (defBody st) (defScope st) .none kV doc pm an cdv ct) ⟨us, []⟩ = pure (ps.zip us)) : Def K mg x st ps :=
 ⟨f, _, fun_mk (st := st) l c k, fun us hl => b kV dc pm an cd ct us hl, PySem.W.mg_of X G a⟩
def Has (P : Program) (w : World) (K : PySem.W.Frag) (mg : Str → Option Value) (base : Heap) (k : Nat) (x : Str) (ps : List Str) (sp : Sp) : Prop :=
 ∃ (f : Addr) (fd : FuncData), FnOk P w K mg base CX0 k f fd ps sp ∧ Binds K fd ps [] ∧ mg x = some (.ref f) ∧ PySem.W.keepIn K (.ref f) = true
theorem Def.has {P : Program} {w : World} {K : PySem.W.Frag} {mg : Str → Option Value} {base : Heap} {k : Nat} {x : Str} {st : Stmt} {ps : List Str} {sp : Sp} (D : Def K mg x st ps) (h : ∀ f fd, Fun K x x st f fd → FnOk P w K mg base CX0 k f fd ps sp) : Has P w K mg base k x ps sp := by
 obtain ⟨f, fd, F, b, m⟩ := D
 exact ⟨f, fd, h f fd F, Binds.all b, m, F.kp⟩
theorem Has.mono {P : Program} {w : World} {K : PySem.W.Frag} {mg : Str → Option Value} {base : Heap} {j k : Nat} {x : Str} {ps : List Str} {sp : Sp} (h : Has P w K mg base j x ps sp) (hk : j ≤ k) : Has P w K mg base k x ps sp := by
 obtain ⟨f, fd, F, b, m, kp⟩ := h
 exact ⟨f, fd, F.mono hk, b, m, kp⟩
section
variable {X : Cx} {k : Nat} {x : Str} {ps : List Str} {sp : Sp} {e : Expr} {es : List Expr} {t : TA} {p pos : Pos}
theorem pcall (h : Has X.prog X.w X.K X.mg X.base k x ps sp) (hr : Room k X.A) (ha : PA X (e :: es) t) (hg : Gl X x := by rfl) (hdb : (x == ("__debug__" : Str)) = false := by decide)
  (he : starEach (e :: es) X.env = (false, eval e X.env) :: starEach es X.env := by rfl) (hpl : (backTo pos (starEach es X.env)).any (·.1) = false := by rfl) : PE X (.Call (.Name x p) (e :: es) [] pos) (tCall sp [] E0 t) := by
 obtain ⟨f, fd, F, b, m, kp⟩ := h
 exact pe_call F hr hg m kp b .nil pass0 ha hdb he hpl
theorem pty {n : String} (hm : X.mg x = none) (hv : bootBuiltins x = some (.type n)) (hg : Gl X x := by rfl) (hn : x ≠ "__name__" := by decide) (hd : (x == ("__debug__" : Str)) = false := by decide) : PE X (.Name x pos) (tC (.ty n)) := pe_bltn hg hm hv rfl hn hd
end
theorem same_new {H : Hp} {p : Addr} (h : H p = none) (o : HO) : Same H (upd H p o) := fun b u q => by rw [upd_ne (ne_of_none q h)]; exact q
theorem Same.tup {K : PySem.W.Frag} {H H' : Hp} {a : Addr} {xs : List V} (e : Same H H') (h : SqT K H a xs) : SqT K H' a xs := by
 rcases h with (h | ⟨o, h⟩) | h
 ·exact .inl (.inl (e _ _ h))
 ·exact .inl (.inr ⟨o, e _ _ h⟩)
 ·exact .inr h
def spLaw (K : PySem.W.Frag) : Sp := fun vs H Q _ => ∃ (a : Addr) (ns : List Int), vs = [.ref a] ∧ SqL K H a (ns.map V.int) ∧ ns.length ≤ 63 ∧ ∀ H', Q (.bl true) H'
theorem walk_law {l : PySem.W.OpenLaw} {k : Nat} {q : Program} {loose : List Str} {XP : (Str → Option Value) → Heap → Prop} {YP : World → Heap → Prop} {d : DefRec} {K : Params → PySem.W.Frag} {x : Str} (hn : l.most = some 63) (hdf : d.params.defaults = []) (hr : Room k callerA)
  (hY : ∀ (w : World) (h : Heap), YP w h → (K w.params).In h)
  (F : ∀ (w : World) (mg : Str → Option Value) (fa : Addr) (h : Heap), (K w.params).In h → h.Ns mainGlobals mg → mg d.name = some (.ref fa) →
   ∃ fd : FuncData, (∀ (s : Shared) (u : Value), BindsTo s fd ⟨[u], []⟩ [(x, u)]) ∧ ∀ base : Heap, (K w.params).In base → base.Ns mainGlobals mg → FnOk l.prog w (K w.params) mg base CX0 k fa fd [x] (spLaw (K w.params))) :
  PySem.W.WalkO q loose XP YP l.row.toRowW d [] (fun f vs => PySem.call f vs) :=
 L2.walk_of (n := 63) (k := k) (x := x) (CX := fun _ => CX0) (sp := fun w => spLaw (K w.params)) hn (by decide) hdf hr hY F (fun _ _ a ns hl _ hS => ⟨a, ns, rfl, hS, hl, fun _ => rfl⟩) fun _ _ _ _ _ z => z
theorem law_of {P : Program} {w : World} {K : PySem.W.Frag} {mg : Str → Option Value} {fa : Addr} {k : Nat} {st : Stmt} {x n : Str} {sp : Sp} (D : Def K mg n st [x]) (hfa : mg n = some (.ref fa))
  (h : ∀ f fd, Fun K n n st f fd → ∀ base : Heap, K.In base → base.Ns mainGlobals mg → FnOk P w K mg base CX0 k f fd [x] sp) :
  ∃ fd : FuncData, (∀ (s : Shared) (u : Value), BindsTo s fd ⟨[u], []⟩ [(x, u)]) ∧ ∀ base : Heap, K.In base → base.Ns mainGlobals mg → FnOk P w K mg base CX0 k fa fd [x] sp := by
 obtain ⟨f, fd, F, b, m⟩ := D
 have e : fa = f := by
  have e := Option.some.inj (hfa.symm.trans m)
  injection e
 subst e
 exact ⟨fd, fun s u => .of_eq (b [u] rfl), h fa fd F⟩
def cellV (ns : List Int) (k : Int) : Int := if ns.isEmpty then 0 else ns.getD (k % (ns.length : Int)).toNat 0
def mixV (ns : List Int) (k : Int) : Int :=
 ((cellV ns k + 104729 * (k + 1)) % 4294967291 * 48271 % 4294967279 / 64 * 69621 + (cellV ns k + 104729 * (k + 1)) % 4294967291 * 48271 % 4294967279) % 4294967231
theorem cell_at {ns : List Int} {k : Int} (h : ns ≠ []) : atI (ns.map V.int) (k % ((ns.map V.int).length : Int)) = some (.int (cellV ns k)) := by
 have hl : 0 < ns.length := List.length_pos_iff.mpr h
 have h0 : 0 ≤ k % (ns.length : Int) := Int.emod_nonneg _ (by omega)
 have h1 : k % (ns.length : Int) < ns.length := Int.emod_lt_of_pos _ (by omega)
 rw [List.length_map]
 have e : k % (ns.length : Int) = (((k % (ns.length : Int)).toNat : Nat) : Int) := by omega
 rw [e]
 refine atI_nat ?_
 rw [List.getElem?_map, List.getElem?_eq_getElem (by omega)]
 unfold cellV
 have he : ns.isEmpty = false := by cases ns with
  | nil => exact absurd rfl h
  | cons a r => rfl
 rw [he]
 simp only [Bool.false_eq_true, if_false, Option.map_some, Option.some.injEq, V.int.injEq]
 rw [List.getD_eq_getElem?_getD, List.getElem?_eq_getElem (by omega)]
 rfl
end L2
set_option Elab.async false
set_option linter.all false
set_option maxRecDepth 100000
set_option maxHeartbeats 4000000
namespace L2
open PySem PySem.Spec PyProof.Rows
section
variable {X : Cx}
theorem call_list_dict (hc : X.calm = true) : CallR X (.type "list") (fun xs H Q => ∃ a kvs, xs = [.ref a] ∧ Rd H a (.dK kvs) ∧ ∀ p, H p = none → Q (.ref p) (upd H p (.lst (kvs.map fun kv => kV kv.1)))) := by
 intro pins s σ H xs us Q I r h
 obtain ⟨a, kvs, rfl, hH, q⟩ := h
 obtain ⟨u, rfl, rx⟩ := vals1 r
 cases rx
 obtain ⟨z, hS, vs, rel, dd⟩ := dk_rd I.hok hH
 obtain ⟨ep, hat⟩ := dd.dictAt
 have hlen := rel.length
 refine PySem.W.kdl_call (PySem.W.kdl_dict (knd := mixKind X.prog X.w) (kvs := vs) (ep := ep) hS) (I.ok.hd hc) hat (by omega) fun h' tk acc c kp e items => ?_
 refine ⟨.ref s.heap.objs.size, _, I.laid (a := s.heap.objs.size) (o := .lst (kvs.map fun kv => kV kv.1)) (t' := tk) kp (Nat.le_refl _) ?_, rfl, q _ I.fresh⟩
 refine ⟨by rw [List.length_map]; exact z, acc.toList, c, ?_, by simpa using e⟩
 have al : acc.toList.length = vs.length := by rw [Array.length_toList]; exact items.1
 have key : ∀ (ks : List (Key × V)) (us : List (Key × Value)) (ws : List Value), KV ks us → ws.length = us.length → (∀ (j : Nat) v, ws[j]? = some v → ∃ k x, us[j]? = some (k, x) ∧ (mixKind X.prog X.w).is k v = true) → Vals (ks.map fun kv => kV kv.1) ws := by
  intro ks us ws rr
  unfold KV at rr
  induction rr generalizing ws with
  | nil =>
   intro hl _
   have : ws = [] := List.length_eq_zero_iff.mp hl
   subst this
   exact .nil
  | @cons p q ps qs hpq _ ih =>
   intro hl hw
   cases ws with
   | nil => simp at hl
   | cons v r =>
    obtain ⟨k, x, e1, e2⟩ := hw 0 v rfl
    have e3 : q = (k, x) := Option.some.inj e1
    refine .cons ?_ (ih r (by simpa using hl) fun j v' hv' => hw (j + 1) v' hv')
    have e4 : p.1 = k := by rw [hpq.1, e3]
    show RelV (kV p.1) v
    rw [e4]
    have e5 : keyIs k v = true := e2
    rcases keyIs_shape e5 with ⟨i, t, rfl, rfl⟩ | ⟨y, t, rfl, rfl⟩
    ·exact ⟨t, rfl⟩
    ·exact ⟨t, rfl⟩
 exact key kvs vs acc.toList rel al fun j v hv => items.2 j v (by rw [← Array.getElem?_toList]; exact hv)
end
end L2
set_option Elab.async false
set_option linter.all false
set_option maxRecDepth 100000
set_option maxHeartbeats 4000000
namespace Wd
open PySem
theorem signs_of (s : String) : (Str.ofString s).cps.toList = s.toList.map Char.toNat := PyProof.Rows.signs_ofString s
def val (cs : List Nat) : Nat := cs.foldl (fun acc c => acc * 10 + (c - 48)) 0
def decN (m : Nat) : List Nat := (Nat.toDigits 10 m).map Char.toNat
def txtN (n : Int) : List Nat := if n < 0 then 45 :: decN n.natAbs else decN n.natAbs
theorem str_int (n : Int) : Str.ofString (toString n) = ⟨(txtN n).toArray⟩ := by
 have e : ∀ s : String, Str.ofString s = ⟨(s.toList.map Char.toNat).toArray⟩ := fun s => by
  have q := signs_of s
  cases h : Str.ofString s with
  | mk a =>
   rw [h] at q
   have q' : a.toList = s.toList.map Char.toNat := q
   rw [← q']
 rw [e]
 congr 2
 cases n with
 | ofNat m =>
  show (Nat.repr m).toList.map Char.toNat = _
  rw [Nat.toList_repr]
  unfold txtN decN
  rw [if_neg (by simp)]
  rfl
 | negSucc m =>
  have e1 : toString (Int.negSucc m) = "-" ++ Nat.repr (m + 1) := rfl
  rw [e1, String.toList_append, List.map_append, Nat.toList_repr]
  unfold txtN decN
  rw [if_pos (Int.negSucc_lt_zero m)]
  rfl
end Wd
set_option Elab.async false
set_option linter.all false
set_option maxRecDepth 100000
set_option maxHeartbeats 4000000
set_option Elab.async false
set_option linter.all false
set_option maxRecDepth 100000
set_option maxHeartbeats 4000000
namespace L2
open PySem PySem.Spec PyProof.Rows
section
variable {X : Cx} {e : Expr} {es : List Expr} {te : TE} {pos : Pos}
abbrev TJ := St → Hp → Str → VK → Prop
def PJ (X : Cx) (es : List Expr) (t : TJ) : Prop :=
 ∀ (pins : List (Addr × Obj)) (s : Shared) (σ : St) (H : Hp) (out : Str) (Q : VK), Inv X pins σ H s → t σ H out Q → wpAny (model X.prog X.w) X.A (joinParts out (evalEach es X.env)) (EP X pins σ Q) X.xe s
end
end L2
set_option Elab.async false
set_option linter.all false
set_option maxRecDepth 100000
set_option maxHeartbeats 4000000
namespace L2
open PySem PySem.Spec PyProof.Rows
section
variable {X : Cx} {K : PySem.W.Frag}
theorem call_lenK (hK : X.K = K) : CallR X (.builtin "len") (fun xs H Q => ∃ p ys, xs = [.ref p] ∧ (SqL K H p ys ∨ SqT K H p ys) ∧ Q (.int ys.length) H) := by subst hK; exact call_len_seq
theorem ix_listK (hK : X.K = K) : IxR X (rIxL K) := by subst hK; exact ix_list
theorem ix_tupK (hK : X.K = K) : IxR X (rIxT K) := by subst hK; exact ix_tup
theorem call_allK (hK : X.K = K) (hc : X.calm = true) : CallR X (.builtin "all") (fun xs H Q => ∃ (p : Addr) (bs : List Bool), xs = [.ref p] ∧ SqL K H p (bs.map V.bl) ∧ Q (.bl (bs.all id)) H) := by subst hK; exact call_all hc
theorem call_anyK (hK : X.K = K) (hc : X.calm = true) : CallR X (.builtin "any") (fun xs H Q => ∃ (p : Addr) (bs : List Bool), xs = [.ref p] ∧ SqL K H p (bs.map V.bl) ∧ Q (.bl (bs.any id)) H) := by subst hK; exact call_any hc
end
def TupsAt (H : Hp) : List V → List (List Int) → Prop := Paired fun v c => ∃ b, v = V.ref b ∧ H b = some (.tup (c.map V.int))
def ClsAt (K : PySem.W.Frag) (H : Hp) (a : Addr) (cs : List (List Int)) : Prop := ∃ vs, SqL K H a vs ∧ TupsAt H vs cs
theorem TupsAt.same {H H' : Hp} (s : Same H H') : ∀ {vs : List V} {cs : List (List Int)}, TupsAt H vs cs → TupsAt H' vs cs
 | _, _, .nil => .nil
 | _, _, .cons ⟨b, e, h⟩ t => .cons ⟨b, e, s b _ h⟩ (TupsAt.same s t)
theorem ClsAt.same {K : PySem.W.Frag} {H H' : Hp} {a : Addr} {cs : List (List Int)} (s : Same H H') (h : ClsAt K H a cs) : ClsAt K H' a cs := by
 obtain ⟨vs, h1, h2⟩ := h
 exact ⟨vs, s.seq h1, h2.same s⟩
theorem TupsAt.getX {H : Hp} : ∀ {vs : List V} {cs : List (List Int)} {i : Nat} {v : V}, TupsAt H vs cs → vs[i]? = some v → ∃ c b, cs[i]? = some c ∧ v = .ref b ∧ H b = some (.tup (c.map V.int))
 | _, _, _, _, .nil, h => by simp at h
 | _, _, 0, _, .cons ⟨b, e, h⟩ _, hi => by
  simp at hi
  subst hi
  exact ⟨_, b, rfl, e, h⟩
 | _, _, i + 1, v, .cons _ t, hi => by
  obtain ⟨c, b, h1, h2, h3⟩ := TupsAt.getX (i := i) t (by simpa using hi)
  exact ⟨c, b, by simpa using h1, h2, h3⟩
theorem TupsAt.get {K : PySem.W.Frag} {H : Hp} {vs : List V} {cs : List (List Int)} {i : Nat} {v : V} (h : TupsAt H vs cs) (hv : vs[i]? = some v) : ∃ c b, cs[i]? = some c ∧ v = .ref b ∧ SqT K H b (c.map V.int) := by
 obtain ⟨c, b, h1, h2, h3⟩ := h.getX hv
 exact ⟨c, b, h1, h2, SqT.of h3⟩
theorem Same.upd {H H' : Hp} {a : Addr} {o : HO} (s : Same H H') (h : H a = none) : Same H (L2.upd H' a o) := fun b u q => by
 rw [upd_ne (ne_of_none q h)]
 exact s b u q
theorem TupsAt.len {H : Hp} {vs : List V} {cs : List (List Int)} (h : TupsAt H vs cs) : vs.length = cs.length := Paired.length h
end L2
set_option Elab.async false
set_option linter.all false
set_option maxRecDepth 100000
set_option maxHeartbeats 4000000
namespace L3
open PySem PySem.Spec PyProof.Rows L2
abbrev St := L2.St
inductive D where
 | non | bl (b : Bool) | int (i : Int) | str (cs : List Nat) | ty (n : String)
 | tup (xs : List D) | lst (xs : List D) | dct (kvs : List (Key × D))
instance : Inhabited D := ⟨.non⟩
inductive Rep (K : PySem.W.Frag) (G : Hp) : V → D → Prop
 | non : Rep K G .non .non
 | bl (b : Bool) : Rep K G (.bl b) (.bl b)
 | int (i : Int) : Rep K G (.int i) (.int i)
 | str (cs : List Nat) : Rep K G (.str (tx cs)) (.str cs)
 | ty (n : String) : Rep K G (.ty n) (.ty n)
 | tup {a : Addr} {xs : List V} {ds : List D} (h : SqT K G a xs) (hl : xs.length = ds.length) (hr : ∀ (j : Nat) x d, xs[j]? = some x → ds[j]? = some d → Rep K G x d) : Rep K G (.ref a) (.tup ds)
 | lst {a : Addr} {xs : List V} {ds : List D} (h : SqL K G a xs) (hl : xs.length = ds.length) (hr : ∀ (j : Nat) x d, xs[j]? = some x → ds[j]? = some d → Rep K G x d) : Rep K G (.ref a) (.lst ds)
 | dct {a : Addr} {kvs : List (Key × V)} {es : List (Key × D)} (h : Rd G a (.dK kvs)) (hk : kvs.map (·.1) = es.map (·.1)) (hr : ∀ (j : Nat) p e, kvs[j]? = some p → es[j]? = some e → Rep K G p.2 e.2) : Rep K G (.ref a) (.dct es)
theorem Rd.same {G G' : Hp} {a : Addr} {u : HO} (s : Same G G') (h : Rd G a u) : Rd G' a u := by
 rcases h with h | ⟨o, h⟩
 ·exact .inl (s _ _ h)
 ·exact .inr ⟨o, s _ _ h⟩
theorem _root_.L2.DGet.r {H : Hp} {a : Addr} {kvs : List (Key × V)} {k : Key} (e : Rd H a (.dK kvs)) : DGet H a (kV k) (valV kvs k) := .inl ⟨kvs, k, e, rfl, rfl⟩
theorem Rep.same {K : PySem.W.Frag} {G G' : Hp} (s : Same G G') {v : V} {d : D} (h : Rep K G v d) : Rep K G' v d := by
 induction h with
 | non => exact .non
 | bl b => exact .bl b
 | int i => exact .int i
 | str cs => exact .str cs
 | ty n => exact .ty n
 | tup h hl _ ih => exact .tup (s.tup h) hl ih
 | lst h hl _ ih => exact .lst (s.seq h) hl ih
 | dct h hk _ ih => exact .dct (L3.Rd.same s h) hk ih
structure RepL (K : PySem.W.Frag) (G : Hp) (xs : List V) (ds : List D) : Prop where
 len : xs.length = ds.length
 get : ∀ (j : Nat) x d, xs[j]? = some x → ds[j]? = some d → Rep K G x d
structure RepKV (K : PySem.W.Frag) (G : Hp) (kvs : List (Key × V)) (es : List (Key × D)) : Prop where
 keys : kvs.map (·.1) = es.map (·.1)
 get : ∀ (j : Nat) p e, kvs[j]? = some p → es[j]? = some e → Rep K G p.2 e.2
section
variable {K : PySem.W.Frag} {G G' H : Hp}
theorem RepL.same (s : Same G G') {xs : List V} {ds : List D} (h : RepL K G xs ds) : RepL K G' xs ds := ⟨h.len, fun j x d a b => (h.get j x d a b).same s⟩
theorem RepKV.same (s : Same G G') {kvs : List (Key × V)} {es : List (Key × D)} (h : RepKV K G kvs es) : RepKV K G' kvs es := ⟨h.keys, fun j x d a b => (h.get j x d a b).same s⟩
theorem RepL.nil : RepL K G [] [] := ⟨rfl, fun j x d h => by simp at h⟩
theorem RepL.cons {x : V} {d : D} {xs : List V} {ds : List D} (h : Rep K G x d) (r : RepL K G xs ds) : RepL K G (x :: xs) (d :: ds) := by
 refine ⟨by simp [r.len], fun j y e a b => ?_⟩
 cases j with
 | zero => simp at a b; subst a b; exact h
 | succ j => exact r.get j y e (by simpa using a) (by simpa using b)
theorem RepL.head {x : V} {d : D} {xs : List V} {ds : List D} (r : RepL K G (x :: xs) (d :: ds)) : Rep K G x d := r.get 0 x d rfl rfl
theorem RepL.tail {x : V} {d : D} {xs : List V} {ds : List D} (r : RepL K G (x :: xs) (d :: ds)) : RepL K G xs ds := ⟨by have := r.len; simpa using this, fun j y e a b => r.get (j + 1) y e (by simpa using a) (by simpa using b)⟩
theorem RepL.append {xs ys : List V} {ds es : List D} (h : RepL K G xs ds) (r : RepL K G ys es) : RepL K G (xs ++ ys) (ds ++ es) := by
 refine ⟨by simp [h.len, r.len], fun j x d a b => ?_⟩
 by_cases hj : j < xs.length
 ·rw [List.getElem?_append_left hj] at a
  rw [List.getElem?_append_left (by rw [← h.len]; exact hj)] at b
  exact h.get j x d a b
 ·rw [List.getElem?_append_right (by omega)] at a
  rw [List.getElem?_append_right (by rw [← h.len]; omega), ← h.len] at b
  exact r.get _ x d a b
theorem RepL.one {x : V} {d : D} (h : Rep K G x d) : RepL K G [x] [d] := .cons h .nil
theorem RepL.at {xs : List V} {ds : List D} (h : RepL K G xs ds) {j : Nat} {d : D} (e : ds[j]? = some d) : ∃ x, xs[j]? = some x ∧ Rep K G x d := by
 have hj : j < xs.length := by rw [h.len]; exact (List.getElem?_eq_some_iff.mp e).1
 exact ⟨xs[j], by simp [hj], h.get j _ d (by simp [hj]) e⟩
theorem RepL.atV {xs : List V} {ds : List D} (h : RepL K G xs ds) {j : Nat} {x : V} (e : xs[j]? = some x) : ∃ d, ds[j]? = some d ∧ Rep K G x d := by
 have hj : j < ds.length := by rw [← h.len]; exact (List.getElem?_eq_some_iff.mp e).1
 exact ⟨ds[j], by simp [hj], h.get j x _ e (by simp [hj])⟩
theorem RepL.take {xs : List V} {ds : List D} (h : RepL K G xs ds) (n : Nat) : RepL K G (xs.take n) (ds.take n) := by
 refine ⟨by simp [h.len], fun j x d a b => ?_⟩
 rw [List.getElem?_take] at a b
 by_cases hj : j < n
 ·rw [if_pos hj] at a b; exact h.get j x d a b
 ·rw [if_neg hj] at a; cases a
theorem RepL.drop {xs : List V} {ds : List D} (h : RepL K G xs ds) (n : Nat) : RepL K G (xs.drop n) (ds.drop n) := by
 refine ⟨by simp [h.len], fun j x d a b => ?_⟩
 rw [List.getElem?_drop] at a b
 exact h.get _ x d a b
theorem RepL.set {xs : List V} {ds : List D} {x : V} {d : D} (h : RepL K G xs ds) (hx : Rep K G x d) (n : Nat) : RepL K G (xs.set n x) (ds.set n d) := by
 refine ⟨by simp [h.len], fun j y e a b => ?_⟩
 by_cases hj : n = j
 ·subst hj
  rw [List.getElem?_set_self' ] at a b
  cases hx1 : xs[n]? with
  | none => rw [hx1] at a; simp at a
  | some _ =>
   cases hd1 : ds[n]? with
   | none => rw [hd1] at b; simp at b
   | some _ =>
    rw [hx1] at a; rw [hd1] at b
    simp at a b
    subst a b
    exact hx
 ·rw [List.getElem?_set_ne hj] at a b
  exact h.get j y e a b
theorem RepL.map_int (ns : List Int) : RepL K G (ns.map V.int) (ns.map D.int) := by
 refine ⟨by simp, fun j x d a b => ?_⟩
 rw [List.getElem?_map] at a b
 cases h : ns[j]? with
 | none => rw [h] at a; cases a
 | some n => rw [h] at a b; cases a; cases b; exact .int n
end
inductive C where
 | sh (d : D) | ow (l : Bool) (d : D) | fz (es : List (Key × D))
abbrev Env' := List (Option C)
inductive W where
 | val (d : D) | slot (i : Nat) | own (d : D)
structure Bs where
 K : PySem.W.Frag
 H0 : Hp
 HK : Hp
 G0 : Hp
 L : Nat → Option Addr
def Lnt (B : Bs) (i : Nat) : Bool → Addr → Prop
 | true, p => B.L i = some p
 | false, p => B.H0 p = none
def OwnAt (K : PySem.W.Frag) (G H : Hp) (p : Addr) : D → Prop
 | .lst ds => ∃ xs, H p = some (.lst xs) ∧ RepL K G xs ds
 | .dct es => ∃ kvs, H p = some (.dK kvs) ∧ RepKV K G kvs es
 | _ => False
theorem OwnAt.some {K : PySem.W.Frag} {G H : Hp} {p : Addr} {d : D} (h : OwnAt K G H p d) : ∃ o, H p = some o := by
 cases d with
 | lst ds => obtain ⟨xs, e, _⟩ := h; exact ⟨_, e⟩
 | dct es => obtain ⟨xs, e, _⟩ := h; exact ⟨_, e⟩
 | _ => exact (show False from h).elim
theorem OwnAt.same {K : PySem.W.Frag} {G G' H H' : Hp} {p : Addr} {d : D} (s : Same G G') (e : H' p = H p) (h : OwnAt K G H p d) : OwnAt K G' H' p d := by
 cases d with
 | lst ds => obtain ⟨xs, q, r⟩ := h; exact ⟨xs, by rw [e]; exact q, r.same s⟩
 | dct es => obtain ⟨xs, q, r⟩ := h; exact ⟨xs, by rw [e]; exact q, r.same s⟩
 | _ => exact (show False from h).elim
def FZ (K : PySem.W.Frag) (G : Hp) (σ : St) (ρ : Env') : Prop := ∀ (i : Nat) es, ρ[i]? = some (some (.fz es)) → ∃ a o kvs, σ[i]? = some (some (.ref a)) ∧ G a = some (.frz o (.dK kvs)) ∧ RepKV K G kvs es
theorem FZ.same {K : PySem.W.Frag} {G G' : Hp} {σ : St} {ρ : Env'} (h : FZ K G σ ρ) (s : Same G G') : FZ K G' σ ρ := fun i es e => by
 obtain ⟨a, o, kvs, h1, h2, h3⟩ := h i es e
 exact ⟨a, o, kvs, h1, s _ _ h2, h3.same s⟩
theorem FZ.set1 {K : PySem.W.Frag} {G : Hp} {σ : St} {ρ : Env'} {i : Nat} {c : Option C} (h : FZ K G σ ρ) (hc : ∀ es, c ≠ some (.fz es)) : FZ K G σ (ρ.set i c) := fun j es e => by
 by_cases z : i = j
 ·subst z
  rw [List.getElem?_set_self'] at e
  cases q : ρ[i]? with
  | none => rw [q] at e; cases e
  | some c0 => rw [q] at e; exact absurd (Option.some.inj e) (hc es)
 ·rw [List.getElem?_set_ne z] at e; exact h j es e
theorem FZ.set2 {K : PySem.W.Frag} {G : Hp} {σ : St} {ρ : Env'} {i : Nat} {c : Option C} {v : Option V} (h : FZ K G σ ρ) (hc : ∀ es, c ≠ some (.fz es)) : FZ K G (σ.set i v) (ρ.set i c) := fun j es e => by
 by_cases z : i = j
 ·subst z
  rw [List.getElem?_set_self'] at e
  cases q : ρ[i]? with
  | none => rw [q] at e; cases e
  | some c0 => rw [q] at e; exact absurd (Option.some.inj e) (hc es)
 ·rw [List.getElem?_set_ne z] at e ⊢; exact h j es e
structure RS (B : Bs) (G H : Hp) (σ : St) (ρ : Env') : Prop where
 hk : Same B.HK B.H0
 keep : Same B.HK H
 g0 : Same B.G0 G
 gH : Same G H
 gnew : ∀ p o, G p = some o → B.G0 p = some o ∨ B.H0 p = none
 dom : ∀ p, H p = none → B.H0 p = none
 len : σ.length = ρ.length
 sh : ∀ (i : Nat) d, ρ[i]? = some (some (.sh d)) → ∃ v, σ[i]? = some (some v) ∧ Rep B.K G v d
 ow : ∀ (i : Nat) l d, ρ[i]? = some (some (.ow l d)) → ∃ p, σ[i]? = some (some (.ref p)) ∧ G p = none ∧ B.HK p = none ∧ Lnt B i l p ∧ OwnAt B.K G H p d
 inj : ∀ (i j : Nat) l d k e p, ρ[i]? = some (some (.ow l d)) → ρ[j]? = some (some (.ow k e)) → σ[i]? = some (some (.ref p)) → σ[j]? = some (some (.ref p)) → i = j
 fz : FZ B.K G σ ρ
def RepW (B : Bs) (G H : Hp) (σ : St) (ρ : Env') (v : V) : W → Prop
 | .val d => Rep B.K G v d
 | .slot i => σ[i]? = some (some v)
 | .own d => ∃ p, v = .ref p ∧ G p = none ∧ B.H0 p = none ∧ OwnAt B.K G H p d ∧ ∀ (i : Nat) l e, ρ[i]? = some (some (.ow l e)) → σ[i]? ≠ some (some (.ref p))
def RepT (K : PySem.W.Frag) (G H : Hp) (v : V) (d : D) : Prop := Rep K G v d ∨ ∃ p, v = .ref p ∧ OwnAt K G H p d
section
variable {K : PySem.W.Frag} {G H : Hp} {v : V}
theorem RepT.int {i : Int} (h : RepT K G H v (.int i)) : v = .int i := by
 rcases h with h | ⟨p, _, h⟩
 ·cases h; rfl
 ·exact (show False from h).elim
theorem RepT.bl {b : Bool} (h : RepT K G H v (.bl b)) : v = .bl b := by
 rcases h with h | ⟨p, _, h⟩
 ·cases h; rfl
 ·exact (show False from h).elim
theorem RepT.non (h : RepT K G H v .non) : v = .non := by
 rcases h with h | ⟨p, _, h⟩
 ·cases h; rfl
 ·exact (show False from h).elim
theorem RepT.ty {n : String} (h : RepT K G H v (.ty n)) : v = .ty n := by
 rcases h with h | ⟨p, _, h⟩
 ·cases h; rfl
 ·exact (show False from h).elim
theorem RepT.str {cs : List Nat} (h : RepT K G H v (.str cs)) : v = .str (tx cs) := by
 rcases h with h | ⟨p, _, h⟩
 ·cases h; rfl
 ·exact (show False from h).elim
theorem RepT.tup {ds : List D} (g : Same G H) (h : RepT K G H v (.tup ds)) : ∃ a xs, v = .ref a ∧ SqT K H a xs ∧ RepL K G xs ds := by
 rcases h with h | ⟨p, _, h⟩
 ·cases h with
  | tup h hl hr => exact ⟨_, _, rfl, g.tup h, hl, hr⟩
 ·exact (show False from h).elim
theorem RepT.lst {ds : List D} (g : Same G H) (h : RepT K G H v (.lst ds)) : ∃ a xs, v = .ref a ∧ SqL K H a xs ∧ RepL K G xs ds := by
 rcases h with h | ⟨p, rfl, xs, e, r⟩
 ·cases h with
  | lst h hl hr => exact ⟨_, _, rfl, g.seq h, hl, hr⟩
 ·exact ⟨p, xs, rfl, SqL.of e, r⟩
theorem RepT.dct {es : List (Key × D)} (g : Same G H) (h : RepT K G H v (.dct es)) : ∃ a kvs, v = .ref a ∧ Rd H a (.dK kvs) ∧ RepKV K G kvs es := by
 rcases h with h | ⟨p, rfl, xs, e, r⟩
 ·cases h with
  | dct h hk hr => exact ⟨_, _, rfl, L3.Rd.same g h, hk, hr⟩
 ·exact ⟨p, xs, rfl, .inl e, r⟩
end
def getD (w : W) (ρ : Env') : Option D := match w with
 | .val d => some d
 | .own d => some d
 | .slot i => match ρ[i]? with
  | some (some (.sh d)) => some d
  | some (some (.ow _ d)) => some d
  | some (some (.fz es)) => some (.dct es)
  | _ => none
section
variable {B : Bs} {G G' H H' : Hp} {σ : St} {ρ : Env'} {v : V} {w : W} {d : D}
theorem RepW.get (R : RS B G H σ ρ) (h : RepW B G H σ ρ v w) (e : getD w ρ = some d) : RepT B.K G H v d := by
 cases w with
 | val d' => cases e; exact .inl h
 | own d' =>
  cases e
  obtain ⟨p, rfl, _, _, o, _⟩ := h
  exact .inr ⟨p, rfl, o⟩
 | slot i =>
  have h' : σ[i]? = some (some v) := h
  unfold getD at e
  simp only [] at e
  split at e
  ·rename_i d' q
   cases e
   obtain ⟨v', q1, r⟩ := R.sh i _ q
   rw [h'] at q1
   cases q1
   exact .inl r
  ·rename_i l d' q
   cases e
   obtain ⟨p, q1, _, _, _, o⟩ := R.ow i _ _ q
   rw [h'] at q1
   cases q1
   exact .inr ⟨p, rfl, o⟩
  ·rename_i es q
   cases e
   obtain ⟨a, o, kvs, q1, q2, q3⟩ := R.fz i _ q
   rw [h'] at q1
   cases q1
   exact .inl (.dct (.inr ⟨o, q2⟩) q3.keys q3.get)
  ·cases e
theorem RepW.same {ρ' : Env'} (s : Same G G') (h : RepW B G H σ ρ v w) (hw : ∀ d, w ≠ .own d) : RepW B G' H' σ ρ' v w := by
 cases w with
 | val d => exact Rep.same s h
 | slot i => exact h
 | own d => exact absurd rfl (hw d)
theorem RS.frz {p : Addr} {d : D} (R : RS B G H σ ρ) (g : G p = none) (h0 : B.H0 p = none) (o : OwnAt B.K G H p d) (ne : ∀ (i : Nat) l e, ρ[i]? = some (some (.ow l e)) → σ[i]? ≠ some (some (.ref p))) :
  ∃ G', Same G G' ∧ RS B G' H σ ρ ∧ Rep B.K G' (.ref p) d := by
 obtain ⟨ob, hob⟩ := o.some
 have s : Same G (upd G p ob) := same_new g ob
 refine ⟨upd G p ob, s, ⟨R.hk, R.keep, R.g0.trans s, ?_, ?_, R.dom, R.len, ?_, ?_, R.inj, R.fz.same s⟩, ?_⟩
 ·intro b u q
  by_cases e : b = p
  ·subst e; rw [upd_same] at q; cases q; exact hob
  ·rw [upd_ne e] at q; exact R.gH b u q
 ·intro b u q
  by_cases e : b = p
  ·subst e; exact .inr h0
  ·rw [upd_ne e] at q; exact R.gnew b u q
 ·intro i d' q
  obtain ⟨v, q1, r⟩ := R.sh i d' q
  exact ⟨v, q1, r.same s⟩
 ·intro i l d' q
  obtain ⟨p', q1, q2, q3, q4, q5⟩ := R.ow i l d' q
  have e : p' ≠ p := fun z => ne i l d' q (by rw [q1, z])
  exact ⟨p', q1, by rw [upd_ne e]; exact q2, q3, q4, q5.same s rfl⟩
 ·cases d with
  | lst ds =>
   obtain ⟨xs, e, r⟩ := o
   rw [e] at hob
   cases hob
   have r' := r.same s
   exact .lst (SqL.of upd_same) r'.len r'.get
  | dct es =>
   obtain ⟨xs, e, r⟩ := o
   rw [e] at hob
   cases hob
   have r' := r.same s
   exact .dct (.inl upd_same) r'.keys r'.get
  | _ => exact (show False from o).elim
end
structure Exn where
 cls : Str
 fs : List (Str × D)
inductive R' (α : Type) where
 | ok (a : α) (ρ : Env') | ex (x : Exn) (ρ : Env')
abbrev M (α : Type) := Env' → Option (R' α)
def M.pure {α : Type} (a : α) : M α := fun ρ => some (.ok a ρ)
def M.bind {α β : Type} (m : M α) (f : α → M β) : M β := fun ρ => match m ρ with
 | none => none
 | some (.ex x ρ') => some (.ex x ρ')
 | some (.ok a ρ') => f a ρ'
theorem M.bind_ok {α β : Type} {m : M α} {f : α → M β} {ρ ρ' : Env'} {a : α} (h : m ρ = some (.ok a ρ')) : M.bind m f ρ = f a ρ' := by unfold M.bind; rw [h]
theorem M.bind_ex {α β : Type} {m : M α} {f : α → M β} {ρ ρ' : Env'} {x : Exn} (h : m ρ = some (.ex x ρ')) : M.bind m f ρ = some (.ex x ρ') := by unfold M.bind; rw [h]
theorem M.bind_none {α β : Type} {m : M α} {f : α → M β} {ρ : Env'} (h : m ρ = none) : M.bind m f ρ = none := by unfold M.bind; rw [h]
def leak (w : W) : M D := fun ρ => match w with
 | .val d => some (.ok d ρ)
 | .own d => some (.ok d ρ)
 | .slot i => match ρ[i]? with
  | some (some (.sh d)) => some (.ok d ρ)
  | some (some (.ow false d)) => some (.ok d (ρ.set i (some (.sh d))))
  | some (some (.fz es)) => some (.ok (.dct es) ρ)
  | _ => none
theorem leak_ok {w : W} {ρ : Env'} {r : R' D} (h : leak w ρ = some r) : ∃ d ρ', r = .ok d ρ' := by
 unfold leak at h
 cases w with
 | val d => cases h; exact ⟨_, _, rfl⟩
 | own d => cases h; exact ⟨_, _, rfl⟩
 | slot i =>
  simp only [] at h
  split at h
  ·cases h; exact ⟨_, _, rfl⟩
  ·cases h; exact ⟨_, _, rfl⟩
  ·cases h; exact ⟨_, _, rfl⟩
  ·cases h
section
variable {B : Bs} {G G' H H' : Hp} {σ : St} {ρ ρ' : Env'} {v : V} {w : W} {d : D}
theorem RepW.leak (R : RS B G H σ ρ) (h : RepW B G H σ ρ v w) (e : L3.leak w ρ = some (.ok d ρ')) : ∃ G', Same G G' ∧ RS B G' H σ ρ' ∧ Rep B.K G' v d := by
 unfold L3.leak at e
 cases w with
 | val d' => cases e; exact ⟨G, Same.refl G, R, h⟩
 | own d' =>
  cases e
  obtain ⟨p, rfl, g, h0, o, ne⟩ := h
  exact R.frz g h0 o ne
 | slot i =>
  have h' : σ[i]? = some (some v) := h
  simp only [] at e
  split at e
  ·rename_i d' q
   cases e
   obtain ⟨v', q1, r⟩ := R.sh i _ q
   rw [h'] at q1
   cases q1
   exact ⟨G, Same.refl G, R, r⟩
  ·rename_i d' q
   cases e
   obtain ⟨p, q1, q2, q3, q4, o⟩ := R.ow i _ _ q
   have hi : i < ρ.length := (List.getElem?_eq_some_iff.mp q).1
   rw [h'] at q1
   cases q1
   
   have R0 : RS B G H σ (ρ.set i none) := by
    refine ⟨R.hk, R.keep, R.g0, R.gH, R.gnew, R.dom, by simp [R.len], fun j d' q' => ?_, fun j l d' q' => ?_, fun j k l d' l' e' p' a b => ?_, R.fz.set1 (by intro _ h; cases h)⟩
    ·by_cases z : i = j
     ·subst z; rw [List.getElem?_set_self hi] at q'; cases q'
     ·rw [List.getElem?_set_ne z] at q'; exact R.sh j d' q'
    ·by_cases z : i = j
     ·subst z; rw [List.getElem?_set_self hi] at q'; cases q'
     ·rw [List.getElem?_set_ne z] at q'; exact R.ow j l d' q'
    ·by_cases z : i = j
     ·subst z; rw [List.getElem?_set_self hi] at a; cases a
     ·by_cases z' : i = k
      ·subst z'; rw [List.getElem?_set_self hi] at b; cases b
      ·rw [List.getElem?_set_ne z] at a
       rw [List.getElem?_set_ne z'] at b
       exact R.inj j k l d' l' e' p' a b
   obtain ⟨G', s, R', r⟩ := R0.frz q2 q4 o fun j l e' q' z => by
    by_cases zz : i = j
    ·subst zz; rw [List.getElem?_set_self hi] at q'; cases q'
    ·rw [List.getElem?_set_ne zz] at q'
     exact zz (R.inj i j _ _ _ _ p q q' h' z)
   refine ⟨G', s, ⟨R'.hk, R'.keep, R'.g0, R'.gH, R'.gnew, R'.dom, by simp [R.len], fun j d' q' => ?_, fun j l d' q' => ?_, fun j k l d' l' e' p' a b => ?_, (R.fz.same s).set1 (by intro _ h; cases h)⟩, r⟩
   ·by_cases z : i = j
    ·subst z
     rw [List.getElem?_set_self hi] at q'
     cases q'
     exact ⟨_, h', r⟩
    ·rw [List.getElem?_set_ne z] at q'
     exact R'.sh j d' (by rw [List.getElem?_set_ne z]; exact q')
   ·by_cases z : i = j
    ·subst z; rw [List.getElem?_set_self hi] at q'; cases q'
    ·rw [List.getElem?_set_ne z] at q'
     exact R'.ow j l d' (by rw [List.getElem?_set_ne z]; exact q')
   ·by_cases z : i = j
    ·subst z; rw [List.getElem?_set_self hi] at a; cases a
    ·by_cases z' : i = k
     ·subst z'; rw [List.getElem?_set_self hi] at b; cases b
     ·rw [List.getElem?_set_ne z] at a
      rw [List.getElem?_set_ne z'] at b
      exact R.inj j k l d' l' e' p' a b
  ·rename_i es q
   cases e
   obtain ⟨a, o, kvs, q1, q2, q3⟩ := R.fz i _ q
   rw [h'] at q1
   cases q1
   exact ⟨G, Same.refl G, R, .dct (.inr ⟨o, q2⟩) q3.keys q3.get⟩
  ·cases e
theorem RS.newTup {p : Addr} {xs : List V} {ds : List D} (R : RS B G H σ ρ) (hp : H p = none) (r : RepL B.K G xs ds) : ∃ G', Same G G' ∧ RS B G' (upd H p (.tup xs)) σ ρ ∧ Rep B.K G' (.ref p) (.tup ds) := by
 have g : G p = none := R.gH.free hp
 have s : Same G (upd G p (.tup xs)) := same_new g _
 have sH : Same H (upd H p (.tup xs)) := same_new hp _
 refine ⟨upd G p (.tup xs), s, ⟨R.hk, R.keep.trans sH, R.g0.trans s, ?_, ?_, ?_, R.len, ?_, ?_, R.inj, R.fz.same s⟩, .tup (SqT.of upd_same) r.len fun j x d a b => (r.get j x d a b).same s⟩
 ·intro b u q
  by_cases e : b = p
  ·subst e; rw [upd_same] at q ⊢; exact q
  ·rw [upd_ne e] at q ⊢; exact R.gH b u q
 ·intro b u q
  by_cases e : b = p
  ·subst e; exact .inr (R.dom _ hp)
  ·rw [upd_ne e] at q; exact R.gnew b u q
 ·intro b q
  by_cases e : b = p
  ·subst e; exact R.dom _ hp
  ·rw [upd_ne e] at q; exact R.dom b q
 ·intro i d' q
  obtain ⟨v, q1, q2⟩ := R.sh i d' q
  exact ⟨v, q1, q2.same s⟩
 ·intro i l d' q
  obtain ⟨p', q1, q2, q3, q4, q5⟩ := R.ow i l d' q
  obtain ⟨ob, hob⟩ := q5.some
  have e : p' ≠ p := ne_of_none hob hp
  exact ⟨p', q1, by rw [upd_ne e]; exact q2, q3, q4, q5.same s (upd_ne e)⟩
theorem RS.heap {p : Addr} {o : HO} (R : RS B G H σ ρ) (hp : H p = none) : RS B G (upd H p o) σ ρ := by
 have sH : Same H (upd H p o) := same_new hp _
 refine ⟨R.hk, R.keep.trans sH, R.g0, R.gH.trans sH, R.gnew, ?_, R.len, R.sh, ?_, R.inj, R.fz⟩
 ·intro b q
  by_cases e : b = p
  ·subst e; exact R.dom _ hp
  ·rw [upd_ne e] at q; exact R.dom b q
 ·intro i l d' q
  obtain ⟨p', q1, q2, q3, q4, q5⟩ := R.ow i l d' q
  obtain ⟨ob, hob⟩ := q5.some
  have e : p' ≠ p := ne_of_none hob hp
  exact ⟨p', q1, q2, q3, q4, q5.same (Same.refl G) (upd_ne e)⟩
theorem RS.newOwn {p : Addr} {o : HO} (R : RS B G H σ ρ) (hp : H p = none) (h : OwnAt B.K G (upd H p o) p d) : RS B G (upd H p o) σ ρ ∧ RepW B G (upd H p o) σ ρ (.ref p) (.own d) := by
 refine ⟨R.heap hp, p, rfl, R.gH.free hp, R.dom _ hp, h, fun i l e q z => ?_⟩
 obtain ⟨p', q1, q2, q3, q4, q5⟩ := R.ow i l e q
 obtain ⟨ob, hob⟩ := q5.some
 rw [q1] at z
 cases z
 rw [hp] at hob
 cases hob
theorem RS.newLst {p : Addr} {xs : List V} {ds : List D} (R : RS B G H σ ρ) (hp : H p = none) (r : RepL B.K G xs ds) : RS B G (upd H p (.lst xs)) σ ρ ∧ RepW B G (upd H p (.lst xs)) σ ρ (.ref p) (.own (.lst ds)) :=
 R.newOwn hp ⟨xs, upd_same, r⟩
theorem RS.write {i : Nat} {l : Bool} {p : Addr} {d' : D} {o : HO} (R : RS B G H σ ρ) (hi : ρ[i]? = some (some (.ow l d))) (hs : σ[i]? = some (some (.ref p))) (h : OwnAt B.K G (upd H p o) p d') :
  RS B G (upd H p o) σ (ρ.set i (some (.ow l d'))) := by
 obtain ⟨p0, q1, q2, q3, q4, q5⟩ := R.ow i l d hi
 rw [hs] at q1
 cases q1
 have hil : i < ρ.length := (List.getElem?_eq_some_iff.mp hi).1
 refine ⟨R.hk, fun b u q => ?_, R.g0, fun b u q => ?_, R.gnew, fun b q => ?_, by simp [R.len], fun j e q => ?_, fun j k e q => ?_, fun j k a b c e p' x y => ?_, R.fz.set1 (by intro _ h; cases h)⟩
 ·rw [upd_ne (ne_of_none q q3)]; exact R.keep b u q
 ·rw [upd_ne (ne_of_none q q2)]; exact R.gH b u q
 ·by_cases z : b = p
  ·subst z; rw [upd_same] at q; cases q
  ·rw [upd_ne z] at q; exact R.dom b q
 ·by_cases z : i = j
  ·subst z; rw [List.getElem?_set_self hil] at q; cases q
  ·rw [List.getElem?_set_ne z] at q; exact R.sh j e q
 ·by_cases z : i = j
  ·subst z
   rw [List.getElem?_set_self hil] at q
   cases q
   exact ⟨p, hs, q2, q3, q4, h⟩
  ·rw [List.getElem?_set_ne z] at q
   obtain ⟨p', a1, a2, a3, a4, a5⟩ := R.ow j k e q
   have e' : p' ≠ p := fun zz => z (R.inj i j _ _ _ _ p hi q hs (by rw [a1, zz]))
   exact ⟨p', a1, a2, a3, a4, a5.same (Same.refl G) (upd_ne e')⟩
 ·by_cases z : i = j
  ·by_cases z' : i = k
   ·intro _ _; omega
   ·subst z
    rw [List.getElem?_set_ne z'] at y
    intro a1 a2
    exact R.inj i k l d c e p' hi y a1 a2
  ·by_cases z' : i = k
   ·subst z'
    rw [List.getElem?_set_ne z] at x
    intro a1 a2
    exact R.inj j i a b l d p' x hi a1 a2
   ·rw [List.getElem?_set_ne z] at x
    rw [List.getElem?_set_ne z'] at y
    exact R.inj j k a b c e p' x y
end
end L3
set_option Elab.async false
set_option linter.all false
set_option maxRecDepth 100000
set_option maxHeartbeats 4000000
namespace L3
open PySem PySem.Spec PyProof.Rows L2
structure KeptE (fs xs : List Addr) (h h' : Heap) : Prop where
 keep : ∀ b o, h.get? b = some o → b ∉ fs → b ∉ xs → h'.get? b = some o
 slot : ∀ b o, h.get? b = some o → b ∉ xs → ∃ sl, h'.get? b = some { o with slots := sl }
 there : ∀ b o, h.get? b = some o → ∃ o', h'.get? b = some o'
theorem KeptE.refl (fs xs : List Addr) (h : Heap) : KeptE fs xs h h := ⟨fun _ _ e _ _ => e, fun _ o e _ => ⟨o.slots, e⟩, fun _ o e => ⟨o, e⟩⟩
theorem KeptE.trans {fs xs ys : List Addr} {h h1 h2 : Heap} (a : KeptE fs xs h h1) (b : KeptE fs ys h1 h2) (hy : ∀ y ∈ ys, y ∈ xs ∨ h.get? y = none) : KeptE fs xs h h2 where
 keep c o e nf nx := b.keep c o (a.keep c o e nf nx) nf fun m => by
  rcases hy c m with m | m
  ·exact nx m
  ·rw [e] at m; cases m
 slot c o e nx := by
  obtain ⟨sl, e1⟩ := a.slot c o e nx
  obtain ⟨sl2, e2⟩ := b.slot c _ e1 fun m => by
   rcases hy c m with m | m
   ·exact nx m
   ·rw [e] at m; cases m
  exact ⟨sl2, e2⟩
 there c o e := by
  obtain ⟨o1, e1⟩ := a.there c o e
  exact b.there c o1 e1
def TrD (h : Heap) (e T : Addr) (cls : Value) (dct : Option Addr) (fl : Value) : Prop :=
 ∃ oe vs oT ts, h.get? e = some oe ∧ oe.cls = cls ∧ oe.dict = dct ∧ oe.data = .fields vs ∧ vs[1]? = some (.ref T) ∧ T ≠ e ∧ h.get? T = some oT ∧ oT.data = .fields ts ∧ ts[3]? = some fl
theorem dict_mapFields (f : Array Value → Array Value) (o : Obj) : (Obj.mapFields f o).dict = o.dict := by
 obtain ⟨c, d, dt, sl⟩ := o
 cases dt <;> rfl
section
variable {M : Model} {A : Around} {E : Value → Shared → Prop} {s : Shared} {base : Heap} {env : Env} {outer : List Env} {L e T : Addr} {oe : Obj} {vs : Array Value} {cls fl : Value} {dct : Option Addr} {Q : Unit → Shared → Prop}
theorem entryD {head : Value} {hadNext : Bool} (hfr : A.frames = some (env :: outer)) (hl : s.heap.FunFrames base (env :: outer)) (hf : env.frame = some L) (he : s.heap.get? e = some oe) (hd : oe.data = .fields vs) (hsz : 1 < vs.size)
  (h : ∀ h' T', KeptE (frs (env :: outer)) [e] s.heap h' → s.heap.get? T' = none → TrD h' e T' oe.cls oe.dict (rawInt L) → Q () { s with heap := h' }) :
  wpAny M A (do let a ← frameOf env; let pl ← entryPlaceOf L hadNext; let b ← EntryCells.newEntry head a .none (rawInt L) .none pl; setField (.ref e) 1 b) Q E s := by
 have hne : e ∉ (env :: outer).filterMap (·.frame) := fun hm => by
  obtain ⟨_, o, ho, hnf⟩ := hl.mem hm
  rw [he] at ho
  cases ho
  exact hnf vs hd
 refine wpAny_bind (wpAny_frameOf_fun hfr hl hf fun h₁ hs => ?_)
 refine wpAny_bind (wpAny_entryPlaceOf fun pl hpl => ?_)
 unfold EntryCells.newEntry newFields
 refine wpAny_bind (wpAny_newObj_type ?_ (hpl.sizeOk5 _ _ _ _ _))
 have he₁ : h₁.get? e = some oe := (hs.2.1 e hne).trans he
 generalize hO : ({ cls := .type "traceback", dict := none, data := .fields ([head, .ref L, .none, rawInt L, .none] ++ (if pl.isEmpty then List.replicate 6 Value.none else pl)).toArray } : Obj) = O
 have hOf : O.data = .fields ([head, .ref L, .none, rawInt L, .none] ++ (if pl.isEmpty then List.replicate 6 Value.none else pl)).toArray := by rw [← hO]
 have hOn : O.isFreed = false := by rw [← hO]; rfl
 have he₂ := Heap.get?_push_of_some (h := h₁) O he₁
 have hne2 : h₁.objs.size ≠ e := Nat.ne_of_gt (Heap.lt_size he₁)
 refine wpAny_setField he₂ hd hsz (h _ h₁.objs.size ?_ ?_ ?_)
 ·have keep : ∀ b o, b ≠ e → h₁.get? b = some o → ((h₁.push O).update e (Obj.mapFields (·.setIfInBounds 1 (Value.ref h₁.objs.size)))).get? b = some o := fun b o hb eb => by
   rw [Heap.get?_update_other _ _ (Ne.symm hb)]
   exact Heap.get?_push_of_some _ eb
  refine ⟨fun b o eb nf nx => keep b o (fun q => nx (by simp [q])) ((hs.2.1 b nf).trans eb), fun b o eb nx => ?_, fun b o eb => ?_⟩
  ·obtain ⟨sl, e1⟩ := hs.2.2 b o eb
   exact ⟨sl, keep b _ (fun q => nx (by simp [q])) e1⟩
  ·by_cases q : b = e
   ·subst q
    exact ⟨_, Heap.get?_update_self _ he₂ (Obj.isFreed_of_fields (Obj.data_mapFields hd _))⟩
   ·obtain ⟨sl, e1⟩ := hs.2.2 b o eb
    exact ⟨_, keep b _ q e1⟩
 ·exact Heap.get?_none_of_le (by rw [hs.1]; exact Nat.le_refl _)
 ·have hT := (Heap.get?_update_other (h₁.push O) (Obj.mapFields (·.setIfInBounds 1 (Value.ref h₁.objs.size))) (Ne.symm hne2)).trans (Heap.get?_push_size h₁ hOn)
  refine ⟨_, _, O, _, Heap.get?_update_self _ he₂ (Obj.isFreed_of_fields (Obj.data_mapFields hd _)), Obj.cls_mapFields _ _, dict_mapFields _ _, Obj.data_mapFields hd _, by simp [hsz], hne2, hT, hOf, by simp⟩
theorem kept_set {fs : List Addr} {h : Heap} {T : Addr} {oT : Obj} {ts : Array Value} (hT : h.get? T = some oT) (hd : oT.data = .fields ts) (i : Nat) (v : Value) : KeptE fs [T] h (h.update T (Obj.mapFields (·.setIfInBounds i v))) := by
 have other : ∀ b, b ≠ T → (h.update T (Obj.mapFields (·.setIfInBounds i v))).get? b = h.get? b := fun b hb => Heap.get?_update_other _ _ (Ne.symm hb)
 refine ⟨fun b o eb _ nx => (other b fun q => nx (by simp [q])).trans eb, fun b o eb nx => ⟨o.slots, (other b fun q => nx (by simp [q])).trans eb⟩, fun b o eb => ?_⟩
 by_cases q : b = T
 ·subst q
  exact ⟨_, Heap.get?_update_self _ hT (Obj.isFreed_of_fields (Obj.data_mapFields hd _))⟩
 ·exact ⟨o, (other b q).trans eb⟩
theorem funFrames_kept {l : List Env} {fs xs : List Addr} {h h' : Heap} (hl : h.FunFrames base l) (k : KeptE fs xs h h') (hx : ∀ x ∈ xs, ∀ o, h.get? x = some o → ∃ vs, o.data = .fields vs) : h'.FunFrames base l :=
 hl.of_keeps fun b o eb hnf => by
  obtain ⟨sl, e1⟩ := k.slot b o eb fun m => by
   obtain ⟨vs, q⟩ := hx b m o eb
   exact hnf vs q
  exact ⟨_, e1, rfl⟩
theorem note_first (hfr : A.frames = some (env :: outer)) (hl : s.heap.FunFrames base (env :: outer)) (hf : env.frame = some L) (he : s.heap.get? e = some oe) (hd : oe.data = .fields vs) (h1 : vs[1]? = some .none)
  (h : ∀ h' T', KeptE (frs (env :: outer)) [e] s.heap h' → s.heap.get? T' = none → TrD h' e T' oe.cls oe.dict (rawInt L) → Q () { s with heap := h' }) : wpAny M A (noteFrame (.ref e) env) Q E s := by
 unfold noteFrame
 simp only [hf]
 refine wpAny_bind (wpAny_field he hd h1 ?_)
 rw [if_neg (by decide)]
 exact entryD hfr hl hf he hd (Array.getElem?_eq_some_iff.mp h1).1 h
theorem note_next (hfr : A.frames = some (env :: outer)) (hl : s.heap.FunFrames base (env :: outer)) (hf : env.frame = some L) (ht : TrD s.heap e T cls dct .none)
  (h : ∀ h' T', KeptE (frs (env :: outer)) [e, T] s.heap h' → s.heap.get? T' = none → TrD h' e T' cls dct (rawInt L) → Q () { s with heap := h' }) : wpAny M A (noteFrame (.ref e) env) Q E s := by
 obtain ⟨oe, vs, oT, ts, he, hc, hdc, hd, h1, hTe, hT, hdT, h3⟩ := ht
 subst hc hdc
 unfold noteFrame
 simp only [hf]
 refine wpAny_bind (wpAny_field he hd h1 ?_)
 rw [if_pos (show (Value.ref T != Value.none) = true from by simp)]
 refine wpAny_bind (wpAny_field hT hdT h3 ?_)
 rw [if_neg (show ¬ ((Value.none == rawInt L) = true) from by simp [rawInt])]
 refine wpAny_bind (wpAny_setField hT hdT (Array.getElem?_eq_some_iff.mp h3).1 ?_)
 have k := kept_set (fs := frs (env :: outer)) hT hdT 3 Value.none
 have he' := (Heap.get?_update_other (h := s.heap) (Obj.mapFields (·.setIfInBounds 3 Value.none)) hTe).trans he
 refine entryD (base := base) hfr (funFrames_kept hl k fun x hx o ho => ?_) hf he' hd (Array.getElem?_eq_some_iff.mp h1).1 fun h' T' k2 n2 t2 => h h' T' ⟨?_, ?_, ?_⟩ ?_ t2
 ·rw [List.mem_singleton] at hx
  subst hx
  rw [hT] at ho
  cases ho
  exact ⟨ts, hdT⟩
 ·intro b o eb nf nx
  simp at nx
  exact k2.keep b o (k.keep b o eb nf (by simpa using nx.2)) nf (by simpa using nx.1)
 ·intro b o eb nx
  simp at nx
  obtain ⟨sl, e1⟩ := k.slot b o eb (by simpa using nx.2)
  obtain ⟨sl2, e2⟩ := k2.slot b { o with slots := sl } e1 (by simpa using nx.1)
  exact ⟨sl2, e2⟩
 ·intro b o eb
  obtain ⟨o1, e1⟩ := k.there b o eb
  exact k2.there b o1 e1
 ·cases q : s.heap.get? T' with
  | none => rfl
  | some o =>
   obtain ⟨o1, e1⟩ := k.there T' o q
   rw [n2] at e1
   cases e1
theorem flightD {f : Option Addr} (ht : TrD s.heap e T cls dct fl) (h : ∀ h', KeptE [] [T] s.heap h' → TrD h' e T cls dct (f.elim Value.none fun a => rawInt a) → Q () { s with heap := h' }) : wpAny M A (setFlight (.ref e) f) Q E s := by
 obtain ⟨oe, vs, oT, ts, he, hc, hdc, hd, h1, hTe, hT, hdT, h3⟩ := ht
 have hsz : 3 < ts.size := (Array.getElem?_eq_some_iff.mp h3).1
 unfold setFlight
 refine wpAny_bind (wpAny_field he hd h1 ?_)
 rw [if_pos (show (Value.ref T != Value.none) = true from by simp)]
 refine wpAny_setField hT hdT hsz (h _ (kept_set hT hdT 3 _) ?_)
 exact ⟨oe, vs, _, _, (Heap.get?_update_other _ _ hTe).trans he, hc, hdc, hd, h1, hTe, Heap.get?_update_self _ hT (Obj.isFreed_of_fields (Obj.data_mapFields hdT _)), Obj.data_mapFields hdT _, by simp [hsz]⟩
theorem note_again (hf : env.frame = some L) (ht : TrD s.heap e T cls dct (rawInt L)) (h : Q () s) : wpAny M A (noteFrame (.ref e) env) Q E s := by
 obtain ⟨oe, vs, oT, ts, he, hc, hdc, hd, h1, hTe, hT, hdT, h3⟩ := ht
 unfold noteFrame
 simp only [hf]
 refine wpAny_bind (wpAny_field he hd h1 ?_)
 rw [if_pos (show (Value.ref T != Value.none) = true from by simp)]
 refine wpAny_bind (wpAny_field hT hdT h3 ?_)
 rw [if_pos (show (rawInt L == rawInt L) = true from by simp)]
 exact wpAny_pure h
end
structure Off (X : Cx) (H : Hp) (a : Addr) : Prop where
 new : X.s₀.heap.get? a = none
 free : H a = none
 loc : a ≠ X.env.locals
 cell : ∀ x c, X.env.cells.lookup x = some c → c ≠ a
section
variable {X : Cx} {pins : List (Addr × Obj)} {σ : St} {H : Hp} {s : Shared} {h' : Heap} {xs : List Addr}
theorem ns_slots {h h' : Heap} {a : Addr} {m : Str → Option Value} (n : h.Ns a m) (k : ∀ o, h.get? a = some o → ∃ sl, h'.get? a = some { o with slots := sl }) : h'.Ns a m := by
 obtain ⟨o, es, ep, e, d, sk, f⟩ := n
 obtain ⟨sl, e'⟩ := k o e
 exact ⟨_, es, ep, e', d, sk, f⟩
theorem cell_slots {h h' : Heap} {c : Addr} {v : Option Value} (n : h.IsCell c v) (k : ∀ o, h.get? c = some o → ∃ sl, h'.get? c = some { o with slots := sl }) : h'.IsCell c v := by
 obtain ⟨o, e, d⟩ := n
 obtain ⟨sl, e'⟩ := k o e
 exact ⟨_, e', d⟩
theorem _root_.L2.Inv.flown (I : Inv X [] σ H s) (hp : X.pn = []) (k : KeptE (X.env.locals :: X.fs) xs s.heap h') (hx : ∀ a ∈ xs, Off X H a) : Inv X [] σ H { s with heap := h' } := by
 have xold : ∀ b o, X.s₀.heap.get? b = some o → b ∉ xs := fun b o e m => by rw [(hx b m).new] at e; cases e
 have lold : ∀ b o, X.s₀.heap.get? b = some o → b ≠ X.env.locals := fun b o e z => absurd (Nat.lt_of_lt_of_le (Heap.lt_size e) I.ok.above) (by rw [z]; exact Nat.lt_irrefl _)
 have ffree : ∀ b ∈ X.fs, H b = none := fun b hb => by
  obtain ⟨_, o, ho, _⟩ := I.ok.funs.mem hb
  exact I.base.free b o ho (I.ok.frf b hb) fun z => I.ok.exfs b z hb
 have cs : ∀ x c, X.env.cells.lookup x = some c → ∀ o, s.heap.get? c = some o → ∃ sl, h'.get? c = some { o with slots := sl } := fun x c e o eo => k.slot c o eo fun m => (hx c m).cell x c e rfl
 refine ⟨I.ok, I.os, I.bare, ⟨fun b o e n nf nx => ?_, fun b o e n nf nx => ?_, I.base.free, fun b o e nx => ?_, I.base.tups, I.base.frzs, I.base.tbls⟩, ?_, fun x c e => ?_, I.free, I.freeC, ?_, fun a o e => ?_, I.len⟩
 ·exact k.keep b o (I.base.keep b o e n nf nx) (fun m => (List.mem_cons.mp m).elim (lold b o e) nf) (xold b o e)
 ·obtain ⟨sl, e1⟩ := I.base.slot b o e n nf nx
  obtain ⟨sl2, e2⟩ := k.slot b _ e1 (xold b o e)
  exact ⟨sl2, e2⟩
 ·obtain ⟨o1, e1⟩ := I.base.there b o e nx
  exact k.there b o1 e1
 ·obtain ⟨m, n, l⟩ := I.loc
  refine ⟨m, ns_slots n fun o e => k.slot _ o e fun z => (hx _ z).loc rfl, fun i x v e1 e2 e3 => ?_⟩
  obtain ⟨u, r, lk⟩ := l i x v e1 e2 e3
  refine ⟨u, r, lk.imp id fun ⟨q, c, ec, ic⟩ => ⟨q, c, ec, cell_slots ic (cs x c ec)⟩⟩
 ·obtain ⟨v, ic⟩ := I.cell x c e
  exact ⟨v, cell_slots ic (cs x c e)⟩
 ·intro p hp'
  rw [hp] at hp'
  cases hp'
 ·refine (I.hok a o e).stay (fun c v hc q => k.keep c v q (fun m => ?_) fun m => ?_) (fun _ q => q) fun _ _ q => q
  ·have hn : H c = none := by
    rcases List.mem_cons.mp m with z | z
    ·rw [z]; exact I.free
    ·exact ffree c z
   rcases hc with z | z
   ·rw [z, e] at hn; cases hn
   ·rw [z] at hn; cases hn
  ·have hn := (hx c m).free
   rcases hc with z | z
   ·rw [z, e] at hn; cases hn
   ·rw [z] at hn; cases hn
def ExnIs (K : PySem.W.Frag) (H : Hp) (x : Exn) (cls : Value) (dct : Option Addr) : Prop := ∃ C, cls = .ref C ∧ PySem.W.nsIn K mainGlobals x.cls = some (some (.ref C)) ∧ x.fs = [] ∧ dct = none
def FlyD (X : Cx) (H : Hp) (a : Addr) (cls : Value) (dct : Option Addr) (h : Heap) : Prop :=
 (∃ oe vs, h.get? a = some oe ∧ oe.cls = cls ∧ oe.dict = dct ∧ oe.data = .fields vs ∧ vs[1]? = some .none) ∨ ∃ T fl, TrD h a T cls dct fl ∧ Off X H T ∧ (fl = .none ∨ fl = rawInt X.env.locals)
structure OwnFr (X : Cx) : Prop where
 pn : X.pn = []
 ex : X.ex = []
 stk : X.stack = X.env :: X.outer
 fr : X.env.frame = some X.env.locals
theorem there_of (I : Inv X pins σ H s) {a : Addr} {o : HO} (e : H a = some o) : ∃ ob, s.heap.get? a = some ob := by
 have x := I.hok a o e
 generalize s.heap = h at x
 cases o with
 | lst xs => obtain ⟨_, _, _, _, e⟩ := x; exact ⟨_, e⟩
 | tup xs => obtain ⟨_, _, _, ob, e, _⟩ := x; exact ⟨_, e⟩
 | dK kvs => obtain ⟨_, _, _, _, o, _, _, e, _⟩ := x; exact ⟨_, e⟩
 | dT kvs => obtain ⟨_, _, _, _, o, _, _, e, _⟩ := x; exact ⟨_, e⟩
 | set S n => obtain ⟨o, _, _, _, e, _⟩ := x; exact ⟨_, e⟩
 | ins C dx fs => obtain ⟨_, _, _, e, _⟩ := x; exact ⟨_, e⟩
 | own y => exact x
 | xd fs => obtain ⟨_, ⟨_, _, _, e, _⟩, _⟩ := x; exact ⟨_, e⟩
 | rng lo hi => obtain ⟨_, _, _, e⟩ := x; exact ⟨_, e⟩
 | frz ob u => obtain ⟨e, _⟩ := x; exact ⟨_, e⟩
 | tbl ps => exact ⟨_, show h.get? a = some _ from x⟩
 | met f y => exact ⟨_, show h.get? a = some _ from x⟩
 | ext φ => obtain ⟨_, e, _⟩ := x; exact e
theorem off_new (I : Inv X [] σ H s) (F : OwnFr X) {T : Addr} (e : s.heap.get? T = none) : Off X H T := by
 refine ⟨?_, ?_, fun z => ?_, fun x c ec z => ?_⟩
 ·cases q : X.s₀.heap.get? T with
  | none => rfl
  | some o =>
   obtain ⟨o', e'⟩ := I.base.there T o q (by rw [F.ex]; simp)
   rw [e] at e'
   cases e'
 ·cases q : H T with
  | none => rfl
  | some o =>
   obtain ⟨ob, e'⟩ := there_of I q
   rw [e] at e'
   cases e'
 ·obtain ⟨m, ⟨o, _, _, e', _⟩, _⟩ := I.loc
  rw [z, e'] at e
  cases e
 ·obtain ⟨v, o, e', _⟩ := I.cell x c ec
  rw [z, e] at e'
  cases e'
section
variable {M : Model} {E : Value → Shared → Prop} {Q : Unit → Shared → Prop} {a : Addr} {cls : Value} {dct : Option Addr}
theorem kept_more {fs : List Addr} {h h' : Heap} (k : KeptE [] xs h h') : KeptE fs xs h h' := ⟨fun b o e _ nx => k.keep b o e (by simp) nx, k.slot, k.there⟩
theorem noted (I : Inv X [] σ H s) (F : OwnFr X) (oa : Off X H a) (fl : FlyD X H a cls dct s.heap) (h : ∀ h' T, Inv X [] σ H { s with heap := h' } → TrD h' a T cls dct (rawInt X.env.locals) → Off X H T → Q () { s with heap := h' }) : wpAny M X.A (noteFrame (.ref a) X.env) Q E s := by
 have hfr : X.A.frames = some (X.env :: X.outer) := by rw [← F.stk]; exact I.ok.frames
 have hl : s.heap.FunFrames X.base (X.env :: X.outer) := by rw [← F.stk]; exact I.stack
 have efr : frs (X.env :: X.outer) = X.env.locals :: X.fs := by
  show List.filterMap _ _ = _
  rw [List.filterMap_cons, F.fr]
  rfl
 rcases fl with ⟨oe, vs, e, rfl, rfl, d, h1⟩ | ⟨T, fl, t, oT, rfl | rfl⟩
 ·refine note_first hfr hl F.fr e d h1 fun h' T' k n t => ?_
  rw [efr] at k
  exact h h' T' (I.flown F.pn k fun b hb => by rw [List.mem_singleton.mp hb]; exact oa) t (off_new I F n)
 ·refine note_next hfr hl F.fr t fun h' T' k n t' => ?_
  rw [efr] at k
  exact h h' T' (I.flown F.pn k fun b hb => by
   rcases List.mem_cons.mp hb with z | z
   ·rw [z]; exact oa
   ·rw [List.mem_singleton.mp z]; exact oT) t' (off_new I F n)
 ·exact note_again F.fr t (h s.heap T I t oT)
theorem marked (f : Option Addr) (I : Inv X [] σ H s) (F : OwnFr X) {T : Addr} {fl : Value} (t : TrD s.heap a T cls dct fl) (oT : Off X H T) (h : ∀ h', Inv X [] σ H { s with heap := h' } → TrD h' a T cls dct (f.elim Value.none fun b => rawInt b) → Q () { s with heap := h' }) : wpAny M X.A (setFlight (.ref a) f) Q E s :=
 flightD t fun h' k t' => h h' (I.flown F.pn (kept_more k) fun b hb => by rw [List.mem_singleton.mp hb]; exact oT) t'
end
end
end L3
set_option Elab.async false
set_option linter.all false
set_option maxRecDepth 100000
set_option maxHeartbeats 4000000
namespace L3
open PySem PySem.Spec PyProof.Rows L2
abbrev XP := Exn → St → Hp → Prop
def ExcAt (X : Cx) (x : Exn) (e : Value) (H : Hp) (s : Shared) : Prop := ∃ a cls dct, e = .ref a ∧ ExnIs X.K H x cls dct ∧ Off X H a ∧ FlyD X H a cls dct s.heap ∧ OwnFr X
def XE (X : Cx) (ξ : XP) : Value → Shared → Prop := fun e s' => ∃ x pins σ H, Inv X pins σ H s' ∧ ExcAt X x e H s' ∧ ξ x σ H
abbrev rz (X : Cx) (ξ : XP) : Cx := X.wish (XE X ξ)
abbrev Rel (α β : Type) := Bs → Hp → Hp → St → Env' → β → α → Prop
def relW : Rel W V := fun B G H σ ρ v w => RepW B G H σ ρ v w
def relB : Rel Bool Bool := fun _ _ _ _ _ v b => v = b
def stb : W → Bool
 | .own _ => false
 | _ => true
def relWs : Rel (List W) (List V) := fun B G H σ ρ vs ws => Paired (fun v w => RepW B G H σ ρ v w ∧ stb w = true) vs ws
section
variable {α β α' β' : Type} {rel : Rel α β} {rel' : Rel α' β'} {B : Bs} {ξ : XP} {G H : Hp} {σ : St} {ρ : Env'}
def Post (rel : Rel α β) (B : Bs) (ξ : XP) (G : Hp) (σ : St) (Q : β → Hp → Prop) : R' α → Prop
 | .ok w ρ' => ∀ v G' H', Same G G' → RS B G' H' σ ρ' → rel B G' H' σ ρ' v w → Q v H'
 | .ex x ρ' => ∀ G' H', Same G G' → RS B G' H' σ ρ' → ξ x σ H'
def TDat (rel : Rel α β) (B : Bs) (ξ : XP) (G : Hp) (ρ : Env') (m : M α) (σ : St) (Q : β → Hp → Prop) : Prop := ∃ r, m ρ = some r ∧ Post rel B ξ G σ Q r
def TD (rel : Rel α β) (B : Bs) (ξ : XP) (m : M α) : St → Hp → (β → Hp → Prop) → Prop := fun σ H Q => ∃ G ρ, RS B G H σ ρ ∧ TDat rel B ξ G ρ m σ Q
theorem Post.same {Q : β → Hp → Prop} {r : R' α} {G' : Hp} (s : Same G G') (h : Post rel B ξ G σ Q r) : Post rel B ξ G' σ Q r := by
 cases r with
 | ok w ρ' => exact fun v G2 H2 s2 => h v G2 H2 (s.trans s2)
 | ex x ρ' => exact fun G2 H2 s2 => h G2 H2 (s.trans s2)
theorem TDat.mono {m : M α} {Q Q' : β → Hp → Prop} (h : ∀ v H, Q v H → Q' v H) (t : TDat rel B ξ G ρ m σ Q) : TDat rel B ξ G ρ m σ Q' := by
 obtain ⟨r, e, p⟩ := t
 refine ⟨r, e, ?_⟩
 cases r with
 | ok w ρ' => exact fun v G' H' s R q => h v H' (p v G' H' s R q)
 | ex x ρ' => exact p
theorem TD.mono {m : M α} {Q Q' : β → Hp → Prop} (h : ∀ v H, Q v H → Q' v H) (t : TD rel B ξ m σ H Q) : TD rel B ξ m σ H Q' := by
 obtain ⟨G, ρ, R, t⟩ := t
 exact ⟨G, ρ, R, t.mono h⟩
theorem TD.bind {m : M α} {f : α → M α'} {Q : β' → Hp → Prop} (R : RS B G H σ ρ) (t : TDat rel' B ξ G ρ (M.bind m f) σ Q) :
  TD rel B ξ m σ H (fun v H1 => ∃ G1 ρ1 a, Same G G1 ∧ RS B G1 H1 σ ρ1 ∧ rel B G1 H1 σ ρ1 v a ∧ TDat rel' B ξ G1 ρ1 (f a) σ Q) := by
 obtain ⟨r, e, p⟩ := t
 cases hm : m ρ with
 | none => rw [M.bind_none hm] at e; cases e
 | some r1 =>
  cases r1 with
  | ex x ρ1 =>
   rw [M.bind_ex hm] at e
   cases e
   exact ⟨G, ρ, R, _, hm, p⟩
  | ok a ρ1 =>
   rw [M.bind_ok hm] at e
   exact ⟨G, ρ, R, _, hm, fun v G1 H1 s R1 q => ⟨G1, ρ1, a, s, R1, q, r, e, p.same s⟩⟩
theorem TD.bindE {m : M α} {f : α → M α'} {Q : β' → Hp → Prop} (R : RS B G H σ ρ) (t : TDat rel' B ξ G ρ (M.bind m f) σ Q) :
  TD rel B ξ m σ H (fun v H1 => ∃ G1 ρ1 a, m ρ = some (.ok a ρ1) ∧ Same G G1 ∧ RS B G1 H1 σ ρ1 ∧ rel B G1 H1 σ ρ1 v a ∧ TDat rel' B ξ G1 ρ1 (f a) σ Q) := by
 obtain ⟨r, e, p⟩ := t
 cases hm : m ρ with
 | none => rw [M.bind_none hm] at e; cases e
 | some r1 =>
  cases r1 with
  | ex x ρ1 =>
   rw [M.bind_ex hm] at e
   cases e
   exact ⟨G, ρ, R, _, hm, p⟩
  | ok a ρ1 =>
   rw [M.bind_ok hm] at e
   exact ⟨G, ρ, R, _, hm, fun v G1 H1 s R1 q => ⟨G1, ρ1, a, rfl, s, R1, q, r, e, p.same s⟩⟩
theorem TDat.step {m : M α} {f : α → M α'} {Q : β' → Hp → Prop} (t : TDat rel' B ξ G ρ (M.bind m f) σ Q) (hm : ∀ r, m ρ = some r → ∃ a ρ', r = .ok a ρ') : ∃ a ρ', m ρ = some (.ok a ρ') ∧ TDat rel' B ξ G ρ' (f a) σ Q := by
 obtain ⟨r, e, p⟩ := t
 cases hr : m ρ with
 | none => rw [M.bind_none hr] at e; cases e
 | some r1 =>
  obtain ⟨a, ρ', rfl⟩ := hm r1 hr
  rw [M.bind_ok hr] at e
  exact ⟨a, ρ', rfl, r, e, p⟩
end
theorem _root_.L2.PE.imp {X : Cx} {e : Expr} {t t' : TE} (h : PE X e t) (i : ∀ σ H Q, t' σ H Q → t σ H Q) : PE X e t' := fun pins s σ H Q I q => h pins s σ H Q I (i σ H Q q)
theorem _root_.L2.PT.imp {X : Cx} {e : Expr} {t t' : TT} (h : PT X e t) (i : ∀ σ H Q, t' σ H Q → t σ H Q) : PT X e t' := fun pins s σ H Q I q => h pins s σ H Q I (i σ H Q q)
theorem _root_.L2.PW.imp {X : Cx} {e : Expr} {t t' : TT} (h : PW X e t) (i : ∀ σ H Q, t' σ H Q → t σ H Q) : PW X e t' := fun wh pins s σ H Q I q => h wh pins s σ H Q I (i σ H Q q)
theorem _root_.L2.PA.imp {X : Cx} {e : List Expr} {t t' : TA} (h : PA X e t) (i : ∀ σ H Q, t' σ H Q → t σ H Q) : PA X e t' := fun pos pins s σ H Q I q => h pos pins s σ H Q I (i σ H Q q)
theorem _root_.L2.PS.imp {X : Cx} {e : Stmt} {t t' : TS} (h : PS X e t) (i : ∀ D σ H, t' D σ H → t D σ H) : PS X e t' := fun pins s σ H D I q => h pins s σ H D I (i D σ H q)
theorem _root_.L2.PSs.imp {X : Cx} {e : List Stmt} {t t' : TS} (h : PSs X e t) (i : ∀ D σ H, t' D σ H → t D σ H) : PSs X e t' := fun pins s σ H D I q => h pins s σ H D I (i D σ H q)
structure PD (X : Cx) (B : Bs) (e : Expr) (m : M W) : Prop where
 ap : ∀ ξ, PE (rz X ξ) e (TD relW B ξ m)
structure PDT (X : Cx) (B : Bs) (e : Expr) (m : M Bool) : Prop where
 ap : ∀ ξ, PT (rz X ξ) e (TD relB B ξ m)
structure PDA (X : Cx) (B : Bs) (es : List Expr) (m : M (List W)) : Prop where
 ap : ∀ ξ, PA (rz X ξ) es (TD relWs B ξ m)
def stab (m : M W) : M W := M.bind m fun w => match w with
 | .own d => M.pure (.val d)
 | w => M.pure w
theorem stab_own {m : M W} {ρ ρ' : Env'} {d : D} (h : m ρ = some (.ok (.own d) ρ')) : stab m ρ = some (.ok (.val d) ρ') := by unfold stab; rw [M.bind_ok h]; rfl
theorem stab_val {m : M W} {ρ ρ' : Env'} {d : D} (h : m ρ = some (.ok (.val d) ρ')) : stab m ρ = some (.ok (.val d) ρ') := by unfold stab; rw [M.bind_ok h]; rfl
theorem stab_slot {m : M W} {ρ ρ' : Env'} {i : Nat} (h : m ρ = some (.ok (.slot i) ρ')) : stab m ρ = some (.ok (.slot i) ρ') := by unfold stab; rw [M.bind_ok h]; rfl
def relS : Rel W V := fun B G H σ ρ v w => RepW B G H σ ρ v w ∧ stb w = true
section
variable {X : Cx} {B : Bs} {e a b c : Expr} {ma mb mc : M W} {pos : Pos}
theorem TD.stab {ξ : XP} {m : M W} {σ : St} {H : Hp} {Q : VK} (t : TD relS B ξ (stab m) σ H Q) : TD relW B ξ m σ H Q := by
 obtain ⟨G, ρ, R, t⟩ := t
 have t2 := TD.bind (rel := relW) R t
 refine t2.mono fun v H1 ⟨G1, ρ1, w, s, R1, q, t3⟩ => ?_
 obtain ⟨r, er, p⟩ := t3
 cases w with
 | val d => cases er; exact p v G1 H1 (Same.refl _) R1 ⟨q, rfl⟩
 | slot i => cases er; exact p v G1 H1 (Same.refl _) R1 ⟨q, rfl⟩
 | own d =>
  cases er
  obtain ⟨pp, rfl, g, h0, o, ne⟩ := q
  obtain ⟨G', s', R', rr⟩ := R1.frz g h0 o ne
  exact p _ G' H1 s' R' ⟨rr, rfl⟩
theorem RepW.keep {G G' H H' : Hp} {σ : St} {ρ ρ' : Env'} {v : V} {w : W} (s : Same G G') (h : RepW B G H σ ρ v w) (hw : stb w = true) : RepW B G' H' σ ρ' v w :=
 h.same s fun d z => by rw [z] at hw; cases hw
def op2 (f : D → D → Option W) (a b : W) : M W := fun ρ => match getD a ρ, getD b ρ with
 | some x, some y => (f x y).map (R'.ok · ρ)
 | _, _ => none
def op1 (f : D → Option W) (a : W) : M W := fun ρ => match getD a ρ with
 | some x => (f x).map (R'.ok · ρ)
 | _ => none
def mBin (f : D → D → Option W) (ma mb : M W) : M W := M.bind (stab ma) fun x => M.bind mb fun y => op2 f x y
def mUn (f : D → Option W) (ma : M W) : M W := M.bind ma fun x => op1 f x
def Imp2 (B : Bs) (r : R2) (f : D → D → Option W) : Prop := ∀ {G H : Hp} {σ : St} {ρ : Env'} {x y : V} {dx dy : D} {w : W} {Q : VK}, RS B G H σ ρ → RepT B.K G H x dx → RepT B.K G H y dy → f dx dy = some w →
 (∀ v G' H', Same G G' → RS B G' H' σ ρ → RepW B G' H' σ ρ v w → Q v H') → r x y H Q
def Imp1 (B : Bs) (r : V → Hp → VK → Prop) (f : D → Option W) : Prop := ∀ {G H : Hp} {σ : St} {ρ : Env'} {x : V} {dx : D} {w : W} {Q : VK}, RS B G H σ ρ → RepT B.K G H x dx → f dx = some w →
 (∀ v G' H', Same G G' → RS B G' H' σ ρ → RepW B G' H' σ ρ v w → Q v H') → r x H Q
theorem op2_run {ξ : XP} {f : D → D → Option W} {x y : W} {G : Hp} {ρ : Env'} {σ : St} {Q : VK} (t : TDat relW B ξ G ρ (op2 f x y) σ Q) : ∃ dx dy w, getD x ρ = some dx ∧ getD y ρ = some dy ∧ f dx dy = some w ∧ ∀ v G' H', Same G G' → RS B G' H' σ ρ → RepW B G' H' σ ρ v w → Q v H' := by
 obtain ⟨r, e, p⟩ := t
 unfold op2 at e
 cases hx : getD x ρ with
 | none => rw [hx] at e; cases e
 | some dx =>
  cases hy : getD y ρ with
  | none => rw [hx, hy] at e; cases e
  | some dy =>
   rw [hx, hy] at e
   simp only [] at e
   cases hf : f dx dy with
   | none => rw [hf] at e; cases e
   | some w =>
    rw [hf] at e
    cases e
    exact ⟨dx, dy, w, rfl, rfl, hf, p⟩
theorem op1_run {ξ : XP} {f : D → Option W} {x : W} {G : Hp} {ρ : Env'} {σ : St} {Q : VK} (t : TDat relW B ξ G ρ (op1 f x) σ Q) : ∃ dx w, getD x ρ = some dx ∧ f dx = some w ∧ ∀ v G' H', Same G G' → RS B G' H' σ ρ → RepW B G' H' σ ρ v w → Q v H' := by
 obtain ⟨r, e, p⟩ := t
 unfold op1 at e
 cases hx : getD x ρ with
 | none => rw [hx] at e; cases e
 | some dx =>
  rw [hx] at e
  simp only [] at e
  cases hf : f dx with
  | none => rw [hf] at e; cases e
  | some w =>
   rw [hf] at e
   cases e
   exact ⟨dx, w, rfl, hf, p⟩
theorem td_op2 {ξ : XP} {r : R2} {f : D → D → Option W} (hi : Imp2 B r f) {σ : St} {H : Hp} {Q : VK} (t : TD relW B ξ (mBin f ma mb) σ H Q) : tOp r (TD relW B ξ ma) (TD relW B ξ mb) σ H Q := by
 obtain ⟨G, ρ, R, t⟩ := t
 have t1 : TD relS B ξ (stab ma) σ H _ := TD.bind (rel := relS) R t
 refine TD.stab (t1.mono fun x H1 ⟨G1, ρ1, wa, s1, R1, ⟨q1, st1⟩, t2⟩ => ?_)
 refine (TD.bind (rel := relW) R1 t2).mono fun y H2 ⟨G2, ρ2, wb, s2, R2, q2, t3⟩ => ?_
 obtain ⟨dx, dy, w, e1, e2, e3, p⟩ := op2_run t3
 exact hi R2 ((q1.keep s2 st1 : RepW B G2 H2 σ ρ2 x wa).get R2 e1) (q2.get R2 e2) e3 p
theorem td_op1 {ξ : XP} {r : V → Hp → VK → Prop} {f : D → Option W} (hi : Imp1 B r f) {σ : St} {H : Hp} {Q : VK} (t : TD relW B ξ (mUn f ma) σ H Q) : tUn r (TD relW B ξ ma) σ H Q := by
 obtain ⟨G, ρ, R, t⟩ := t
 refine (TD.bind (rel := relW) R t).mono fun x H1 ⟨G1, ρ1, wa, s1, R1, q1, t2⟩ => ?_
 obtain ⟨dx, w, e1, e2, p⟩ := op1_run t2
 exact hi R1 (q1.get R1 e1) e2 p
theorem pd_op2 {op : Operator} {r : R2} {f : D → D → Option W} (ho : ∀ ξ, OpR (rz X ξ) (binaryOp op) r) (hi : Imp2 B r f) (ha : PD X B a ma) (hb : PD X B b mb) : PD X B (.BinOp a op b pos) (mBin f ma mb) := .mk fun ξ =>
 (pe_op (ho ξ) (ha.ap ξ) (hb.ap ξ)).imp fun _ _ _ t => td_op2 hi t
theorem pd_un {op : UnaryOp} {r : V → Hp → VK → Prop} {f : D → Option W} (ho : ∀ ξ, UnR (rz X ξ) (unaryOp op) r) (hi : Imp1 B r f) (ha : PD X B a ma) : PD X B (.UnaryOp op a pos) (mUn f ma) := .mk fun ξ =>
 (pe_un (ho ξ) (ha.ap ξ)).imp fun _ _ _ t => td_op1 hi t
theorem pd_cmp {op : CmpOp} {r : R2} {f : D → D → Option W} (ho : ∀ ξ, OpR (rz X ξ) (compareOp op) r) (hi : Imp2 B r f) (ha : PD X B a ma) (hb : PD X B b mb) (hm : behindInMarks op b = false) : PD X B (.Compare a [op] [b] pos) (mBin f ma mb) := .mk fun ξ =>
 (pe_cmpR (ho ξ) (ha.ap ξ) (hb.ap ξ) hm).imp fun _ _ _ t => td_op2 hi t
def mTst (m : M W) : M Bool := M.bind m fun w => fun ρ => match w with
 | .val (.bl b) => some (.ok b ρ)
 | _ => none
theorem td_tst {ξ : XP} {σ : St} {H : Hp} {Q : Bool → Hp → Prop} {m : M W} (t : TD relB B ξ (mTst m) σ H Q) : TD relW B ξ m σ H fun x H' => ∃ k, x = .bl k ∧ Q k H' := by
 obtain ⟨G, ρ, R, t⟩ := t
 refine (TD.bind (rel := relW) R t).mono fun x H1 ⟨G1, ρ1, w, s1, R1, q1, r, e, p⟩ => ?_
 cases w with
 | val d =>
  cases d with
  | bl k =>
   cases e
   have q2 : Rep B.K G1 x (.bl k) := q1
   cases q2
   exact ⟨k, rfl, p k G1 H1 (Same.refl _) R1 rfl⟩
  | _ => cases e
 | _ => cases e
theorem pdt_cmp {op : CmpOp} {r : R2} {f : D → D → Option W} (ho : ∀ ξ, OpR (rz X ξ) (compareOp op) r) (hi : Imp2 B r f) (ha : PD X B a ma) (hb : PD X B b mb) (hm : behindInMarks op b = false) : PDT X B (.Compare a [op] [b] pos) (mTst (mBin f ma mb)) := .mk fun ξ =>
 (pt_cmpR (ho ξ) (ha.ap ξ) (hb.ap ξ) hm).imp fun _ _ _ t => TD.mono (fun _ _ q => q) (td_op2 hi (td_tst t))
def mVar (i : Nat) : M W := fun ρ => match ρ[i]? with
 | some (some _) => some (.ok (.slot i) ρ)
 | _ => none
def mC (d : D) : M W := M.pure (.val d)
theorem td_var {ξ : XP} {i : Nat} {σ : St} {H : Hp} {Q : VK} (t : TD relW B ξ (mVar i) σ H Q) : tVar i σ H Q := by
 obtain ⟨G, ρ, R, r, e, p⟩ := t
 unfold mVar at e
 cases h : ρ[i]? with
 | none => rw [h] at e; cases e
 | some o =>
  cases o with
  | none => rw [h] at e; cases e
  | some c =>
   rw [h] at e
   cases e
   have hv : ∃ v, σ[i]? = some (some v) := by
    cases c with
    | sh d => obtain ⟨v, q, _⟩ := R.sh i d h; exact ⟨v, q⟩
    | ow l d => obtain ⟨v, q, _⟩ := R.ow i l d h; exact ⟨_, q⟩
    | fz es => obtain ⟨a, o, kvs, q, _⟩ := R.fz i es h; exact ⟨_, q⟩
   obtain ⟨v, q⟩ := hv
   exact ⟨v, q, p v G H (Same.refl _) R q⟩
theorem td_C {ξ : XP} {d : D} {v : V} (hv : ∀ G, Rep B.K G v d) {σ : St} {H : Hp} {Q : VK} (t : TD relW B ξ (mC d) σ H Q) : tC v σ H Q := by
 obtain ⟨G, ρ, R, r, e, p⟩ := t
 cases e
 exact p v G H (Same.refl _) R (hv G)
theorem dv (i : Nat) {x : Str} {pos : Pos} (hN : X.N[i]? = some x := by rfl) (hv : Vis X.env.scope x := by first | exact Or.inl rfl | exact Or.inr (Or.inl rfl) | exact Or.inr (Or.inr rfl)) (hd : (x == ("__debug__" : Str)) = false := by decide) (hcd : (x == ("__classdict__" : Str)) = false := by decide) : PD X B (.Name x pos) (mVar i) := .mk fun ξ =>
 (pe_var (X := rz X ξ) hN hv hd hcd).imp fun _ _ _ t => td_var t
theorem d_int {i j pos} : PD X B (.Constant (.int i) j pos) (mC (.int i)) := .mk fun ξ => (pe_int (X := rz X ξ)).imp fun _ _ _ t => td_C (fun _ => .int i) t
theorem rep_str {K : PySem.W.Frag} {G : Hp} (x : Str) : Rep K G (.str x) (.str x.cps.toList) := by
 have e := tx_cps x
 have r := Rep.str (K := K) (G := G) x.cps.toList
 rw [e] at r
 exact r
theorem d_ty {x : Str} {n : String} (hm : X.mg x = none) (hv : bootBuiltins x = some (.type n)) (hg : Gl X x := by rfl) (hn : x ≠ "__name__" := by decide) (hd : (x == ("__debug__" : Str)) = false := by decide) : PD X B (.Name x pos) (mC (.ty n)) := .mk fun ξ =>
 (pty (X := rz X ξ) hm hv hg hn hd).imp fun _ _ _ t => td_C (fun _ => .ty n) t
end
def grd (p : Prop) [Decidable p] {α : Type} (x : Option α) : Option α := if p then x else none
theorem grd_pos {p : Prop} [Decidable p] {α : Type} {x : Option α} (h : p) : grd p x = x := if_pos h
theorem grd_some {p : Prop} [Decidable p] {α : Type} {x : Option α} {a : α} (h : grd p x = some a) : p ∧ x = some a := by
 unfold grd at h
 split at h
 ·exact ⟨‹p›, h⟩
 ·cases h
def vI (i : Int) : Option W := some (.val (.int i))
def vB (b : Bool) : Option W := some (.val (.bl b))
def small (n : Nat) : Prop := n ≤ 1000000
instance (n : Nat) : Decidable (small n) := inferInstanceAs (Decidable (n ≤ 1000000))
def addD : D → D → Option W
 | .int i, .int j => vI (i + j)
 | .str a, .str b => grd (small (a.length + b.length)) (some (.val (.str (a ++ b))))
 | .lst a, .lst b => grd (small (a.length + b.length)) (some (.own (.lst (a ++ b))))
 | _, _ => none
def subD : D → D → Option W
 | .int i, .int j => vI (i - j)
 | _, _ => none
instance (i j : Int) : Decidable (CMul i j) := by unfold CMul; infer_instance
instance (i j : Int) : Decidable (CDiv i j) := by unfold CDiv; infer_instance
instance (i j : Int) : Decidable (CPow i j) := by unfold CPow; infer_instance
def mulD : D → D → Option W
 | .int i, .int j => grd (CMul i j) (vI (i * j))
 | _, _ => none
def divD : D → D → Option W
 | .int i, .int j => grd (CDiv i j) (vI (i / j))
 | _, _ => none
def modD : D → D → Option W
 | .int i, .int j => grd (0 < j) (vI (i % j))
 | _, _ => none
def negD : D → Option W
 | .int i => vI (-i)
 | _ => none
def cmpI (f : Int → Int → Bool) : D → D → Option W
 | .int i, .int j => vB (f i j)
 | _, _ => none
theorem op_catL {X : Cx} {K : PySem.W.Frag} (hK : X.K = K) : OpR X (binaryOp .Add) (fun x y H Q => ∃ l b xs zs, x = .ref l ∧ y = .ref b ∧ SqL K H l xs ∧ SqL K H b zs ∧ xs.length + zs.length ≤ sizeLine ∧ ∀ p, H p = none → Q (.ref p) (upd H p (.lst (xs ++ zs)))) := by
 subst hK
 intro pins s σ H x y v u Q I rx ry h
 obtain ⟨l, b, xs, zs, rfl, rfl, hH, hB, hz, q⟩ := h
 cases rx
 cases ry
 obtain ⟨its, r, pl, _⟩ := I.list hH
 obtain ⟨its2, r2, pl2, _⟩ := I.list hB
 obtain ⟨⟨cls, dd, data, sl⟩, n, ho, hc, hdd, hd⟩ := pl
 obtain ⟨⟨cls2, dd2, data2, sl2⟩, n2, ho2, hc2, hdd2, hd2⟩ := pl2
 simp only at hc hd hc2 hd2 hdd hdd2
 subst hc hd hc2 hd2 hdd hdd2
 have e1 := r.length
 have e2 := r2.length
 have e : its.toArray ++ its2.toArray = (its ++ its2).toArray := by simp
 refine concat_meets ⟨_, ho, rfl⟩ ⟨_, ho2, rfl⟩ noFill_list_add seq_list_add PySem.F.slot_list_add PySem.F.entry_list_add (PySem.F.args_list_add_2 _ _) (list_addW l b its.toArray its2.toArray n n2 none none sl sl2 (by rw [List.size_toArray, List.size_toArray]; omega)) ⟨ho, ho2, ?_⟩
 rw [e]
 exact ⟨.ref _, _, I.lnew (t' := s.toks) (r.append r2) (by rw [List.length_append]; omega), rfl, q _ I.fresh⟩
theorem small_line {n : Nat} (h : small n) : n ≤ sizeLine := by unfold small at h; rw [sizeLine_eq]; omega
section
variable {X : Cx} {B : Bs} {e a b c : Expr} {ma mb mc : M W} {pos : Pos}
theorem imp2_I0 {g : Int → Int → Int} {f : D → D → Option W} (hf : ∀ dx dy w, f dx dy = some w → ∃ i j, dx = .int i ∧ dy = .int j ∧ w = .val (.int (g i j))) : Imp2 B (rI0 fun i j => .int (g i j)) f := by
 intro G H σ ρ x y dx dy w Q R hx hy e p
 obtain ⟨i, j, rfl, rfl, rfl⟩ := hf _ _ _ e
 exact ⟨i, j, hx.int, hy.int, p _ G H (Same.refl _) R (.int _)⟩
theorem imp2_I {P : Int → Int → Prop} {g : Int → Int → Int} {f : D → D → Option W} (hf : ∀ dx dy w, f dx dy = some w → ∃ i j, dx = .int i ∧ dy = .int j ∧ P i j ∧ w = .val (.int (g i j))) : Imp2 B (rI P fun i j => .int (g i j)) f := by
 intro G H σ ρ x y dx dy w Q R hx hy e p
 obtain ⟨i, j, rfl, rfl, hp, rfl⟩ := hf _ _ _ e
 exact ⟨i, j, hx.int, hy.int, hp, p _ G H (Same.refl _) R (.int _)⟩
theorem imp2_B0 (g : Int → Int → Bool) : Imp2 B (rI0 fun i j => .bl (g i j)) (cmpI g) := by
 intro G H σ ρ x y dx dy w Q R hx hy e p
 cases dx <;> cases dy <;> first | cases e | skip
 exact ⟨_, _, hx.int, hy.int, p _ G H (Same.refl _) R (.bl _)⟩
theorem imp2_sub : Imp2 B (rI0 fun i j => .int (i - j)) subD := imp2_I0 fun dx dy w e => by
 cases dx <;> cases dy <;> first | cases e | skip
 exact ⟨_, _, rfl, rfl, rfl⟩
theorem imp2_mul : Imp2 B (rI CMul fun i j => .int (i * j)) mulD := imp2_I fun dx dy w e => by
 cases dx <;> cases dy <;> first | cases e | skip
 obtain ⟨h, e⟩ := grd_some e
 cases e
 exact ⟨_, _, rfl, rfl, h, rfl⟩
theorem imp2_div : Imp2 B (rI CDiv fun i j => .int (i / j)) divD := imp2_I fun dx dy w e => by
 cases dx <;> cases dy <;> first | cases e | skip
 obtain ⟨h, e⟩ := grd_some e
 cases e
 exact ⟨_, _, rfl, rfl, h, rfl⟩
theorem imp2_mod : Imp2 B (rI (fun _ j => 0 < j) fun i j => .int (i % j)) modD := imp2_I fun dx dy w e => by
 cases dx <;> cases dy <;> first | cases e | skip
 obtain ⟨h, e⟩ := grd_some e
 cases e
 exact ⟨_, _, rfl, rfl, h, rfl⟩
theorem imp1_neg : Imp1 B (rU fun i => .int (-i)) negD := by
 intro G H σ ρ x dx w Q R hx e p
 cases dx <;> first | cases e | skip
 exact ⟨_, hx.int, p _ G H (Same.refl _) R (.int _)⟩
theorem d_sub (ha : PD X B a ma) (hb : PD X B b mb) : PD X B (.BinOp a .Sub b pos) (mBin subD ma mb) := pd_op2 (fun _ => op_sub) imp2_sub ha hb
theorem d_mul (ha : PD X B a ma) (hb : PD X B b mb) : PD X B (.BinOp a .Mult b pos) (mBin mulD ma mb) := pd_op2 (fun _ => op_mul) imp2_mul ha hb
theorem d_div (ha : PD X B a ma) (hb : PD X B b mb) : PD X B (.BinOp a .FloorDiv b pos) (mBin divD ma mb) := pd_op2 (fun _ => op_fdiv) imp2_div ha hb
theorem d_mod (ha : PD X B a ma) (hb : PD X B b mb) : PD X B (.BinOp a .Mod b pos) (mBin modD ma mb) := pd_op2 (fun _ => op_mod) imp2_mod ha hb
theorem d_neg (ha : PD X B a ma) : PD X B (.UnaryOp .USub a pos) (mUn negD ma) := pd_un (fun _ => un_neg) imp1_neg ha
theorem d_add (ha : PD X B a ma) (hb : PD X B b mb) (hK : X.K = B.K := by rfl) : PD X B (.BinOp a .Add b pos) (mBin addD ma mb) := by
 refine pd_op2 (fun ξ => (op_add (X := rz X ξ)).or (op_add_str.or (op_catL (K := B.K) hK))) ?_ ha hb
 intro G H σ ρ x y dx dy w Q R hx hy e p
 cases dx <;> cases dy <;> first | cases e | skip
 ·exact .inl ⟨_, _, hx.int, hy.int, p _ G H (Same.refl _) R (.int _)⟩
 ·obtain ⟨h, e⟩ := grd_some e
  cases e
  refine .inr (.inl ⟨_, _, hx.str, hy.str, by rw [tx_len, tx_len]; exact small_line h, ?_⟩)
  rw [tx_app]
  exact p _ G H (Same.refl _) R (.str _)
 ·obtain ⟨h, e⟩ := grd_some e
  cases e
  obtain ⟨l, xs, rfl, h1, r1⟩ := hx.lst R.gH
  obtain ⟨l2, xs2, rfl, h2, r2⟩ := hy.lst R.gH
  refine .inr (.inr ⟨l, l2, xs, xs2, rfl, rfl, h1, h2, by rw [r1.len, r2.len]; exact small_line h, fun q hq => ?_⟩)
  obtain ⟨R', w'⟩ := R.newLst hq (r1.append r2)
  exact p _ G _ (Same.refl _) R' w'
theorem d_lt (ha : PD X B a ma) (hb : PD X B b mb) : PD X B (.Compare a [.Lt] [b] pos) (mBin (cmpI fun i j => decide (i < j)) ma mb) := pd_cmp (fun _ => op_lt) (imp2_B0 _) ha hb (nomark _)
theorem t_le (ha : PD X B a ma) (hb : PD X B b mb) : PDT X B (.Compare a [.LtE] [b] pos) (mTst (mBin (cmpI fun i j => decide (i ≤ j)) ma mb)) := pdt_cmp (fun _ => op_le) (imp2_B0 _) ha hb (nomark _)
end
end L3
set_option Elab.async false
set_option linter.all false
set_option maxRecDepth 100000
set_option maxHeartbeats 4000000
namespace L3
open PySem PySem.Spec PyProof.Rows L2
def eqL (f : D → D → Option Bool) : List D → List D → Option Bool
 | [], [] => some true
 | [], _ :: _ => some false
 | _ :: _, [] => some false
 | x :: xs, y :: ys => match f x y, eqL f xs ys with
  | some a, some b => some (a && b)
  | _, _ => none
def eqF : D → D → Option Bool
 | .non, .non => some true
 | .bl a, .bl b => some (a == b)
 | .int a, .int b => some (a == b)
 | .str a, .str b => some (a == b)
 | .non, .bl _ => some false
 | .non, .int _ => some false
 | .non, .str _ => some false
 | .bl _, .non => some false
 | .int _, .non => some false
 | .str _, .non => some false
 | .tup _, .non => some false
 | .lst _, .non => some false
 | _, _ => none
def eqD : Nat → D → D → Option Bool
 | n + 1, .tup a, .tup b => eqL (eqD n) a b
 | n + 1, .lst a, .lst b => eqL (eqD n) a b
 | _, d, e => eqF d e
theorem eqL_len {f : D → D → Option Bool} : ∀ {xs ys : List D} {b : Bool}, eqL f xs ys = some b → xs.length ≠ ys.length → b = false
 | [], [], _, _, h => absurd rfl h
 | [], _ :: _, _, e, _ => by cases e; rfl
 | _ :: _, [], _, e, _ => by cases e; rfl
 | x :: xs, y :: ys, b, e, h => by
  unfold eqL at e
  cases h1 : f x y with
  | none => rw [h1] at e; cases e
  | some p =>
   cases h2 : eqL f xs ys with
   | none => rw [h1, h2] at e; cases e
   | some q =>
    rw [h1, h2] at e
    cases e
    rw [eqL_len h2 (by simpa using h), Bool.and_false]
theorem eqL_all {f : D → D → Option Bool} : ∀ {xs ys : List D} {b : Bool}, eqL f xs ys = some b → ∃ g : Nat → Bool, (∀ (j : Nat) x y, xs[j]? = some x → ys[j]? = some y → f x y = some (g j)) ∧ b = ((List.range (min xs.length ys.length)).all g && (xs.length == ys.length))
 | [], [], _, e => by cases e; exact ⟨fun _ => true, fun j x y h => by simp at h, rfl⟩
 | [], _ :: _, _, e => by cases e; exact ⟨fun _ => true, fun j x y h => by simp at h, by simp⟩
 | _ :: _, [], _, e => by cases e; exact ⟨fun _ => true, fun j x y _ h => by simp at h, by simp⟩
 | x :: xs, y :: ys, b, e => by
  unfold eqL at e
  cases h1 : f x y with
  | none => rw [h1] at e; cases e
  | some p =>
   cases h2 : eqL f xs ys with
   | none => rw [h1, h2] at e; cases e
   | some q =>
    rw [h1, h2] at e
    cases e
    obtain ⟨g, hg, hq⟩ := eqL_all h2
    refine ⟨fun j => if j = 0 then p else g (j - 1), fun j x' y' a c => ?_, ?_⟩
    ·cases j with
     | zero => simp at a c; subst a c; simpa using h1
     | succ j => simpa using hg j x' y' (by simpa using a) (by simpa using c)
    ·have em : min (x :: xs).length (y :: ys).length = min xs.length ys.length + 1 := by simp only [List.length_cons]; omega
     rw [em, List.range_succ_eq_map, List.all_cons, List.all_map, hq, List.length_cons, List.length_cons]
     simp only [if_pos, Bool.and_assoc]
     congr 2
     simp
theorem eqL_true {f : D → D → Option Bool} {xs ys : List D} {b : Bool} (h : eqL f xs ys = some b) (hl : xs.length = ys.length) : ∃ g : Nat → Bool, (∀ (j : Nat) x y, xs[j]? = some x → ys[j]? = some y → f x y = some (g j)) ∧ b = (List.range xs.length).all g := by
 obtain ⟨g, h1, h2⟩ := eqL_all h
 refine ⟨g, h1, ?_⟩
 rw [h2, hl]
 simp
theorem RepT.rep {K : PySem.W.Frag} {G H : Hp} {v : V} {d : D} (g : Same G H) (h : RepT K G H v d) : Rep K H v d := by
 rcases h with h | ⟨p, rfl, h⟩
 ·exact h.same g
 ·cases d with
  | lst ds =>
   obtain ⟨xs, e, r⟩ := h
   have r' := r.same g
   exact .lst (SqL.of e) r'.len r'.get
  | dct es =>
   obtain ⟨xs, e, r⟩ := h
   have r' := r.same g
   exact .dct (.inl e) r'.keys r'.get
  | _ => exact (show False from h).elim
section
variable {X : Cx} {pins : List (Addr × Obj)} {σ : St} {H : Hp} {s : Shared}
theorem str_beq (a b : List Nat) : (tx a == tx b) = (a == b) := by
 rw [Bool.eq_iff_iff, beq_iff_eq, beq_iff_eq]
 exact tx_inj
theorem eq_tups {A : Around} {a b : Addr} {xs ys : List V} {ds es : List D} {g : Nat → Bool} (I : Inv X pins σ H s) (h1 : SqT X.K H a xs) (h2 : SqT X.K H b ys) (l1 : xs.length = ds.length) (l2 : ys.length = es.length) (hu : A.units < cLine)
  (ih : ∀ (j : Nat) x y v u, xs[j]? = some x → ys[j]? = some y → RelV x v → RelV y u → SeqAt.EqAt A.in1 s v u (g j)) :
  SeqAt.RcAt A s (.ref a) (.ref b) ((List.range (min ds.length es.length)).all g && (ds.length == es.length)) ∧ SeqAt.RcNeAt A s (.ref a) (.ref b) (!((List.range (min ds.length es.length)).all g && (ds.length == es.length))) := by
 obtain ⟨its, rv, p, _⟩ := I.tuple h1
 obtain ⟨its2, rv2, p2, _⟩ := I.tuple h2
 have k1 := rv.length
 have k2 := rv2.length
 have he : ∀ j (z1 : j < its.toArray.size) (z2 : j < its2.toArray.size), SeqAt.EqAt A.in1 s its.toArray[j] its2.toArray[j] (g j) := fun j z1 z2 => by
  have h1' : j < xs.length := by simpa [← k1] using z1
  have h2' : j < ys.length := by simpa [← k2] using z2
  obtain ⟨v1, e1, r1⟩ := rv.get (i := j) (x := xs[j]) (by simp [h1'])
  obtain ⟨v2, e2, r2⟩ := rv2.get (i := j) (x := ys[j]) (by simp [h2'])
  have f1 : its.toArray[j] = v1 := by
   have := (List.getElem?_eq_some_iff.mp e1).2
   simpa using this
  have f2 : its2.toArray[j] = v2 := by
   have := (List.getElem?_eq_some_iff.mp e2).2
   simpa using this
  rw [f1, f2]
  exact ih j _ _ _ _ (by simp [h1']) (by simp [h2']) r1 r2
 have q1 := SeqAt.RcAt.tuples (e := g) (A := A) p p2 hu he
 have q2 := SeqAt.RcNeAt.tuples (e := g) (A := A) p p2 hu he
 have e1 : its.toArray.size = ds.length := by rw [List.size_toArray]; omega
 have e2 : its2.toArray.size = es.length := by rw [List.size_toArray]; omega
 rw [e1, e2] at q1 q2
 exact ⟨q1, q2⟩
theorem eq_lsts {A : Around} {a b : Addr} {xs ys : List V} {ds es : List D} {f : D → D → Option Bool} {r : Bool} (I : Inv X pins σ H s) (h1 : SqL X.K H a xs) (h2 : SqL X.K H b ys) (l1 : xs.length = ds.length) (l2 : ys.length = es.length) (hu : A.units < cLine)
  (hr : eqL f ds es = some r) (ih : ∀ (j : Nat) x y d e k v u, xs[j]? = some x → ys[j]? = some y → ds[j]? = some d → es[j]? = some e → f d e = some k → RelV x v → RelV y u → SeqAt.EqAt A.in1 s v u k) :
  SeqAt.RcAt A s (.ref a) (.ref b) r ∧ SeqAt.RcNeAt A s (.ref a) (.ref b) (!r) := by
 obtain ⟨its, rv, p, _⟩ := I.list h1
 obtain ⟨its2, rv2, p2, _⟩ := I.list h2
 have k1 := rv.length
 have k2 := rv2.length
 have e1 : its.toArray.size = ds.length := by rw [List.size_toArray]; omega
 have e2 : its2.toArray.size = es.length := by rw [List.size_toArray]; omega
 by_cases hl : ds.length = es.length
 ·obtain ⟨g, hg, hb⟩ := eqL_true hr hl
  have he : ∀ j (z1 : j < its.toArray.size) (z2 : j < its2.toArray.size), SeqAt.EqAt A.in1 s its.toArray[j] its2.toArray[j] (g j) := fun j z1 z2 => by
   have h1' : j < xs.length := by simpa [← k1] using z1
   have h2' : j < ys.length := by simpa [← k2] using z2
   have h3' : j < ds.length := by omega
   have h4' : j < es.length := by omega
   obtain ⟨v1, e1, r1⟩ := rv.get (i := j) (x := xs[j]) (by simp [h1'])
   obtain ⟨v2, e2, r2⟩ := rv2.get (i := j) (x := ys[j]) (by simp [h2'])
   have f1 : its.toArray[j] = v1 := by
    have := (List.getElem?_eq_some_iff.mp e1).2
    simpa using this
   have f2 : its2.toArray[j] = v2 := by
    have := (List.getElem?_eq_some_iff.mp e2).2
    simpa using this
   rw [f1, f2]
   exact ih j _ _ ds[j] es[j] _ _ _ (by simp [h1']) (by simp [h2']) (by simp [h3']) (by simp [h4']) (hg j _ _ (by simp [h3']) (by simp [h4'])) r1 r2
  have q1 := SeqAt.RcAt.lists (e := g) (A := A) p.isList p2.isList (by omega) hu he
  have q2 := SeqAt.RcNeAt.lists (e := g) (A := A) p.isList p2.isList (by omega) hu he
  rw [e1, ← hb] at q1 q2
  exact ⟨q1, q2⟩
 ·have hb := eqL_len hr hl
  subst hb
  have hne : (its.toArray.size != its2.toArray.size) = true := by rw [e1, e2]; simpa using hl
  exact ⟨SeqAt.RcAt.lists_lengths p.isList p2.isList hne hu, SeqAt.RcNeAt.lists_lengths p.isList p2.isList hne hu⟩
theorem eqf_all {d e : D} {b : Bool} (h : eqF d e = some b) (I : Inv X pins σ H s) {A : Around} {x y : V} {v u : Value} (hx : Rep X.K H x d) (hy : Rep X.K H y e) (rx : RelV x v) (ry : RelV y u) (hu' : A.units < cLine) :
  SeqAt.EqAt A s v u b ∧ SeqAt.RcAt A s v u b ∧ SeqAt.RcNeAt A s v u (!b) := by
 cases hx with
 | non =>
  cases rx
  cases hy with
  | non => cases h; cases ry; exact ⟨SeqAt.EqAt.same _, SeqAt.RcAt.none_none, SeqAt.RcNeAt.none_none⟩
  | bl _ => cases h; cases ry; exact ⟨SeqAt.EqAt.none_bool _, SeqAt.RcAt.none_bool _, SeqAt.RcNeAt.none_bool _⟩
  | int _ => cases h; obtain ⟨t, rfl⟩ := ry; exact ⟨SeqAt.EqAt.none_int _ _, SeqAt.RcAt.none_int _ _, SeqAt.RcNeAt.none_int _ _⟩
  | str _ => cases h; obtain ⟨t, rfl⟩ := ry; exact ⟨SeqAt.EqAt.none_str _ _, SeqAt.RcAt.none_str _ _, SeqAt.RcNeAt.none_str _ _⟩
  | ty _ => cases h
  | tup _ _ _ => cases h
  | lst _ _ _ => cases h
  | dct _ _ _ => cases h
 | bl _ =>
  cases rx
  cases hy with
  | non => cases h; cases ry; exact ⟨SeqAt.EqAt.bool_none _, SeqAt.RcAt.bool_none _, SeqAt.RcNeAt.bool_none _⟩
  | bl _ => cases h; cases ry; exact ⟨SeqAt.EqAt.bool_bool _ _, SeqAt.RcAt.bool_bool _ _, SeqAt.RcNeAt.bool_bool _ _⟩
  | int _ => cases h
  | str _ => cases h
  | ty _ => cases h
  | tup _ _ _ => cases h
  | lst _ _ _ => cases h
  | dct _ _ _ => cases h
 | int _ =>
  obtain ⟨t, rfl⟩ := rx
  cases hy with
  | non => cases h; cases ry; exact ⟨SeqAt.EqAt.int_none _ _, SeqAt.RcAt.int_none _ _, SeqAt.RcNeAt.int_none _ _⟩
  | int _ => cases h; obtain ⟨t', rfl⟩ := ry; exact ⟨SeqAt.EqAt.int_int _ _ _ _, SeqAt.RcAt.int_int _ _ _ _, SeqAt.RcNeAt.int_int _ _ _ _⟩
  | bl _ => cases h
  | str _ => cases h
  | ty _ => cases h
  | tup _ _ _ => cases h
  | lst _ _ _ => cases h
  | dct _ _ _ => cases h
 | str cs =>
  obtain ⟨t, rfl⟩ := rx
  cases hy with
  | non => cases h; cases ry; exact ⟨SeqAt.EqAt.str_none _ _, SeqAt.RcAt.str_none _ _, SeqAt.RcNeAt.str_none _ _⟩
  | str cs' =>
   have hb : (cs == cs') = b := Option.some.inj h
   rw [← hb, ← str_beq]
   obtain ⟨t', rfl⟩ := ry
   exact ⟨SeqAt.EqAt.str_str _ _ _ _, SeqAt.RcAt.str_str _ _ _ _, SeqAt.RcNeAt.str_str _ _ _ _⟩
  | bl _ => cases h
  | int _ => cases h
  | ty _ => cases h
  | tup _ _ _ => cases h
  | lst _ _ _ => cases h
  | dct _ _ _ => cases h
 | ty _ => cases hy <;> cases h
 | tup h1 _ _ =>
  cases rx
  cases hy with
  | non =>
   cases h
   cases ry
   obtain ⟨its, _, p, _⟩ := I.tuple h1
   exact ⟨SeqAt.EqAt.tuple_none p hu', SeqAt.RcAt.tuple_none p hu', SeqAt.RcNeAt.tuple_none p hu'⟩
  | bl _ => cases h
  | int _ => cases h
  | str _ => cases h
  | ty _ => cases h
  | tup _ _ _ => cases h
  | lst _ _ _ => cases h
  | dct _ _ _ => cases h
 | lst h1 _ _ =>
  cases rx
  cases hy with
  | non =>
   cases h
   cases ry
   obtain ⟨its, _, p, _⟩ := I.list h1
   exact ⟨SeqAt.EqAt.list_none p.isList hu', SeqAt.RcAt.list_none p.isList hu', SeqAt.RcNeAt.list_none p.isList hu'⟩
  | bl _ => cases h
  | int _ => cases h
  | str _ => cases h
  | ty _ => cases h
  | tup _ _ _ => cases h
  | lst _ _ _ => cases h
  | dct _ _ _ => cases h
 | dct _ _ _ => cases hy <;> cases h
theorem eqf_same {d e : D} {b : Bool} (h : eqF d e = some b) {x : V} (hx : Rep X.K H x d) (hy : Rep X.K H x e) : b = true := by
 cases hx <;> cases hy <;> first | (exfalso; cases h; done) | skip
 all_goals first | (cases h; rfl) | (cases h; simp)
theorem all_of {g : Nat → Bool} {n : Nat} (h : ∀ j, j < n → g j = true) : (List.range n).all g = true := by
 rw [List.all_eq_true]
 intro j hj
 exact h j (List.mem_range.mp hj)
theorem eql_same {f : D → D → Option Bool} {ds es : List D} {b : Bool} {xs : List V} (h : eqL f ds es = some b) (l1 : xs.length = ds.length) (l2 : xs.length = es.length) (r1 : ∀ (j : Nat) x d, xs[j]? = some x → ds[j]? = some d → Rep X.K H x d) (r2 : ∀ (j : Nat) x d, xs[j]? = some x → es[j]? = some d → Rep X.K H x d)
  (hf : ∀ d e k x, f d e = some k → Rep X.K H x d → Rep X.K H x e → k = true) : b = true := by
 obtain ⟨g, hg, hb⟩ := eqL_true h (by omega)
 rw [hb]
 refine all_of fun j hj => ?_
 have hj2 : j < es.length := by omega
 have hj3 : j < xs.length := by omega
 exact hf ds[j] es[j] _ xs[j] (hg j _ _ (by simp [hj]) (by simp [hj2])) (r1 j _ _ (by simp [hj3]) (by simp [hj])) (r2 j _ _ (by simp [hj3]) (by simp [hj2]))
theorem eqd_same (I : Inv X pins σ H s) : ∀ (n : Nat) {d e : D} {b : Bool} {x : V}, eqD n d e = some b → Rep X.K H x d → Rep X.K H x e → b = true := by
 intro n
 induction n with
 | zero =>
  intro d e b x h hx hy
  exact eqf_same (by cases d <;> exact h) hx hy
 | succ n ih =>
  intro d e b x h hx hy
  cases hx with
  | tup h1 l1 r1 =>
   cases hy with
   | tup h2 l2 r2 =>
    have e := I.tuple_inj h1 h2
    subst e
    exact eql_same (X := X) (H := H) (show eqL (eqD n) _ _ = some b from h) l1 l2 r1 r2 fun d e k x a b c => ih a b c
   | lst h2 l2 r2 => cases h
   | dct h2 l2 r2 => cases h
  | lst h1 l1 r1 =>
   cases hy with
   | lst h2 l2 r2 =>
    have e := I.list_inj h1 h2
    subst e
    exact eql_same (X := X) (H := H) (show eqL (eqD n) _ _ = some b from h) l1 l2 r1 r2 fun d e k x a b c => ih a b c
   | tup h2 l2 r2 => cases h
   | dct h2 l2 r2 => cases h
  | non => exact eqf_same (X := X) (H := H) (by cases e <;> exact h) .non hy
  | bl k => exact eqf_same (X := X) (H := H) (by cases e <;> exact h) (.bl k) hy
  | int k => exact eqf_same (X := X) (H := H) (by cases e <;> exact h) (.int k) hy
  | str k => exact eqf_same (X := X) (H := H) (by cases e <;> exact h) (.str k) hy
  | ty k => exact eqf_same (X := X) (H := H) (by cases e <;> exact h) (.ty k) hy
  | dct h1 l1 r1 => cases hy <;> cases h
theorem eqd_all (I : Inv X pins σ H s) : ∀ (n : Nat) {d e : D} {b : Bool}, eqD n d e = some b → ∀ {A : Around} {x y : V} {v u : Value}, Rep X.K H x d → Rep X.K H y e → RelV x v → RelV y u → A.units + n < cLine →
  SeqAt.EqAt A s v u b ∧ SeqAt.RcAt A s v u b ∧ SeqAt.RcNeAt A s v u (!b) := by
 intro n
 induction n with
 | zero =>
  intro d e b h A x y v u hx hy rx ry hu
  exact eqf_all (by cases d <;> exact h) I hx hy rx ry (by omega)
 | succ n ih =>
  intro d e b h A x y v u hx hy rx ry hu
  have flat : eqF d e = some b → SeqAt.EqAt A s v u b ∧ SeqAt.RcAt A s v u b ∧ SeqAt.RcNeAt A s v u (!b) := fun h' => eqf_all h' I hx hy rx ry (by omega)
  cases d with
  | tup ds =>
   cases e with
   | tup es =>
    have hsame := fun (hy' : Rep X.K H x (.tup es)) => eqd_same I (n + 1) h hx hy'
    cases hx with
    | @tup a xs _ h1 l1 r1 =>
     cases hy with
     | @tup a2 xs2 _ h2 l2 r2 =>
      cases rx
      cases ry
      obtain ⟨g, hg, hb⟩ := eqL_all (show eqL (eqD n) ds es = some b from h)
      have key := eq_tups (A := A) (g := g) I h1 h2 l1 l2 (by omega) fun j x y v u hx hy rx ry => by
       have hj1 : j < ds.length := by rw [← l1]; exact (List.getElem?_eq_some_iff.mp hx).1
       have hj2 : j < es.length := by rw [← l2]; exact (List.getElem?_eq_some_iff.mp hy).1
       exact (ih (hg j ds[j] es[j] (by simp [hj1]) (by simp [hj2])) (A := A.in1) (r1 j x _ hx (by simp [hj1])) (r2 j y _ hy (by simp [hj2])) rx ry (by show A.units + 1 + n < _; omega)).1
      rw [← hb] at key
      refine ⟨?_, key⟩
      by_cases e : a = a2
      ·subst e
       have e2 := hsame (.tup h2 l2 r2)
       subst e2
       exact SeqAt.EqAt.same _
      ·exact SeqAt.EqAt.of_refs e key.1
   | _ => exact flat h
  | lst ds =>
   cases e with
   | lst es =>
    have hsame := fun (hy' : Rep X.K H x (.lst es)) => eqd_same I (n + 1) h hx hy'
    cases hx with
    | @lst a xs _ h1 l1 r1 =>
     cases hy with
     | @lst a2 xs2 _ h2 l2 r2 =>
      cases rx
      cases ry
      have key := eq_lsts (A := A) I h1 h2 l1 l2 (by omega) (show eqL (eqD n) ds es = some b from h) fun j x y d e k v u hx hy hd he hk rx ry =>
       (ih hk (A := A.in1) (r1 j x _ hx hd) (r2 j y _ hy he) rx ry (by show A.units + 1 + n < _; omega)).1
      refine ⟨?_, key⟩
      by_cases e : a = a2
      ·subst e
       have e2 := hsame (.lst h2 l2 r2)
       subst e2
       exact SeqAt.EqAt.same _
      ·exact SeqAt.EqAt.of_refs e key.1
   | _ => exact flat h
  | _ => exact flat (by cases e <;> exact h)
end
theorem op_eqX {X : Cx} {K : PySem.W.Frag} (hK : X.K = K) (hu : X.A.units + 8 < cLine) : OpR X (compareOp .Eq) (fun x y H Q => ∃ d e b, Rep K H x d ∧ Rep K H y e ∧ eqD 8 d e = some b ∧ Q (.bl b) H) := by
 subst hK
 intro pins s σ H x y v u Q I rx ry h
 obtain ⟨d, e, b, hx, hy, hb, q⟩ := h
 exact (eqd_all I 8 hb hx hy rx ry hu).2.1 _ _ _ _ (fin_bl I q rfl)
theorem op_neX {X : Cx} {K : PySem.W.Frag} (hK : X.K = K) (hu : X.A.units + 8 < cLine) : OpR X (compareOp .NotEq) (fun x y H Q => ∃ d e b, Rep K H x d ∧ Rep K H y e ∧ eqD 8 d e = some b ∧ Q (.bl (!b)) H) := by
 subst hK
 intro pins s σ H x y v u Q I rx ry h
 obtain ⟨d, e, b, hx, hy, hb, q⟩ := h
 exact (eqd_all I 8 hb hx hy rx ry hu).2.2 _ _ _ _ (fin_bl I q rfl)
end L3
set_option Elab.async false
set_option linter.all false
set_option maxRecDepth 100000
set_option maxHeartbeats 4000000
namespace L3
open PySem PySem.Spec PyProof.Rows L2
section
variable {X : Cx} {pins : List (Addr × Obj)} {σ : St} {H : Hp} {s : Shared}
theorem typeIs_one {a : Addr} {T T' : String} (h : s.TypeIs (.ref a) T) (h' : s.TypeIs (.ref a) T') : T = T' := by
 obtain ⟨o, e, c⟩ := h
 obtain ⟨o', e', c'⟩ := h'
 rw [e] at e'
 cases e'
 rw [c] at c'
 injection c'
theorem ext_rep {xs : List V} {ds es : List D} (l1 : xs.length = ds.length) (l2 : xs.length = es.length) (h : ∀ (j : Nat) x d e, xs[j]? = some x → ds[j]? = some d → es[j]? = some e → d = e) : ds = es := by
 refine List.ext_getElem? fun j => ?_
 by_cases hj : j < xs.length
 ·have h1 : j < ds.length := by omega
  have h2 : j < es.length := by omega
  have e1 : ds[j]? = some ds[j] := by simp [h1]
  have e2 : es[j]? = some es[j] := by simp [h2]
  rw [e1, e2, h j xs[j] _ _ (by simp [hj]) e1 e2]
 ·rw [List.getElem?_eq_none (by omega), List.getElem?_eq_none (by omega)]
theorem rd_inj {a : Addr} {k1 k2 : List (Key × V)} (h1 : Rd H a (.dK k1)) (h2 : Rd H a (.dK k2)) : k1 = k2 := by
 rcases h1 with h1 | ⟨o, h1⟩ <;> rcases h2 with h2 | ⟨o2, h2⟩ <;> rw [h1] at h2 <;> cases h2 <;> rfl
theorem Rep.inj (I : Inv X pins σ H s) {x : V} {d : D} (h : Rep X.K H x d) : ∀ {e : D}, Rep X.K H x e → d = e := by
 induction h with
 | non => intro e h2; cases h2; rfl
 | bl b => intro e h2; cases h2; rfl
 | int b => intro e h2; cases h2; rfl
 | ty b => intro e h2; cases h2; rfl
 | str cs =>
  intro e h2
  generalize hx : V.str (tx cs) = x at h2
  cases h2 <;> first | (cases hx; done) | skip
  rename_i cs'
  have q : tx cs = tx cs' := by injection hx
  rw [tx_inj.mp q]
 | @tup a xs ds h1 l1 r1 ih =>
  intro e h2
  cases h2 with
  | tup h2 l2 r2 =>
   have q := I.tuple_inj h1 h2
   subst q
   rw [ext_rep l1 l2 fun j x d e a b c => ih j x d a b (r2 j x e a c)]
  | lst h2 l2 r2 =>
   obtain ⟨_, _, p, _⟩ := I.tuple h1
   obtain ⟨_, _, p2, _⟩ := I.list h2
   exact absurd (typeIs_one p.typeIs p2.isList.typeIs) (by decide)
  | dct h2 l2 r2 =>
   obtain ⟨_, _, p, _⟩ := I.tuple h1
   obtain ⟨_, _, vs, _, dd⟩ := dk_rd I.hok h2
   exact absurd (typeIs_one p.typeIs dd.typeIs) (by decide)
 | @lst a xs ds h1 l1 r1 ih =>
  intro e h2
  cases h2 with
  | lst h2 l2 r2 =>
   have q := I.list_inj h1 h2
   subst q
   rw [ext_rep l1 l2 fun j x d e a b c => ih j x d a b (r2 j x e a c)]
  | tup h2 l2 r2 =>
   obtain ⟨_, _, p, _⟩ := I.list h1
   obtain ⟨_, _, p2, _⟩ := I.tuple h2
   exact absurd (typeIs_one p.isList.typeIs p2.typeIs) (by decide)
  | dct h2 l2 r2 =>
   obtain ⟨_, _, p, _⟩ := I.list h1
   obtain ⟨_, _, vs, _, dd⟩ := dk_rd I.hok h2
   exact absurd (typeIs_one p.isList.typeIs dd.typeIs) (by decide)
 | @dct a kvs ds h1 l1 r1 ih =>
  intro e h2
  cases h2 with
  | @dct _ kvs2 es h2 l2 r2 =>
   have ek := rd_inj h1 h2
   subst ek
   congr 1
   have z1 : kvs.length = ds.length := by have := congrArg List.length l1; simpa using this
   have z2 : kvs.length = es.length := by have := congrArg List.length l2; simpa using this
   refine List.ext_getElem? fun j => ?_
   by_cases hj : j < kvs.length
   ·have h1 : j < ds.length := by omega
    have h2 : j < es.length := by omega
    have e1 : ds[j]? = some ds[j] := by simp [h1]
    have e2 : es[j]? = some es[j] := by simp [h2]
    have k1 : (kvs.map (·.1))[j]? = (ds.map (·.1))[j]? := by rw [l1]
    have k2 : (kvs.map (·.1))[j]? = (es.map (·.1))[j]? := by rw [l2]
    rw [List.getElem?_map, List.getElem?_map, e1, show kvs[j]? = some kvs[j] by simp [hj]] at k1
    rw [List.getElem?_map, List.getElem?_map, e2, show kvs[j]? = some kvs[j] by simp [hj]] at k2
    have q := ih j kvs[j] ds[j] (by simp [hj]) e1 (r2 j kvs[j] es[j] (by simp [hj]) e2)
    rw [e1, e2]
    congr 1
    refine Prod.ext ?_ q
    simp at k1 k2
    rw [← k1, ← k2]
   ·rw [List.getElem?_eq_none (by omega), List.getElem?_eq_none (by omega)]
  | tup h2 l2 r2 =>
   obtain ⟨_, _, vs, _, dd⟩ := dk_rd I.hok h1
   obtain ⟨_, _, p2, _⟩ := I.tuple h2
   exact absurd (typeIs_one dd.typeIs p2.typeIs) (by decide)
  | lst h2 l2 r2 =>
   obtain ⟨_, _, vs, _, dd⟩ := dk_rd I.hok h1
   obtain ⟨_, _, p2, _⟩ := I.list h2
   exact absurd (typeIs_one dd.typeIs p2.isList.typeIs) (by decide)
end
def inL (d : D) : List D → Option Bool
 | [] => some false
 | y :: ys => match eqD 7 y d, inL d ys with
  | some a, some b => some (a || b)
  | _, _ => none
open Classical in
noncomputable def eqAny (K : PySem.W.Frag) (H : Hp) (d : D) (u : Value) : Bool := decide (∃ y e, RelV y u ∧ Rep K H y e ∧ eqD 7 e d = some true)
section
variable {X : Cx} {pins : List (Addr × Obj)} {σ : St} {H : Hp} {s : Shared}
theorem eqAny_of (I : Inv X pins σ H s) {y : V} {u : Value} {d e : D} {b : Bool} (r : RelV y u) (h : Rep X.K H y e) (he : eqD 7 e d = some b) : eqAny X.K H d u = b := by
 unfold eqAny
 cases b with
 | true => exact @decide_eq_true _ (Classical.propDecidable _) ⟨y, e, r, h, he⟩
 | false =>
  refine @decide_eq_false _ (Classical.propDecidable _) ?_
  rintro ⟨y', e', r', h', he'⟩
  have q := r'.inj r
  subst q
  have q2 := h'.inj I h
  subst q2
  rw [he] at he'
  cases he'
theorem in_any (I : Inv X pins σ H s) {d : D} : ∀ {ds : List D} {xs : List V} {us : List Value} {b : Bool}, inL d ds = some b → RepL X.K H xs ds → Vals xs us → us.any (eqAny X.K H d) = b
 | [], [], us, b, h, _, v => by cases v; cases h; rfl
 | [], _ :: _, _, _, _, r, _ => by have := r.len; simp at this
 | _ :: _, [], _, _, _, r, _ => by have := r.len; simp at this
 | e :: ds, x :: xs, us, b, h, r, v => by
  cases v with
  | cons r1 v =>
   unfold inL at h
   cases h1 : eqD 7 e d with
   | none => rw [h1] at h; cases h
   | some p =>
    cases h2 : inL d ds with
    | none => rw [h1, h2] at h; cases h
    | some q =>
     rw [h1, h2] at h
     cases h
     rw [List.any_cons, eqAny_of I r1 r.head h1, in_any I h2 r.tail v]
theorem in_each (I : Inv X pins σ H s) {d : D} {x' : V} {w' : Value} {A : Around} (hx : Rep X.K H x' d) (rx : RelV x' w') (hu : A.units + 7 < cLine) : ∀ {ds : List D} {xs : List V} {us : List Value} {b : Bool}, inL d ds = some b → RepL X.K H xs ds → Vals xs us → ∀ u ∈ us, SeqAt.EqAt A s u w' (eqAny X.K H d u)
 | [], [], us, b, h, _, v => by cases v; intro u hu; cases hu
 | [], _ :: _, _, _, _, r, _ => by have := r.len; simp at this
 | _ :: _, [], _, _, _, r, _ => by have := r.len; simp at this
 | e :: ds, x :: xs, us, b, h, r, v => by
  cases v with
  | cons r1 v =>
   unfold inL at h
   cases h1 : eqD 7 e d with
   | none => rw [h1] at h; cases h
   | some p =>
    cases h2 : inL d ds with
    | none => rw [h1, h2] at h; cases h
    | some q =>
     intro u hm
     rcases List.mem_cons.mp hm with rfl | hm
     ·rw [eqAny_of I r1 r.head h1]
      exact (eqd_all I 7 h1 r.head hx r1 rx hu).1
     ·exact in_each I hx rx hu h2 r.tail v u hm
end
theorem op_inX {X : Cx} {K : PySem.W.Frag} (hK : X.K = K) (hu : X.A.units + 8 < cLine) : OpR X (compareOp .In) (fun x y H Q => ∃ d ds b p xs, Rep K H x d ∧ y = .ref p ∧ (SqL K H p xs ∨ SqT K H p xs) ∧ RepL K H xs ds ∧ inL d ds = some b ∧ Q (.bl b) H) := by
 subst hK
 intro pins s σ H x y v u Q I rx ry h
 obtain ⟨d, ds, b, p, xs, hx, rfl, hq, hr, hb, q⟩ := h
 cases ry
 rcases hq with hq | hq
 ·obtain ⟨its, r, pl, hz⟩ := I.list hq
  refine SeqAt.in_listAt (eqAny X.K H d) pl.isList (fun w hw => in_each I hx rx (by show X.A.units + 1 + 7 < _; omega) hb hr r w (by simpa using hw)) ⟨.bl _, H, I, rfl, ?_⟩
  rw [show its.toArray.any (eqAny X.K H d) = its.any (eqAny X.K H d) by simp, in_any I hb hr r]
  exact q
 ·obtain ⟨its, r, pl, hz⟩ := I.tuple hq
  refine SeqAt.in_tupleAt (eqAny X.K H d) pl (fun w hw => in_each I hx rx (by show X.A.units + 1 + 7 < _; omega) hb hr r w (by simpa using hw)) ⟨.bl _, H, I, rfl, ?_⟩
  rw [show its.toArray.any (eqAny X.K H d) = its.any (eqAny X.K H d) by simp, in_any I hb hr r]
  exact q
theorem op_notInX {X : Cx} {K : PySem.W.Frag} (hK : X.K = K) (hu : X.A.units + 8 < cLine) : OpR X (compareOp .NotIn) (fun x y H Q => ∃ d ds b p xs, Rep K H x d ∧ y = .ref p ∧ (SqL K H p xs ∨ SqT K H p xs) ∧ RepL K H xs ds ∧ inL d ds = some b ∧ Q (.bl (!b)) H) := by
 subst hK
 intro pins s σ H x y v u Q I rx ry h
 obtain ⟨d, ds, b, p, xs, hx, rfl, hq, hr, hb, q⟩ := h
 cases ry
 rcases hq with hq | hq
 ·obtain ⟨its, r, pl, hz⟩ := I.list hq
  refine SeqAt.notIn_listAt (eqAny X.K H d) pl.isList (fun w hw => in_each I hx rx (by show X.A.units + 1 + 7 < _; omega) hb hr r w (by simpa using hw)) ⟨.bl _, H, I, rfl, ?_⟩
  rw [show its.toArray.any (eqAny X.K H d) = its.any (eqAny X.K H d) by simp, in_any I hb hr r]
  exact q
 ·obtain ⟨its, r, pl, hz⟩ := I.tuple hq
  refine SeqAt.notIn_tupleAt (eqAny X.K H d) pl (fun w hw => in_each I hx rx (by show X.A.units + 1 + 7 < _; omega) hb hr r w (by simpa using hw)) ⟨.bl _, H, I, rfl, ?_⟩
  rw [show its.toArray.any (eqAny X.K H d) = its.any (eqAny X.K H d) by simp, in_any I hb hr r]
  exact q
def keyOf : D → Option Key
 | .int i => some (.inl i)
 | .str cs => some (.inr (tx cs))
 | _ => none
def valD (es : List (Key × D)) (k : Key) : Option D := (es.find? fun kv => decide (kv.1 = k)).map (·.2)
def putD (es : List (Key × D)) (k : Key) (d : D) : List (Key × D) := if (es.any fun kv => decide (kv.1 = k)) = true then es.map fun kv => if kv.1 = k then (kv.1, d) else kv else es ++ [(k, d)]
def dropD (es : List (Key × D)) (k : Key) : List (Key × D) := es.filter fun kv => decide (kv.1 ≠ k)
section
variable {K : PySem.W.Frag} {G : Hp}
theorem RepKV.nil : RepKV K G [] [] := ⟨rfl, fun j p e h => by simp at h⟩
theorem RepKV.cons {p : Key × V} {e : Key × D} {kvs : List (Key × V)} {es : List (Key × D)} (hk : p.1 = e.1) (h : Rep K G p.2 e.2) (r : RepKV K G kvs es) : RepKV K G (p :: kvs) (e :: es) := by
 refine ⟨by rw [List.map_cons, List.map_cons, hk, r.keys], fun j x y a b => ?_⟩
 cases j with
 | zero => simp at a b; subst a b; exact h
 | succ j => exact r.get j x y (by simpa using a) (by simpa using b)
theorem RepKV.inv {p : Key × V} {e : Key × D} {kvs : List (Key × V)} {es : List (Key × D)} (r : RepKV K G (p :: kvs) (e :: es)) : p.1 = e.1 ∧ Rep K G p.2 e.2 ∧ RepKV K G kvs es := by
 have k := r.keys
 rw [List.map_cons, List.map_cons] at k
 exact ⟨(List.cons.inj k).1, r.get 0 p e rfl rfl, (List.cons.inj k).2, fun j x y a b => r.get (j + 1) x y (by simpa using a) (by simpa using b)⟩
theorem RepKV.len {kvs : List (Key × V)} {es : List (Key × D)} (r : RepKV K G kvs es) : kvs.length = es.length := by have := congrArg List.length r.keys; simpa using this
theorem RepKV.ind {P : List (Key × V) → List (Key × D) → Prop} (h0 : P [] []) (h1 : ∀ p e kvs es, p.1 = e.1 → Rep K G p.2 e.2 → RepKV K G kvs es → P kvs es → P (p :: kvs) (e :: es)) : ∀ {kvs : List (Key × V)} {es : List (Key × D)}, RepKV K G kvs es → P kvs es
 | [], [], _ => h0
 | [], _ :: _, r => by have := r.len; simp at this
 | _ :: _, [], r => by have := r.len; simp at this
 | p :: kvs, e :: es, r => by
  obtain ⟨a, b, c⟩ := r.inv
  exact h1 p e kvs es a b c (RepKV.ind h0 h1 c)
theorem RepKV.val {kvs : List (Key × V)} {es : List (Key × D)} (r : RepKV K G kvs es) (k : Key) : (∀ d, valD es k = some d → ∃ v, valV kvs k = some v ∧ Rep K G v d) ∧ (valD es k = none → valV kvs k = none) := by
 refine RepKV.ind (P := fun kvs es => (∀ d, valD es k = some d → ∃ v, valV kvs k = some v ∧ Rep K G v d) ∧ (valD es k = none → valV kvs k = none)) ⟨fun d h => by simp [valD] at h, fun _ => rfl⟩ (fun p e kvs es hk hr _ ih => ?_) r
 by_cases h : p.1 = k
 ·have h' : e.1 = k := by rw [← hk]; exact h
  refine ⟨fun d q => ⟨p.2, valV_pos h, ?_⟩, fun q => ?_⟩
  ·simp [valD, List.find?_cons, h'] at q
   subst q
   exact hr
  ·simp [valD, List.find?_cons, h'] at q
 ·have h' : ¬ e.1 = k := by rw [← hk]; exact h
  have e1 : valD (e :: es) k = valD es k := by simp [valD, List.find?_cons, h']
  rw [e1, valV_neg h]
  exact ih
theorem RepKV.append {kvs ks : List (Key × V)} {es fs : List (Key × D)} (r : RepKV K G kvs es) (r2 : RepKV K G ks fs) : RepKV K G (kvs ++ ks) (es ++ fs) :=
 RepKV.ind (P := fun kvs es => RepKV K G (kvs ++ ks) (es ++ fs)) r2 (fun p e kvs es hk hr _ ih => RepKV.cons hk hr ih) r
theorem RepKV.drop {kvs : List (Key × V)} {es : List (Key × D)} (r : RepKV K G kvs es) (k : Key) : RepKV K G (dropK kvs k) (dropD es k) := by
 refine RepKV.ind (P := fun kvs es => RepKV K G (dropK kvs k) (dropD es k)) .nil (fun p e kvs es hk hr _ ih => ?_) r
 unfold dropK dropD
 by_cases hp : p.1 = k
 ·rw [List.filter_cons_of_neg (by simpa using hp), List.filter_cons_of_neg (by simpa [← hk] using hp)]
  exact ih
 ·rw [List.filter_cons_of_pos (by simpa using hp), List.filter_cons_of_pos (by simpa [← hk] using hp)]
  exact RepKV.cons hk hr ih
theorem keyOf_V {K : PySem.W.Frag} {G H : Hp} {v : V} {d : D} {k : Key} (h : RepT K G H v d) (e : keyOf d = some k) : v = kV k := by
 cases d <;> first | (cases e; done) | skip
 ·cases e; exact h.int
 ·cases e; exact h.str
theorem RepL.atI {xs : List V} {ds : List D} (h : RepL K G xs ds) {i : Int} {d : D} (e : L2.atI ds i = some d) : ∃ x, L2.atI xs i = some x ∧ Rep K G x d := by
 unfold L2.atI at e ⊢
 rw [h.len]
 cases hj : ixN ds.length i with
 | none => rw [hj] at e; cases e
 | some j =>
  rw [hj] at e
  exact h.at e
end
theorem op_inD {X : Cx} (hu : X.A.units + 8 < cLine) : OpR X (compareOp .In) (fun x y H Q => ∃ a o, y = .ref a ∧ DGet H a x o ∧ Q (.bl o.isSome) H) := by
 intro pins s σ H x y v u Q I rx ry h
 obtain ⟨a, o, rfl, g, q⟩ := h
 cases ry
 exact d_in (by omega) I g rx fun s' I' => ⟨.bl _, H, I', rfl, q⟩
theorem op_notInD {X : Cx} (hu : X.A.units + 8 < cLine) : OpR X (compareOp .NotIn) (fun x y H Q => ∃ a o, y = .ref a ∧ DGet H a x o ∧ Q (.bl (!o.isSome)) H) := by
 intro pins s σ H x y v u Q I rx ry h
 obtain ⟨a, o, rfl, g, q⟩ := h
 cases ry
 exact d_notIn (by omega) I g rx fun s' I' => ⟨.bl _, H, I', rfl, q⟩
def subT (a b : List Nat) : Bool := !(Builtin.Str.occurrences (tx b) (tx a) 0 (tx b).length 1).isEmpty
def inDD : D → D → Option Bool
 | d, .lst ds => inL d ds
 | d, .tup ds => inL d ds
 | .str a, .str b => some (subT a b)
 | d, .dct es => (keyOf d).map fun k => (valD es k).isSome
 | _, _ => none
def inD (d e : D) : Option W := (inDD d e).bind vB
def notInD (d e : D) : Option W := (inDD d e).bind fun b => vB (!b)
section
variable {X : Cx} {B : Bs} {e a b c : Expr} {ma mb mc : M W} {pos : Pos}
theorem imp_in {G H : Hp} {σ : St} {ρ : Env'} {x y : V} {dx dy : D} {b : Bool} (R : RS B G H σ ρ) (hx : RepT B.K G H x dx) (hy : RepT B.K G H y dy) (e : inDD dx dy = some b) :
  (∃ d ds p xs, Rep B.K H x d ∧ y = .ref p ∧ (SqL B.K H p xs ∨ SqT B.K H p xs) ∧ RepL B.K H xs ds ∧ inL d ds = some b) ∨ (∃ i j, x = .str i ∧ y = .str j ∧ b = (!(Builtin.Str.occurrences j i 0 j.length 1).isEmpty)) ∨ (∃ a o, y = .ref a ∧ DGet H a x o ∧ b = o.isSome) := by
 cases dy with
 | lst ds =>
  obtain ⟨p, xs, rfl, h1, r1⟩ := hy.lst R.gH
  exact .inl ⟨dx, ds, p, xs, hx.rep R.gH, rfl, .inl h1, r1.same R.gH, by cases dx <;> exact e⟩
 | tup ds =>
  obtain ⟨p, xs, rfl, h1, r1⟩ := hy.tup R.gH
  exact .inl ⟨dx, ds, p, xs, hx.rep R.gH, rfl, .inr h1, r1.same R.gH, by cases dx <;> exact e⟩
 | dct es =>
  obtain ⟨p, kvs, rfl, h1, r1⟩ := hy.dct R.gH
  have e' : (keyOf dx).map (fun k => (valD es k).isSome) = some b := by cases dx <;> exact e
  cases hk : keyOf dx with
  | none => rw [hk] at e'; cases e'
  | some k =>
   rw [hk] at e'
   cases e'
   have hv := keyOf_V hx hk
   subst hv
   refine .inr (.inr ⟨p, valV kvs k, rfl, DGet.r h1, ?_⟩)
   obtain ⟨c1, c2⟩ := r1.val k
   show (valD es k).isSome = _
   cases hd : valD es k with
   | none => rw [c2 hd]; rfl
   | some d =>
    obtain ⟨v, q, _⟩ := c1 d hd
    rw [q]
    rfl
 | str cs =>
  cases dx <;> first | (cases e; done) | skip
  cases e
  exact .inr (.inl ⟨_, _, hx.str, hy.str, rfl⟩)
 | _ => cases dx <;> cases e
theorem imp2_in : Imp2 B (fun x y H Q => (∃ d ds b p xs, Rep B.K H x d ∧ y = .ref p ∧ (SqL B.K H p xs ∨ SqT B.K H p xs) ∧ RepL B.K H xs ds ∧ inL d ds = some b ∧ Q (.bl b) H) ∨ (∃ i j, x = .str i ∧ y = .str j ∧ Q (.bl (!(Builtin.Str.occurrences j i 0 j.length 1).isEmpty)) H) ∨ (∃ a o, y = .ref a ∧ DGet H a x o ∧ Q (.bl o.isSome) H)) inD := by
 intro G H σ ρ x y dx dy w Q R hx hy e p
 unfold inD at e
 cases hb : inDD dx dy with
 | none => rw [hb] at e; cases e
 | some b =>
  rw [hb] at e
  cases e
  have fin : Q (.bl b) H := p _ G H (Same.refl _) R (.bl _)
  rcases imp_in R hx hy hb with ⟨d, ds, pp, xs, h1, h2, h3, h4, h5⟩ | ⟨i, j, h1, h2, h3⟩ | ⟨a, o, h1, h2, h3⟩
  ·exact .inl ⟨d, ds, b, pp, xs, h1, h2, h3, h4, h5, fin⟩
  ·exact .inr (.inl ⟨i, j, h1, h2, by rw [← h3]; exact fin⟩)
  ·exact .inr (.inr ⟨a, o, h1, h2, by rw [← h3]; exact fin⟩)
theorem imp2_notIn : Imp2 B (fun x y H Q => (∃ d ds b p xs, Rep B.K H x d ∧ y = .ref p ∧ (SqL B.K H p xs ∨ SqT B.K H p xs) ∧ RepL B.K H xs ds ∧ inL d ds = some b ∧ Q (.bl (!b)) H) ∨ (∃ i j, x = .str i ∧ y = .str j ∧ Q (.bl (!(!(Builtin.Str.occurrences j i 0 j.length 1).isEmpty))) H) ∨ (∃ a o, y = .ref a ∧ DGet H a x o ∧ Q (.bl (!o.isSome)) H)) notInD := by
 intro G H σ ρ x y dx dy w Q R hx hy e p
 unfold notInD at e
 cases hb : inDD dx dy with
 | none => rw [hb] at e; cases e
 | some b =>
  rw [hb] at e
  cases e
  have fin : Q (.bl (!b)) H := p _ G H (Same.refl _) R (.bl _)
  rcases imp_in R hx hy hb with ⟨d, ds, pp, xs, h1, h2, h3, h4, h5⟩ | ⟨i, j, h1, h2, h3⟩ | ⟨a, o, h1, h2, h3⟩
  ·exact .inl ⟨d, ds, b, pp, xs, h1, h2, h3, h4, h5, fin⟩
  ·exact .inr (.inl ⟨i, j, h1, h2, by rw [← h3]; exact fin⟩)
  ·exact .inr (.inr ⟨a, o, h1, h2, by rw [← h3]; exact fin⟩)
theorem d_in' (hu : X.A.units + 8 < cLine) (ha : PD X B a ma) (hb : PD X B b mb) (hm : behindInMarks .In b = false := by with_unfolding_all rfl) (hK : X.K = B.K := by rfl) : PD X B (.Compare a [.In] [b] pos) (mBin inD ma mb) := pd_cmp (fun ξ => (op_inX (X := rz X ξ) hK hu).or (op_in_str.or (op_inD hu))) imp2_in ha hb hm
theorem t_in (hu : X.A.units + 8 < cLine) (ha : PD X B a ma) (hb : PD X B b mb) (hm : behindInMarks .In b = false := by with_unfolding_all rfl) (hK : X.K = B.K := by rfl) : PDT X B (.Compare a [.In] [b] pos) (mTst (mBin inD ma mb)) := pdt_cmp (fun ξ => (op_inX (X := rz X ξ) hK hu).or (op_in_str.or (op_inD hu))) imp2_in ha hb hm
theorem t_notIn (hu : X.A.units + 8 < cLine) (ha : PD X B a ma) (hb : PD X B b mb) (hm : behindInMarks .NotIn b = false := by with_unfolding_all rfl) (hK : X.K = B.K := by rfl) : PDT X B (.Compare a [.NotIn] [b] pos) (mTst (mBin notInD ma mb)) := pdt_cmp (fun ξ => (op_notInX (X := rz X ξ) hK hu).or (op_notIn_str.or (op_notInD hu))) imp2_notIn ha hb hm
end
def truD : D → Option Bool
 | .non => some false
 | .bl b => some b
 | .int i => some (i != 0)
 | .str cs => grd (small cs.length) (some ((cs.length : Int) != 0))
 | .lst ds => some (!ds.isEmpty)
 | .tup ds => some (!ds.isEmpty)
 | _ => none
def mTru (m : M W) : M Bool := M.bind m fun w => fun ρ => match getD w ρ with
 | some d => (truD d).map (R'.ok · ρ)
 | none => none
def mAnd (a b : M Bool) : M Bool := M.bind a fun k => if k = true then b else M.pure false
def mOr (a b : M Bool) : M Bool := M.bind a fun k => if k = true then M.pure true else b
def mNot (a : M Bool) : M Bool := M.bind a fun k => M.pure (!k)
def mBl (w : W) : M Bool := fun ρ => match getD w ρ with
 | some (.bl b) => some (.ok b ρ)
 | _ => none
def mAndV (a b : M W) : M W := M.bind a fun w => M.bind (mBl w) fun k => if k = true then b else mC (.bl false)
def mNotV (a : M W) : M W := M.bind a fun w => M.bind (mBl w) fun k => mC (.bl (!k))
theorem isEmpty_len {α β : Type} {xs : List α} {ys : List β} (h : xs.length = ys.length) : xs.isEmpty = ys.isEmpty := by
 cases xs <;> cases ys <;> simp_all
section
variable {X : Cx} {B : Bs} {e a b c : Expr} {ma mb mc : M W} {pos : Pos} {rest : List Expr}
theorem truV_of {G H : Hp} {σ : St} {ρ : Env'} {x : V} {d : D} {k : Bool} (R : RS B G H σ ρ) (h : RepT B.K G H x d) (e : truD d = some k) : TruV B.K x H k := by
 cases d with
 | non => cases e; rw [h.non]; rfl
 | bl b => cases e; rw [h.bl]; rfl
 | int i => cases e; rw [h.int]; rfl
 | str cs =>
  obtain ⟨z, e⟩ := grd_some e
  cases e
  rw [h.str]
  exact ⟨by rw [tx_len]; exact small_line z, by rw [tx_len]⟩
 | lst ds =>
  cases e
  obtain ⟨p, xs, rfl, h1, r1⟩ := h.lst R.gH
  exact .inl ⟨xs, h1, by rw [isEmpty_len r1.len]⟩
 | tup ds =>
  cases e
  obtain ⟨p, xs, rfl, h1, r1⟩ := h.tup R.gH
  exact .inr (.inl ⟨xs, h1, by rw [isEmpty_len r1.len]⟩)
 | dct es => cases e
 | ty n => cases e
theorem t_tru (ha : PD X B a ma) (he : ∀ whole, isTrue a X.env whole = (do let v ← whole; standAt a.pos; holding [v] (truthy v)) := by exact fun _ => rfl) (hK : X.K = B.K := by rfl) : PDT X B a (mTru ma) := .mk fun ξ =>
 (pt_truth (X := rz X ξ) (ha.ap ξ) he).imp fun σ H Q t => by
  obtain ⟨G, ρ, R, t⟩ := t
  refine (TD.bind (rel := relW) R t).mono fun x H1 ⟨G1, ρ1, w, s1, R1, q1, r, e, p⟩ => ?_
  cases hd : getD w ρ1 with
  | none => simp only [hd] at e; cases e
  | some d =>
   simp only [hd] at e
   cases hk : truD d with
   | none => rw [hk] at e; cases e
   | some k =>
    rw [hk] at e
    cases e
    refine ⟨k, ?_, p k G1 H1 (Same.refl _) R1 rfl⟩
    show TruV X.K x H1 k
    rw [hK]
    exact truV_of R1 (q1.get R1 hd) hk
theorem mBl_run {ξ : XP} {α β : Type} {rel' : Rel α β} {w : W} {f : Bool → M α} {G H : Hp} {ρ : Env'} {σ : St} {Q : β → Hp → Prop} {x : V} (R : RS B G H σ ρ) (q : RepW B G H σ ρ x w) (t : TDat rel' B ξ G ρ (M.bind (mBl w) f) σ Q) : ∃ k, x = .bl k ∧ TDat rel' B ξ G ρ (f k) σ Q := by
 obtain ⟨k, ρ', e, t⟩ := t.step fun r h => by
  unfold mBl at h
  split at h
  ·cases h; exact ⟨_, _, rfl⟩
  ·cases h
 unfold mBl at e
 split at e
 ·rename_i b hd
  cases e
  exact ⟨k, (q.get R hd).bl, t⟩
 ·cases e
theorem td_andV {ξ : XP} {σ : St} {H : Hp} {Q : VK} (t : TD relW B ξ (mAndV ma mb) σ H Q) : tAndV (TD relW B ξ ma) (TD relW B ξ mb) σ H Q := by
 obtain ⟨G, ρ, R, t⟩ := t
 refine (TD.bind (rel := relW) R t).mono fun x H1 ⟨G1, ρ1, w, s1, R1, q1, t2⟩ => ?_
 obtain ⟨k, rfl, t3⟩ := mBl_run R1 q1 t2
 refine ⟨k, rfl, ?_⟩
 cases k with
 | true => exact ⟨G1, ρ1, R1, t3⟩
 | false =>
  obtain ⟨r, e, p⟩ := t3
  cases e
  exact p _ G1 H1 (Same.refl _) R1 (.bl _)
theorem d_one {op} (ha : PD X B a ma) : PD X B (.BoolOp op [a] pos) ma := .mk fun ξ => pe_one (ha.ap ξ)
theorem d_and (ha : PD X B a ma) (hb : PD X B (.BoolOp .And (b :: rest) pos) mb) : PD X B (.BoolOp .And (a :: b :: rest) pos) (mAndV ma mb) := .mk fun ξ => (pe_and (ha.ap ξ) (hb.ap ξ)).imp fun _ _ _ t => td_andV t
theorem d_not (ha : PD X B a ma) : PD X B (.UnaryOp .Not a pos) (mNotV ma) := .mk fun ξ => (pe_not (ha.ap ξ)).imp fun σ H Q t => by
 obtain ⟨G, ρ, R, t⟩ := t
 refine (TD.bind (rel := relW) R t).mono fun x H1 ⟨G1, ρ1, w, s1, R1, q1, t2⟩ => ?_
 obtain ⟨k, rfl, r, e, p⟩ := mBl_run R1 q1 t2
 cases e
 exact ⟨k, rfl, p _ G1 H1 (Same.refl _) R1 (.bl _)⟩
end
end L3
set_option Elab.async false
set_option linter.all false
set_option maxRecDepth 100000
set_option maxHeartbeats 4000000
namespace L3
open PySem PySem.Spec PyProof.Rows L2
theorem ix_dict {X : Cx} (hu : X.A.units + 8 < cLine) : IxR X (fun x y H Q => ∃ a v, x = .ref a ∧ DGet H a y (some v) ∧ Q v H) := by
 intro value slice pins s σ H x y v u Q I rx ry h hs
 obtain ⟨a, z, rfl, g, q⟩ := h
 cases rx
 exact tail_any (dict_typeIs I g) PySem.F.slot_dict_getitem.lookup (d_getItem (by omega) I g ry fun w' s' I' r' => ⟨z, H, I', r', q⟩) hs
def ixD : D → D → Option W
 | .lst ds, .int i => (atI ds i).map W.val
 | .tup ds, .int i => (atI ds i).map W.val
 | .str cs, .int i => grd (small cs.length) ((atI cs i).map fun c => W.val (.str [c]))
 | .dct es, k => (keyOf k).bind fun k => (valD es k).map W.val
 | _, _ => none
section
variable {X : Cx} {B : Bs} {e a b c : Expr} {ma mb mc : M W} {pos : Pos}
theorem imp2_ix : Imp2 B (fun x y H Q => rIxL B.K x y H Q ∨ rIxT B.K x y H Q ∨ rIxS x y H Q ∨ ∃ a v, x = .ref a ∧ DGet H a y (some v) ∧ Q v H) ixD := by
 intro G H σ ρ x y dx dy w Q R hx hy e p
 cases dx with
 | lst ds =>
  cases dy <;> first | (cases e; done) | skip
  obtain ⟨d, e1, rfl⟩ := Option.map_eq_some_iff.mp e
  obtain ⟨q, xs, rfl, h1, r1⟩ := hx.lst R.gH
  obtain ⟨v, e2, r2⟩ := r1.atI e1
  exact .inl ⟨q, xs, _, v, rfl, hy.int, h1, e2, p v G H (Same.refl _) R r2⟩
 | tup ds =>
  cases dy <;> first | (cases e; done) | skip
  obtain ⟨d, e1, rfl⟩ := Option.map_eq_some_iff.mp e
  obtain ⟨q, xs, rfl, h1, r1⟩ := hx.tup R.gH
  obtain ⟨v, e2, r2⟩ := r1.atI e1
  exact .inr (.inl ⟨q, xs, _, v, rfl, hy.int, h1, e2, p v G H (Same.refl _) R r2⟩)
 | str cs =>
  cases dy <;> first | (cases e; done) | skip
  obtain ⟨z, e⟩ := grd_some e
  obtain ⟨c, e1, rfl⟩ := Option.map_eq_some_iff.mp e
  refine .inr (.inr (.inl ⟨tx cs, _, c, hx.str, hy.int, by rw [tx_len]; exact small_line z, by simpa using e1, p _ G H (Same.refl _) R (.str [c])⟩))
 | dct es =>
  have e' : (keyOf dy).bind (fun k => (valD es k).map W.val) = some w := by cases dy <;> exact e
  cases hk : keyOf dy with
  | none => rw [hk] at e'; cases e'
  | some k =>
   rw [hk] at e'
   obtain ⟨d, e1, rfl⟩ := Option.map_eq_some_iff.mp e'
   obtain ⟨q, kvs, rfl, h1, r1⟩ := hx.dct R.gH
   have hv := keyOf_V hy hk
   subst hv
   obtain ⟨v, e2, r2⟩ := (r1.val k).1 d e1
   refine .inr (.inr (.inr ⟨q, v, rfl, ?_, p v G H (Same.refl _) R r2⟩))
   rw [← e2]
   exact DGet.r h1
 | _ => cases dy <;> cases e
theorem d_ix (hu : X.A.units + 8 < cLine) (ha : PD X B a ma) (hb : PD X B b mb) (hs : PlainIx b := by exact fun _ _ => rfl) (hK : X.K = B.K := by rfl) : PD X B (.Subscript a b pos) (mBin ixD ma mb) := .mk fun ξ =>
 (pe_ix (X := rz X ξ) ((ix_listK (X := rz X ξ) (K := B.K) hK).or ((ix_tupK (X := rz X ξ) (K := B.K) hK).or (ix_str.or (ix_dict hu)))) (ha.ap ξ) (hb.ap ξ) hs).imp fun _ _ _ t => td_op2 imp2_ix t
end
def mPart (m : M W) : M (Option Int) := M.bind m fun w => fun ρ => match getD w ρ with
 | some (.int i) => some (.ok (some i) ρ)
 | _ => none
def cutD (ds : List D) (lo hi : Option Int) : List D := (ds.drop (HT.sIx ds.length 0 lo)).take (HT.sIx ds.length ds.length hi - HT.sIx ds.length 0 lo)
def slD : D → Option Int → Option Int → Option W
 | .lst ds, lo, hi => some (.own (.lst (cutD ds lo hi)))
 | .str cs, lo, hi => grd (small cs.length) (some (.val (.str (cutN cs lo hi))))
 | .tup ds, lo, hi => some (.val (.tup (cutD ds lo hi)))
 | _, _, _ => none
def mSl (ma : M W) (ml mh : M (Option Int)) : M W := M.bind (stab ma) fun x => M.bind ml fun lo => M.bind mh fun hi => op1 (fun d => slD d lo hi) x
def mNil : M (List W) := M.pure []
def mCons (m : M W) (r : M (List W)) : M (List W) := M.bind (stab m) fun x => M.bind r fun xs => M.pure (x :: xs)
section
variable {X : Cx} {B : Bs} {e a b c : Expr} {es : List Expr} {ma mb mc : M W} {mr : M (List W)} {pos p2 : Pos}
theorem a_nil : PDA X B [] mNil := .mk fun ξ => (pa_nil (X := rz X ξ)).imp fun σ H Q t => by
 obtain ⟨G, ρ, R, r, e, p⟩ := t
 cases e
 exact p [] G H (Same.refl _) R .nil
theorem relWs_keep {G G' H H' : Hp} {σ : St} {ρ ρ' : Env'} (s : Same G G') : ∀ {vs : List V} {ws : List W}, relWs B G H σ ρ vs ws → relWs B G' H' σ ρ' vs ws
 | _, _, .nil => .nil
 | _, _, .cons ⟨h, st⟩ t => .cons ⟨h.keep s st, st⟩ (relWs_keep s t)
theorem a_cons (ha : PD X B e ma) (hr : PDA X B es mr) (hs : starEach (e :: es) X.env = (false, eval e X.env) :: starEach es X.env := by rfl) : PDA X B (e :: es) (mCons ma mr) := .mk fun ξ =>
 (pa_cons (X := rz X ξ) (ha.ap ξ) (hr.ap ξ) hs).imp fun σ H Q t => by
  obtain ⟨G, ρ, R, t⟩ := t
  have t1 : TD relS B ξ (stab ma) σ H _ := TD.bind (rel := relS) R t
  refine TD.stab (t1.mono fun x H1 ⟨G1, ρ1, wa, s1, R1, ⟨q1, st1⟩, t2⟩ => ?_)
  refine (TD.bind (rel := relWs) R1 t2).mono fun xs H2 ⟨G2, ρ2, ws, s2, R2, q2, r, er, p⟩ => ?_
  cases er
  exact p (x :: xs) G2 H2 (Same.refl _) R2 (.cons ⟨q1.keep s2 st1, st1⟩ q2)
end
def leakL : List W → M (List D)
 | [] => M.pure []
 | w :: ws => M.bind (leak w) fun d => M.bind (leakL ws) fun ds => M.pure (d :: ds)
def mTup (m : M (List W)) : M W := M.bind m fun ws => M.bind (leakL ws) fun ds ρ => grd (small ds.length) (some (.ok (.val (.tup ds)) ρ))
def mLst (m : M (List W)) : M W := M.bind m fun ws => M.bind (leakL ws) fun ds ρ => grd (small ds.length) (some (.ok (.own (.lst ds)) ρ))
section
variable {X : Cx} {B : Bs} {e a b c : Expr} {es : List Expr} {ma mb mc : M W} {mr : M (List W)} {pos p2 : Pos}
theorem leakL_ok : ∀ {ws : List W} {ρ : Env'} {r : R' (List D)}, leakL ws ρ = some r → ∃ ds ρ', r = .ok ds ρ'
 | [], _, _, h => by cases h; exact ⟨_, _, rfl⟩
 | w :: ws, ρ, r, h => by
  unfold leakL at h
  cases h1 : leak w ρ with
  | none => rw [M.bind_none h1] at h; cases h
  | some r1 =>
   obtain ⟨d, ρ1, rfl⟩ := leak_ok h1
   rw [M.bind_ok h1] at h
   cases h2 : leakL ws ρ1 with
   | none => rw [M.bind_none h2] at h; cases h
   | some r2 =>
    obtain ⟨ds, ρ2, rfl⟩ := leakL_ok h2
    rw [M.bind_ok h2] at h
    cases h
    exact ⟨_, _, rfl⟩
theorem leakL_run : ∀ {ws : List W} {vs : List V} {G H : Hp} {σ : St} {ρ ρ' : Env'} {ds : List D}, RS B G H σ ρ → relWs B G H σ ρ vs ws → leakL ws ρ = some (.ok ds ρ') → ∃ G', Same G G' ∧ RS B G' H σ ρ' ∧ RepL B.K G' vs ds
 | [], _, G, H, σ, ρ, ρ', ds, R, q, e => by
  cases q
  cases e
  exact ⟨G, Same.refl _, R, .nil⟩
 | w :: ws, _, G, H, σ, ρ, ρ', ds, R, q, e => by
  cases q with
  | @cons v _ vs _ h1 t =>
   unfold leakL at e
   cases hl : leak w ρ with
   | none => rw [M.bind_none hl] at e; cases e
   | some r1 =>
    obtain ⟨d, ρ1, rfl⟩ := leak_ok hl
    rw [M.bind_ok hl] at e
    cases hl2 : leakL ws ρ1 with
    | none => rw [M.bind_none hl2] at e; cases e
    | some r2 =>
     obtain ⟨ds2, ρ2, rfl⟩ := leakL_ok hl2
     rw [M.bind_ok hl2] at e
     cases e
     obtain ⟨G1, s1, R1, rp⟩ := h1.1.leak R hl
     obtain ⟨G2, s2, R2, rl⟩ := leakL_run (ρ := ρ1) R1 (relWs_keep s1 t) hl2
     exact ⟨G2, s1.trans s2, R2, .cons (rp.same s2) rl⟩
theorem d_tup {x1} (h : PDA X B es mr) : PD X B (.Tuple es x1 pos) (mTup mr) := .mk fun ξ => (pe_tup (h.ap ξ)).imp fun σ H Q t => by
 obtain ⟨G, ρ, R, t⟩ := t
 refine (TD.bind (rel := relWs) R t).mono fun vs H1 ⟨G1, ρ1, ws, s1, R1, q1, t2⟩ => ?_
 obtain ⟨ds, ρ2, e2, r, er, p⟩ := t2.step fun r h => leakL_ok h
 obtain ⟨hz, er⟩ := grd_some er
 cases er
 obtain ⟨G2, s2, R2, rl⟩ := leakL_run R1 q1 e2
 refine ⟨by rw [rl.len]; exact small_line hz, fun pp hp => ?_⟩
 obtain ⟨G3, s3, R3, r3⟩ := R2.newTup hp rl
 exact p _ G3 _ (s2.trans s3) R3 r3
theorem d_lst (h : PDA X B es mr) : PD X B (.List es pos) (mLst mr) := .mk fun ξ => (pe_lst (h.ap ξ)).imp fun σ H Q t => by
 obtain ⟨G, ρ, R, t⟩ := t
 refine (TD.bind (rel := relWs) R t).mono fun vs H1 ⟨G1, ρ1, ws, s1, R1, q1, t2⟩ => ?_
 obtain ⟨ds, ρ2, e2, r, er, p⟩ := t2.step fun r h => leakL_ok h
 obtain ⟨hz, er⟩ := grd_some er
 cases er
 obtain ⟨G2, s2, R2, rl⟩ := leakL_run R1 q1 e2
 refine ⟨by rw [rl.len]; exact small_line hz, fun pp hp => ?_⟩
 obtain ⟨R3, r3⟩ := R2.newLst hp rl
 exact p _ G2 _ s2 R3 r3
def mDct0 : M W := M.pure (.own (.dct []))
end
def getDs : List W → Env' → Option (List D)
 | [], _ => some []
 | w :: ws, ρ => match getD w ρ, getDs ws ρ with
  | some d, some ds => some (d :: ds)
  | _, _ => none
def opN (f : List D → Option W) (ws : List W) : M W := fun ρ => match getDs ws ρ with
 | some ds => (f ds).map (R'.ok · ρ)
 | none => none
def mCB (f : List D → Option W) (m : M (List W)) : M W := M.bind m fun ws => opN f ws
abbrev RepTs (K : PySem.W.Frag) (G H : Hp) : List V → List D → Prop := Paired fun v d => RepT K G H v d
def ImpN (B : Bs) (r : List V → Hp → VK → Prop) (f : List D → Option W) : Prop := ∀ {G H : Hp} {σ : St} {ρ : Env'} {xs : List V} {ds : List D} {w : W} {Q : VK}, RS B G H σ ρ → RepTs B.K G H xs ds → f ds = some w →
 (∀ v G' H', Same G G' → RS B G' H' σ ρ → RepW B G' H' σ ρ v w → Q v H') → r xs H Q
theorem opN_run {B : Bs} {ξ : XP} {f : List D → Option W} {ws : List W} {G : Hp} {ρ : Env'} {σ : St} {Q : VK} (t : TDat relW B ξ G ρ (opN f ws) σ Q) : ∃ ds w, getDs ws ρ = some ds ∧ f ds = some w ∧ ∀ v G' H', Same G G' → RS B G' H' σ ρ → RepW B G' H' σ ρ v w → Q v H' := by
 obtain ⟨r, e, p⟩ := t
 unfold opN at e
 cases hx : getDs ws ρ with
 | none => rw [hx] at e; cases e
 | some dx =>
  rw [hx] at e
  simp only [] at e
  cases hf : f dx with
  | none => rw [hf] at e; cases e
  | some w =>
   rw [hf] at e
   cases e
   exact ⟨dx, w, rfl, hf, p⟩
theorem getDs_rep {B : Bs} {G H : Hp} {σ : St} {ρ : Env'} (R : RS B G H σ ρ) : ∀ {ws : List W} {vs : List V} {ds : List D}, relWs B G H σ ρ vs ws → getDs ws ρ = some ds → RepTs B.K G H vs ds
 | [], _, ds, q, e => by cases q; cases e; exact .nil
 | w :: ws, _, ds, q, e => by
  cases q with
  | cons h t =>
   unfold getDs at e
   cases h1 : getD w ρ with
   | none => rw [h1] at e; cases e
   | some d =>
    cases h2 : getDs ws ρ with
    | none => rw [h1, h2] at e; cases e
    | some ds2 =>
     rw [h1, h2] at e
     cases e
     exact .cons (h.1.get R h1) (getDs_rep R t h2)
section
variable {X : Cx} {B : Bs} {e a b c : Expr} {es : List Expr} {ma mb mc : M W} {mr : M (List W)} {pos p : Pos} {x : Str} {id T : String}
theorem td_CB {ξ : XP} {r : List V → Hp → VK → Prop} {f : List D → Option W} (hi : ImpN B r f) {σ : St} {H : Hp} {Q : VK} (t : TD relW B ξ (mCB f mr) σ H Q) : tCB r (TD relWs B ξ mr) σ H Q := by
 obtain ⟨G, ρ, R, t⟩ := t
 refine (TD.bind (rel := relWs) R t).mono fun vs H1 ⟨G1, ρ1, ws, s1, R1, q1, t2⟩ => ?_
 obtain ⟨ds, w, e1, e2, p⟩ := opN_run t2
 exact hi R1 (getDs_rep R1 q1 e1) e2 p
theorem d_callB {r : List V → Hp → VK → Prop} {f : List D → Option W} (hc : ∀ ξ, CallR (rz X ξ) (.builtin id) r) (hi : ImpN B r f) (hg : Gl X x) (hm : X.mg x = none) (hv : bootBuiltins x = some (.builtin id)) (ha : PDA X B (e :: es) mr) (hn : x ≠ "__name__" := by decide) (hdb : (x == ("__debug__" : Str)) = false := by decide)
  (he : starEach (e :: es) X.env = (false, eval e X.env) :: starEach es X.env := by rfl) (hpl : (backTo pos (starEach es X.env)).any (·.1) = false := by rfl) : PD X B (.Call (.Name x p) (e :: es) [] pos) (mCB f mr) := .mk fun ξ =>
 (pe_callB (X := rz X ξ) (hc ξ) hg hm hv (ha.ap ξ) hn hdb he hpl).imp fun _ _ _ t => td_CB hi t
theorem d_callTy {r : List V → Hp → VK → Prop} {f : List D → Option W} (hc : ∀ ξ, CallR (rz X ξ) (.type T) r) (hi : ImpN B r f) (hg : Gl X x) (hm : X.mg x = none) (hv : bootBuiltins x = some (.type T)) (ha : PDA X B (e :: es) mr) (hn : x ≠ "__name__" := by decide) (hdb : (x == ("__debug__" : Str)) = false := by decide)
  (he : starEach (e :: es) X.env = (false, eval e X.env) :: starEach es X.env := by rfl) (hpl : (backTo pos (starEach es X.env)).any (·.1) = false := by rfl) : PD X B (.Call (.Name x p) (e :: es) [] pos) (mCB f mr) := .mk fun ξ =>
 (pe_callTy (X := rz X ξ) (hc ξ) hg hm hv (ha.ap ξ) hn hdb he hpl).imp fun _ _ _ t => td_CB hi t
end
def lenD : List D → Option W
 | [.lst ds] => vI ds.length
 | [.tup ds] => vI ds.length
 | [.str cs] => grd (small cs.length) (vI cs.length)
 | [.dct es] => vI es.length
 | _ => none
def intD : List D → Option W
 | [.int i] => vI i
 | [.bl b] => vI (if b then 1 else 0)
 | [.str cs] => match intText? (tx cs) with
  | some n => grd (cs.length ≤ 640) (vI n)
  | none => none
 | _ => none
def listD : List D → Option W
 | [.lst ds] => some (.own (.lst ds))
 | [.tup ds] => some (.own (.lst ds))
 | [.dct es] => some (.own (.lst (es.map fun e => match e.1 with | .inl i => D.int i | .inr x => D.str x.cps.toList)))
 | _ => none
def tupleD : List D → Option W
 | [.lst ds] => some (.val (.tup ds))
 | [.tup ds] => some (.val (.tup ds))
 | _ => none
def blsOf : List D → Option (List Bool)
 | [] => some []
 | .bl b :: ds => (blsOf ds).map (b :: ·)
 | _ => none
def allD : List D → Option W
 | [.lst ds] => (blsOf ds).bind fun bs => vB (bs.all id)
 | _ => none
def anyD : List D → Option W
 | [.lst ds] => (blsOf ds).bind fun bs => vB (bs.any id)
 | _ => none
theorem blsOf_eq : ∀ {ds : List D} {bs : List Bool}, blsOf ds = some bs → ds = bs.map D.bl
 | [], _, h => by cases h; rfl
 | .bl b :: ds, bs, h => by
  unfold blsOf at h
  obtain ⟨bs', e, rfl⟩ := Option.map_eq_some_iff.mp h
  rw [blsOf_eq e]
  rfl
 | .non :: _, _, h => by cases h
 | .int _ :: _, _, h => by cases h
 | .str _ :: _, _, h => by cases h
 | .ty _ :: _, _, h => by cases h
 | .tup _ :: _, _, h => by cases h
 | .lst _ :: _, _, h => by cases h
 | .dct _ :: _, _, h => by cases h
theorem bls_V {K : PySem.W.Frag} {G : Hp} : ∀ {bs : List Bool} {xs : List V}, RepL K G xs (bs.map D.bl) → xs = bs.map V.bl
 | [], [], _ => rfl
 | [], _ :: _, r => by have := r.len; simp at this
 | _ :: _, [], r => by have := r.len; simp at this
 | b :: bs, x :: xs, r => by
  have h := r.head
  cases h
  rw [bls_V r.tail]
  rfl
section
variable {X : Cx} {B : Bs} {e a b c : Expr} {es : List Expr} {ma mb mc : M W} {mr : M (List W)} {pos p : Pos}
theorem one_of {K : PySem.W.Frag} {G H : Hp} {xs : List V} {d : D} (h : RepTs K G H xs [d]) : ∃ x, xs = [x] ∧ RepT K G H x d := by
 cases h with
 | cons h t => cases t; exact ⟨_, rfl, h⟩
theorem two_of {K : PySem.W.Frag} {G H : Hp} {xs : List V} {d d' : D} (h : RepTs K G H xs [d, d']) : ∃ x y, xs = [x, y] ∧ RepT K G H x d ∧ RepT K G H y d' := by
 cases h with
 | cons h t =>
  obtain ⟨y, rfl, h2⟩ := one_of t
  exact ⟨_, y, rfl, h, h2⟩
theorem call_lenDK : ∀ {X : Cx}, CallR X (.builtin "len") (fun xs H Q => ∃ a kvs, xs = [V.ref a] ∧ Rd H a (.dK kvs) ∧ Q (.int kvs.length) H) := by
 intro X pins s σ H xs us Q I r h
 obtain ⟨a, kvs, rfl, ha, q⟩ := h
 obtain ⟨u, rfl, ru⟩ := vals1 r
 cases ru
 exact L2.d_len I ha fun t s' I' => ⟨.int kvs.length, H, I', ⟨t, rfl⟩, q⟩
theorem impN_len : ImpN B (fun xs H Q => (∃ p ys, xs = [.ref p] ∧ (SqL B.K H p ys ∨ SqT B.K H p ys) ∧ Q (.int ys.length) H) ∨ (∃ z, xs = [.str z] ∧ z.length ≤ sizeLine ∧ Q (.int z.length) H) ∨ ∃ a kvs, xs = [V.ref a] ∧ Rd H a (.dK kvs) ∧ Q (.int kvs.length) H) lenD := by
 intro G H σ ρ xs ds w Q R h e p
 match ds, e with
 | [.lst ds], e =>
  cases e
  obtain ⟨x, rfl, hx⟩ := one_of h
  obtain ⟨q, ys, rfl, h1, r1⟩ := hx.lst R.gH
  exact .inl ⟨q, ys, rfl, .inl h1, by rw [r1.len]; exact p _ G H (Same.refl _) R (.int _)⟩
 | [.tup ds], e =>
  cases e
  obtain ⟨x, rfl, hx⟩ := one_of h
  obtain ⟨q, ys, rfl, h1, r1⟩ := hx.tup R.gH
  exact .inl ⟨q, ys, rfl, .inr h1, by rw [r1.len]; exact p _ G H (Same.refl _) R (.int _)⟩
 | [.str cs], e =>
  obtain ⟨z, e⟩ := grd_some e
  cases e
  obtain ⟨x, rfl, hx⟩ := one_of h
  exact .inr (.inl ⟨tx cs, by rw [hx.str], by rw [tx_len]; exact small_line z, by rw [tx_len]; exact p _ G H (Same.refl _) R (.int _)⟩)
 | [.dct es], e =>
  cases e
  obtain ⟨x, rfl, hx⟩ := one_of h
  obtain ⟨q, ys, rfl, h1, r1⟩ := hx.dct R.gH
  exact .inr (.inr ⟨q, ys, rfl, h1, by rw [r1.len]; exact p _ G H (Same.refl _) R (.int _)⟩)
theorem d_len (hm : X.mg "len" = none) (ha : PDA X B [e] mr) (hg : Gl X "len" := by rfl) (hK : X.K = B.K := by rfl) (he : starEach [e] X.env = (false, eval e X.env) :: starEach [] X.env := by rfl) (hpl : (backTo pos (starEach [] X.env)).any (·.1) = false := by rfl) : PD X B (.Call (.Name "len" p) [e] [] pos) (mCB lenD mr) :=
 d_callB (fun ξ => (call_lenK (X := rz X ξ) (K := B.K) hK).or (call_len_str.or call_lenDK)) impN_len hg hm PySem.boot_len ha (by decide) (by decide) he hpl
theorem impN_int : ImpN B (fun xs H Q => ((∃ i, xs = [.int i] ∧ Q (.int i) H) ∨ ∃ k, xs = [.bl k] ∧ Q (.int (if k then 1 else 0)) H) ∨ ∃ x n, xs = [.str x] ∧ intText? x = some n ∧ x.length ≤ 640 ∧ Q (.int n) H) intD := by
 intro G H σ ρ xs ds w Q R h e p
 match ds, e with
 | [.int i], e =>
  cases e
  obtain ⟨x, rfl, hx⟩ := one_of h
  exact .inl (.inl ⟨i, by rw [hx.int], p _ G H (Same.refl _) R (.int _)⟩)
 | [.bl k], e =>
  cases e
  obtain ⟨x, rfl, hx⟩ := one_of h
  exact .inl (.inr ⟨k, by rw [hx.bl], p _ G H (Same.refl _) R (.int _)⟩)
 | [.str cs], e =>
  obtain ⟨x, rfl, hx⟩ := one_of h
  have e : (match intText? (tx cs) with | some n => grd (cs.length ≤ 640) (vI n) | none => none) = some w := e
  split at e
  ·rename_i n hn
   obtain ⟨z, e⟩ := grd_some e
   cases e
   exact .inr ⟨tx cs, n, by rw [hx.str], hn, by rw [tx_len]; exact z, p _ G H (Same.refl _) R (.int _)⟩
  ·cases e
theorem d_int' (hm : X.mg "int" = none) (ha : PDA X B [e] mr) (hg : Gl X "int" := by rfl) (he : starEach [e] X.env = (false, eval e X.env) :: starEach [] X.env := by rfl) (hpl : (backTo pos (starEach [] X.env)).any (·.1) = false := by rfl) : PD X B (.Call (.Name "int" p) [e] [] pos) (mCB intD mr) :=
 d_callTy (fun ξ => call_int1.or call_int_str) impN_int hg hm PyProof.Rows.boot_int ha (by decide) (by decide) he hpl
theorem call_list_ofK {X : Cx} {K : PySem.W.Frag} (hK : X.K = K) : CallR X (.type "list") (fun xs H Q => ∃ p ys, xs = [.ref p] ∧ (SqL K H p ys ∨ SqT K H p ys) ∧ ∀ l, H l = none → Q (.ref l) (upd H l (.lst ys))) := by subst hK; exact call_list_of
theorem call_tuple_ofK {X : Cx} {K : PySem.W.Frag} (hK : X.K = K) : CallR X (.type "tuple") (fun xs H Q => ∃ p ys, xs = [.ref p] ∧ ((SqL K H p ys ∧ ∀ l, H l = none → Q (.ref l) (upd H l (.tup ys))) ∨ (SqT K H p ys ∧ Q (.ref p) H))) := by subst hK; exact call_tuple_of
theorem keys_rep {K : PySem.W.Frag} {G : Hp} {kvs : List (Key × V)} {es : List (Key × D)} (r : RepKV K G kvs es) : RepL K G (kvs.map fun kv => kV kv.1) (es.map fun e => match e.1 with | .inl i => D.int i | .inr x => D.str x.cps.toList) := by
 refine RepKV.ind (P := fun kvs es => RepL K G (kvs.map fun kv => kV kv.1) (es.map fun e => match e.1 with | .inl i => D.int i | .inr x => D.str x.cps.toList)) .nil (fun p e kvs es hk hr _ ih => ?_) r
 rw [List.map_cons, List.map_cons]
 refine .cons ?_ ih
 rw [hk]
 cases e.1 with
 | inl i => exact .int i
 | inr x => exact rep_str x
theorem impN_list : ImpN B (fun xs H Q => (∃ p ys, xs = [.ref p] ∧ (SqL B.K H p ys ∨ SqT B.K H p ys) ∧ ∀ l, H l = none → Q (.ref l) (upd H l (.lst ys))) ∨ ∃ a kvs, xs = [.ref a] ∧ Rd H a (.dK kvs) ∧ ∀ p, H p = none → Q (.ref p) (upd H p (.lst (kvs.map fun kv => kV kv.1)))) listD := by
 intro G H σ ρ xs ds w Q R h e p
 match ds, e with
 | [.lst ds], e =>
  cases e
  obtain ⟨x, rfl, hx⟩ := one_of h
  obtain ⟨q, ys, rfl, h1, r1⟩ := hx.lst R.gH
  refine .inl ⟨q, ys, rfl, .inl h1, fun l hl => ?_⟩
  obtain ⟨R', w'⟩ := R.newLst hl r1
  exact p _ G _ (Same.refl _) R' w'
 | [.tup ds], e =>
  cases e
  obtain ⟨x, rfl, hx⟩ := one_of h
  obtain ⟨q, ys, rfl, h1, r1⟩ := hx.tup R.gH
  refine .inl ⟨q, ys, rfl, .inr h1, fun l hl => ?_⟩
  obtain ⟨R', w'⟩ := R.newLst hl r1
  exact p _ G _ (Same.refl _) R' w'
 | [.dct es], e =>
  cases e
  obtain ⟨x, rfl, hx⟩ := one_of h
  obtain ⟨q, ys, rfl, h1, r1⟩ := hx.dct R.gH
  refine .inr ⟨q, ys, rfl, h1, fun l hl => ?_⟩
  obtain ⟨R', w'⟩ := R.newLst hl (keys_rep r1)
  exact p _ G _ (Same.refl _) R' w'
theorem d_list (hc : X.calm = true) (hm : X.mg "list" = none) (ha : PDA X B [e] mr) (hg : Gl X "list" := by rfl) (hK : X.K = B.K := by rfl) (he : starEach [e] X.env = (false, eval e X.env) :: starEach [] X.env := by rfl) (hpl : (backTo pos (starEach [] X.env)).any (·.1) = false := by rfl) : PD X B (.Call (.Name "list" p) [e] [] pos) (mCB listD mr) :=
 d_callTy (fun ξ => (call_list_ofK (X := rz X ξ) (K := B.K) hK).or (call_list_dict hc)) impN_list hg hm PyProof.Rows.boot_list ha (by decide) (by decide) he hpl
theorem impN_tuple : ImpN B (fun xs H Q => ∃ p ys, xs = [.ref p] ∧ ((SqL B.K H p ys ∧ ∀ l, H l = none → Q (.ref l) (upd H l (.tup ys))) ∨ (SqT B.K H p ys ∧ Q (.ref p) H))) tupleD := by
 intro G H σ ρ xs ds w Q R h e p
 match ds, e with
 | [.lst ds], e =>
  cases e
  obtain ⟨x, rfl, hx⟩ := one_of h
  obtain ⟨q, ys, rfl, h1, r1⟩ := hx.lst R.gH
  refine ⟨q, ys, rfl, .inl ⟨h1, fun l hl => ?_⟩⟩
  obtain ⟨G', s', R', w'⟩ := R.newTup hl r1
  exact p _ G' _ s' R' w'
 | [.tup ds], e =>
  cases e
  obtain ⟨x, rfl, hx⟩ := one_of h
  have hx' := hx
  rcases hx with hx | ⟨_, _, hf⟩
  ·cases hx with
   | tup h1 l1 r1 => exact ⟨_, _, rfl, .inr ⟨R.gH.tup h1, p _ G H (Same.refl _) R (.tup h1 l1 r1)⟩⟩
  ·exact (show False from hf).elim
theorem d_tuple (hm : X.mg "tuple" = none) (ha : PDA X B [e] mr) (hg : Gl X "tuple" := by rfl) (hK : X.K = B.K := by rfl) (he : starEach [e] X.env = (false, eval e X.env) :: starEach [] X.env := by rfl) (hpl : (backTo pos (starEach [] X.env)).any (·.1) = false := by rfl) : PD X B (.Call (.Name "tuple" p) [e] [] pos) (mCB tupleD mr) :=
 d_callTy (fun ξ => call_tuple_ofK (X := rz X ξ) (K := B.K) hK) impN_tuple hg hm PyProof.Rows.boot_tuple ha (by decide) (by decide) he hpl
theorem impN_all : ImpN B (fun xs H Q => ∃ (p : Addr) (bs : List Bool), xs = [.ref p] ∧ SqL B.K H p (bs.map V.bl) ∧ Q (.bl (bs.all id)) H) allD := by
 intro G H σ ρ xs ds w Q R h e p
 match ds, e with
 | [.lst ds], e =>
  obtain ⟨x, rfl, hx⟩ := one_of h
  have e : (blsOf ds).bind (fun bs => vB (bs.all id)) = some w := e
  cases hb : blsOf ds with
  | none => rw [hb] at e; cases e
  | some bs =>
   rw [hb] at e
   cases e
   rw [blsOf_eq hb] at hx
   obtain ⟨q, ys, rfl, h1, r1⟩ := hx.lst R.gH
   rw [bls_V r1] at h1
   exact ⟨q, bs, rfl, h1, p _ G H (Same.refl _) R (.bl _)⟩
theorem impN_any : ImpN B (fun xs H Q => ∃ (p : Addr) (bs : List Bool), xs = [.ref p] ∧ SqL B.K H p (bs.map V.bl) ∧ Q (.bl (bs.any id)) H) anyD := by
 intro G H σ ρ xs ds w Q R h e p
 match ds, e with
 | [.lst ds], e =>
  obtain ⟨x, rfl, hx⟩ := one_of h
  have e : (blsOf ds).bind (fun bs => vB (bs.any id)) = some w := e
  cases hb : blsOf ds with
  | none => rw [hb] at e; cases e
  | some bs =>
   rw [hb] at e
   cases e
   rw [blsOf_eq hb] at hx
   obtain ⟨q, ys, rfl, h1, r1⟩ := hx.lst R.gH
   rw [bls_V r1] at h1
   exact ⟨q, bs, rfl, h1, p _ G H (Same.refl _) R (.bl _)⟩
theorem d_all (hc : X.calm = true) (hm : X.mg "all" = none) (ha : PDA X B [e] mr) (hg : Gl X "all" := by rfl) (hK : X.K = B.K := by rfl) (he : starEach [e] X.env = (false, eval e X.env) :: starEach [] X.env := by rfl) (hpl : (backTo pos (starEach [] X.env)).any (·.1) = false := by rfl) : PD X B (.Call (.Name "all" p) [e] [] pos) (mCB allD mr) :=
 d_callB (fun ξ => call_allK (X := rz X ξ) (K := B.K) hK hc) impN_all hg hm PyProof.Rows.boot_all ha (by decide) (by decide) he hpl
theorem d_any (hc : X.calm = true) (hm : X.mg "any" = none) (ha : PDA X B [e] mr) (hg : Gl X "any" := by rfl) (hK : X.K = B.K := by rfl) (he : starEach [e] X.env = (false, eval e X.env) :: starEach [] X.env := by rfl) (hpl : (backTo pos (starEach [] X.env)).any (·.1) = false := by rfl) : PD X B (.Call (.Name "any" p) [e] [] pos) (mCB anyD mr) :=
 d_callB (fun ξ => call_anyK (X := rz X ξ) (K := B.K) hK hc) impN_any hg hm PyProof.Rows.boot_any ha (by decide) (by decide) he hpl
end
end L3
set_option Elab.async false
set_option linter.all false
set_option maxRecDepth 100000
set_option maxHeartbeats 4000000
namespace L3
open PySem PySem.Spec PyProof.Rows L2
inductive SR where
 | nx (ρ : Env') | rt (w : W) (ρ : Env') | bk (ρ : Env') | ct (ρ : Env') | ex (x : Exn) (ρ : Env')
abbrev SM := Env' → Option SR
def PostS (B : Bs) (ξ : XP) (G : Hp) (Dn : Ends) : SR → Prop
 | .nx ρ' => ∀ σ' G' H', Same G G' → RS B G' H' σ' ρ' → Dn.nx σ' H'
 | .bk ρ' => ∀ σ' G' H', Same G G' → RS B G' H' σ' ρ' → Dn.bk σ' H'
 | .ct ρ' => ∀ σ' G' H', Same G G' → RS B G' H' σ' ρ' → Dn.ct σ' H'
 | .rt w ρ' => ∀ v σ' G' H', Same G G' → RS B G' H' σ' ρ' → RepW B G' H' σ' ρ' v w → Dn.rt v H'
 | .ex x ρ' => ∀ σ' G' H', Same G G' → RS B G' H' σ' ρ' → ξ x σ' H'
def SDat (B : Bs) (ξ : XP) (G : Hp) (ρ : Env') (m : SM) (Dn : Ends) : Prop := ∃ r, m ρ = some r ∧ PostS B ξ G Dn r
def SD (B : Bs) (ξ : XP) (m : SM) : TS := fun Dn σ H => ∃ G ρ, RS B G H σ ρ ∧ SDat B ξ G ρ m Dn
structure PSD (X : Cx) (B : Bs) (st : Stmt) (m : SM) : Prop where
 ap : ∀ ξ, PS (rz X ξ) st (SD B ξ m)
structure PSsD (X : Cx) (B : Bs) (st : List Stmt) (m : SM) : Prop where
 ap : ∀ ξ, PSs (rz X ξ) st (SD B ξ m)
section
variable {X : Cx} {B : Bs} {ξ : XP} {G G' H : Hp} {σ : St} {ρ : Env'} {Dn : Ends} {st : Stmt} {rest : List Stmt} {m1 m2 : SM} {e c : Expr} {me : M W} {pos : Pos}
theorem PostS.same {r : SR} (s : Same G G') (h : PostS B ξ G Dn r) : PostS B ξ G' Dn r := by
 cases r with
 | nx ρ' => exact fun σ2 G2 H2 s2 => h σ2 G2 H2 (s.trans s2)
 | bk ρ' => exact fun σ2 G2 H2 s2 => h σ2 G2 H2 (s.trans s2)
 | ct ρ' => exact fun σ2 G2 H2 s2 => h σ2 G2 H2 (s.trans s2)
 | rt w ρ' => exact fun v σ2 G2 H2 s2 => h v σ2 G2 H2 (s.trans s2)
 | ex x ρ' => exact fun σ2 G2 H2 s2 => h σ2 G2 H2 (s.trans s2)
def seqS (m1 m2 : SM) : SM := fun ρ => match m1 ρ with
 | some (.nx ρ') => m2 ρ'
 | r => r
theorem seqS_nx {m1 m2 : SM} {ρ ρ' : Env'} (h : m1 ρ = some (.nx ρ')) : seqS m1 m2 ρ = m2 ρ' := by unfold seqS; rw [h]
def nxS : SM := fun ρ => some (.nx ρ)
theorem s_nil : PSsD X B [] nxS := .mk fun ξ => (pss_nil (X := rz X ξ)).imp fun Dn σ H t => by
 obtain ⟨G, ρ, R, r, e, p⟩ := t
 cases e
 exact p σ G H (Same.refl _) R
theorem s_cons (h1 : PSD X B st m1) (h2 : PSsD X B rest m2) : PSsD X B (st :: rest) (seqS m1 m2) := .mk fun ξ => (pss_cons (h1.ap ξ) (h2.ap ξ)).imp fun Dn σ H t => by
 obtain ⟨G, ρ, R, r, e, p⟩ := t
 unfold seqS at e
 cases h : m1 ρ with
 | none => rw [h] at e; cases e
 | some r1 =>
  rw [h] at e
  refine ⟨G, ρ, R, r1, h, ?_⟩
  cases r1 with
  | nx ρ1 => exact fun σ' G' H' s R' => ⟨G', ρ1, R', r, e, p.same s⟩
  | bk ρ1 => cases e; exact p
  | ct ρ1 => cases e; exact p
  | rt w ρ1 => cases e; exact p
  | ex x ρ1 => cases e; exact p
theorem s_one (h1 : PSD X B st m1) : PSsD X B [st] m1 := .mk fun ξ => pss_one (h1.ap ξ)
def thenS {α : Type} (m : M α) (f : α → SM) : SM := fun ρ => match m ρ with
 | none => none
 | some (.ex x ρ') => some (.ex x ρ')
 | some (.ok a ρ') => f a ρ'
theorem thenS_ok {α : Type} {m : M α} {f : α → SM} {ρ ρ' : Env'} {a : α} (h : m ρ = some (.ok a ρ')) : thenS m f ρ = f a ρ' := by unfold thenS; rw [h]
theorem SD.step {α β : Type} {rel : Rel α β} {m : M α} {f : α → SM} (R : RS B G H σ ρ) (t : SDat B ξ G ρ (thenS m f) Dn) : TD rel B ξ m σ H (fun v H1 => ∃ G1 ρ1 a, Same G G1 ∧ RS B G1 H1 σ ρ1 ∧ rel B G1 H1 σ ρ1 v a ∧ SDat B ξ G1 ρ1 (f a) Dn) := by
 obtain ⟨r, e, p⟩ := t
 unfold thenS at e
 cases hm : m ρ with
 | none => rw [hm] at e; cases e
 | some r1 =>
  rw [hm] at e
  cases r1 with
  | ex x ρ1 =>
   cases e
   exact ⟨G, ρ, R, _, hm, fun G' H' s R' => p σ G' H' s R'⟩
  | ok a ρ1 => exact ⟨G, ρ, R, _, hm, fun v G1 H1 s R1 q => ⟨G1, ρ1, a, s, R1, q, r, e, p.same s⟩⟩
def dropS (m : M W) : SM := thenS m fun _ => nxS
theorem s_expr (he : PD X B e me) (hs : swapsWith e none pos.line X.env = pure false := by rfl) : PSD X B (.Expr e pos) (dropS me) := .mk fun ξ => (ps_expr (X := rz X ξ) (he.ap ξ) hs).imp fun Dn σ H t => by
 obtain ⟨G, ρ, R, t⟩ := t
 refine (SD.step (rel := relW) R t).mono fun v H1 ⟨G1, ρ1, a, s1, R1, q1, r, e, p⟩ => ?_
 cases e
 exact p σ G1 H1 (Same.refl _) R1
def retW (w : W) : SM := fun ρ => match w with
 | .val d => some (.rt (.val d) ρ)
 | .own d => some (.rt (.own d) ρ)
 | .slot i => match ρ[i]? with
  | some (some (.sh d)) => some (.rt (.val d) ρ)
  | some (some (.ow false d)) => some (.rt (.own d) (ρ.set i none))
  | _ => none
def retS (m : M W) : SM := thenS m retW
theorem RS.forget {i : Nat} (R : RS B G H σ ρ) : RS B G H σ (ρ.set i none) := by
 by_cases hi : i < ρ.length
 ·refine ⟨R.hk, R.keep, R.g0, R.gH, R.gnew, R.dom, by simp [R.len], fun j d' q' => ?_, fun j l d' q' => ?_, fun j k l d' l' e' p' a b => ?_, R.fz.set1 (by intro _ h; cases h)⟩
  ·by_cases z : i = j
   ·subst z; rw [List.getElem?_set_self hi] at q'; cases q'
   ·rw [List.getElem?_set_ne z] at q'; exact R.sh j d' q'
  ·by_cases z : i = j
   ·subst z; rw [List.getElem?_set_self hi] at q'; cases q'
   ·rw [List.getElem?_set_ne z] at q'; exact R.ow j l d' q'
  ·by_cases z : i = j
   ·subst z; rw [List.getElem?_set_self hi] at a; cases a
   ·by_cases z' : i = k
    ·subst z'; rw [List.getElem?_set_self hi] at b; cases b
    ·rw [List.getElem?_set_ne z] at a
     rw [List.getElem?_set_ne z'] at b
     exact R.inj j k l d' l' e' p' a b
 ·rw [List.set_eq_of_length_le (by omega)]
  exact R
theorem s_ret (he : PD X B e me) : PSD X B (.Return (some e) pos) (retS me) := .mk fun ξ => (ps_ret (he.ap ξ)).imp fun Dn σ H t => by
 obtain ⟨G, ρ, R, t⟩ := t
 refine (SD.step (rel := relW) R t).mono fun v H1 ⟨G1, ρ1, w, s1, R1, q1, r, e, p⟩ => ?_
 unfold retW at e
 cases w with
 | val d => cases e; exact p v σ G1 H1 (Same.refl _) R1 q1
 | own d => cases e; exact p v σ G1 H1 (Same.refl _) R1 q1
 | slot i =>
  have h' : σ[i]? = some (some v) := q1
  simp only [] at e
  split at e
  ·rename_i d' q
   cases e
   obtain ⟨v', q1, r⟩ := R1.sh i _ q
   rw [h'] at q1
   cases q1
   exact p v σ G1 H1 (Same.refl _) R1 r
  ·rename_i d' q
   cases e
   obtain ⟨pp, q1, q2, q3, q4, o⟩ := R1.ow i _ _ q
   have hi : i < ρ1.length := (List.getElem?_eq_some_iff.mp q).1
   rw [h'] at q1
   cases q1
   refine p _ σ G1 H1 (Same.refl _) R1.forget ⟨pp, rfl, q2, q4, o, fun j l e' q' z => ?_⟩
   by_cases zz : i = j
   ·subst zz; rw [List.getElem?_set_self hi] at q'; cases q'
   ·rw [List.getElem?_set_ne zz] at q'
    exact zz (R1.inj i j _ _ _ _ pp q q' h' z)
  ·cases e
def ifS (c : M Bool) (a b : SM) : SM := thenS c fun k => if k = true then a else b
theorem s_if {mc : M Bool} {a b : List Stmt} (hc : PDT X B c mc) (ha : PSsD X B a m1) (hb : PSsD X B b m2) : PSD X B (.If c a b pos) (ifS mc m1 m2) := .mk fun ξ => (ps_if (hc.ap ξ) (ha.ap ξ) (hb.ap ξ)).imp fun Dn σ H t => by
 obtain ⟨G, ρ, R, t⟩ := t
 refine (SD.step (rel := relB) R t).mono fun k H1 ⟨G1, ρ1, k', s1, R1, q1, t2⟩ => ?_
 cases (show k = k' from q1)
 cases k with
 | true => exact ⟨G1, ρ1, R1, t2⟩
 | false => exact ⟨G1, ρ1, R1, t2⟩
theorem RS.setSh {i : Nat} {v : V} {d : D} (R : RS B G H σ ρ) (hi : i < ρ.length) (h : Rep B.K G v d) : RS B G H (σ.set i (some v)) (ρ.set i (some (.sh d))) := by
 have hs : i < σ.length := by rw [R.len]; exact hi
 refine ⟨R.hk, R.keep, R.g0, R.gH, R.gnew, R.dom, by simp [R.len], fun j d' q' => ?_, fun j l d' q' => ?_, fun j k l d' l' e' p' a b => ?_, R.fz.set2 (by intro _ h; cases h)⟩
 ·by_cases z : i = j
  ·subst z
   rw [List.getElem?_set_self hi] at q'
   cases q'
   exact ⟨v, by rw [List.getElem?_set_self hs], h⟩
  ·rw [List.getElem?_set_ne z] at q' ⊢; exact R.sh j d' q'
 ·by_cases z : i = j
  ·subst z; rw [List.getElem?_set_self hi] at q'; cases q'
  ·rw [List.getElem?_set_ne z] at q' ⊢; exact R.ow j l d' q'
 ·by_cases z : i = j
  ·subst z; rw [List.getElem?_set_self hi] at a; cases a
  ·by_cases z' : i = k
   ·subst z'; rw [List.getElem?_set_self hi] at b; cases b
   ·rw [List.getElem?_set_ne z] at a ⊢
    rw [List.getElem?_set_ne z'] at b ⊢
    exact R.inj j k l d' l' e' p' a b
theorem RS.setOw {i : Nat} {v : V} {d : D} (R : RS B G H σ ρ) (hi : i < ρ.length) (h : RepW B G H σ ρ v (.own d)) : RS B G H (σ.set i (some v)) (ρ.set i (some (.ow false d))) := by
 obtain ⟨p, rfl, g, h0, o, ne⟩ := h
 have hs : i < σ.length := by rw [R.len]; exact hi
 refine ⟨R.hk, R.keep, R.g0, R.gH, R.gnew, R.dom, by simp [R.len], fun j d' q' => ?_, fun j l d' q' => ?_, fun j k l d' l' e' p' a b => ?_, R.fz.set2 (by intro _ h; cases h)⟩
 ·by_cases z : i = j
  ·subst z; rw [List.getElem?_set_self hi] at q'; cases q'
  ·rw [List.getElem?_set_ne z] at q' ⊢; exact R.sh j d' q'
 ·by_cases z : i = j
  ·subst z
   rw [List.getElem?_set_self hi] at q'
   cases q'
   refine ⟨p, by rw [List.getElem?_set_self hs], g, ?_, h0, o⟩
   cases hq : B.HK p with
   | none => rfl
   | some ob => rw [R.hk p ob hq] at h0; cases h0
  ·rw [List.getElem?_set_ne z] at q' ⊢; exact R.ow j l d' q'
 ·by_cases z : i = j
  ·by_cases z' : i = k
   ·intro _ _; omega
   ·subst z
    rw [List.getElem?_set_self hs, List.getElem?_set_ne z']
    rw [List.getElem?_set_ne z'] at b
    intro a1 a2
    cases a1
    exact absurd a2 (ne k l' e' b)
  ·by_cases z' : i = k
   ·subst z'
    rw [List.getElem?_set_self hs, List.getElem?_set_ne z]
    rw [List.getElem?_set_ne z] at a
    intro a1 a2
    cases a2
    exact absurd a1 (ne j l d' a)
   ·rw [List.getElem?_set_ne z] at a ⊢
    rw [List.getElem?_set_ne z'] at b ⊢
    exact R.inj j k l d' l' e' p' a b
def storeS (i : Nat) (w : W) : SM := fun ρ => if i < ρ.length then match w with
 | .own d => some (.nx (ρ.set i (some (.ow false d))))
 | w => match leak w ρ with
  | some (.ok d ρ') => some (.nx (ρ'.set i (some (.sh d))))
  | _ => none
 else none
def setS (i : Nat) (m : M W) : SM := thenS m (storeS i)
theorem leak_len {w : W} {ρ ρ' : Env'} {d : D} (h : leak w ρ = some (.ok d ρ')) : ρ'.length = ρ.length := by
 unfold leak at h
 cases w with
 | val d => cases h; rfl
 | own d => cases h; rfl
 | slot i =>
  simp only [] at h
  split at h
  ·cases h; rfl
  ·cases h; simp
  ·cases h; rfl
  ·cases h
theorem store_run {i : Nat} {w : W} {v : V} {r : SR} (R : RS B G H σ ρ) (q : RepW B G H σ ρ v w) (e : storeS i w ρ = some r) : ∃ ρ' G', r = .nx ρ' ∧ Same G G' ∧ RS B G' H (σ.set i (some v)) ρ' := by
 unfold storeS at e
 split at e
 ·rename_i hi
  cases w with
  | own d => cases e; exact ⟨_, G, rfl, Same.refl _, R.setOw hi q⟩
  | val d =>
   cases e
   exact ⟨_, G, rfl, Same.refl _, R.setSh hi q⟩
  | slot j =>
   simp only [] at e
   split at e
   ·rename_i d ρ1 hl
    cases e
    obtain ⟨G', s', R', r'⟩ := q.leak R hl
    exact ⟨_, G', rfl, s', R'.setSh (by rw [leak_len hl]; exact hi) r'⟩
   ·cases e
 ·cases e
theorem s_set {i : Nat} {x : Str} {pos' : Pos} (he : PD X B e me) (hN : X.N.Nodup) (hi : X.N[i]? = some x := by rfl) (hx : Loc X.env.scope x := by first | exact Or.inl rfl | exact Or.inr rfl) (hs : swapsWith e (some (.Name x pos')) pos.line X.env = pure false := by rfl) (hf : X.fn x = true ∨ X.env.scope.names.lookup x = some .local := by first | exact .inl rfl | exact .inr rfl) :
  PSD X B (.Assign [.Name x pos'] e pos) (setS i me) := .mk fun ξ => (ps_set (X := rz X ξ) hN hi hx (he.ap ξ) hs hf).imp fun Dn σ H t => by
 obtain ⟨G, ρ, R, t⟩ := t
 refine (SD.step (rel := relW) R t).mono fun v H1 ⟨G1, ρ1, w, s1, R1, q1, r, e, p⟩ => ?_
 obtain ⟨ρ', G', rfl, s', R'⟩ := store_run R1 q1 e
 exact p _ G' H1 s' R'
end
structure Gives (K : PySem.W.Frag) (Gs : Hp) (J : It) (ds : List D) : Prop where
 go : ∀ (G H : Hp) (i : Nat), Same Gs G → Same G H → i < ds.length → J.go i H
 stop : ∀ (G H : Hp), Same Gs G → Same G H → J.stop ds.length H
 yld : ∀ (G H H' : Hp) (i : Nat) (x : V), Same Gs G → Same G H → i < ds.length → J.yld i H x H' → H' = H ∧ ∃ d, ds[i]? = some d ∧ Rep K G x d
def TDI (B : Bs) (ξ : XP) (m : M (List D)) : TI := fun σ H R => ∃ G ρ r, RS B G H σ ρ ∧ m ρ = some r ∧ match r with
 | .ok ds ρ' => ∀ J G' H', Same G G' → RS B G' H' σ ρ' → Gives B.K G' J ds → R J H'
 | .ex x ρ' => ∀ G' H', Same G G' → RS B G' H' σ ρ' → ξ x σ H'
structure PDI (X : Cx) (B : Bs) (tg iter : Expr) (m : M (List D)) : Prop where
 ap : ∀ ξ, PI (rz X ξ) tg iter (TDI B ξ m)
theorem _root_.L2.PI.imp {X : Cx} {tg e : Expr} {t t' : TI} (h : PI X tg e t) (i : ∀ σ H R, t' σ H R → t σ H R) : PI X tg e t' := fun pins s σ H R I q => h pins s σ H R I (i σ H R q)
def itD : D → Option (List D)
 | .lst ds => some ds
 | .tup ds => some ds
 | .str cs => some (cs.map fun c => D.str [c])
 | _ => none
def mIter (m : M W) : M (List D) := M.bind m fun w => M.bind (leak w) fun d => fun ρ => (itD d).map (R'.ok · ρ)
section
variable {X : Cx} {B : Bs} {tg e a b c : Expr} {ma mb mc : M W} {mr : M (List W)} {pos p : Pos}
def iSeq (K : PySem.W.Frag) (tl : TE) : TI := fun σ H R => tl σ H fun x H1 => (∃ a xs, x = .ref a ∧ SqL K H1 a xs ∧ R (Itl K a) H1) ∨ (∃ a xs, x = .ref a ∧ SqT K H1 a xs ∧ R (Itt K a) H1) ∨ ∃ y, x = .str y ∧ R (Its y) H1
theorem pi_seq {l : Expr} {tl : TE} {K : PySem.W.Frag} (hK : X.K = K) (hl : PE X l tl) : PI X tg l (iSeq K tl) := by
 subst hK
 intro pins s σ H R I h
 refine thn (hl pins s σ H _ I h) fun v s1 ⟨x, H1, I1, r1, q1⟩ => ?_
 have fp : ∀ b ∈ [s1.heap.objs.size], FpOk X pins H1 b := fun b hb => by
  have e : b = s1.heap.objs.size := by simpa using hb
  subst e
  exact I1.fpOk (Nat.le_refl _) (I1.hok.fresh (Nat.le_refl _))
 rcases q1 with ⟨a, xs, rfl, hq, q⟩ | ⟨a, xs, rfl, hq, q⟩ | ⟨y, rfl, q⟩
 ·cases r1
  obtain ⟨its, rv, p, hz⟩ := I1.list hq
  refine wpAny_pyIter_list p.isList ?_
  exact ⟨s1.heap.objs.size, [s1.heap.objs.size], _, _, H1, rfl, I1.kept (t' := s1.toks) fun b o e => Heap.get?_push_of_some _ e, turn_list a _, ⟨_, Heap.get?_push_size _ rfl, rfl, rfl⟩, fp, q⟩
 ·cases r1
  obtain ⟨its, rv, p, hz⟩ := I1.tuple hq
  refine wpAny_pyIter_tuple (show s1.heap.IsTuple a its.toArray from p) ?_
  exact ⟨s1.heap.objs.size, [s1.heap.objs.size], _, _, H1, rfl, I1.kept (t' := s1.toks) fun b o e => Heap.get?_push_of_some _ e, turn_tuple a _, ⟨_, Heap.get?_push_size _ rfl, rfl, rfl⟩, fp, q⟩
 ·obtain ⟨t, rfl⟩ := r1
  cases ha : y.cps.all (· < 128)
  ·exact wpAny_pyIter_wide ha ⟨s1.heap.objs.size, [s1.heap.objs.size], _, Its y, H1, rfl, I1.kept (t' := s1.toks) fun b o e => Heap.get?_push_of_some _ e, turn_strW y t _, ⟨_, Heap.get?_push_size _ rfl, rfl, rfl⟩, fp, q⟩
  ·exact wpAny_pyIter_ascii ha ⟨s1.heap.objs.size, [s1.heap.objs.size], _, Its y, H1, rfl, I1.kept (t' := s1.toks) fun b o e => Heap.get?_push_of_some _ e, turn_strA y t _, ⟨_, Heap.get?_push_size _ rfl, rfl, rfl⟩, fp, q⟩
theorem gives_list {K : PySem.W.Frag} {G : Hp} {a : Addr} {xs : List V} {ds : List D} (h : SqL K G a xs) (r : RepL K G xs ds) : Gives K G (Itl K a) ds where
 go := fun G' H i s1 s2 hi => by
  have hx : i < xs.length := by rw [r.len]; exact hi
  exact ⟨xs, xs[i], (s1.trans s2).seq h, by simp [hx]⟩
 stop := fun G' H s1 s2 => ⟨xs, (s1.trans s2).seq h, by rw [r.len]; exact Nat.le_refl _⟩
 yld := fun G' H H' i x s1 s2 hi y => by
  obtain ⟨rfl, y⟩ := y
  have e := y xs ((s1.trans s2).seq h)
  obtain ⟨d, e2, r2⟩ := r.atV e
  exact ⟨rfl, d, e2, r2.same s1⟩
theorem gives_tup {K : PySem.W.Frag} {G : Hp} {a : Addr} {xs : List V} {ds : List D} (h : SqT K G a xs) (r : RepL K G xs ds) : Gives K G (Itt K a) ds where
 go := fun G' H i s1 s2 hi => by
  have hx : i < xs.length := by rw [r.len]; exact hi
  exact ⟨xs, xs[i], (s1.trans s2).tup h, by simp [hx]⟩
 stop := fun G' H s1 s2 => ⟨xs, (s1.trans s2).tup h, by rw [r.len]; exact Nat.le_refl _⟩
 yld := fun G' H H' i x s1 s2 hi y => by
  obtain ⟨rfl, y⟩ := y
  have e := y xs ((s1.trans s2).tup h)
  obtain ⟨d, e2, r2⟩ := r.atV e
  exact ⟨rfl, d, e2, r2.same s1⟩
theorem gives_str {K : PySem.W.Frag} {G : Hp} (cs : List Nat) : Gives K G (Its (tx cs)) (cs.map fun c => D.str [c]) where
 go := fun G' H i s1 s2 hi => by
  show i < (tx cs).cps.size
  simpa using hi
 stop := fun G' H s1 s2 => by
  show (tx cs).cps.size ≤ _
  simp
 yld := fun G' H H' i x s1 s2 hi y => by
  obtain ⟨rfl, c, hc, rfl⟩ := y
  refine ⟨rfl, .str [c], ?_, .str [c]⟩
  rw [List.getElem?_map]
  have hc' : cs[i]? = some c := by simpa using hc
  rw [hc']
  rfl
theorem gives_range {K : PySem.W.Frag} {G : Hp} (lo : Int) (n : Nat) : Gives K G (Itr lo n) ((List.range n).map fun k => D.int (lo + ((k : Nat) : Int))) where
 go := fun G' H i s1 s2 hi => by
  show i < n
  simpa using hi
 stop := fun G' H s1 s2 => by
  show n ≤ _
  simp
 yld := fun G' H H' i x s1 s2 hi y => by
  obtain ⟨rfl, rfl⟩ := y
  have hi' : i < n := by simpa using hi
  refine ⟨rfl, .int (lo + i), ?_, .int _⟩
  rw [List.getElem?_map, List.getElem?_range hi']
  rfl
theorem i_seq (ha : PD X B e ma) (hK : X.K = B.K := by rfl) : PDI X B tg e (mIter ma) := .mk fun ξ => (pi_seq (X := rz X ξ) (K := B.K) hK (ha.ap ξ)).imp fun σ H Rr t => by
 obtain ⟨G, ρ, r, R, e, p⟩ := t
 have conv : TDat (rel := (fun (B : Bs) (G H : Hp) (σ : St) (ρ : Env') (J : It) (ds : List D) => Gives B.K G J ds)) B ξ G ρ (mIter ma) σ (fun J H => Rr J H) := by
  refine ⟨r, e, ?_⟩
  cases r with
  | ok ds ρ' => exact fun J G' H' s R' g => p J G' H' s R' g
  | ex x ρ' => exact p
 refine (TD.bind (rel := relW) R conv).mono fun x H1 ⟨G1, ρ1, w, s1, R1, q1, t2⟩ => ?_
 obtain ⟨d, ρ2, e2, r2, er, p2⟩ := t2.step fun r h => leak_ok h
 obtain ⟨G2, s2, R2, rp⟩ := q1.leak R1 e2
 cases hd : itD d with
 | none => rw [hd] at er; cases er
 | some ds =>
  rw [hd] at er
  cases er
  cases rp with
  | @lst a xs ds' h l r =>
   cases hd
   refine .inl ⟨a, xs, rfl, R2.gH.seq h, p2 (Itl B.K a) G2 H1 s2 R2 ?_⟩
   exact gives_list h ⟨l, r⟩
  | @tup a xs ds' h l r =>
   cases hd
   exact .inr (.inl ⟨a, xs, rfl, R2.gH.tup h, p2 (Itt B.K a) G2 H1 s2 R2 (gives_tup h ⟨l, r⟩)⟩)
  | str cs =>
   cases hd
   exact .inr (.inr ⟨tx cs, rfl, p2 (Its (tx cs)) G2 H1 s2 R2 (gives_str cs)⟩)
  | _ => cases hd
end
end L3
set_option Elab.async false
set_option linter.all false
set_option maxRecDepth 100000
set_option maxHeartbeats 4000000
namespace L3
open PySem PySem.Spec PyProof.Rows L2
def ints1 : List D → Option (List D)
 | [.int n] => grd (-(2 ^ 62) ≤ n ∧ n < 2 ^ 62) (some ((List.range n.toNat).map fun k => D.int (0 + ((k : Nat) : Int))))
 | _ => none
def mRng (f : List D → Option (List D)) (m : M (List W)) : M (List D) := M.bind m fun ws => fun ρ => match getDs ws ρ with
 | some ds => (f ds).map (R'.ok · ρ)
 | none => none
def relJ : Rel (List D) It := fun B G H σ ρ J ds => Gives B.K G J ds
section
variable {X : Cx} {B : Bs} {tg e a b c : Expr} {ma mb mc : M W} {mr : M (List W)} {pos p : Pos}
theorem tdi_at {ξ : XP} {m : M (List D)} {σ : St} {H : Hp} {Rr : It → Hp → Prop} (t : TDI B ξ m σ H Rr) : ∃ G ρ, RS B G H σ ρ ∧ TDat relJ B ξ G ρ m σ Rr := by
 obtain ⟨G, ρ, r, R, e, p⟩ := t
 refine ⟨G, ρ, R, r, e, ?_⟩
 cases r with
 | ok ds ρ' => exact fun J G' H' s R' g => p J G' H' s R' g
 | ex x ρ' => exact p
theorem rng_run {ξ : XP} {f : List D → Option (List D)} {ws : List W} {G : Hp} {ρ : Env'} {σ : St} {Rr : It → Hp → Prop} (t : TDat relJ B ξ G ρ (fun ρ => match getDs ws ρ with | some ds => (f ds).map (R'.ok · ρ) | none => none) σ Rr) : ∃ ds es, getDs ws ρ = some ds ∧ f ds = some es ∧ ∀ J G' H', Same G G' → RS B G' H' σ ρ → Gives B.K G' J es → Rr J H' := by
 obtain ⟨r, e, p⟩ := t
 cases hx : getDs ws ρ with
 | none => simp only [hx] at e; cases e
 | some ds =>
  simp only [hx] at e
  cases hf : f ds with
  | none => rw [hf] at e; cases e
  | some es =>
   rw [hf] at e
   cases e
   exact ⟨ds, es, rfl, hf, p⟩
theorem i_range1 (hm : X.mg "range" = none) (ha : PDA X B [a] mr) (hg : Gl X "range" := by rfl) (hs : starEach [a] X.env = [(false, eval a X.env)] := by rfl) : PDI X B tg (.Call (.Name "range" p) [a] [] pos) (mRng ints1 mr) := .mk fun ξ =>
 (pi_range1 (X := rz X ξ) hg hm (ha.ap ξ) hs).imp fun σ H Rr t => by
  obtain ⟨G, ρ, R, t⟩ := tdi_at t
  refine (TD.bind (rel := relWs) R t).mono fun vs H1 ⟨G1, ρ1, ws, s1, R1, q1, t2⟩ => ?_
  obtain ⟨ds, es, e1, e2, p⟩ := rng_run t2
  have h := getDs_rep R1 q1 e1
  match ds, e2 with
  | [.int n], e2 =>
   obtain ⟨z, e2⟩ := grd_some e2
   cases e2
   obtain ⟨x, rfl, hx⟩ := one_of h
   exact ⟨n, by rw [hx.int], z.1, z.2, p _ G1 H1 (Same.refl _) R1 (gives_range 0 n.toNat)⟩
end
abbrev FT := D → Env' → Option Env'
def TDG (B : Bs) (f : FT) : TG := fun v σ H Rr => ∃ G ρ d ρ', RS B G H σ ρ ∧ Rep B.K G v d ∧ f d ρ = some ρ' ∧ ∀ σ' G' H', Same G G' → RS B G' H' σ' ρ' → Rr σ' H'
structure PDG (X : Cx) (B : Bs) (tg : Expr) (f : FT) : Prop where
 ap : ∀ ξ, PG (rz X ξ) tg (TDG B f)
theorem _root_.L2.PG.imp {X : Cx} {tg : Expr} {t t' : TG} (h : PG X tg t) (i : ∀ v σ H R, t' v σ H R → t v σ H R) : PG X tg t' := fun pins s σ H v u Q I r q => h pins s σ H v u Q I r (i v σ H _ q)
def tgN (i : Nat) : FT := fun d ρ => if i < ρ.length then some (ρ.set i (some (.sh d))) else none
section
variable {X : Cx} {B : Bs} {tg e : Expr} {pos : Pos}
theorem g_name {i : Nat} {x : Str} (hN : X.N.Nodup) (hi : X.N[i]? = some x := by rfl) (hx : Loc X.env.scope x := by first | exact Or.inl rfl | exact Or.inr rfl) (hf : X.fn x = true ∨ X.env.scope.names.lookup x = some .local := by first | exact .inl rfl | exact .inr rfl) : PDG X B (.Name x pos) (tgN i) := .mk fun ξ =>
 (pg_name (X := rz X ξ) hN hi hx hf).imp fun v σ H Rr t => by
  obtain ⟨G, ρ, d, ρ', R, h, e, p⟩ := t
  unfold tgN at e
  split at e
  ·cases e
   exact p _ G H (Same.refl _) (R.setSh ‹_› h)
  ·cases e
end
def forL (tg : FT) (b : SM) : List D → SM
 | [] => fun ρ => some (.nx ρ)
 | d :: ds => fun ρ => match tg d ρ with
  | none => none
  | some ρ1 => match b ρ1 with
   | some (.nx ρ2) => forL tg b ds ρ2
   | some (.ct ρ2) => forL tg b ds ρ2
   | some (.bk ρ2) => some (.nx ρ2)
   | r => r
def forS (mi : M (List D)) (tg : FT) (b : SM) : SM := thenS mi fun ds => forL tg b ds
theorem passes_own {X : Cx} {ξ : XP} : PassesOwn (model X.prog X.w) X.A X.env (XE X ξ) := by
 rintro e s' ⟨x, pins, σ, H, I, ⟨a, cls, dct, rfl, ix, oa, fl, F⟩, q⟩
 have I0 : Inv X [] σ H s' := I.pins_of fun p hp => absurd hp (by simp)
 refine noted I0 F oa fl fun h' T I2 t oT => ?_
 obtain ⟨oe, vs, oT', ts, he, hc, hdc, hd, h1, r⟩ := id t
 refine wpAny_bind (wpAny_field he hd h1 ?_)
 rw [if_neg (show ¬ ((Value.ref T == Value.none) = true) from by simp)]
 rw [F.fr]
 exact marked (some X.env.locals) I2 F t oT fun h3 I3 t3 => ⟨x, [], σ, H, I3, ⟨a, cls, dct, rfl, ix, oa, .inr ⟨T, _, t3, oT, .inr rfl⟩, F⟩, q⟩
section
variable {X : Cx} {B : Bs} {tg iter : Expr} {body : List Stmt} {mi : M (List D)} {f : FT} {mb : SM} {pos : Pos}
theorem s_for (hi : PDI X B tg iter mi) (hg : PDG X B tg f) (hb : PSsD X B body mb) (hc : X.calm = true := by rfl) (hs : ∀ x, foldedSetIterable iter X.env x = pure x := by intro _; rfl) : PSD X B (.For tg iter body [] pos) (forS mi f mb) := .mk fun ξ =>
 (ps_for (X := rz X ξ) passes_own hc (hi.ap ξ) (hg.ap ξ) (hb.ap ξ) hs).imp fun Dn σ H t => by
  obtain ⟨G, ρ, R, r, e, p⟩ := t
  unfold forS thenS at e
  cases hm : mi ρ with
  | none => rw [hm] at e; cases e
  | some r1 =>
   rw [hm] at e
   cases r1 with
   | ex x ρ1 =>
    cases e
    exact ⟨G, ρ, _, R, hm, fun G' H' s R' => p σ G' H' s R'⟩
   | ok ds ρ1 =>
    refine ⟨G, ρ, _, R, hm, fun J Gs H1 s1 R1 gv => ?_⟩
    refine ⟨fun i m σ H => ∃ G ρ r, m = ds.length - i ∧ i ≤ ds.length ∧ Same Gs G ∧ RS B G H σ ρ ∧ forL f mb (ds.drop i) ρ = some r ∧ PostS B ξ G Dn r, ⟨ds.length, Gs, ρ1, r, by simp, Nat.zero_le _, Same.refl _, R1, by simpa using e, p.same s1⟩, ?_⟩
    rintro i m σ2 H2 ⟨G2, ρ2, r2, rfl, hle, s2, R2, e2, p2⟩
    by_cases hlt : i < ds.length
    ·have ed : ds.drop i = ds[i] :: ds.drop (i + 1) := List.drop_eq_getElem_cons hlt
     rw [ed] at e2
     unfold forL at e2
     cases ht : f ds[i] ρ2 with
     | none => rw [ht] at e2; cases e2
     | some ρ3 =>
      rw [ht] at e2
      refine .inr ⟨gv.go G2 H2 i s2 R2.gH hlt, fun σ' H' => ∃ G' ρ' r', Same Gs G' ∧ RS B G' H' σ' ρ' ∧ forL f mb (ds.drop (i + 1)) ρ' = some r' ∧ PostS B ξ G' Dn r', fun σ' H' ⟨G', ρ', r', a1, a2, a3, a4⟩ => ⟨ds.length - (i + 1), by omega, G', ρ', r', rfl, hlt, a1, a2, a3, a4⟩, fun x H' y => ?_⟩
      obtain ⟨rfl, d, hd, rx⟩ := gv.yld G2 H2 H' i x s2 R2.gH hlt y
      have ed2 : d = ds[i] := by
       rw [List.getElem?_eq_getElem hlt] at hd
       exact (Option.some.inj hd).symm
      subst ed2
      refine ⟨G2, ρ2, _, ρ3, R2, rx, ht, fun σ3 G3 H3 s3 R3 => ?_⟩
      cases hbr : mb ρ3 with
      | none => simp only [hbr] at e2; cases e2
      | some rb =>
       simp only [hbr] at e2
       refine ⟨G3, ρ3, R3, rb, hbr, ?_⟩
       cases rb with
       | nx ρ4 => exact fun σ4 G4 H4 s4 R4 => ⟨G4, ρ4, r2, (s2.trans s3).trans s4, R4, e2, p2.same (s3.trans s4)⟩
       | ct ρ4 => exact fun σ4 G4 H4 s4 R4 => ⟨G4, ρ4, r2, (s2.trans s3).trans s4, R4, e2, p2.same (s3.trans s4)⟩
       | bk ρ4 =>
        cases e2
        exact fun σ4 G4 H4 s4 R4 => p2 σ4 G4 H4 (s3.trans s4) R4
       | rt w ρ4 =>
        cases e2
        exact fun v σ4 G4 H4 s4 R4 q4 => p2 v σ4 G4 H4 (s3.trans s4) R4 q4
       | ex x ρ4 =>
        cases e2
        exact fun σ4 G4 H4 s4 R4 => p2 σ4 G4 H4 (s3.trans s4) R4
    ·have ei : i = ds.length := by omega
     subst ei
     rw [List.drop_length] at e2
     cases e2
     exact .inl ⟨gv.stop G2 H2 s2 R2.gH, p2 σ2 G2 H2 (Same.refl _) R2⟩
end
def tyD (T : String) : D → Bool
 | .str _ => T == "str"
 | .lst _ => T == "list"
 | .dct _ => T == "dict"
 | _ => false
def chk (T : String) (w : W) : M Unit := fun ρ => match getD w ρ with
 | some d => if tyD T d = true then some (.ok () ρ) else none
 | none => none
theorem chk_ok {T : String} {w : W} {ρ : Env'} {r : R' Unit} (h : chk T w ρ = some r) : r = .ok () ρ ∧ ∃ d, getD w ρ = some d ∧ tyD T d = true := by
 unfold chk at h
 split at h
 ·rename_i d hd
  split at h
  ·cases h
   exact ⟨rfl, d, hd, ‹_›⟩
  ·cases h
 ·cases h
theorem tyV_of {B : Bs} {G H : Hp} {σ : St} {ρ : Env'} {x : V} {d : D} {T : String} (R : RS B G H σ ρ) (h : RepT B.K G H x d) (t : tyD T d = true) (hT : T ≠ "dict" := by decide) : tyV B.K T x H := by
 cases d with
 | str cs => rw [h.str]; exact eq_of_beq t
 | lst ds =>
  obtain ⟨p, xs, rfl, h1, r1⟩ := h.lst R.gH
  exact .inl ⟨eq_of_beq t, xs, h1⟩
 | dct es =>
  exact absurd (eq_of_beq t) hT
 | _ => cases t
theorem mVar_run {i : Nat} {w : W} {ρ ρ' : Env'} (h : mVar i ρ = some (.ok w ρ')) : w = .slot i ∧ ρ' = ρ := by
 unfold mVar at h
 split at h
 ·cases h; exact ⟨rfl, rfl⟩
 ·cases h
def appendTo (i : Nat) (d : D) : M W := fun ρ => match ρ[i]? with
 | some (some (.ow l (.lst ds))) => grd (small ds.length) (some (.ok (.val .non) (ρ.set i (some (.ow l (.lst (ds ++ [d])))))))
 | _ => none
def mAppend (i : Nat) (m : M (List W)) : M W := M.bind (mVar i) fun x => M.bind (chk "list" x) fun _ => M.bind m fun ws => match ws with
 | [w] => M.bind (leak w) (appendTo i)
 | _ => fun _ => none
section
variable {X : Cx} {B : Bs} {o e : Expr} {es : List Expr} {mr : M (List W)} {apos cpos opos : Pos} {x : Str}
theorem slot_of {G H : Hp} {σ : St} {ρ : Env'} {i : Nat} {l : Bool} {d : D} (R : RS B G H σ ρ) (h : ρ[i]? = some (some (.ow l d))) {v : V} (hv : σ[i]? = some (some v)) : ∃ p, v = .ref p ∧ G p = none ∧ OwnAt B.K G H p d := by
 obtain ⟨p, q1, q2, q3, q4, q5⟩ := R.ow i l d h
 rw [hv] at q1
 cases q1
 exact ⟨p, rfl, q2, q5⟩
theorem d_append (i : Nat) (ho : PD X B o (mVar i)) (ha : PDA X B [e] mr)
  (hbase : attributeBase o "append" X.env (eval o X.env) = eval o X.env := by rfl)
  (hfew : ((backTo cpos (starEach [e] X.env)).all (fun x => !x.1) && (backToKw cpos (keywordEach [] X.env)).all (fun x => x.1.isSome)
   && decide (([e] : List Expr).length + ([] : List Keyword).length + (if ([] : List Keyword).isEmpty then 0 else 1) < 30)) = true := by rfl)
  (hline : (apos.endLine == cpos.line) = true := by rfl) (hs : starEach [e] X.env = (false, eval e X.env) :: starEach [] X.env := by rfl) (hplain : (backTo cpos (starEach [] X.env)).any (·.1) = false := by rfl) (hK : X.K = B.K := by rfl) :
  PD X B (.Call (.Attribute o "append" apos) [e] [] cpos) (mAppend i mr) := .mk fun ξ =>
 (pe_bm (X := rz X ξ) PySem.F.plainAttrs_list PySem.F.slot_list_append PySem.F.type_list_append mt_append (ho.ap ξ) (ha.ap ξ) hbase hfew hline hs hplain).imp fun σ H Q t => by
  obtain ⟨G, ρ, R, t⟩ := t
  refine (TD.bindE (rel := relW) R t).mono fun x H1 ⟨G1, ρ1, w, er, s1, R1, q1, t2⟩ => ?_
  obtain ⟨rfl, rfl⟩ := mVar_run er
  have hv : σ[i]? = some (some x) := q1
  obtain ⟨u, ρ2, e2, t3⟩ := t2.step fun r h => ⟨(), _, (chk_ok h).1⟩
  obtain ⟨e3, d, hd, ty⟩ := chk_ok e2
  cases e3
  refine ⟨by show tyV X.K "list" x H1; rw [hK]; exact tyV_of R1 (q1.get R1 hd) ty, ?_⟩
  refine (TD.bind (rel := relWs) R1 t3).mono fun vs H2 ⟨G2, ρ2, ws, s2, R2, q2, t4⟩ => ?_
  match ws, q2, t4 with
  | [], _, ⟨r, er, _⟩ => cases er
  | _ :: _ :: _, _, ⟨r, er, _⟩ => cases er
  | [w], q2, t4 =>
   cases q2 with
   | @cons v _ vs _ h t =>
    cases t
    obtain ⟨dv, ρ3, e4, r, er, p⟩ := t4.step fun r h => leak_ok h
    obtain ⟨G3, s3, R3, rv⟩ := h.1.leak R2 e4
    unfold appendTo at er
    split at er
    ·rename_i l ds hi
     obtain ⟨hz, er⟩ := grd_some er
     cases er
     obtain ⟨pp, rfl, g, xs, hx, rl⟩ := slot_of R3 hi hv
     refine ⟨pp, xs, v, rfl, rfl, hx, ?_, ?_⟩
     ·rw [rl.len, sizeLine_eq]; unfold small at hz; omega
     ·exact p .non G3 _ s3 (R3.write hi hv ⟨xs ++ [v], upd_same, rl.append (.one rv)⟩) .non
    ·cases er
end
end L3
set_option Elab.async false
set_option linter.all false
set_option maxRecDepth 100000
set_option maxHeartbeats 4000000
namespace L3
open PySem PySem.Spec PyProof.Rows L2
inductive FR where
 | ret (w : W) (fin : List D) | exc (x : Exn) (fin : List D)
inductive ArgsR (K : PySem.W.Frag) (G H : Hp) : List Bool → List V → List D → List Addr → Prop
 | nil : ArgsR K G H [] [] [] []
 | sh {v : V} {d : D} {ms : List Bool} {vs : List V} {ds : List D} {ps : List Addr} (h : Rep K G v d) (r : ArgsR K G H ms vs ds ps) : ArgsR K G H (false :: ms) (v :: vs) (d :: ds) ps
 | ln {p : Addr} {d : D} {ms : List Bool} {vs : List V} {ds : List D} {ps : List Addr} (g : G p = none) (o : OwnAt K G H p d) (n : p ∉ ps) (r : ArgsR K G H ms vs ds ps) : ArgsR K G H (true :: ms) (.ref p :: vs) (d :: ds) (p :: ps)
def minus (H : Hp) (ps : List Addr) : Hp := fun b => if b ∈ ps then none else H b
theorem minus_in {H : Hp} {ps : List Addr} {b : Addr} (h : b ∈ ps) : minus H ps b = none := if_pos h
theorem minus_out {H : Hp} {ps : List Addr} {b : Addr} (h : b ∉ ps) : minus H ps b = H b := if_neg h
theorem minus_same (H : Hp) (ps : List Addr) : Same (minus H ps) H := fun b o e => by
 unfold minus at e
 split at e
 ·cases e
 ·exact e
structure After (K : PySem.W.Frag) (G H : Hp) (ps : List Addr) (G' H' : Hp) (fin : List D) : Prop where
 keep : Same (minus H ps) H'
 gg : Same G G'
 gH : Same G' H'
 gnew : ∀ p o, G' p = some o → G p = some o ∨ H p = none
 dom : ∀ p, H' p = none → H p = none
 lent : Paired (fun p d => G' p = none ∧ OwnAt K G' H' p d) ps fin
def RepRet (K : PySem.W.Frag) (H G' H' : Hp) (v : V) : W → Prop
 | .val d => Rep K G' v d
 | .own d => ∃ p, v = .ref p ∧ G' p = none ∧ H p = none ∧ OwnAt K G' H' p d
 | .slot _ => False
def SpD (K : PySem.W.Frag) (ms : List Bool) (fm : List D → Option FR) : Sp := fun vs H Q E => ∃ G ds ps r, Same G H ∧ ArgsR K G H ms vs ds ps ∧ fm ds = some r ∧ match r with
 | .ret w fin => ∀ v G' H', After K G H ps G' H' fin → RepRet K H G' H' v w → Q v H'
 | .exc _ _ => False
theorem SpD.imp {K : PySem.W.Frag} {ms : List Bool} {fm fm' : List D → Option FR} (h : ∀ ds r, fm ds = some r → fm' ds = some r) : ∀ vs H Q E, SpD K ms fm vs H Q E → SpD K ms fm' vs H Q E := by
 rintro vs H Q E ⟨G, ds, ps, r, a, b, c, d⟩
 exact ⟨G, ds, ps, r, a, b, h ds r c, d⟩
theorem ArgsR.len {K : PySem.W.Frag} {G H : Hp} : ∀ {ms : List Bool} {vs : List V} {ds : List D} {ps : List Addr}, ArgsR K G H ms vs ds ps → vs.length = ms.length ∧ ds.length = ms.length
 | _, _, _, _, .nil => ⟨rfl, rfl⟩
 | _, _, _, _, .sh _ r => by obtain ⟨a, b⟩ := r.len; exact ⟨by simp [a], by simp [b]⟩
 | _, _, _, _, .ln _ _ _ r => by obtain ⟨a, b⟩ := r.len; exact ⟨by simp [a], by simp [b]⟩
def cellOf' (m : Bool) (d : D) : Option C := some (if m = true then .ow true d else .sh d)
def cells : List Bool → List D → Env'
 | m :: ms, d :: ds => cellOf' m d :: cells ms ds
 | _, _ => []
def startE (n : Nat) (ms : List Bool) (ds : List D) : Env' := cells ms ds ++ List.replicate (n - ds.length) none
def finsOf : List Bool → Env' → Option (List D)
 | [], _ => some []
 | false :: ms, _ :: ρ => finsOf ms ρ
 | true :: ms, some (.ow true d) :: ρ => (finsOf ms ρ).map (d :: ·)
 | _, _ => none
def outS (ms : List Bool) : SR → Option FR
 | .nx ρ => (finsOf ms ρ).map (FR.ret (.val .non))
 | .rt (.slot _) _ => none
 | .rt w ρ => (finsOf ms ρ).map (FR.ret w)
 | .ex x ρ => (finsOf ms ρ).map (FR.exc x)
 | _ => none
def runF (m : SM) (n : Nat) (ms : List Bool) (ds : List D) : Option FR := (m (startE n ms ds)).bind (outS ms)
def lentAt : List Bool → List Addr → Nat → Option Addr
 | [], _, _ => none
 | false :: _, _, 0 => none
 | false :: ms, ps, i + 1 => lentAt ms ps i
 | true :: _, p :: _, 0 => some p
 | true :: ms, _ :: ps, i + 1 => lentAt ms ps i
 | true :: _, [], _ => none
section
variable {K : PySem.W.Frag} {G H : Hp}
theorem cells_len : ∀ {ms : List Bool} {ds : List D}, ds.length = ms.length → (cells ms ds).length = ms.length
 | [], [], _ => rfl
 | [], _ :: _, h => by simp at h
 | _ :: _, [], h => by simp at h
 | m :: ms, d :: ds, h => by
  show (cells ms ds).length + 1 = ms.length + 1
  rw [cells_len (by simpa using h)]
theorem args_at : ∀ {ms : List Bool} {vs : List V} {ds : List D} {ps : List Addr} {i : Nat} {c : C}, ArgsR K G H ms vs ds ps → (cells ms ds)[i]? = some (some c) →
  ∃ v, vs[i]? = some v ∧ ((∃ d, c = .sh d ∧ Rep K G v d) ∨ ∃ p d, c = .ow true d ∧ v = .ref p ∧ p ∈ ps ∧ lentAt ms ps i = some p ∧ G p = none ∧ OwnAt K G H p d)
 | _, _, _, _, i, c, .nil, e => by simp [cells] at e
 | _, _, _, _, 0, c, .sh h r, e => by
  simp [cells, cellOf'] at e
  subst e
  exact ⟨_, rfl, .inl ⟨_, rfl, h⟩⟩
 | _, _, _, _, i + 1, c, .sh h r, e => by
  obtain ⟨v, e1, h1⟩ := args_at (i := i) r (by simpa [cells] using e)
  exact ⟨v, by simpa using e1, h1⟩
 | _, _, _, _, 0, c, .ln g o n r, e => by
  simp [cells, cellOf'] at e
  subst e
  exact ⟨_, rfl, .inr ⟨_, _, rfl, rfl, List.mem_cons_self, rfl, g, o⟩⟩
 | _, _, _, _, i + 1, c, .ln g o n r, e => by
  obtain ⟨v, e1, h1⟩ := args_at (i := i) r (by simpa [cells] using e)
  refine ⟨v, by simpa using e1, ?_⟩
  rcases h1 with h1 | ⟨p, d, a, b, c1, c2, d1, e2⟩
  ·exact .inl h1
  ·exact .inr ⟨p, d, a, b, List.mem_cons_of_mem _ c1, c2, d1, e2⟩
theorem lent_inj {ms : List Bool} {vs : List V} {ds : List D} {ps : List Addr} (r : ArgsR K G H ms vs ds ps) : ∀ {i j : Nat} {p : Addr}, lentAt ms ps i = some p → lentAt ms ps j = some p → i = j := by
 have mem : ∀ {ms : List Bool} {ps : List Addr} {i : Nat} {p : Addr}, lentAt ms ps i = some p → p ∈ ps := by
  intro ms
  induction ms with
  | nil => intro ps i p h; cases h
  | cons m ms ih =>
   intro ps i p h
   cases m with
   | false =>
    cases i with
    | zero => cases h
    | succ i => exact ih (i := i) h
   | true =>
    cases ps with
    | nil => cases i <;> cases h
    | cons q ps =>
     cases i with
     | zero => cases h; exact List.mem_cons_self
     | succ i => exact List.mem_cons_of_mem _ (ih (i := i) h)
 induction r with
 | nil => intro i j p h; cases h
 | sh h r ih =>
  intro i j p a b
  cases i with
  | zero => cases a
  | succ i =>
   cases j with
   | zero => cases b
   | succ j => rw [ih (i := i) (j := j) a b]
 | ln g o n r ih =>
  intro i j p a b
  cases i with
  | zero =>
   cases a
   cases j with
   | zero => rfl
   | succ j => exact absurd (mem (i := j) b) n
  | succ i =>
   cases j with
   | zero => cases b; exact absurd (mem (i := i) a) n
   | succ j => rw [ih (i := i) (j := j) a b]
theorem start_get {N : List Str} {vs : List V} {i : Nat} {v : V} (h : vs[i]? = some v) : (start N vs)[i]? = some (some v) := by
 unfold L2.start
 have hi : i < vs.length := (List.getElem?_eq_some_iff.mp h).1
 rw [List.getElem?_append_left (by simpa using hi), List.getElem?_map, h]
 rfl
theorem startE_get {n : Nat} {ms : List Bool} {ds : List D} {i : Nat} {c : C} (h : (startE n ms ds)[i]? = some (some c)) : (cells ms ds)[i]? = some (some c) := by
 unfold startE at h
 by_cases hi : i < (cells ms ds).length
 ·rw [List.getElem?_append_left hi] at h
  exact h
 ·rw [List.getElem?_append_right (by omega), List.getElem?_replicate] at h
  split at h <;> cases h
theorem rs_start {N : List Str} {ms : List Bool} {vs : List V} {ds : List D} {ps : List Addr} (g : Same G H) (r : ArgsR K G H ms vs ds ps) (hl : vs.length ≤ N.length) :
  RS ⟨K, H, minus H ps, G, lentAt ms ps⟩ G H (start N vs) (startE N.length ms ds) := by
 obtain ⟨l1, l2⟩ := r.len
 refine ⟨minus_same H ps, minus_same H ps, Same.refl _, g, fun p o e => .inl e, fun p e => e, ?_, fun i d e => ?_, fun i l d e => ?_, fun i j l d k e p a b => ?_, fun i es e => ?_⟩
 ·unfold L2.start startE
  rw [List.length_append, List.length_append, List.length_map, List.length_replicate, List.length_replicate, cells_len l2]
  omega
 ·obtain ⟨v, e1, h1⟩ := args_at r (startE_get e)
  rcases h1 with ⟨d', q, h⟩ | ⟨p, d', q, _⟩
  ·cases q
   exact ⟨v, start_get e1, h⟩
  ·cases q
 ·obtain ⟨v, e1, h1⟩ := args_at r (startE_get e)
  rcases h1 with ⟨d', q, h⟩ | ⟨p, d', q, rfl, m, la, gp, o⟩
  ·cases q
  ·cases q
   exact ⟨p, start_get e1, gp, minus_in m, la, o⟩
 ·obtain ⟨v, e1, h1⟩ := args_at r (startE_get a)
  obtain ⟨v2, e2, h2⟩ := args_at r (startE_get b)
  rcases h1 with ⟨d', q, h⟩ | ⟨p1, d', q, rfl, m, la, gp, o⟩
  ·cases q
  rcases h2 with ⟨d2, q2, h⟩ | ⟨p2, d2, q2, rfl, m2, la2, gp2, o2⟩
  ·cases q2
  intro x y
  rw [start_get e1] at x
  rw [start_get e2] at y
  cases x
  cases y
  exact lent_inj r la la2
 ·obtain ⟨v, e1, h1⟩ := args_at r (startE_get e)
  rcases h1 with ⟨d', q, h⟩ | ⟨p1, d', q, _⟩ <;> cases q
theorem fins_lent {B : Bs} {G' H' : Hp} {σ : St} {ρ : Env'} (R : RS B G' H' σ ρ) : ∀ {ms : List Bool} {vs : List V} {ds : List D} {ps : List Addr} (_ : ArgsR K G H ms vs ds ps) (k : Nat) (ρ' : Env') (fin : List D), (∀ i, ρ'[i]? = ρ[k + i]?) → (∀ i, lentAt ms ps i = B.L (k + i)) → finsOf ms ρ' = some fin → Paired (fun p d => G' p = none ∧ OwnAt B.K G' H' p d) ps fin
 | _, _, _, _, .nil, k, ρ', fin, _, _, e => by cases e; exact .nil
 | _, _, _, _, .sh h r, k, ρ', fin, hρ, hL, e => by
  cases ρ' with
  | nil => cases e
  | cons c ρ' =>
   refine fins_lent R r (k + 1) ρ' fin (fun i => ?_) (fun i => ?_) e
   ·have := hρ (i + 1)
    rw [List.getElem?_cons_succ] at this
    rw [this]
    congr 1
    omega
   ·have := hL (i + 1)
    rw [show k + 1 + i = k + (i + 1) by omega, ← this]
    rfl
 | _, _, _, _, .ln (p := p) g o n r, k, ρ', fin, hρ, hL, e => by
  cases ρ' with
  | nil => cases e
  | cons c ρ' =>
   match c, e with
   | some (.ow true d), e =>
    obtain ⟨fin', e', rfl⟩ := Option.map_eq_some_iff.mp e
    refine .cons ?_ (fins_lent R r (k + 1) ρ' fin' (fun i => ?_) (fun i => ?_) e')
    ·have h0 := hρ 0
     obtain ⟨p', q1, q2, q3, q4, q5⟩ := R.ow (k + 0) true d h0.symm
     have q6 : B.L (k + 0) = some p' := q4
     rw [← hL 0] at q6
     have q7 : some p = some p' := q6
     cases q7
     exact ⟨q2, q5⟩
    ·have := hρ (i + 1)
     rw [List.getElem?_cons_succ] at this
     rw [this]
     congr 1
     omega
    ·have := hL (i + 1)
     rw [show k + 1 + i = k + (i + 1) by omega, ← this]
     rfl
   | none, e => cases e
   | some (.sh _), e => cases e
   | some (.ow false _), e => cases e
end
theorem _root_.L2.PSs.wishes {X : Cx} {E E' : Value → Shared → Prop} {st : List Stmt} {t : TS} (h : PSs (X.wish E) st t) (i : ∀ e s, E e s → E' e s) : PSs (X.wish E') st t := fun pins s σ H D I hw =>
 wpAny_mono (h pins s σ H D (I.unwish.wish _) hw) (fun _ _ q => by
  have q1 := q.unwish
  cases ‹Flow› with
  | next => obtain ⟨σ', H', I, q⟩ := q1; exact ⟨σ', H', I.wish _, q⟩
  | brk => obtain ⟨σ', H', I, q⟩ := q1; exact ⟨σ', H', I.wish _, q⟩
  | cont => obtain ⟨σ', H', I, q⟩ := q1; exact ⟨σ', H', I.wish _, q⟩
  | ret u => obtain ⟨v, σ', H', I, r, q⟩ := q1; exact ⟨v, σ', H', I.wish _, r, q⟩) fun e s z => i e s z
section
variable {P : Program} {w : World} {K : PySem.W.Frag} {mg : Str → Option Value} {base : Heap}
theorem fun_d {x : Str} {st : Stmt} {f : Addr} {fd : FuncData} {N ps : List Str} {ms : List Bool} {k : Nat} {m : SM} (F : Fun K x x st f fd) (S : FnScope N ps (defScope st)) (hm : ms.length = ps.length)
  (hbody : ∀ (cdv : Value) (A : Around) (outer : List Env) (s : Shared) (H : Hp) (E : XK) (H0 HK G0 : Hp) (L : Nat → Option Addr), Room k (A.deeper (envOfC x (defScope st) s.heap.objs.size f cdv)) →
   PSsD (cxOf CX0 P w K mg base N x (defScope st) f cdv A outer s H E) ⟨K, H0, HK, G0, L⟩ (defBody st) m) : FnOk P w K mg base CX0 (k + 1) f fd ps (SpD K ms (runF m N.length ms)) := by
 have hpl : ps.length ≤ N.length := by have := congrArg List.length S.pre; rw [List.length_take] at this; omega
 refine F.ok S (fun vs H Q E h => ?_) (fun cdv A outer s H vs Q E hr h => ?_)
 ·obtain ⟨G, ds, pp, r, _, a, _⟩ := h
  rw [a.len.1, hm]
 obtain ⟨G, ds, pp, r, g, a, hf, q⟩ := h
 refine ⟨_, ((hbody cdv A outer s H E H (minus H pp) G (lentAt ms pp) hr).ap fun _ _ _ => False).wishes (fun e s z => ?_), ?_⟩
 ·obtain ⟨_, _, _, _, _, _, z⟩ := z
  exact z
 have R0 := rs_start (N := N) g a (by rw [a.len.1, hm]; exact hpl)
 unfold runF at hf
 cases hs : m (startE N.length ms ds) with
 | none => rw [hs] at hf; cases hf
 | some sr =>
  rw [hs] at hf
  have hf' : outS ms sr = some r := hf
  refine ⟨G, startE N.length ms ds, R0, sr, hs, ?_⟩
  have fin : ∀ {ρ' : Env'} {σ' : St} {G' H' : Hp} {fins : List D}, finsOf ms ρ' = some fins → RS ⟨K, H, minus H pp, G, lentAt ms pp⟩ G' H' σ' ρ' → After K G H pp G' H' fins := fun {ρ' σ' G' H' fins} e R' =>
   ⟨R'.keep, R'.g0, R'.gH, R'.gnew, R'.dom, fins_lent R' a 0 ρ' fins (fun i => by rw [Nat.zero_add]) (fun i => by rw [Nat.zero_add]) e⟩
  cases sr with
  | nx ρ' =>
   obtain ⟨fins, e, rfl⟩ := Option.map_eq_some_iff.mp hf'
   exact fun σ' G' H' s' R' => q .non G' H' (fin e R') .non
  | rt w' ρ' =>
   cases w' with
   | slot i => cases hf'
   | val d =>
    obtain ⟨fins, e, rfl⟩ := Option.map_eq_some_iff.mp hf'
    exact fun v σ' G' H' s' R' rw' => q v G' H' (fin e R') rw'
   | own d =>
    obtain ⟨fins, e, rfl⟩ := Option.map_eq_some_iff.mp hf'
    exact fun v σ' G' H' s' R' rw' => q v G' H' (fin e R') (let ⟨p, a1, a2, a3, a4, _⟩ := rw'; ⟨p, a1, a2, a3, a4⟩)
  | ex x ρ' =>
   obtain ⟨fins, e, rfl⟩ := Option.map_eq_some_iff.mp hf'
   exact q.elim
  | bk ρ' => cases hf'
  | ct ρ' => cases hf'
theorem hu8 {A : Around} {k : Nat} (hr : Room k A) : A.units + 8 < cLine := by have := hr.units; omega
theorem law_imp {K : PySem.W.Frag} {fm : List D → Option FR} (h : ∀ ns : List Int, ns.length ≤ 63 → fm [.lst (ns.map D.int)] = some (.ret (.val (.bl true)) [])) : ∀ vs H Q E, spLaw K vs H Q E → SpD K [false] fm vs H Q E := by
 rintro vs H Q E ⟨a, ns, rfl, hS, hl, q⟩
 refine ⟨H, [.lst (ns.map D.int)], [], _, Same.refl _, .sh (.lst hS (RepL.map_int (K := K) (G := H) ns).len (RepL.map_int (K := K) (G := H) ns).get) .nil, h ns hl, fun v G' H' _ r => ?_⟩
 cases (show Rep K G' v (.bl true) from r)
 exact q H'
end
end L3
set_option Elab.async false
set_option linter.all false
set_option maxRecDepth 100000
set_option maxHeartbeats 4000000
namespace L3
open PySem PySem.Spec PyProof.Rows L2
def flatN : Nat → D → Bool
 | _, .non => true
 | _, .bl _ => true
 | _, .int _ => true
 | _, .str _ => true
 | _, .ty _ => true
 | n + 1, .tup ds => ds.all (flatN n)
 | _, _ => false
abbrev flatD (d : D) : Bool := flatN 6 d
def flatW : W → Bool
 | .val d => flatD d
 | .own (.lst ds) => ds.all flatD
 | .own (.dct es) => es.all fun e => flatD e.2
 | _ => false
def flatO : D → Bool
 | .lst ds => ds.all flatD
 | .dct es => es.all fun e => flatD e.2
 | _ => false
def isLD : Option HO → Prop
 | some (.lst _) => True
 | some (.dK _) => True
 | _ => False
section
variable {K : PySem.W.Frag} {G H : Hp} {bs : List Addr}
theorem minus_tup {a : Addr} {xs : List V} (hb : ∀ b ∈ bs, isLD (G b)) (h : SqT K G a xs) : SqT K (minus G bs) a xs := by
 rcases h with (h | ⟨o, h⟩) | h
 ·refine .inl (.inl ?_)
  rw [minus_out fun m => ?_]
  ·exact h
  ·have := hb a m; rw [h] at this; exact this
 ·refine .inl (.inr ⟨o, ?_⟩)
  rw [minus_out fun m => ?_]
  ·exact h
  ·have := hb a m; rw [h] at this; exact this
 ·exact .inr h
theorem Rep.minus : ∀ (n : Nat) {v : V} {d : D}, (∀ b ∈ bs, isLD (G b)) → flatN n d = true → Rep K G v d → Rep K (minus G bs) v d := by
 intro n
 induction n with
 | zero =>
  intro v d hb hf h
  cases h with
  | non => exact .non
  | bl b => exact .bl b
  | int b => exact .int b
  | str b => exact .str b
  | ty b => exact .ty b
  | tup _ _ _ => cases hf
  | lst _ _ _ => cases hf
  | dct _ _ _ => cases hf
 | succ n ih =>
  intro v d hb hf h
  cases h with
  | non => exact .non
  | bl b => exact .bl b
  | int b => exact .int b
  | str b => exact .str b
  | ty b => exact .ty b
  | @tup a xs ds h l r =>
   have hf' := List.all_eq_true.mp (show ds.all (flatN n) = true from hf)
   exact .tup (minus_tup hb h) l fun j x d a b => ih hb (hf' d (List.mem_of_getElem? b)) (r j x d a b)
  | lst _ _ _ => cases hf
  | dct _ _ _ => cases hf
theorem RepL.minus {xs : List V} {ds : List D} (hb : ∀ b ∈ bs, isLD (G b)) (hf : ds.all flatD = true) (h : RepL K G xs ds) : RepL K (minus G bs) xs ds :=
 ⟨h.len, fun j x d a b => Rep.minus 6 hb (List.all_eq_true.mp hf d (List.mem_of_getElem? b)) (h.get j x d a b)⟩
theorem RepKV.minus {xs : List (Key × V)} {ds : List (Key × D)} (hb : ∀ b ∈ bs, isLD (G b)) (hf : (ds.all fun e => flatD e.2) = true) (h : RepKV K G xs ds) : RepKV K (minus G bs) xs ds :=
 ⟨h.keys, fun j x d a b => Rep.minus 6 hb (List.all_eq_true.mp hf d (List.mem_of_getElem? b)) (h.get j x d a b)⟩
theorem OwnAt.minus {p : Addr} {d : D} (hb : ∀ b ∈ bs, isLD (G b)) (hf : flatO d = true) (h : OwnAt K G H p d) : OwnAt K (minus G bs) H p d := by
 cases d with
 | lst ds => obtain ⟨xs, e, r⟩ := h; exact ⟨xs, e, r.minus hb hf⟩
 | dct es => obtain ⟨xs, e, r⟩ := h; exact ⟨xs, e, r.minus hb hf⟩
 | _ => exact (show False from h).elim
end
def argsOf : List Bool → List W → Env' → Option (List D)
 | [], [], _ => some []
 | false :: ms, w :: ws, ρ => match getD w ρ, argsOf ms ws ρ with
  | some d, some ds => some (d :: ds)
  | _, _ => none
 | true :: ms, .slot i :: ws, ρ => match ρ[i]?, argsOf ms ws ρ with
  | some (some (.ow _ d)), some ds => some (d :: ds)
  | _, _ => none
 | _, _, _ => none
def lentI : List Bool → List W → List Nat
 | true :: ms, .slot i :: ws => i :: lentI ms ws
 | _ :: ms, _ :: ws => lentI ms ws
 | _, _ => []
def borI (ρ : Env') : List Bool → List W → List Nat
 | false :: ms, .slot i :: ws => match ρ[i]? with
  | some (some (.ow _ _)) => i :: borI ρ ms ws
  | _ => borI ρ ms ws
 | _ :: ms, _ :: ws => borI ρ ms ws
 | _, _ => []
def setL : List Nat → List D → Env' → Option Env'
 | [], [], ρ => some ρ
 | i :: is, d :: ds, ρ => match ρ[i]? with
  | some (some (.ow l _)) => setL is ds (ρ.set i (some (.ow l d)))
  | _ => none
 | _, _, _ => none
def shareL : List Nat → Env' → Option Env'
 | [], ρ => some ρ
 | i :: is, ρ => match ρ[i]? with
  | some (some (.ow false d)) => shareL is (ρ.set i (some (.sh d)))
  | some (some (.sh _)) => shareL is ρ
  | _ => none
def apartI (ls bs : List Nat) : Bool := decide ls.Nodup && ls.all fun i => !bs.contains i
def callW (ms : List Bool) (fm : List D → Option FR) (ws : List W) : M W := fun ρ => match argsOf ms ws ρ with
 | none => none
 | some ds => if apartI (lentI ms ws) (borI ρ ms ws) = true then match fm ds with
  | some (.ret w fin) => match setL (lentI ms ws) fin ρ with
   | none => none
   | some ρ1 => if (flatW w && fin.all flatO) = true then some (.ok w ρ1) else (shareL (borI ρ ms ws) ρ1).map (R'.ok w ·)
  | _ => none
  else none
def mCall (ms : List Bool) (fm : List D → Option FR) (m : M (List W)) : M W := M.bind m fun ws => callW ms fm ws
def addrsOf (σ : St) (is : List Nat) : List Addr := is.filterMap fun i => match σ[i]? with
 | some (some (V.ref p)) => some p
 | _ => none
section
variable {B : Bs} {G H : Hp} {σ : St} {ρ : Env'}
theorem mem_addrs {is : List Nat} {p : Addr} : p ∈ addrsOf σ is ↔ ∃ i ∈ is, σ[i]? = some (some (.ref p)) := by
 unfold addrsOf
 rw [List.mem_filterMap]
 constructor
 ·rintro ⟨i, hi, e⟩
  refine ⟨i, hi, ?_⟩
  split at e
  ·cases e; assumption
  ·cases e
 ·rintro ⟨i, hi, e⟩
  exact ⟨i, hi, by rw [e]⟩
def plus (G H : Hp) (bs : List Addr) : Hp := fun b => if b ∈ bs then H b else G b
theorem plus_in {bs : List Addr} {b : Addr} (h : b ∈ bs) : plus G H bs b = H b := if_pos h
theorem plus_out {bs : List Addr} {b : Addr} (h : b ∉ bs) : plus G H bs b = G b := if_neg h
theorem bor_own : ∀ {ms : List Bool} {ws : List W} {i : Nat}, i ∈ borI ρ ms ws → ∃ l d, ρ[i]? = some (some (.ow l d))
 | [], [], i, h => by cases h
 | [], _ :: _, i, h => by cases h
 | true :: _, [], i, h => by cases h
 | false :: _, [], i, h => by cases h
 | true :: ms, w :: ws, i, h => by
  have h' : i ∈ borI ρ ms ws := by cases w <;> exact h
  exact bor_own h'
 | false :: ms, .val _ :: ws, i, h => bor_own (ms := ms) (ws := ws) h
 | false :: ms, .own _ :: ws, i, h => bor_own (ms := ms) (ws := ws) h
 | false :: ms, .slot j :: ws, i, h => by
  unfold borI at h
  split at h
  ·rename_i l d hj
   rcases List.mem_cons.mp h with rfl | h
   ·exact ⟨l, d, hj⟩
   ·exact bor_own h
  ·exact bor_own h
theorem args_call (R : RS B G H σ ρ) {bs : List Addr} (g1 : Same G (plus G H bs)) : ∀ {ms : List Bool} {ws : List W} {vs : List V} {ds : List D}, relWs B G H σ ρ vs ws → argsOf ms ws ρ = some ds → (∀ i ∈ borI ρ ms ws, ∀ p, σ[i]? = some (some (.ref p)) → p ∈ bs) → (∀ i ∈ lentI ms ws, ∀ p, σ[i]? = some (some (.ref p)) → p ∉ bs) → (lentI ms ws).Nodup →
  ArgsR B.K (plus G H bs) H ms vs ds (addrsOf σ (lentI ms ws))
 | [], [], _, ds, q, e, _, _, _ => by cases q; cases e; exact .nil
 | [], _ :: _, _, _, _, e, _, _, _ => by cases e
 | true :: _, [], _, _, _, e, _, _, _ => by cases e
 | false :: _, [], _, _, _, e, _, _, _ => by cases e
 | false :: ms, w :: ws, _, ds, q, e, hb, hl, nd => by
  cases q with
  | @cons v _ vs _ h t =>
   unfold argsOf at e
   cases h1 : getD w ρ with
   | none => rw [h1] at e; cases e
   | some d =>
    cases h2 : argsOf ms ws ρ with
    | none => rw [h1, h2] at e; cases e
    | some ds2 =>
     rw [h1, h2] at e
     cases e
     have el : lentI (false :: ms) (w :: ws) = lentI ms ws := by cases w <;> rfl
     rw [el] at hl nd ⊢
     have hb2 : ∀ i ∈ borI ρ ms ws, ∀ p, σ[i]? = some (some (.ref p)) → p ∈ bs := fun i hi => hb i (by
      cases w with
      | slot j =>
       unfold borI
       split
       ·exact List.mem_cons_of_mem _ hi
       ·exact hi
      | val _ => exact hi
      | own _ => exact hi)
     refine .sh ?_ (args_call R g1 t h2 hb2 hl nd)
     rcases h.1.get R h1 with r | ⟨p, rfl, o⟩
     ·exact r.same g1
     ·
      cases w with
      | val _ => cases h1; exact Rep.same g1 h.1
      | own _ => exact absurd (show false = true from h.2) Bool.false_ne_true
      | slot j =>
       have hv : σ[j]? = some (some (.ref p)) := h.1
       have hj : ∃ l d', ρ[j]? = some (some (.ow l d')) ∨ (∃ d', ρ[j]? = some (some (.sh d'))) ∨ ∃ es, ρ[j]? = some (some (.fz es)) := by
        unfold getD at h1
        simp only [] at h1
        split at h1
        ·rename_i d' q; exact ⟨true, d', .inr (.inl ⟨_, q⟩)⟩
        ·rename_i l d' q; exact ⟨l, d', .inl q⟩
        ·rename_i es q; exact ⟨true, .non, .inr (.inr ⟨es, q⟩)⟩
        ·cases h1
       obtain ⟨l, d', hj | ⟨d2, hj⟩ | ⟨es, hj⟩⟩ := hj
       ·have ed : d = d' := by
         unfold getD at h1
         simp only [hj] at h1
         exact (Option.some.inj h1).symm
        subst ed
        have hp : p ∈ bs := hb j (by unfold borI; rw [hj]; exact List.mem_cons_self) p hv
        cases d with
        | lst ds =>
         obtain ⟨xs, e, r⟩ := o
         have r' := r.same g1
         exact .lst (SqL.of (by rw [plus_in hp]; exact e)) r'.len r'.get
        | dct es =>
         obtain ⟨xs, e, r⟩ := o
         have r' := r.same g1
         exact .dct (.inl (by rw [plus_in hp]; exact e)) r'.keys r'.get
        | _ => exact (show False from o).elim
       ·obtain ⟨v', q1, r⟩ := R.sh j d2 hj
        rw [hv] at q1
        cases q1
        have ed : d = d2 := by
         unfold getD at h1
         simp only [hj] at h1
         exact (Option.some.inj h1).symm
        subst ed
        exact r.same g1
       ·obtain ⟨a, ob, kvs, q1, q2, q3⟩ := R.fz j es hj
        rw [hv] at q1
        cases q1
        have ed : d = .dct es := by
         unfold getD at h1
         simp only [hj] at h1
         exact (Option.some.inj h1).symm
        subst ed
        have r' := q3.same g1
        exact .dct (.inr ⟨ob, g1 _ _ q2⟩) r'.keys r'.get
 | true :: ms, .val _ :: ws, _, ds, q, e, _, _, _ => by cases e
 | true :: ms, .own _ :: ws, _, ds, q, e, _, _, _ => by cases e
 | true :: ms, .slot i :: ws, _, ds, q, e, hb, hl, nd => by
  cases q with
  | @cons v _ vs _ h t =>
   unfold argsOf at e
   split at e
   ·rename_i l d ds2 hi h2
    cases e
    have hv : σ[i]? = some (some v) := h.1
    obtain ⟨p, q1, q2, q3, q4, q5⟩ := R.ow i l d hi
    rw [hv] at q1
    cases q1
    have el : lentI (true :: ms) (.slot i :: ws) = i :: lentI ms ws := rfl
    rw [el] at hl nd ⊢
    obtain ⟨n1, n2⟩ := List.nodup_cons.mp nd
    have ea : addrsOf σ (i :: lentI ms ws) = p :: addrsOf σ (lentI ms ws) := by
     unfold addrsOf
     rw [List.filterMap_cons, hv]
    rw [ea]
    have hp : p ∉ bs := hl i List.mem_cons_self p hv
    refine .ln (by rw [plus_out hp]; exact q2) (q5.same g1 rfl) (fun m => ?_) (args_call R g1 t h2 (fun j hj => hb j hj) (fun j hj => hl j (List.mem_cons_of_mem _ hj)) n2)
    obtain ⟨j, hj, ej⟩ := mem_addrs.mp m
    have hoj : ∃ l d, ρ[j]? = some (some (.ow l d)) := by
     clear hl n1 n2 nd ea m
     have key : ∀ {ms : List Bool} {ws : List W} {ds : List D}, argsOf ms ws ρ = some ds → ∀ j ∈ lentI ms ws, ∃ l d, ρ[j]? = some (some (.ow l d)) := by
      intro ms
      induction ms with
      | nil => intro ws ds e j hj; cases ws <;> cases hj
      | cons m ms ih =>
       intro ws ds e j hj
       cases ws with
       | nil => cases m <;> cases hj
       | cons w ws =>
        cases m with
        | false =>
         have el : lentI (false :: ms) (w :: ws) = lentI ms ws := by cases w <;> rfl
         rw [el] at hj
         unfold argsOf at e
         split at e
         ·rename_i h2; exact ih h2 j hj
         ·cases e
        | true =>
         cases w with
         | val _ => cases e
         | own _ => cases e
         | slot k =>
          unfold argsOf at e
          split at e
          ·rename_i l d ds2 hk h2
           rcases List.mem_cons.mp hj with rfl | hj
           ·exact ⟨l, d, hk⟩
           ·exact ih h2 j hj
          ·cases e
     exact key h2 j hj
    obtain ⟨l2, d2, hj2⟩ := hoj
    have := R.inj i j l d l2 d2 p hi hj2 hv ej
    subst this
    exact n1 hj
   ·cases e
theorem setL_get : ∀ {is : List Nat} {ds : List D} {ρ ρ' : Env'}, setL is ds ρ = some ρ' → is.Nodup → ρ'.length = ρ.length ∧ (∀ i, i ∉ is → ρ'[i]? = ρ[i]?) ∧ ∀ (k i : Nat), is[k]? = some i → ∃ l d d', ρ[i]? = some (some (.ow l d)) ∧ ds[k]? = some d' ∧ ρ'[i]? = some (some (.ow l d'))
 | [], [], ρ, ρ', e, _ => by cases e; exact ⟨rfl, fun _ _ => rfl, fun k i h => by simp at h⟩
 | [], _ :: _, _, _, e, _ => by cases e
 | _ :: _, [], _, _, e, _ => by cases e
 | i :: is, d :: ds, ρ, ρ', e, nd => by
  unfold setL at e
  split at e
  ·rename_i l d0 hi
   have hil : i < ρ.length := (List.getElem?_eq_some_iff.mp hi).1
   obtain ⟨n1, n2⟩ := List.nodup_cons.mp nd
   obtain ⟨a, b, c⟩ := setL_get e n2
   refine ⟨by rw [a]; simp, fun j hj => ?_, fun k j hk => ?_⟩
   ·rw [b j fun m => hj (List.mem_cons_of_mem _ m), List.getElem?_set_ne fun z => hj (by rw [z]; exact List.mem_cons_self)]
   ·cases k with
    | zero =>
     simp at hk
     subst hk
     exact ⟨l, d0, d, hi, rfl, by rw [b i n1, List.getElem?_set_self hil]⟩
    | succ k =>
     have hk' : is[k]? = some j := by simpa using hk
     obtain ⟨l', d1, d2, e1, e2, e3⟩ := c k j hk'
     have hne : i ≠ j := fun z => n1 (by rw [z]; exact List.mem_of_getElem? hk')
     rw [List.getElem?_set_ne hne] at e1
     exact ⟨l', d1, d2, e1, by simpa using e2, e3⟩
  ·cases e
theorem shareL_get : ∀ {is : List Nat} {ρ ρ' : Env'}, shareL is ρ = some ρ' → ρ'.length = ρ.length ∧ (∀ i, i ∉ is → ρ'[i]? = ρ[i]?) ∧ ∀ i ∈ is, ∃ d, ρ'[i]? = some (some (.sh d)) ∧ (ρ[i]? = some (some (.ow false d)) ∨ ρ[i]? = some (some (.sh d)))
 | [], ρ, ρ', e => by cases e; exact ⟨rfl, fun _ _ => rfl, fun i h => by cases h⟩
 | i :: is, ρ, ρ', e => by
  unfold shareL at e
  split at e
  ·rename_i d hi
   have hil : i < ρ.length := (List.getElem?_eq_some_iff.mp hi).1
   obtain ⟨a, b, c⟩ := shareL_get e
   refine ⟨by rw [a]; simp, fun j hj => ?_, fun j hj => ?_⟩
   ·rw [b j fun m => hj (List.mem_cons_of_mem _ m), List.getElem?_set_ne fun z => hj (by rw [z]; exact List.mem_cons_self)]
   ·by_cases z : i = j
    ·subst z
     by_cases m : i ∈ is
     ·obtain ⟨d', e1, e2⟩ := c i m
      rw [List.getElem?_set_self hil] at e2
      rcases e2 with e2 | e2
      ·cases e2
      ·cases e2
       exact ⟨d, e1, .inl hi⟩
     ·exact ⟨d, by rw [b i m, List.getElem?_set_self hil], .inl hi⟩
    ·have hj' : j ∈ is := by rcases List.mem_cons.mp hj with h | h; exact absurd h.symm z; exact h
     obtain ⟨d', e1, e2⟩ := c j hj'
     rw [List.getElem?_set_ne z] at e2
     exact ⟨d', e1, e2⟩
  ·rename_i d hi
   obtain ⟨a, b, c⟩ := shareL_get e
   refine ⟨a, fun j hj => b j fun m => hj (List.mem_cons_of_mem _ m), fun j hj => ?_⟩
   rcases List.mem_cons.mp hj with rfl | hj
   ·by_cases m : j ∈ is
    ·exact c j m
    ·exact ⟨d, by rw [b j m]; exact hi, .inr hi⟩
   ·exact c j hj
  ·cases e
theorem addrs_get : ∀ {is : List Nat} {k i : Nat} {p : Addr}, (∀ j ∈ is, ∃ q, σ[j]? = some (some (.ref q))) → is[k]? = some i → σ[i]? = some (some (.ref p)) → (addrsOf σ is)[k]? = some p
 | [], k, i, p, _, h, _ => by simp at h
 | j :: is, k, i, p, ha, h, e => by
  obtain ⟨q, hq⟩ := ha j List.mem_cons_self
  have ea : addrsOf σ (j :: is) = q :: addrsOf σ is := by
   unfold addrsOf
   rw [List.filterMap_cons, hq]
  rw [ea]
  cases k with
  | zero =>
   simp at h
   subst h
   rw [hq] at e
   cases e
   rfl
  | succ k => exact addrs_get (fun l hl => ha l (List.mem_cons_of_mem _ hl)) (by simpa using h) e
theorem paired_get {α β : Type} {F : α → β → Prop} : ∀ {xs : List α} {ys : List β} {k : Nat} {x : α} {y : β}, Paired F xs ys → xs[k]? = some x → ys[k]? = some y → F x y
 | _, _, 0, _, _, .cons h _, a, b => by simp at a b; subst a b; exact h
 | _, _, k + 1, _, _, .cons _ t, a, b => paired_get (k := k) t (by simpa using a) (by simpa using b)
 | _, _, _, _, _, .nil, a, _ => by simp at a
theorem own_LD {p : Addr} {d : D} {K : PySem.W.Frag} (o : OwnAt K G H p d) : isLD (H p) := by
 cases d with
 | lst ds => obtain ⟨xs, e, _⟩ := o; rw [e]; exact True.intro
 | dct es => obtain ⟨xs, e, _⟩ := o; rw [e]; exact True.intro
 | _ => exact (show False from o).elim
theorem call_after {bi li : List Nat} {G' H' : Hp} {fin : List D} {ρ1 ρ2 : Env'} {v : V} {w : W} (R : RS B G H σ ρ) (hbi : ∀ i ∈ bi, ∃ l d, ρ[i]? = some (some (.ow l d))) (hli : ∀ i ∈ li, ∃ l d, ρ[i]? = some (some (.ow l d))) (nd : li.Nodup) (ap : ∀ i ∈ li, i ∉ bi)
  (A : After B.K (plus G H (addrsOf σ bi)) H (addrsOf σ li) G' H' fin) (hs : setL li fin ρ = some ρ1) (rr : RepRet B.K H G' H' v w)
  (hend : ((flatW w && fin.all flatO) = true ∧ ρ2 = ρ1) ∨ shareL bi ρ1 = some ρ2) : ∃ Gn, Same G Gn ∧ RS B Gn H' σ ρ2 ∧ RepW B Gn H' σ ρ2 v w := by
 have refs : ∀ {i l d}, ρ[i]? = some (some (.ow l d)) → ∃ p, σ[i]? = some (some (.ref p)) ∧ G p = none ∧ B.HK p = none ∧ Lnt B i l p ∧ OwnAt B.K G H p d := fun h => R.ow _ _ _ h
 have hlr : ∀ j ∈ li, ∃ q, σ[j]? = some (some (.ref q)) := fun j hj => by
  obtain ⟨l, d, h⟩ := hli j hj
  obtain ⟨p, q, _⟩ := refs h
  exact ⟨p, q⟩
 have inB : ∀ {b}, b ∈ addrsOf σ bi → ∃ i l d, i ∈ bi ∧ ρ[i]? = some (some (.ow l d)) ∧ σ[i]? = some (some (.ref b)) ∧ G b = none ∧ B.HK b = none ∧ Lnt B i l b ∧ OwnAt B.K G H b d := fun {b} hb => by
  obtain ⟨i, hi, e⟩ := mem_addrs.mp hb
  obtain ⟨l, d, h⟩ := hbi i hi
  obtain ⟨p, q1, q2, q3, q4, q5⟩ := refs h
  rw [e] at q1
  cases q1
  exact ⟨i, l, d, hi, h, e, q2, q3, q4, q5⟩
 have inL : ∀ {b}, b ∈ addrsOf σ li → ∃ i l d, i ∈ li ∧ ρ[i]? = some (some (.ow l d)) ∧ σ[i]? = some (some (.ref b)) ∧ G b = none ∧ B.HK b = none := fun {b} hb => by
  obtain ⟨i, hi, e⟩ := mem_addrs.mp hb
  obtain ⟨l, d, h⟩ := hli i hi
  obtain ⟨p, q1, q2, q3, q4, q5⟩ := refs h
  rw [e] at q1
  cases q1
  exact ⟨i, l, d, hi, h, e, q2, q3⟩
 have s1 : Same G (plus G H (addrsOf σ bi)) := fun b o e => by
  rw [plus_out fun m => ?_]
  ·exact e
  ·obtain ⟨_, _, _, _, _, _, g, _⟩ := inB m
   rw [e] at g
   cases g
 have s2 : Same G G' := s1.trans A.gg
 have bsLD : ∀ b ∈ addrsOf σ bi, isLD (G' b) := fun b hb => by
  obtain ⟨i, l, d, _, _, _, _, _, _, o⟩ := inB hb
  obtain ⟨ob, hob⟩ := o.some
  have e := A.gg b ob (by rw [plus_in hb]; exact hob)
  have z := own_LD o
  rw [hob] at z
  rw [e]
  exact z
 obtain ⟨len1, out1, at1⟩ := setL_get hs nd
 
 have keepH : ∀ b o, H b = some o → b ∉ addrsOf σ li → H' b = some o := fun b o e hb => A.keep b o (by rw [minus_out hb]; exact e)
 have keepK : Same B.HK H' := fun b o e => keepH b o (R.keep b o e) fun m => by
  obtain ⟨_, _, _, _, _, _, _, hk⟩ := inL m
  rw [e] at hk
  cases hk
 have notG' : ∀ p, G p = none → p ∉ addrsOf σ bi → (∃ o, H p = some o) → G' p = none := fun p g nb ⟨o, ho⟩ => by
  cases hg : G' p with
  | none => rfl
  | some ob =>
   rcases A.gnew p ob hg with z | z
   ·rw [plus_out nb, g] at z; cases z
   ·rw [ho] at z; cases z
 
 have lentOk : ∀ {i}, i ∈ li → ∀ {l d'}, ρ1[i]? = some (some (.ow l d')) → ∃ p, σ[i]? = some (some (.ref p)) ∧ G' p = none ∧ B.HK p = none ∧ Lnt B i l p ∧ OwnAt B.K G' H' p d' ∧ d' ∈ fin := fun {i} hi {l d'} e => by
  obtain ⟨k, hk⟩ := List.getElem?_of_mem hi
  obtain ⟨l0, d0, d1, e0, e1, e2⟩ := at1 k i hk
  rw [e] at e2
  cases e2
  obtain ⟨p, q1, q2, q3, q4, q5⟩ := refs e0
  have hp := addrs_get hlr hk q1
  obtain ⟨z1, z2⟩ := paired_get A.lent hp e1
  exact ⟨p, q1, z1, q3, q4, z2, List.mem_of_getElem? e1⟩
 have otherOk : ∀ {i}, i ∉ li → ∀ {l d'}, ρ1[i]? = some (some (.ow l d')) → ∃ p, σ[i]? = some (some (.ref p)) ∧ G p = none ∧ B.HK p = none ∧ Lnt B i l p ∧ OwnAt B.K G H p d' ∧ H' p = H p ∧ ρ[i]? = some (some (.ow l d')) := fun {i} hi {l d'} e => by
  rw [out1 i hi] at e
  obtain ⟨p, q1, q2, q3, q4, q5⟩ := refs e
  obtain ⟨o, ho⟩ := q5.some
  refine ⟨p, q1, q2, q3, q4, q5, ?_, e⟩
  rw [ho]
  refine keepH p o ho fun m => ?_
  obtain ⟨j, l2, d2, hj, ej, ej2, _⟩ := inL m
  exact hi (by rw [R.inj i j _ _ _ _ p e ej q1 ej2]; exact hj)
 have sh1 : ∀ {i : Nat} {d' : D}, ρ1[i]? = some (some (C.sh d')) → ρ[i]? = some (some (C.sh d')) := fun {i d'} e => by
  by_cases hi : i ∈ li
  ·obtain ⟨k, hk⟩ := List.getElem?_of_mem hi
   obtain ⟨l0, d0, d1, e0, e1, e2⟩ := at1 k i hk
   rw [e] at e2
   cases e2
  ·rw [out1 i hi] at e
   exact e
 have fz1 : ∀ {i : Nat} {es : List (Key × D)}, ρ1[i]? = some (some (C.fz es)) → ρ[i]? = some (some (C.fz es)) := fun {i es} e => by
  by_cases hi : i ∈ li
  ·obtain ⟨k, hk⟩ := List.getElem?_of_mem hi
   obtain ⟨l0, d0, d1, e0, e1, e2⟩ := at1 k i hk
   rw [e] at e2
   cases e2
  ·rw [out1 i hi] at e
   exact e
 have inj1 : ∀ {i j : Nat} {l : Bool} {d : D} {k : Bool} {e : D} {p : Addr}, ρ1[i]? = some (some (.ow l d)) → ρ1[j]? = some (some (.ow k e)) → σ[i]? = some (some (.ref p)) → σ[j]? = some (some (.ref p)) → i = j := fun {i j l d k e p} a b c f => by
  have old : ∀ {i : Nat} {l : Bool} {d : D}, ρ1[i]? = some (some (.ow l d)) → ∃ l d, ρ[i]? = some (some (.ow l d)) := fun {i l d} a => by
   by_cases hi : i ∈ li
   ·exact hli i hi
   ·rw [out1 i hi] at a; exact ⟨_, _, a⟩
  obtain ⟨l1, d1, a1⟩ := old a
  obtain ⟨l2, d2, a2⟩ := old b
  exact R.inj i j l1 d1 l2 d2 p a1 a2 c f
 rcases hend with ⟨hf, rfl⟩ | hsh
 ·
  rw [Bool.and_eq_true] at hf
  obtain ⟨fw, ff⟩ := hf
  have sN : Same G (minus G' (addrsOf σ bi)) := fun b o e => by
   rw [minus_out fun m => ?_]
   ·exact s2 b o e
   ·obtain ⟨_, _, _, _, _, _, g, _⟩ := inB m
    rw [e] at g
    cases g
  refine ⟨minus G' (addrsOf σ bi), sN, ⟨R.hk, keepK, R.g0.trans sN, (minus_same _ _).trans A.gH, fun b o e => ?_, fun b e => R.dom b (A.dom b e), by rw [len1]; exact R.len, fun i d e => ?_, fun i l d e => ?_, fun i j l d k e p a b c f => inj1 a b c f, fun i es e => (R.fz.same sN) i es (fz1 e)⟩, ?_⟩
  ·have e' := minus_same _ _ b o e
   have nb : b ∉ addrsOf σ bi := fun m => by rw [minus_in m] at e; cases e
   rcases A.gnew b o e' with z | z
   ·rw [plus_out nb] at z
    exact R.gnew b o z
   ·exact .inr (R.dom b z)
  ·obtain ⟨v, q1, q2⟩ := R.sh i d (sh1 e)
   exact ⟨v, q1, q2.same sN⟩
  ·by_cases hi : i ∈ li
   ·obtain ⟨p, q1, q2, q3, q4, q5, q6⟩ := lentOk hi e
    refine ⟨p, q1, ?_, q3, q4, q5.minus bsLD (List.all_eq_true.mp ff d q6)⟩
    unfold minus
    split
    ·rfl
    ·exact q2
   ·obtain ⟨p, q1, q2, q3, q4, q5, q6, q7⟩ := otherOk hi e
    refine ⟨p, q1, ?_, q3, q4, q5.same sN q6⟩
    unfold minus
    split
    ·rfl
    ·exact notG' p q2 ‹_› q5.some
  ·cases w with
   | val d => exact Rep.minus 6 bsLD fw rr
   | slot i => exact rr.elim
   | own d =>
    obtain ⟨p, rfl, g, h0, o⟩ := rr
    have fo : flatO d = true := by
     cases d with
     | lst ds => exact fw
     | dct es => exact fw
     | _ => exact (show False from o).elim
    refine ⟨p, rfl, ?_, R.dom p h0, o.minus bsLD fo, fun i l e he z => ?_⟩
    ·unfold minus
     split
     ·rfl
     ·exact g
    ·have hz : ∃ ob, H p = some ob := by
      by_cases hi : i ∈ li
      ·obtain ⟨l0, d0, a0⟩ := hli i hi
       obtain ⟨p', q1, _, _, _, q5⟩ := refs a0
       rw [z] at q1
       cases q1
       exact q5.some
      ·obtain ⟨p', q1, q2, q3, q4, q5, _⟩ := otherOk hi he
       rw [z] at q1
       cases q1
       exact q5.some
     obtain ⟨ob, hob⟩ := hz
     rw [h0] at hob
     cases hob
 ·
  obtain ⟨len2, out2, at2⟩ := shareL_get hsh
  have ow2 : ∀ {i : Nat} {l : Bool} {d : D}, ρ2[i]? = some (some (.ow l d)) → i ∉ bi ∧ ρ1[i]? = some (some (.ow l d)) := fun {i l d} e => by
   have hi : i ∉ bi := fun m => by
    obtain ⟨d', e1, _⟩ := at2 i m
    rw [e] at e1
    cases e1
   exact ⟨hi, by rw [← out2 i hi]; exact e⟩
  have fz2 : ∀ {i : Nat} {es : List (Key × D)}, ρ2[i]? = some (some (C.fz es)) → ρ1[i]? = some (some (C.fz es)) := fun {i es} e => by
   have hi : i ∉ bi := fun m => by
    obtain ⟨d', e1, _⟩ := at2 i m
    rw [e] at e1
    cases e1
   rw [← out2 i hi]
   exact e
  refine ⟨G', s2, ⟨R.hk, keepK, R.g0.trans s2, A.gH, fun b o e => ?_, fun b e => R.dom b (A.dom b e), by rw [len2, len1]; exact R.len, fun i d e => ?_, fun i l d e => ?_, fun i j l d k e p a b c f => inj1 (ow2 a).2 (ow2 b).2 c f, fun i es e => (R.fz.same s2) i es (fz1 (fz2 e))⟩, ?_⟩
  ·rcases A.gnew b o e with z | z
   ·by_cases m : b ∈ addrsOf σ bi
    ·obtain ⟨i, l, d, hi, h, e2, g, _, ln, o'⟩ := inB m
     obtain ⟨d', e3, e4⟩ := at2 i hi
     have hil : i ∉ li := fun mm => ap i mm hi
     rw [out1 i hil, h] at e4
     rcases e4 with e4 | e4
     ·cases e4
      exact .inr ln
     ·cases e4
    ·rw [plus_out m] at z
     exact R.gnew b o z
   ·exact .inr (R.dom b z)
  ·by_cases hi : i ∈ bi
   ·obtain ⟨d', e1, e2⟩ := at2 i hi
    rw [e] at e1
    cases e1
    have hil : i ∉ li := fun mm => ap i mm hi
    rw [out1 i hil] at e2
    rcases e2 with e2 | e2
    ·obtain ⟨p, q1, q2, q3, q4, q5⟩ := refs e2
     have hp : p ∈ addrsOf σ bi := mem_addrs.mpr ⟨i, hi, q1⟩
     refine ⟨_, q1, ?_⟩
     cases d with
     | lst ds =>
      obtain ⟨xs, e, r⟩ := q5
      have r' := r.same s2
      exact .lst (SqL.of (A.gg p _ (by rw [plus_in hp]; exact e))) r'.len r'.get
     | dct es =>
      obtain ⟨xs, e, r⟩ := q5
      have r' := r.same s2
      exact .dct (.inl (A.gg p _ (by rw [plus_in hp]; exact e))) r'.keys r'.get
     | _ => exact (show False from q5).elim
    ·obtain ⟨v, q1, q2⟩ := R.sh i d e2
     exact ⟨v, q1, q2.same s2⟩
   ·rw [out2 i hi] at e
    obtain ⟨v, q1, q2⟩ := R.sh i d (sh1 e)
    exact ⟨v, q1, q2.same s2⟩
  ·obtain ⟨hb, e1⟩ := ow2 e
   by_cases hi : i ∈ li
   ·obtain ⟨p, q1, q2, q3, q4, q5, _⟩ := lentOk hi e1
    exact ⟨p, q1, q2, q3, q4, q5⟩
   ·obtain ⟨p, q1, q2, q3, q4, q5, q6, q7⟩ := otherOk hi e1
    refine ⟨p, q1, notG' p q2 (fun m => ?_) q5.some, q3, q4, q5.same s2 q6⟩
    obtain ⟨j, l2, d2, hj, ej, ej2, _⟩ := inB m
    exact hb (by rw [R.inj i j _ _ _ _ p q7 ej q1 ej2]; exact hj)
  ·cases w with
   | val d => exact rr
   | slot i => exact rr.elim
   | own d =>
    obtain ⟨p, rfl, g, h0, o⟩ := rr
    refine ⟨p, rfl, g, R.dom p h0, o, fun i l e he z => ?_⟩
    obtain ⟨hb, e1⟩ := ow2 he
    have hz : ∃ ob, H p = some ob := by
     by_cases hi : i ∈ li
     ·obtain ⟨l0, d0, a0⟩ := hli i hi
      obtain ⟨p', q1, _, _, _, q5⟩ := refs a0
      rw [z] at q1
      cases q1
      exact q5.some
     ·obtain ⟨p', q1, q2, q3, q4, q5, _⟩ := otherOk hi e1
      rw [z] at q1
      cases q1
      exact q5.some
    obtain ⟨ob, hob⟩ := hz
    rw [h0] at hob
    cases hob
theorem lent_own : ∀ {ms : List Bool} {ws : List W} {ds : List D}, argsOf ms ws ρ = some ds → ∀ j ∈ lentI ms ws, ∃ l d, ρ[j]? = some (some (.ow l d)) := by
 intro ms
 induction ms with
 | nil => intro ws ds e j hj; cases ws <;> cases hj
 | cons m ms ih =>
  intro ws ds e j hj
  cases ws with
  | nil => cases m <;> cases hj
  | cons w ws =>
   cases m with
   | false =>
    have el : lentI (false :: ms) (w :: ws) = lentI ms ws := by cases w <;> rfl
    rw [el] at hj
    unfold argsOf at e
    split at e
    ·rename_i h2; exact ih h2 j hj
    ·cases e
   | true =>
    cases w with
    | val _ => cases e
    | own _ => cases e
    | slot k =>
     unfold argsOf at e
     split at e
     ·rename_i l d ds2 hk h2
      rcases List.mem_cons.mp hj with rfl | hj
      ·exact ⟨l, d, hk⟩
      ·exact ih h2 j hj
     ·cases e
end
section
variable {X : Cx} {B : Bs} {k : Nat} {x : Str} {ps : List Str} {ms : List Bool} {fm : List D → Option FR} {e : Expr} {es : List Expr} {mr : M (List W)} {p pos : Pos}
theorem td_call {ξ : XP} {σ : St} {H : Hp} {Q : VK} (t : TD relW B ξ (mCall ms fm mr) σ H Q) : tCall (SpD B.K ms fm) [] E0 (TD relWs B ξ mr) σ H Q := by
 obtain ⟨G, ρ, R, t⟩ := t
 refine (TD.bind (rel := relWs) R t).mono fun vs H1 ⟨G1, ρ1, ws, s1, R1, q1, r, er, pp⟩ => ?_
 rw [List.append_nil]
 unfold callW at er
 cases ha : argsOf ms ws ρ1 with
 | none => simp only [ha] at er; cases er
 | some ds =>
  simp only [ha] at er
  split at er
  ·rename_i hap
   unfold apartI at hap
   rw [Bool.and_eq_true] at hap
   have nd : (lentI ms ws).Nodup := of_decide_eq_true hap.1
   have ap : ∀ i ∈ lentI ms ws, i ∉ borI ρ1 ms ws := fun i hi m => by
    have := List.all_eq_true.mp hap.2 i hi
    simp at this
    exact this m
   split at er
   ·rename_i w fin hfm
    split at er
    ·cases er
    ·rename_i ρ2 hs
     have hli := lent_own ha
     have hbi : ∀ i ∈ borI ρ1 ms ws, ∃ l d, ρ1[i]? = some (some (.ow l d)) := fun i hi => bor_own hi
     have s2 : Same G1 (plus G1 H1 (addrsOf σ (borI ρ1 ms ws))) := fun b o e => by
      rw [plus_out fun m => ?_]
      ·exact e
      ·obtain ⟨i, hi, e2⟩ := mem_addrs.mp m
       obtain ⟨l, d, h⟩ := hbi i hi
       obtain ⟨p', a1, a2, _⟩ := R1.ow i l d h
       rw [e2] at a1
       cases a1
       rw [e] at a2
       cases a2
     have gH : Same (plus G1 H1 (addrsOf σ (borI ρ1 ms ws))) H1 := fun b o e => by
      by_cases m : b ∈ addrsOf σ (borI ρ1 ms ws)
      ·rw [plus_in m] at e; exact e
      ·rw [plus_out m] at e; exact R1.gH b o e
     have A := args_call R1 s2 q1 ha (fun i hi p' e => mem_addrs.mpr ⟨i, hi, e⟩) (fun i hi p' e m => by
      obtain ⟨j, hj, ej⟩ := mem_addrs.mp m
      obtain ⟨l, d, h⟩ := hli i hi
      obtain ⟨l2, d2, h2⟩ := hbi j hj
      have := R1.inj i j l d l2 d2 p' h h2 e ej
      subst this
      exact ap i hi hj) nd
     refine ⟨_, ds, _, _, gH, A, hfm, fun v G' H' af rr => ?_⟩
     split at er
     ·rename_i hfl
      cases er
      obtain ⟨Gn, sn, Rn, wn⟩ := call_after R1 hbi hli nd ap af hs rr (.inl ⟨hfl, rfl⟩)
      exact pp v Gn H' sn Rn wn
     ·obtain ⟨ρ3, hsh, rfl⟩ := Option.map_eq_some_iff.mp er
      obtain ⟨Gn, sn, Rn, wn⟩ := call_after R1 hbi hli nd ap af hs rr (.inr hsh)
      exact pp v Gn H' sn Rn wn
   ·cases er
  ·cases er
theorem d_call (h : Has X.prog X.w X.K X.mg X.base k x ps (SpD X.K ms fm)) (hr : Room k X.A) (ha : PDA X B (e :: es) mr) (hg : Gl X x := by rfl) (hK : X.K = B.K := by rfl) (hdb : (x == ("__debug__" : Str)) = false := by decide)
  (he : starEach (e :: es) X.env = (false, eval e X.env) :: starEach es X.env := by rfl) (hpl : (backTo pos (starEach es X.env)).any (·.1) = false := by rfl) : PD X B (.Call (.Name x p) (e :: es) [] pos) (mCall ms fm mr) := .mk fun ξ =>
 (pcall (X := rz X ξ) h hr (ha.ap ξ) hg hdb he hpl).imp fun σ H Q t => by
  have t' := td_call t
  rw [← hK] at t'
  exact t'
end
end L3
set_option Elab.async false
set_option linter.all false
set_option maxRecDepth 100000
set_option maxHeartbeats 4000000
namespace L3
open PySem PySem.Spec PyProof.Rows L2
def Caps (X : Cx) (scope : Scope) : List (Str × Nat) → Prop
 | [] => True
 | c :: r => (X.N[c.2]? = some c.1 ∧ scope.names.lookup c.1 = some .free ∧ (X.env.kindOf c.1 = some .cell ∨ X.env.kindOf c.1 = some .free)) ∧ Caps X scope r
theorem caps_at {X : Cx} {scope : Scope} : ∀ {cs : List (Str × Nat)}, Caps X scope cs → ∀ c ∈ cs, X.N[c.2]? = some c.1 ∧ scope.names.lookup c.1 = some .free ∧ (X.env.kindOf c.1 = some .cell ∨ X.env.kindOf c.1 = some .free)
 | [], _, c, h => by cases h
 | c :: r, h, c', hm => by
  rcases List.mem_cons.mp hm with rfl | hm
  ·exact h.1
  ·exact caps_at h.2 c' hm
theorem blkL {X : Cx} {scope : Scope} {x : Str} (cs : List (Str × Nat)) (hc : Caps X scope cs) (kind : scope.kind = .function := by rfl) (h : namesOk scope (cs.map (·.1)) = true := by decide +kernel) (nd : (x :: cs.map (·.1)).Nodup := by decide +kernel) : Blk X scope (x :: cs.map (·.1)) 1 (cs.map (·.2)) := by
 refine Blk.mk' (fs := cs.map (·.1)) kind h nd (by simp; omega) (fun n hn => ?_) fun i j e => ?_
 ·obtain ⟨c, hm, rfl⟩ := List.mem_map.mp hn
  exact (caps_at hc c hm).2.2
 ·rw [List.getElem?_map] at e
  cases hi : cs[i]? with
  | none => rw [hi] at e; cases e
  | some c =>
   rw [hi] at e
   cases e
   obtain ⟨a, b, d⟩ := caps_at hc c (List.mem_of_getElem? hi)
   refine ⟨?_, c.1, a, b, d⟩
   rw [Nat.add_comm, List.getElem?_cons_succ, List.getElem?_map, hi]
   exact a.symm
theorem _root_.L2.PE.wishes {X : Cx} {E E' : Value → Shared → Prop} {e : Expr} {t : TE} (h : PE (X.wish E) e t) (i : ∀ e s, E e s → E' e s) : PE (X.wish E') e t := fun pins s σ H Q I hw =>
 wpAny_mono (h pins s σ H Q (I.unwish.wish _) hw) (fun _ _ ⟨v, H', I', r, q⟩ => ⟨v, H', I'.unwish.wish _, r, q⟩) fun e s z => i e s z
theorem _root_.L2.PF.wishes {X : Cx} {E E' : Value → Shared → Prop} {e : List Expr} {t : TT} (h : PF (X.wish E) e t) (i : ∀ e s, E e s → E' e s) : PF (X.wish E') e t := fun pins s σ H Q I hw =>
 wpAny_mono (h pins s σ H Q (I.unwish.wish _) hw) (fun _ _ ⟨H', I', q⟩ => ⟨H', I'.unwish.wish _, q⟩) fun e s z => i e s z
theorem _root_.L2.PF.imp {X : Cx} {e : List Expr} {t t' : TT} (h : PF X e t) (i : ∀ σ H Q, t' σ H Q → t σ H Q) : PF X e t' := fun pins s σ H Q I q => h pins s σ H Q I (i σ H Q q)
structure PDF (X : Cx) (B : Bs) (e : List Expr) (m : M Bool) : Prop where
 ap : ∀ ξ, PF (rz X ξ) e (TD relB B ξ m)
def mYes : M Bool := M.pure true
theorem f_nil {X : Cx} {B : Bs} : PDF X B [] mYes := .mk fun ξ => (pf_nil (X := rz X ξ)).imp fun σ H Q t => by
 obtain ⟨G, ρ, R, r, e, p⟩ := t
 cases e
 exact p true G H (Same.refl _) R rfl
theorem f_one {X : Cx} {B : Bs} {c : Expr} {m : M Bool} (h : PDT X B c m) : PDF X B [c] m := .mk fun ξ => pf_one (h.ap ξ)
def frzC : Option C → Option C
 | some (.ow _ d) => some (.sh d)
 | c => c
def seenE (own : Nat) (fr : List Nat) (ρ : Env') : Env' := List.replicate own none ++ fr.map fun j => frzC (ρ[j]?).join
def compTurn (tg : FT) (mt : M Bool) (me : M W) (ρ : Env') (d : D) : Option (Option D) := match tg d ρ with
 | none => none
 | some ρ1 => match mt ρ1 with
  | some (.ok false _) => some none
  | some (.ok true ρ2) => match M.bind me leak ρ2 with
   | some (.ok y _) => some (some y)
   | _ => none
  | _ => none
def compL (tg : FT) (mt : M Bool) (me : M W) (ρ : Env') : List D → Option (List D)
 | [] => some []
 | d :: ds => match compTurn tg mt me ρ d, compL tg mt me ρ ds with
  | some (some y), some ys => some (y :: ys)
  | some none, some ys => some ys
  | _, _ => none
def capI (ρ : Env') (fr : List Nat) : List Nat := fr.filter fun j => match ρ[j]? with
 | some (some (.ow _ _)) => true
 | _ => false
def compW (tg : FT) (mt : M Bool) (me : M W) (own : Nat) (fr : List Nat) (ds : List D) : M W := fun ρ => match compL tg mt me (seenE own fr ρ) ds with
 | none => none
 | some ys => grd (small ds.length) (if ys.all flatD = true then some (.ok (.own (.lst ys)) ρ) else (shareL (capI ρ fr) ρ).map (R'.ok (.own (.lst ys)) ·))
def mComp (mi : M (List D)) (tg : FT) (mt : M Bool) (me : M W) (own : Nat) (fr : List Nat) : M W := M.bind mi fun ds => compW tg mt me own fr ds
theorem capI_own {ρ : Env'} {fr : List Nat} {i : Nat} (h : i ∈ capI ρ fr) : i ∈ fr ∧ ∃ l d, ρ[i]? = some (some (.ow l d)) := by
 unfold capI at h
 obtain ⟨h1, h2⟩ := List.mem_filter.mp h
 refine ⟨h1, ?_⟩
 split at h2
 ·exact ⟨_, _, ‹_›⟩
 ·cases h2
section
variable {B : Bs} {G H : Hp} {σ : St} {ρ : Env'} {own : Nat} {fr : List Nat}
theorem seenE_get {i : Nat} {c : C} (h : (seenE own fr ρ)[i]? = some (some c)) : ∃ k j, i = own + k ∧ fr[k]? = some j ∧ ((∃ d, c = .sh d ∧ (ρ[j]? = some (some (.sh d)) ∨ ∃ l, ρ[j]? = some (some (.ow l d)))) ∨ ∃ es, c = .fz es ∧ ρ[j]? = some (some (.fz es))) := by
 unfold seenE at h
 by_cases hi : i < own
 ·rw [List.getElem?_append_left (by simpa using hi), List.getElem?_replicate, if_pos hi] at h
  cases h
 ·rw [List.getElem?_append_right (by simpa using hi)] at h
  simp only [List.length_replicate, List.getElem?_map] at h
  cases e : fr[i - own]? with
  | none => rw [e] at h; cases h
  | some j =>
   rw [e] at h
   simp only [Option.map_some, Option.some.injEq] at h
   refine ⟨i - own, j, by omega, e, ?_⟩
   cases q : ρ[j]? with
   | none => rw [q] at h; cases h
   | some o =>
    rw [q] at h
    cases o with
    | none => cases h
    | some c0 =>
     cases c0 with
     | sh d => cases h; exact .inl ⟨d, rfl, .inl rfl⟩
     | ow l d => cases h; exact .inl ⟨d, rfl, .inr ⟨l, rfl⟩⟩
     | fz es => cases h; exact .inr ⟨es, rfl, rfl⟩
theorem seen_at {k j : Nat} {v : V} (h : fr[k]? = some j) (e : σ[j]? = some (some v)) : (seen own fr σ)[own + k]? = some (some v) := by
 unfold L2.seen
 rw [List.getElem?_append_right (by simp)]
 simp only [List.length_replicate, List.getElem?_map, Nat.add_sub_cancel_left, h, Option.map_some, e]
 rfl
theorem rs_block {H1 H2 Gb : Hp} (R : RS B G H1 σ ρ) (sg : Same (plus G H1 (addrsOf σ (capI ρ fr))) Gb) (gb : Same Gb H2) (kp : Same H1 H2) (gnew : ∀ p o, Gb p = some o → plus G H1 (addrsOf σ (capI ρ fr)) p = some o ∨ H1 p = none) (dom : ∀ p, H2 p = none → H1 p = none) (s0 : Same G (plus G H1 (addrsOf σ (capI ρ fr)))) :
  RS ⟨B.K, H1, H1, plus G H1 (addrsOf σ (capI ρ fr)), fun _ => none⟩ Gb H2 (seen own fr σ) (seenE own fr ρ) := by
 refine ⟨Same.refl _, kp, sg, gb, gnew, dom, ?_, fun i d e => ?_, fun i l d e => ?_, fun i j l d k e p a b => ?_, fun i es e => ?_⟩
 ·rw [L2.seen_length]
  unfold seenE
  simp
 ·obtain ⟨k, j, rfl, hk, ⟨d', q, h⟩ | ⟨_, q, _⟩⟩ := seenE_get e <;> cases q
  rcases h with h | ⟨l, h⟩
  ·obtain ⟨v, q1, q2⟩ := R.sh j d h
   exact ⟨v, seen_at hk q1, (q2.same s0).same sg⟩
  ·obtain ⟨p, q1, q2, q3, q4, q5⟩ := R.ow j l d h
   have hp : p ∈ addrsOf σ (capI ρ fr) := mem_addrs.mpr ⟨j, List.mem_filter.mpr ⟨List.mem_of_getElem? hk, by rw [h]⟩, q1⟩
   refine ⟨_, seen_at hk q1, ?_⟩
   cases d with
   | lst ds =>
    obtain ⟨xs, e, r⟩ := q5
    have r' := (r.same s0).same sg
    exact .lst (SqL.of (sg p _ (by rw [plus_in hp]; exact e))) r'.len r'.get
   | dct es =>
    obtain ⟨xs, e, r⟩ := q5
    have r' := (r.same s0).same sg
    exact .dct (.inl (sg p _ (by rw [plus_in hp]; exact e))) r'.keys r'.get
   | _ => exact (show False from q5).elim
 ·obtain ⟨k, j, rfl, hk, ⟨d', q, h⟩ | ⟨_, q, _⟩⟩ := seenE_get e <;> cases q
 ·obtain ⟨k, j, rfl, hk, ⟨d', q, h⟩ | ⟨_, q, _⟩⟩ := seenE_get a <;> cases q
 ·obtain ⟨k, j, rfl, hk, ⟨d', q, h⟩ | ⟨es', q, h⟩⟩ := seenE_get e <;> cases q
  obtain ⟨a, o, kvs, q1, q2, q3⟩ := R.fz j es h
  exact ⟨a, o, kvs, seen_at hk q1, sg _ _ (s0 _ _ q2), (q3.same s0).same sg⟩
end
abbrev X0 : XP := fun _ _ _ => False
section
variable {X : Cx} {B : Bs} {mi : M (List D)} {mt : M Bool} {me : M W} {own : Nat} {fr : List Nat}
theorem td_comp1 {ξ : XP} {tf : TT} {te : TE} (hf : ∀ B', B'.K = B.K → ∀ σ H Q, TD relB B' X0 mt σ H Q → tf σ H Q) (he : ∀ B', B'.K = B.K → ∀ σ H Q, TD relW B' X0 me σ H Q → te σ H Q) {σ : St} {H : Hp} {Q : VK} (t : TD relW B ξ (mComp mi (tgN 0) mt me 1 fr) σ H Q) :
  tComp (TDI B ξ mi) (gName 0) tf te 1 fr σ H Q := by
 obtain ⟨G, ρ, R, r, e, pq⟩ := t
 unfold mComp at e
 cases hm : mi ρ with
 | none => rw [M.bind_none hm] at e; cases e
 | some r1 =>
  cases r1 with
  | ex x ρ1 =>
   rw [M.bind_ex hm] at e
   cases e
   exact ⟨G, ρ, _, R, hm, pq⟩
  | ok ds ρ1 =>
   rw [M.bind_ok hm] at e
   refine ⟨G, ρ, _, R, hm, fun J G1 H1 s1 R1 gv => ?_⟩
   unfold compW at e
   cases hc : compL (tgN 0) mt me (seenE 1 fr ρ1) ds with
   | none => rw [hc] at e; cases e
   | some ys =>
    rw [hc] at e
    simp only [] at e
    obtain ⟨hz, e⟩ := grd_some e
    have hbi : ∀ i ∈ capI ρ1 fr, ∃ l d, ρ1[i]? = some (some (.ow l d)) := fun i hi => (capI_own hi).2
    have s0 : Same G1 (plus G1 H1 (addrsOf σ (capI ρ1 fr))) := fun b o e => by
     rw [plus_out fun m => ?_]
     ·exact e
     ·obtain ⟨i, hi, e2⟩ := mem_addrs.mp m
      obtain ⟨l, d, h⟩ := hbi i hi
      obtain ⟨p', a1, a2, _⟩ := R1.ow i l d h
      rw [e2] at a1
      cases a1
      rw [e] at a2
      cases a2
    have gH0 : Same (plus G1 H1 (addrsOf σ (capI ρ1 fr))) H1 := fun b o e => by
     by_cases m : b ∈ addrsOf σ (capI ρ1 fr)
     ·rw [plus_in m] at e; exact e
     ·rw [plus_out m] at e; exact R1.gH b o e
    generalize hGp : plus G1 H1 (addrsOf σ (capI ρ1 fr)) = Gp at s0 gH0
    refine ⟨fun i m zs H2 => ∃ Gb acc rest, m = ds.length - i ∧ i ≤ ds.length ∧ Same Gp Gb ∧ Same Gb H2 ∧ Same H1 H2 ∧ (∀ p o, Gb p = some o → Gp p = some o ∨ H1 p = none) ∧ (∀ p, H2 p = none → H1 p = none) ∧ RepL B.K Gb zs acc ∧ acc.length ≤ i ∧ compL (tgN 0) mt me (seenE 1 fr ρ1) (ds.drop i) = some rest ∧ acc ++ rest = ys,
     ⟨ds.length, Gp, [], ys, by simp, Nat.zero_le _, Same.refl _, gH0, Same.refl _, fun p o e => .inl e, fun p e => e, .nil, Nat.le_refl _, by simpa using hc, rfl⟩, ?_⟩
    rintro i m zs H2 ⟨Gb, acc, rest, rfl, hle, a1, a2, a3, a4, a5, a6, a7, a8, a9⟩
    by_cases hlt : i < ds.length
    ·have ed : ds.drop i = ds[i] :: ds.drop (i + 1) := List.drop_eq_getElem_cons hlt
     rw [ed] at a8
     unfold compL at a8
     cases ht : compTurn (tgN 0) mt me (seenE 1 fr ρ1) ds[i] with
     | none => rw [ht] at a8; cases a8
     | some oy =>
      cases hr : compL (tgN 0) mt me (seenE 1 fr ρ1) (ds.drop (i + 1)) with
      | none => rw [ht, hr] at a8; cases oy <;> cases a8
      | some rest' =>
       rw [ht, hr] at a8
       refine .inr ⟨gv.go Gb H2 i (s0.trans a1) a2 hlt, ?_, fun zs' H' => ∃ Gb acc rest, Same Gp Gb ∧ Same Gb H' ∧ Same H1 H' ∧ (∀ p o, Gb p = some o → Gp p = some o ∨ H1 p = none) ∧ (∀ p, H' p = none → H1 p = none) ∧ RepL B.K Gb zs' acc ∧ acc.length ≤ i + 1 ∧ compL (tgN 0) mt me (seenE 1 fr ρ1) (ds.drop (i + 1)) = some rest ∧ acc ++ rest = ys,
        fun zs' H' ⟨Gb', acc', rest', b1, b2, b3, b4, b5, b6, b7, b8, b9⟩ => ⟨ds.length - (i + 1), by omega, Gb', acc', rest', rfl, hlt, b1, b2, b3, b4, b5, b6, b7, b8, b9⟩, fun x H' y => ?_⟩
       ·rw [a6.len, sizeLine_eq]; unfold small at hz; omega
       obtain ⟨rfl, d, hd, rx⟩ := gv.yld Gb H2 H' i x (s0.trans a1) a2 hlt y
       have ed2 : d = ds[i] := by
        rw [List.getElem?_eq_getElem hlt] at hd
        exact (Option.some.inj hd).symm
       subst ed2
       have Rb : RS ⟨B.K, H1, H1, Gp, fun _ => none⟩ Gb H' (seen 1 fr σ) (seenE 1 fr ρ1) := by
        subst hGp
        exact rs_block R1 a1 a2 a3 a4 a5 s0
       unfold compTurn at ht
       cases hg : tgN 0 ds[i] (seenE 1 fr ρ1) with
       | none => rw [hg] at ht; cases ht
       | some ρ2 =>
        rw [hg] at ht
        simp only [] at ht
        have hg' := hg
        unfold tgN at hg'
        split at hg'
        ·rename_i hl0
         cases hg'
         have Rb2 := Rb.setSh hl0 rx
         show tf ((seen 1 fr σ).set 0 (some x)) H' _
         refine hf ⟨B.K, H1, H1, Gp, fun _ => none⟩ rfl _ _ _ ⟨Gb, _, Rb2, ?_⟩
         cases hmt : mt ((seenE 1 fr ρ1).set 0 (some (.sh ds[i]))) with
         | none => rw [hmt] at ht; cases ht
         | some r3 =>
          rw [hmt] at ht
          cases r3 with
          | ex x' ρ3 => cases ht
          | ok k ρ3 =>
           refine ⟨_, hmt, fun k' G3 H3 s3 R3 qk => ?_⟩
           cases (show k' = k from qk)
           cases k with
           | false =>
            cases ht
            cases a8
            rw [if_neg Bool.false_ne_true]
            exact ⟨G3, acc, rest, a1.trans s3, R3.gH, R3.keep, R3.gnew, R3.dom, a6.same s3, by omega, hr, a9⟩
           | true =>
            rw [if_pos rfl]
            simp only [] at ht
            cases hme : M.bind me leak ρ3 with
            | none => rw [hme] at ht; cases ht
            | some r4 =>
             rw [hme] at ht
             cases r4 with
             | ex x' ρ4 => cases ht
             | ok y' ρ4 =>
              cases ht
              cases a8
              cases hm2 : me ρ3 with
              | none => rw [M.bind_none hm2] at hme; cases hme
              | some r5 =>
               cases r5 with
               | ex x' ρ5 => rw [M.bind_ex hm2] at hme; cases hme
               | ok w ρ5 =>
                rw [M.bind_ok hm2] at hme
                refine he ⟨B.K, H1, H1, Gp, fun _ => none⟩ rfl _ _ _ ⟨G3, ρ3, R3, _, hm2, fun v G5 H5 s5 R5 q5 => ?_⟩
                obtain ⟨G6, s6, R6, r6⟩ := q5.leak R5 hme
                have sa := (s3.trans s5).trans s6
                exact ⟨G6, acc ++ [y'], rest', a1.trans sa, R6.gH, R6.keep, R6.gnew, R6.dom, (a6.same sa).append (.one r6), by rw [List.length_append]; show acc.length + 1 ≤ i + 1; omega, hr, by rw [List.append_assoc]; exact a9⟩
        ·cases hg'
    ·have ei : i = ds.length := by omega
     subst ei
     rw [List.drop_length] at a8
     cases a8
     rw [List.append_nil] at a9
     subst a9
     refine .inl ⟨gv.stop Gb H2 (s0.trans a1) a2, fun p hp => ?_⟩
     have gp : Gb p = none := a2.free hp
     have sH : Same H2 (upd H2 p (.lst zs)) := same_new hp _
     have A : After B.K (plus G1 H1 (addrsOf σ (capI ρ1 fr))) H1 (addrsOf σ []) Gb (upd H2 p (.lst zs)) [] := by
      rw [hGp]
      refine ⟨fun b o e => sH b o (a3 b o (minus_same _ _ b o e)), a1, a2.trans sH, a4, fun b e => ?_, .nil⟩
      by_cases z : b = p
      ·subst z; exact a5 _ hp
      ·rw [upd_ne z] at e; exact a5 b e
     have rr : RepRet B.K H1 Gb (upd H2 p (.lst zs)) (.ref p) (.own (.lst acc)) := ⟨p, rfl, gp, a5 p hp, zs, upd_same, a6⟩
     split at e
     ·rename_i hfl
      cases e
      obtain ⟨Gn, sn, Rn, wn⟩ := call_after (li := []) R1 hbi (fun i h => by cases h) List.nodup_nil (fun i h => by cases h) A rfl rr (.inl ⟨by rw [List.all_nil, Bool.and_true]; exact hfl, rfl⟩)
      exact pq _ Gn _ (s1.trans sn) Rn wn
     ·obtain ⟨ρ3, hsh, rfl⟩ := Option.map_eq_some_iff.mp e
      obtain ⟨Gn, sn, Rn, wn⟩ := call_after (li := []) R1 hbi (fun i h => by cases h) List.nodup_nil (fun i h => by cases h) A rfl rr (.inr hsh)
      exact pq _ Gn _ (s1.trans sn) Rn wn
variable {x : Str} {px pos : Pos} {M' : List Str} {scope : Scope} {iter elt : Expr} {ifs : List Expr}
theorem xe0 {Y : Cx} : ∀ e s, XE Y X0 e s → False := fun e s ⟨_, _, _, _, _, _, h⟩ => h
theorem d_comp (Bk : Blk X scope (x :: M') 1 fr) (hi : PDI X B (.Name x px) iter mi) (hf : ∀ cl C s H ex H0 HK G0 L, PDF (X.blk scope cl C (x :: M') s H ex) ⟨B.K, H0, HK, G0, L⟩ ifs mt) (he : ∀ cl C s H ex H0 HK G0 L, PD (X.blk scope cl C (x :: M') s H ex) ⟨B.K, H0, HK, G0, L⟩ elt me)
  (hc : X.calm = true := by rfl) (hx : scope.names.lookup x = some .local ∨ scope.names.lookup x = some .cell := by first | exact .inl rfl | exact .inr rfl) (hs : ∀ x, foldedSetIterable iter X.env x = pure x := by intro _; rfl) : PD X B (.ListComp elt [⟨.Name x px, iter, ifs, 0⟩] scope pos) (mComp mi (tgN 0) mt me 1 fr) := .mk fun ξ => by
 have Bk' : Blk (rz X ξ) scope (x :: M') 1 fr := ⟨Bk.kind, Bk.cells, Bk.names, Bk.free, Bk.nd, Bk.len, Bk.at'⟩
 refine (pe_c1 (X := rz X ξ) (tf := fun σ H Q => ∃ B', B'.K = B.K ∧ TD relB B' X0 mt σ H Q) (te := fun σ H Q => ∃ B', B'.K = B.K ∧ TD relW B' X0 me σ H Q) Bk' (hi.ap ξ) (fun cl C s H ex => ?_) (fun cl C s H ex => ?_) hc hx hs).imp fun σ H Q t => td_comp1 (fun B' hB σ H Q t => ⟨B', hB, t⟩) (fun B' hB σ H Q t => ⟨B', hB, t⟩) t
 ·intro pins s' σ' H' Q I ⟨B', hB, t⟩
  obtain ⟨K', h0, hk, g0, l⟩ := B'
  cases (show K' = B.K from hB)
  exact PF.wishes (X := X.blk scope cl C (x :: M') s H ex) ((hf cl C s H ex h0 hk g0 l).ap X0) xe0 pins s' σ' H' Q I t
 ·intro pins s' σ' H' Q I ⟨B', hB, t⟩
  obtain ⟨K', h0, hk, g0, l⟩ := B'
  cases (show K' = B.K from hB)
  exact PE.wishes (X := X.blk scope cl C (x :: M') s H ex) ((he cl C s H ex h0 hk g0 l).ap X0) xe0 pins s' σ' H' Q I t
theorem s_setc {i : Nat} {y : Str} {py spos : Pos} (Bk : Blk X scope (x :: M') 1 fr) (hN : X.N.Nodup) (hi : PDI X B (.Name x px) iter mi) (hf : ∀ cl C s H ex H0 HK G0 L, PDF (X.blk scope cl C (x :: M') s H ex) ⟨B.K, H0, HK, G0, L⟩ ifs mt) (he : ∀ cl C s H ex H0 HK G0 L, PD (X.blk scope cl C (x :: M') s H ex) ⟨B.K, H0, HK, G0, L⟩ elt me)
  (hy : X.N[i]? = some y := by rfl) (hly : X.env.kindOf y = some .local := by rfl) (hc : X.calm = true := by rfl) (hx : scope.names.lookup x = some .local ∨ scope.names.lookup x = some .cell := by first | exact .inl rfl | exact .inr rfl)
  (hsw : swapsWith (.ListComp elt [⟨.Name x px, iter, ifs, 0⟩] scope pos) (some (.Name y py)) spos.line X.env = pure true := by with_unfolding_all rfl)
  (hs : ∀ x, foldedSetIterable iter X.env x = pure x := by intro _; rfl) : PSD X B (.Assign [.Name y py] (.ListComp elt [⟨.Name x px, iter, ifs, 0⟩] scope pos) spos) (setS i (mComp mi (tgN 0) mt me 1 fr)) := .mk fun ξ => by
 have Bk' : Blk (rz X ξ) scope (x :: M') 1 fr := ⟨Bk.kind, Bk.cells, Bk.names, Bk.free, Bk.nd, Bk.len, Bk.at'⟩
 refine (ps_c1 (X := rz X ξ) (tf := fun σ H Q => ∃ B', B'.K = B.K ∧ TD relB B' X0 mt σ H Q) (te := fun σ H Q => ∃ B', B'.K = B.K ∧ TD relW B' X0 me σ H Q) Bk' hN (hi.ap ξ) (fun cl C s H ex => ?_) (fun cl C s H ex => ?_) hy hly hc hx hsw hs).imp fun Dn σ H t => ?_
 ·intro pins s' σ' H' Q I ⟨B', hB, t⟩
  obtain ⟨K', h0, hk, g0, l⟩ := B'
  cases (show K' = B.K from hB)
  exact PF.wishes (X := X.blk scope cl C (x :: M') s H ex) ((hf cl C s H ex h0 hk g0 l).ap X0) xe0 pins s' σ' H' Q I t
 ·intro pins s' σ' H' Q I ⟨B', hB, t⟩
  obtain ⟨K', h0, hk, g0, l⟩ := B'
  cases (show K' = B.K from hB)
  exact PE.wishes (X := X.blk scope cl C (x :: M') s H ex) ((he cl C s H ex h0 hk g0 l).ap X0) xe0 pins s' σ' H' Q I t
 ·obtain ⟨G, ρ, R, t⟩ := t
  refine td_comp1 (fun B' hB σ H Q t => ⟨B', hB, t⟩) (fun B' hB σ H Q t => ⟨B', hB, t⟩) ((SD.step (rel := relW) R t).mono fun v H1 ⟨G1, ρ1, w, s1, R1, q1, r, e, p⟩ => ?_)
  obtain ⟨ρ', G', rfl, s', R'⟩ := store_run R1 q1 e
  exact p _ G' H1 s' R'
end
end L3
set_option Elab.async false
set_option linter.all false
set_option maxRecDepth 100000
set_option maxHeartbeats 4000000
namespace L3
open PySem PySem.Spec PyProof.Rows L2
def get1D : D → D → Option W
 | .dct es, k => (keyOf k).map fun k => W.val ((valD es k).getD .non)
 | _, _ => none
def mGet1 (mo me : M W) : M W := M.bind (stab mo) fun x => M.bind (chk "dict" x) fun _ => M.bind me fun y => op2 get1D x y
def get2D : D → D → D → Option W
 | .dct es, k, z => (keyOf k).map fun k => W.val ((valD es k).getD z)
 | _, _, _ => none
def mGet2 (mo me mf : M W) : M W := M.bind (stab mo) fun x => M.bind (chk "dict" x) fun _ => M.bind (stab me) fun y => M.bind mf fun z => M.bind (leak z) fun dz => op2 (fun a b => get2D a b dz) x y
def putTo (i : Nat) (k d : D) : SM := fun ρ => match ρ[i]? with
 | some (some (.ow l (.dct es))) => match keyOf k with
  | some k => grd (small es.length) (some (.nx (ρ.set i (some (.ow l (.dct (putD es k d)))))))
  | none => none
 | some (some (.ow l (.lst ds))) => match k with
  | .int j => match ixN ds.length j with
   | some n => some (.nx (ρ.set i (some (.ow l (.lst (ds.set n d))))))
   | none => none
  | _ => none
 | _ => none
def putS (i : Nat) (mv mk : M W) : SM := thenS (stab mv) fun wv => thenS (mVar i) fun _ => thenS mk fun wk => thenS (leak wv) fun d ρ => match getD wk ρ with
 | some k => putTo i k d ρ
 | none => none
theorem _root_.L2.PSet.or {X : Cx} {t t' : TSet} (h : PSet X t) (h' : PSet X t') : PSet X (fun o i v H Q => t o i v H Q ∨ t' o i v H Q) := by
 intro pins s σ H o i v ov iv u Q I ro ri rv q
 rcases q with q | q
 ·exact h pins s σ H o i v ov iv u Q I ro ri rv q
 ·exact h' pins s σ H o i v ov iv u Q I ro ri rv q
section
variable {X : Cx} {B : Bs} {ξ : XP} {G H : Hp} {σ : St} {ρ : Env'} {Dn : Ends} {o e value : Expr} {mo me mv : M W} {pos pos' : Pos}
theorem SD.quiet {α : Type} {m : M α} {f : α → SM} (t : SDat B ξ G ρ (thenS m f) Dn) (hm : ∀ r, m ρ = some r → ∃ a ρ', r = .ok a ρ') : ∃ a ρ', m ρ = some (.ok a ρ') ∧ SDat B ξ G ρ' (f a) Dn := by
 obtain ⟨r, e, p⟩ := t
 unfold thenS at e
 cases hr : m ρ with
 | none => rw [hr] at e; cases e
 | some r1 =>
  obtain ⟨a, ρ', rfl⟩ := hm r1 hr
  rw [hr] at e
  exact ⟨a, ρ', rfl, r, e, p⟩
end
def tyN : D → String
 | .non => "NoneType"
 | .bl _ => "bool"
 | .int _ => "int"
 | .str _ => "str"
 | .tup _ => "tuple"
 | .lst _ => "list"
 | .dct _ => "dict"
 | .ty _ => "type"
def subN (a b : String) : Bool := a == b || (a == "bool" && b == "int")
def isTy : D → Bool
 | .ty _ => true
 | _ => false
def isiD : List D → Option W
 | [d, .ty T] => grd (isTy d = false ∧ T ∈ ["int", "bool", "str", "list", "tuple", "dict"]) (vB (subN (tyN d) T))
 | _ => none
theorem kit_tab (K : PySem.W.Frag) : ∀ a ∈ ["NoneType", "bool", "int", "str", "tuple", "list", "dict"], ∀ b ∈ ["int", "bool", "str", "list", "tuple", "dict"], PySem.W.kitOne K (.type a) (.type b) = some (subN a b) := by
 intro a ha b hb
 simp only [List.mem_cons, List.not_mem_nil, or_false] at ha hb
 rcases ha with rfl | rfl | rfl | rfl | rfl | rfl | rfl <;> rcases hb with rfl | rfl | rfl | rfl | rfl | rfl <;> kernel_rfl
theorem call_isiX {X : Cx} {K : PySem.W.Frag} (hK : X.K = K) : CallR X (.builtin "isinstance") (fun xs H Q => ∃ x T d, xs = [x, .ty T] ∧ Rep K H x d ∧ (∀ n, d ≠ .ty n) ∧ T ∈ ["int", "bool", "str", "list", "tuple", "dict"] ∧ Q (.bl (subN (tyN d) T)) H) := by
 subst hK
 intro pins s σ H xs us Q I r h
 obtain ⟨x, T, d, rfl, hx, hn, hT, q⟩ := h
 obtain ⟨u, w', rfl, ru, rw'⟩ := vals2 r
 cases rw'
 have fin : ∀ tk, EP X pins σ Q (.bool (subN (tyN d) T)) { s with toks := tk } := fun tk => ⟨.bl _, H, I.tok tk, rfl, q⟩
 have tab := fun a ha => kit_tab X.K a ha T hT
 cases hx with
 | non => cases ru; exact PySem.W.kia_one PySem.W.kitx_none I.kIn True.intro (tab _ (by simp)) (fun z => nomatch z) fin
 | bl b => cases ru; exact PySem.W.kia_one PySem.W.kitx_bool I.kIn True.intro (tab _ (by simp)) (fun z => nomatch z) fin
 | int i => obtain ⟨t, rfl⟩ := ru; exact PySem.W.kia_one PySem.W.kitx_int I.kIn True.intro (tab _ (by simp)) (fun z => nomatch z) fin
 | str cs => obtain ⟨t, rfl⟩ := ru; exact PySem.W.kia_one PySem.W.kitx_str I.kIn True.intro (tab _ (by simp)) (fun z => nomatch z) fin
 | ty n => exact absurd rfl (hn n)
 | tup h _ _ =>
  cases ru
  obtain ⟨_, _, p, _⟩ := I.tuple h
  obtain ⟨o, h1, h2, _⟩ := p
  exact PySem.W.kia_one PySem.W.kitx_tuple I.kIn ⟨o, h1, h2⟩ (tab _ (by simp)) (fun z => nomatch z) fin
 | lst h _ _ =>
  cases ru
  obtain ⟨_, _, p, _⟩ := I.list h
  obtain ⟨o, n, h1, h2, _⟩ := p
  exact PySem.W.kia_one PySem.W.kitx_list I.kIn ⟨o, h1, h2⟩ (tab _ (by simp)) (fun z => nomatch z) fin
 | dct h _ _ =>
  cases ru
  obtain ⟨_, _, vs, _, dd⟩ := dk_rd I.hok h
  obtain ⟨o, es, ep, h1, h2, _⟩ := dd
  exact PySem.W.kia_one PySem.W.kitx_dict I.kIn ⟨o, h1, h2.1⟩ (tab _ (by simp)) (fun z => nomatch z) fin
section
variable {X : Cx} {B : Bs} {e a b c : Expr} {es : List Expr} {mr : M (List W)} {pos p : Pos}
theorem impN_isi : ImpN B (fun xs H Q => ∃ x T d, xs = [x, .ty T] ∧ Rep B.K H x d ∧ (∀ n, d ≠ .ty n) ∧ T ∈ ["int", "bool", "str", "list", "tuple", "dict"] ∧ Q (.bl (subN (tyN d) T)) H) isiD := by
 intro G H σ ρ xs ds w Q R h e p
 match ds, e with
 | [d, .ty T], e =>
  obtain ⟨⟨hn, hT⟩, e⟩ := grd_some e
  cases e
  obtain ⟨x, y, rfl, hx, hy⟩ := two_of h
  exact ⟨x, T, d, by rw [hy.ty], hx.rep R.gH, (fun n z => by rw [z] at hn; cases hn), hT, p _ G H (Same.refl _) R (.bl _)⟩
theorem d_isi (hm : X.mg "isinstance" = none) (ha : PDA X B [e, a] mr) (hg : Gl X "isinstance" := by rfl) (hK : X.K = B.K := by rfl) (he : starEach [e, a] X.env = (false, eval e X.env) :: starEach [a] X.env := by rfl) (hpl : (backTo pos (starEach [a] X.env)).any (·.1) = false := by rfl) : PD X B (.Call (.Name "isinstance" p) [e, a] [] pos) (mCB isiD mr) :=
 d_callB (fun ξ => call_isiX (X := rz X ξ) (K := B.K) hK) impN_isi hg hm PyProof.Rows.boot_isinstance ha (by decide) (by decide) he hpl
end
def intsOf : List D → Option (List Int)
 | [] => some []
 | .int i :: ds => (intsOf ds).map (i :: ·)
 | _ => none
theorem intsOf_eq : ∀ {ds : List D} {ns : List Int}, intsOf ds = some ns → ds = ns.map D.int
 | [], _, h => by cases h; rfl
 | .int b :: ds, bs, h => by
  unfold intsOf at h
  obtain ⟨bs', e, rfl⟩ := Option.map_eq_some_iff.mp h
  rw [intsOf_eq e]
  rfl
 | .non :: _, _, h => by cases h
 | .bl _ :: _, _, h => by cases h
 | .str _ :: _, _, h => by cases h
 | .ty _ :: _, _, h => by cases h
 | .tup _ :: _, _, h => by cases h
 | .lst _ :: _, _, h => by cases h
 | .dct _ :: _, _, h => by cases h
end L3
namespace L3
open PySem PySem.Spec PyProof.Rows L2
def eqKV (f : D → D → Option Bool) (fs : List (Key × D)) : List (Key × D) → Option Bool
 | [] => some true
 | e :: es => match valD fs e.1 with
  | none => some false
  | some y => match f e.2 y, eqKV f fs es with
   | some a, some b => some (a && b)
   | _, _ => none
def eqT : D → D → Option Bool
 | .dct es, .dct fs => if es.length = fs.length then eqKV (eqD 6) fs es else some false
 | d, e => eqD 8 d e
def eqTD (d e : D) : Option W := (eqT d e).bind vB
def neTD (d e : D) : Option W := (eqT d e).bind fun b => vB (!b)
section
variable {X : Cx} {pins : List (Addr × Obj)} {σ : St} {H : Hp} {s : Shared}
theorem hits_of (I : Inv X pins σ H s) {A : Around} {fs : List (Key × D)} {kvs2 : List (Key × V)} {vs2 : List (Key × Value)} (hu : A.units + 6 < cLine) (r2 : RepKV X.K H kvs2 fs) (k2 : KV kvs2 vs2) : ∀ {es : List (Key × D)} {kvs : List (Key × V)} {vs : List (Key × Value)} {b : Bool}, eqKV (eqD 6) fs es = some b → RepKV X.K H kvs es → KV kvs vs → PySem.W.KeqHits A s vs2 vs b := by
 intro es kvs vs b h r k
 revert vs b
 refine RepKV.ind (P := fun kvs es => ∀ {vs : List (Key × Value)} {b : Bool}, eqKV (eqD 6) fs es = some b → KV kvs vs → PySem.W.KeqHits A s vs2 vs b) ?_ ?_ r
 ·intro vs b h k
  cases k
  cases h
  exact .nil
 ·intro p e kvs es hk hr _ ih vs b h k
  unfold KV at k
  cases k with
  | @cons _ q _ qs hpq t =>
   unfold eqKV at h
   have e2 := k2.val p.1
   obtain ⟨c1, c2⟩ := r2.val p.1
   have hq : q = (p.1, q.2) := by rw [hpq.1]
   rw [hq]
   cases hv : valD fs e.1 with
   | none =>
    rw [hv] at h
    cases h
    rw [← hk] at hv
    rw [c2 hv] at e2
    exact .miss (RelO.none_of e2)
   | some y =>
    rw [hv] at h
    simp only [] at h
    cases h1 : eqD 6 e.2 y with
    | none => rw [h1] at h; cases h
    | some a =>
     cases h2 : eqKV (eqD 6) fs es with
     | none => rw [h1, h2] at h; cases h
     | some b2 =>
      rw [h1, h2] at h
      cases h
      rw [← hk] at hv
      obtain ⟨v, ev, rv⟩ := c1 y hv
      rw [ev] at e2
      obtain ⟨u, eu, ru⟩ := RelO.some_of e2
      exact .hit eu (eqd_all I 6 h1 hr rv hpq.2 ru hu).1 (ih h2 t)
end
theorem op_eqD' {X : Cx} {K : PySem.W.Frag} (hK : X.K = K) (hu : X.A.units + 8 < cLine) : OpR X (compareOp .Eq) (fun x y H Q => ∃ a c kvs1 kvs2 es fs b, x = .ref a ∧ y = .ref c ∧ Rd H a (.dK kvs1) ∧ Rd H c (.dK kvs2) ∧ RepKV K H kvs1 es ∧ RepKV K H kvs2 fs ∧ eqT (.dct es) (.dct fs) = some b ∧ Q (.bl b) H) := by
 subst hK
 intro pins s σ H x y v u Q I rx ry h
 obtain ⟨a, c, kvs1, kvs2, es, fs, b, rfl, rfl, ha, hb, r1, r2, e, q⟩ := h
 cases rx
 cases ry
 obtain ⟨z, hS, vs, rel, dd⟩ := dk_rd I.hok ha
 obtain ⟨z2, hS2, vs2, rel2, dd2⟩ := dk_rd I.hok hb
 have l1 := rel.length
 have l2 := rel2.length
 have l3 := r1.len
 have l4 := r2.len
 have e : (if es.length = fs.length then eqKV (eqD 6) fs es else some false) = some b := e
 split at e
 ·rename_i hl
  refine PySem.W.keq_eq (r := b) hS hS2 dd dd2 (by omega) (fun _ => hits_of I (by show X.A.units + 1 + 6 < _; omega) r2 rel2 e r1 rel) ?_
  have e2 : (vs.length == vs2.length && b) = b := by rw [show (vs.length == vs2.length) = true by simp; omega, Bool.true_and]
  rw [e2]
  exact fin_bl I q rfl
 ·rename_i hl
  cases e
  refine PySem.W.keq_eq (r := true) hS hS2 dd dd2 (by omega) (fun z => absurd z (by omega)) ?_
  have e2 : (vs.length == vs2.length && true) = false := by rw [show (vs.length == vs2.length) = false by simp; omega, Bool.false_and]
  rw [e2]
  exact fin_bl I q rfl
theorem op_neD' {X : Cx} {K : PySem.W.Frag} (hK : X.K = K) (hu : X.A.units + 8 < cLine) : OpR X (compareOp .NotEq) (fun x y H Q => ∃ a c kvs1 kvs2 es fs b, x = .ref a ∧ y = .ref c ∧ Rd H a (.dK kvs1) ∧ Rd H c (.dK kvs2) ∧ RepKV K H kvs1 es ∧ RepKV K H kvs2 fs ∧ eqT (.dct es) (.dct fs) = some b ∧ Q (.bl (!b)) H) := by
 subst hK
 intro pins s σ H x y v u Q I rx ry h
 obtain ⟨a, c, kvs1, kvs2, es, fs, b, rfl, rfl, ha, hb, r1, r2, e, q⟩ := h
 cases rx
 cases ry
 obtain ⟨z, hS, vs, rel, dd⟩ := dk_rd I.hok ha
 obtain ⟨z2, hS2, vs2, rel2, dd2⟩ := dk_rd I.hok hb
 have l1 := rel.length
 have l2 := rel2.length
 have l3 := r1.len
 have l4 := r2.len
 have e : (if es.length = fs.length then eqKV (eqD 6) fs es else some false) = some b := e
 split at e
 ·rename_i hl
  refine PySem.W.keq_ne (r := b) hS hS2 dd dd2 (by omega) (fun _ => hits_of I (by show X.A.units + 1 + 6 < _; omega) r2 rel2 e r1 rel) ?_
  have e2 : (vs.length == vs2.length && b) = b := by rw [show (vs.length == vs2.length) = true by simp; omega, Bool.true_and]
  rw [e2]
  exact fin_bl I q rfl
 ·rename_i hl
  cases e
  refine PySem.W.keq_ne (r := true) hS hS2 dd dd2 (by omega) (fun z => absurd z (by omega)) ?_
  have e2 : (vs.length == vs2.length && true) = false := by rw [show (vs.length == vs2.length) = false by simp; omega, Bool.false_and]
  rw [e2]
  exact fin_bl I q rfl
section
variable {X : Cx} {B : Bs} {e a b c : Expr} {ma mb mc : M W} {pos : Pos}
theorem eqT_cases {d e : D} {b : Bool} (h : eqT d e = some b) : (∃ es fs, d = .dct es ∧ e = .dct fs) ∨ eqD 8 d e = some b := by
 unfold eqT at h
 split at h
 ·exact .inl ⟨_, _, rfl, rfl⟩
 ·exact .inr h
theorem imp2_eqT : Imp2 B (fun x y H Q => (∃ d e b, Rep B.K H x d ∧ Rep B.K H y e ∧ eqD 8 d e = some b ∧ Q (.bl b) H) ∨ ∃ a c kvs1 kvs2 es fs b, x = .ref a ∧ y = .ref c ∧ Rd H a (.dK kvs1) ∧ Rd H c (.dK kvs2) ∧ RepKV B.K H kvs1 es ∧ RepKV B.K H kvs2 fs ∧ eqT (.dct es) (.dct fs) = some b ∧ Q (.bl b) H) eqTD := by
 intro G H σ ρ x y dx dy w Q R hx hy e p
 unfold eqTD at e
 cases hb : eqT dx dy with
 | none => rw [hb] at e; cases e
 | some b =>
  rw [hb] at e
  cases e
  rcases eqT_cases hb with ⟨es, fs, rfl, rfl⟩ | h8
  ·obtain ⟨a1, k1, rfl, h1, r1⟩ := hx.dct R.gH
   obtain ⟨a2, k2, rfl, h2, r2⟩ := hy.dct R.gH
   exact .inr ⟨a1, a2, k1, k2, es, fs, b, rfl, rfl, h1, h2, r1.same R.gH, r2.same R.gH, hb, p _ G H (Same.refl _) R (.bl _)⟩
  ·exact .inl ⟨dx, dy, b, hx.rep R.gH, hy.rep R.gH, h8, p _ G H (Same.refl _) R (.bl _)⟩
theorem imp2_neT : Imp2 B (fun x y H Q => (∃ d e b, Rep B.K H x d ∧ Rep B.K H y e ∧ eqD 8 d e = some b ∧ Q (.bl (!b)) H) ∨ ∃ a c kvs1 kvs2 es fs b, x = .ref a ∧ y = .ref c ∧ Rd H a (.dK kvs1) ∧ Rd H c (.dK kvs2) ∧ RepKV B.K H kvs1 es ∧ RepKV B.K H kvs2 fs ∧ eqT (.dct es) (.dct fs) = some b ∧ Q (.bl (!b)) H) neTD := by
 intro G H σ ρ x y dx dy w Q R hx hy e p
 unfold neTD at e
 cases hb : eqT dx dy with
 | none => rw [hb] at e; cases e
 | some b =>
  rw [hb] at e
  cases e
  rcases eqT_cases hb with ⟨es, fs, rfl, rfl⟩ | h8
  ·obtain ⟨a1, k1, rfl, h1, r1⟩ := hx.dct R.gH
   obtain ⟨a2, k2, rfl, h2, r2⟩ := hy.dct R.gH
   exact .inr ⟨a1, a2, k1, k2, es, fs, b, rfl, rfl, h1, h2, r1.same R.gH, r2.same R.gH, hb, p _ G H (Same.refl _) R (.bl _)⟩
  ·exact .inl ⟨dx, dy, b, hx.rep R.gH, hy.rep R.gH, h8, p _ G H (Same.refl _) R (.bl _)⟩
theorem d_eqX (hu : X.A.units + 8 < cLine) (ha : PD X B a ma) (hb : PD X B b mb) (hK : X.K = B.K := by rfl) : PD X B (.Compare a [.Eq] [b] pos) (mBin eqTD ma mb) := pd_cmp (fun ξ => (op_eqX (X := rz X ξ) hK hu).or (op_eqD' hK hu)) imp2_eqT ha hb (nomark _)
theorem t_eqX (hu : X.A.units + 8 < cLine) (ha : PD X B a ma) (hb : PD X B b mb) (hK : X.K = B.K := by rfl) : PDT X B (.Compare a [.Eq] [b] pos) (mTst (mBin eqTD ma mb)) := pdt_cmp (fun ξ => (op_eqX (X := rz X ξ) hK hu).or (op_eqD' hK hu)) imp2_eqT ha hb (nomark _)
theorem t_neX (hu : X.A.units + 8 < cLine) (ha : PD X B a ma) (hb : PD X B b mb) (hK : X.K = B.K := by rfl) : PDT X B (.Compare a [.NotEq] [b] pos) (mTst (mBin neTD ma mb)) := pdt_cmp (fun ξ => (op_neX (X := rz X ξ) hK hu).or (op_neD' hK hu)) imp2_neT ha hb (nomark _)
end
end L3
set_option Elab.async false
set_option linter.all false
set_option maxRecDepth 100000
set_option maxHeartbeats 4000000
namespace L3
open PySem PySem.Spec PyProof.Rows L2
def opM (f : D → List D → Option W) (x : W) (ws : List W) : M W := fun ρ => match getD x ρ, getDs ws ρ with
 | some d, some ds => (f d ds).map (R'.ok · ρ)
 | _, _ => none
def mMt (T : String) (f : D → List D → Option W) (mo : M W) (m : M (List W)) : M W := M.bind (stab mo) fun x => M.bind (chk T x) fun _ => M.bind m fun ws => opM f x ws
section
variable {X : Cx} {B : Bs} {e v1 v2 : Expr} {es : List Expr} {me : M W} {pos : Pos}
theorem _root_.L2.PJ.imp {X : Cx} {es : List Expr} {t t' : TJ} (h : PJ X es t) (i : ∀ σ H out Q, t' σ H out Q → t σ H out Q) : PJ X es t' := fun pins s σ H out Q I q => h pins s σ H out Q I (i σ H out Q q)
end
end L3
set_option Elab.async false
set_option linter.all false
set_option maxRecDepth 100000
set_option maxHeartbeats 4000000
set_option Elab.async false
set_option linter.all false
set_option maxRecDepth 100000
set_option maxHeartbeats 4000000
namespace L3
open PySem L2
def stW : W → W
 | .own d => .val d
 | w => w
section
variable {m ma mb mo mk mf : M W} {mr : M (List W)} {ρ ρ1 ρ2 ρ3 ρ4 : Env'} {w wa wb wc : W} {ws : List W} {d dx dy dz : D} {ds : List D} {i j : Nat} {k k2 : Bool} {f : D → D → Option W} {s1 s2 : SM} {r : Option SR} {c c1 c2 : M Bool}
theorem getD_stW : getD (stW w) ρ = getD w ρ := by cases w <;> rfl
theorem stab_ok (h : m ρ = some (.ok w ρ1)) : stab m ρ = some (.ok (stW w) ρ1) := by
 cases w with
 | own d => exact stab_own h
 | val d => exact stab_val h
 | slot i => exact stab_slot h
theorem ev_C : mC d ρ = some (.ok (.val d) ρ) := rfl
theorem ev_var {c : C} (h : ρ[i]? = some (some c)) : mVar i ρ = some (.ok (.slot i) ρ) := by unfold mVar; rw [h]
theorem ev_bin (ha : ma ρ = some (.ok wa ρ1)) (hb : mb ρ1 = some (.ok wb ρ2)) (hx : getD wa ρ2 = some dx) (hy : getD wb ρ2 = some dy) (hf : f dx dy = some w) : mBin f ma mb ρ = some (.ok w ρ2) := by
 unfold mBin
 rw [M.bind_ok (stab_ok ha), M.bind_ok hb]
 unfold op2
 rw [getD_stW, hx, hy]
 simp only [hf, Option.map_some]
theorem ev_un {f : D → Option W} (ha : ma ρ = some (.ok wa ρ1)) (hx : getD wa ρ1 = some dx) (hf : f dx = some w) : mUn f ma ρ = some (.ok w ρ1) := by
 unfold mUn
 rw [M.bind_ok ha]
 unfold op1
 rw [hx]
 simp only [hf, Option.map_some]
theorem ev_nil : mNil ρ = some (.ok [] ρ) := rfl
theorem ev_cons (ha : ma ρ = some (.ok wa ρ1)) (hb : mr ρ1 = some (.ok ws ρ2)) : mCons ma mr ρ = some (.ok (stW wa :: ws) ρ2) := by
 unfold mCons
 rw [M.bind_ok (stab_ok ha), M.bind_ok hb]
 rfl
theorem ev_CB {f : List D → Option W} (ha : mr ρ = some (.ok ws ρ1)) (hx : getDs ws ρ1 = some ds) (hf : f ds = some w) : mCB f mr ρ = some (.ok w ρ1) := by
 unfold mCB
 rw [M.bind_ok ha]
 unfold opN
 rw [hx]
 simp only [hf, Option.map_some]
theorem ev_call {ms : List Bool} {fm : List D → Option FR} {fin : List D} (ha : mr ρ = some (.ok ws ρ1)) (hx : argsOf ms ws ρ1 = some ds) (hp : apartI (lentI ms ws) (borI ρ1 ms ws) = true) (hf : fm ds = some (.ret w fin)) (hs : setL (lentI ms ws) fin ρ1 = some ρ2)
  (he : (flatW w && fin.all flatO) = true) : mCall ms fm mr ρ = some (.ok w ρ2) := by
 unfold mCall
 rw [M.bind_ok ha]
 unfold callW
 rw [hx]
 simp only []
 rw [if_pos hp, hf]
 simp only [hs]
 rw [if_pos he]
theorem ev_call0 {ms : List Bool} {fm : List D → Option FR} {fin : List D} (ha : mr ρ = some (.ok ws ρ1)) (hx : argsOf ms ws ρ1 = some ds) (hp : apartI (lentI ms ws) (borI ρ1 ms ws) = true) (hf : fm ds = some (.ret w fin)) (hs : setL (lentI ms ws) fin ρ1 = some ρ2)
  (he : borI ρ1 ms ws = []) : mCall ms fm mr ρ = some (.ok w ρ2) := by
 unfold mCall
 rw [M.bind_ok ha]
 unfold callW
 rw [hx]
 simp only []
 rw [if_pos hp, hf]
 simp only [hs]
 split
 ·rfl
 ·rw [he]
  rfl
theorem ev_tst (ha : m ρ = some (.ok (.val (.bl k)) ρ1)) : mTst m ρ = some (.ok k ρ1) := by unfold mTst; rw [M.bind_ok ha]
theorem ev_tru (ha : m ρ = some (.ok w ρ1)) (hx : getD w ρ1 = some d) (hf : truD d = some k) : mTru m ρ = some (.ok k ρ1) := by
 unfold mTru
 rw [M.bind_ok ha]
 simp only [hx, hf, Option.map_some]
theorem ev_and (ha : c1 ρ = some (.ok k ρ1)) (hb : c2 ρ1 = some (.ok k2 ρ1)) : mAnd c1 c2 ρ = some (.ok (k && k2) ρ1) := by
 unfold mAnd
 rw [M.bind_ok ha]
 cases k with
 | true => exact hb
 | false => rfl
theorem ev_or (ha : c1 ρ = some (.ok k ρ1)) (hb : c2 ρ1 = some (.ok k2 ρ1)) : mOr c1 c2 ρ = some (.ok (k || k2) ρ1) := by
 unfold mOr
 rw [M.bind_ok ha]
 cases k with
 | true => rfl
 | false => exact hb
theorem ev_not (ha : c1 ρ = some (.ok k ρ1)) : mNot c1 ρ = some (.ok (!k) ρ1) := by unfold mNot; rw [M.bind_ok ha]; rfl
theorem bl_ok (hx : getD w ρ = some (.bl k)) : mBl w ρ = some (.ok k ρ) := by unfold mBl; rw [hx]
theorem ev_andVT {rr : Option (R' W)} (ha : ma ρ = some (.ok wa ρ1)) (hx : getD wa ρ1 = some (.bl k)) (hk : k = true) (hb : mb ρ1 = rr) : mAndV ma mb ρ = rr := by
 subst hk
 unfold mAndV
 rw [M.bind_ok ha, M.bind_ok (bl_ok hx)]
 exact hb
theorem ev_notV (ha : ma ρ = some (.ok wa ρ1)) (hx : getD wa ρ1 = some (.bl k)) : mNotV ma ρ = some (.ok (.val (.bl (!k))) ρ1) := by
 unfold mNotV
 rw [M.bind_ok ha, M.bind_ok (bl_ok hx)]
 rfl
theorem ev_tup (ha : mr ρ = some (.ok ws ρ1)) (hl : leakL ws ρ1 = some (.ok ds ρ2)) (hz : small ds.length) : mTup mr ρ = some (.ok (.val (.tup ds)) ρ2) := by
 unfold mTup
 rw [M.bind_ok ha, M.bind_ok hl]
 exact grd_pos hz
theorem ev_lst (ha : mr ρ = some (.ok ws ρ1)) (hl : leakL ws ρ1 = some (.ok ds ρ2)) (hz : small ds.length) : mLst mr ρ = some (.ok (.own (.lst ds)) ρ2) := by
 unfold mLst
 rw [M.bind_ok ha, M.bind_ok hl]
 exact grd_pos hz
theorem ev_append {l : Bool} {ds0 : List D} (h0 : ρ[i]? = some (some (.ow l (.lst ds0)))) (ha : mr ρ = some (.ok [w] ρ1)) (hl : leak w ρ1 = some (.ok d ρ2)) (h1 : ρ2[i]? = some (some (.ow l (.lst ds)))) (hz : small ds.length) :
  mAppend i mr ρ = some (.ok (.val .non) (ρ2.set i (some (.ow l (.lst (ds ++ [d])))))) := by
 unfold mAppend
 have hc : chk "list" (.slot i) ρ = some (.ok () ρ) := by
  unfold chk getD
  simp only [h0]
  rfl
 rw [M.bind_ok (ev_var h0), M.bind_ok hc, M.bind_ok ha]
 show M.bind (leak w) (appendTo i) ρ1 = _
 rw [M.bind_ok hl]
 unfold appendTo
 rw [h1]
 exact grd_pos hz
theorem ev_get1 {es es2 : List (Key × D)} {kk : Key} (ha : mo ρ = some (.ok wa ρ1)) (h0 : getD wa ρ1 = some (.dct es2)) (hb : mk ρ1 = some (.ok wb ρ2)) (hx : getD wa ρ2 = some (.dct es)) (hy : getD wb ρ2 = some dy) (hk : keyOf dy = some kk) : mGet1 mo mk ρ = some (.ok (.val ((valD es kk).getD .non)) ρ2) := by
 unfold mGet1
 have hc : chk "dict" (stW wa) ρ1 = some (.ok () ρ1) := by
  unfold chk
  rw [getD_stW, h0]
  rfl
 rw [M.bind_ok (stab_ok ha), M.bind_ok hc, M.bind_ok hb]
 unfold op2
 rw [getD_stW, hx, hy]
 simp only [get1D, hk, Option.map_some]
theorem ev_get2 {es es2 : List (Key × D)} {kk : Key} (ha : mo ρ = some (.ok wa ρ1)) (h0 : getD wa ρ1 = some (.dct es2)) (hb : mk ρ1 = some (.ok wb ρ2)) (hc' : mf ρ2 = some (.ok wc ρ3)) (hl : leak wc ρ3 = some (.ok dz ρ4)) (hx : getD wa ρ4 = some (.dct es)) (hy : getD wb ρ4 = some dy) (hk : keyOf dy = some kk) : mGet2 mo mk mf ρ = some (.ok (.val ((valD es kk).getD dz)) ρ4) := by
 unfold mGet2
 have hc : chk "dict" (stW wa) ρ1 = some (.ok () ρ1) := by
  unfold chk
  rw [getD_stW, h0]
  rfl
 rw [M.bind_ok (stab_ok ha), M.bind_ok hc, M.bind_ok (stab_ok hb), M.bind_ok hc', M.bind_ok hl]
 unfold op2
 rw [getD_stW, getD_stW, hx, hy]
 simp only [get2D, hk, Option.map_some]
theorem ev_mt {T : String} {f : D → List D → Option W} (ha : mo ρ = some (.ok wa ρ1)) (h0 : getD wa ρ1 = some d) (ht : tyD T d = true) (hb : mr ρ1 = some (.ok ws ρ2)) (hx : getD wa ρ2 = some dx) (hy : getDs ws ρ2 = some ds) (hf : f dx ds = some w) : mMt T f mo mr ρ = some (.ok w ρ2) := by
 unfold mMt
 have hc : chk T (stW wa) ρ1 = some (.ok () ρ1) := by
  unfold chk
  rw [getD_stW, h0]
  simp only [ht, if_true]
 rw [M.bind_ok (stab_ok ha), M.bind_ok hc, M.bind_ok hb]
 unfold opM
 rw [getD_stW, hx, hy]
 simp only [hf, Option.map_some]
theorem ev_part {n : Int} (ha : m ρ = some (.ok w ρ1)) (hx : getD w ρ1 = some (.int n)) : mPart m ρ = some (.ok (some n) ρ1) := by
 unfold mPart
 rw [M.bind_ok ha]
 simp only [hx]
theorem ev_no : (M.pure none : M (Option Int)) ρ = some (.ok none ρ) := rfl
theorem ev_sl {ml mh : M (Option Int)} {lo hi : Option Int} (ha : ma ρ = some (.ok wa ρ1)) (hl : ml ρ1 = some (.ok lo ρ2)) (hh : mh ρ2 = some (.ok hi ρ3)) (hx : getD wa ρ3 = some dx) (hf : slD dx lo hi = some w) : mSl ma ml mh ρ = some (.ok w ρ3) := by
 unfold mSl
 rw [M.bind_ok (stab_ok ha), M.bind_ok hl, M.bind_ok hh]
 unfold op1
 rw [getD_stW, hx]
 simp only [hf, Option.map_some]
theorem ev_seq (h1 : s1 ρ = some (.nx ρ1)) (h2 : s2 ρ1 = r) : seqS s1 s2 ρ = r := by rw [seqS_nx h1]; exact h2
theorem ev_seqR (h1 : s1 ρ = some (.rt w ρ1)) : seqS s1 s2 ρ = some (.rt w ρ1) := by unfold seqS; rw [h1]
theorem ev_nx : nxS ρ = some (.nx ρ) := rfl
theorem ev_set (ha : m ρ = some (.ok w ρ1)) (hs : storeS i w ρ1 = some (.nx ρ2)) : setS i m ρ = some (.nx ρ2) := by unfold setS; rw [thenS_ok ha]; exact hs
theorem ev_ret {sr : SR} (ha : m ρ = some (.ok w ρ1)) (hs : retW w ρ1 = some sr) : retS m ρ = some sr := by unfold retS; rw [thenS_ok ha]; exact hs
theorem ev_drop (ha : m ρ = some (.ok w ρ1)) : dropS m ρ = some (.nx ρ1) := by unfold dropS; rw [thenS_ok ha]; rfl
theorem ev_ifT (hc : c ρ = some (.ok k ρ1)) (hk : k = true) (h : s1 ρ1 = r) : ifS c s1 s2 ρ = r := by subst hk; unfold ifS; rw [thenS_ok hc]; exact h
theorem ev_ifF (hc : c ρ = some (.ok k ρ1)) (hk : k = false) (h : s2 ρ1 = r) : ifS c s1 s2 ρ = r := by subst hk; unfold ifS; rw [thenS_ok hc]; exact h
theorem ev_put (hv : m ρ = some (.ok wa ρ1)) {c0 : C} (h0 : ρ1[i]? = some (some c0)) (hk : mk ρ1 = some (.ok wb ρ2)) (hl : leak (stW wa) ρ2 = some (.ok d ρ3)) (hy : getD wb ρ3 = some dy) (hp : putTo i dy d ρ3 = r) : putS i m mk ρ = r := by
 unfold putS
 rw [thenS_ok (stab_ok hv), thenS_ok (ev_var h0), thenS_ok hk, thenS_ok hl]
 simp only [hy]
 exact hp
theorem ev_for {mi : M (List D)} {tg : FT} (hi : mi ρ = some (.ok ds ρ1)) (h : forL tg s1 ds ρ1 = r) : forS mi tg s1 ρ = r := by unfold forS; rw [thenS_ok hi]; exact h
theorem ev_rng {g : List D → Option (List D)} {es : List D} (ha : mr ρ = some (.ok ws ρ1)) (hx : getDs ws ρ1 = some ds) (hf : g ds = some es) : mRng g mr ρ = some (.ok es ρ1) := by
 unfold mRng
 rw [M.bind_ok ha]
 simp only [hx, hf, Option.map_some]
theorem ev_iter {es : List D} (ha : m ρ = some (.ok w ρ1)) (hl : leak w ρ1 = some (.ok d ρ2)) (hf : itD d = some es) : mIter m ρ = some (.ok es ρ2) := by
 unfold mIter
 rw [M.bind_ok ha, M.bind_ok hl]
 simp only [hf, Option.map_some]
theorem ev_comp {mi : M (List D)} {tg : FT} {mt : M Bool} {me : M W} {own : Nat} {fr : List Nat} {ys : List D} (hi : mi ρ = some (.ok ds ρ1)) (hz : small ds.length) (hc : compL tg mt me (seenE own fr ρ1) ds = some ys) (hf : ys.all flatD = true ∨ capI ρ1 fr = []) : mComp mi tg mt me own fr ρ = some (.ok (.own (.lst ys)) ρ1) := by
 unfold mComp
 rw [M.bind_ok hi]
 unfold compW
 rw [hc]
 simp only []
 rw [grd_pos hz]
 rcases hf with hf | hf
 ·rw [if_pos hf]
 ·split
  ·rfl
  ·rw [hf]
   rfl
theorem compL_map {tg : FT} {me : M W} (g : D → D) : ∀ (ds : List D), (∀ d ∈ ds, ∃ ρ1 w ρ2 ρ3, tg d ρ = some ρ1 ∧ me ρ1 = some (.ok w ρ2) ∧ leak w ρ2 = some (.ok (g d) ρ3)) → compL tg mYes me ρ ds = some (ds.map g)
 | [], _ => rfl
 | d :: ds, h => by
  obtain ⟨ρ1, w, ρ2, ρ3, h1, h2, h3⟩ := h d List.mem_cons_self
  unfold compL compTurn
  rw [h1]
  have hy : mYes ρ1 = some (.ok true ρ1) := rfl
  simp only [hy]
  rw [M.bind_ok h2, h3, compL_map g ds fun x hx => h x (List.mem_cons_of_mem _ hx)]
  rfl
theorem run_of {den : SM} {n : Nat} {ms : List Bool} {sr : SR} {fr : FR} (h : den (startE n ms ds) = some sr) (ho : outS ms sr = some fr) : runF den n ms ds = some fr := by unfold runF; rw [h]; exact ho
theorem forL_fold {tg : FT} (g : List D → Env') (hs : ∀ pre d post, ds = pre ++ d :: post → ∃ ρ1, tg d (g pre) = some ρ1 ∧ (s1 ρ1 = some (.nx (g (pre ++ [d]))) ∨ s1 ρ1 = some (.ct (g (pre ++ [d]))))) : forL tg s1 ds (g []) = some (.nx (g ds)) := by
 have key : ∀ (es pre : List D), ds = pre ++ es → forL tg s1 es (g pre) = some (.nx (g ds)) := by
  intro es
  induction es with
  | nil => intro pre h; rw [h, List.append_nil]; rfl
  | cons d es ih =>
   intro pre h
   obtain ⟨ρ1, e1, e2⟩ := hs pre d es h
   have q := ih (pre ++ [d]) (by rw [h]; simp)
   unfold forL
   rw [e1]
   rcases e2 with e2 | e2
   ·simp only [e2]; exact q
   ·simp only [e2]; exact q
 exact key ds [] rfl
theorem op_mulD {a b : Int} (h : CMul a b) : mulD (.int a) (.int b) = some (.val (.int (a * b))) := grd_pos h
theorem op_divD {a b : Int} (h : CDiv a b) : divD (.int a) (.int b) = some (.val (.int (a / b))) := grd_pos h
theorem op_modD {a b : Int} (h : 0 < b) : modD (.int a) (.int b) = some (.val (.int (a % b))) := grd_pos h
end
end L3
set_option Elab.async false
set_option linter.all false
set_option maxRecDepth 100000
set_option maxHeartbeats 4000000
set_option Elab.async false
set_option linter.all false
set_option maxRecDepth 100000
set_option maxHeartbeats 4000000
set_option Elab.async false
set_option linter.all false
set_option maxRecDepth 100000
set_option maxHeartbeats 4000000
namespace L3
open PySem PySem.Spec PyProof.Rows L2
section
variable {tg : FT} {mt : M Bool} {me : M W} {ρ ρ1 ρ2 ρ3 ρ4 : Env'} {d y : D} {w : W}
theorem turn_yes (h1 : tg d ρ = some ρ1) (h2 : mt ρ1 = some (.ok true ρ2)) (h3 : me ρ2 = some (.ok w ρ3)) (h4 : leak w ρ3 = some (.ok y ρ4)) : compTurn tg mt me ρ d = some (some y) := by
 unfold compTurn
 rw [h1]
 simp only [h2]
 rw [M.bind_ok h3, h4]
theorem turn_no (h1 : tg d ρ = some ρ1) (h2 : mt ρ1 = some (.ok false ρ2)) : compTurn tg mt me ρ d = some none := by
 unfold compTurn
 rw [h1]
 simp only [h2]
end
end L3
set_option maxRecDepth 100000
set_option Elab.async false
set_option linter.all false
set_option maxRecDepth 100000
set_option maxHeartbeats 4000000
set_option Elab.async false
set_option linter.all false
set_option maxRecDepth 100000
set_option maxHeartbeats 4000000
namespace L3
open PySem PySem.Spec PyProof.Rows L2
section
variable {P : Program} {w : World} {K : PySem.W.Frag} {G G' H H' : Hp} {h h' : Heap} {a b p : Addr} {o : Obj} {kvs : List (Key × V)}
structure Sw (a : Addr) (kvs : List (Key × V)) (G G' : Hp) : Prop where
 out : ∀ b, b ≠ a → G' b = G b
 was : Rd G a (.dK kvs)
 now : Rd G' a (.dK kvs)
theorem Sw.rd {u : HO} (s : Sw a kvs G G') (h : Rd G b u) (z : b ≠ a) : Rd G' b u := by
 rcases h with h | ⟨o, h⟩
 ·exact .inl (by rw [s.out b z]; exact h)
 ·exact .inr ⟨o, by rw [s.out b z]; exact h⟩
theorem rd_one {u v : HO} (h1 : Rd G a u) (h2 : Rd G a v) (n1 : ∀ o x, u ≠ .frz o x) (n2 : ∀ o x, v ≠ .frz o x) : u = v := by
 rcases h1 with h1 | ⟨o1, h1⟩ <;> rcases h2 with h2 | ⟨o2, h2⟩ <;> rw [h1] at h2
 ·exact Option.some.inj h2
 ·exact absurd (Option.some.inj h2) (n1 _ _)
 ·exact absurd (Option.some.inj h2).symm (n2 _ _)
 ·cases h2; rfl
theorem Sw.ne {u : HO} (s : Sw a kvs G G') (h : Rd G b u) (n : ∀ o x, u ≠ .frz o x) (hu : u ≠ .dK kvs) : b ≠ a := by
 rintro rfl
 exact hu (rd_one h s.was n (by intro o x z; cases z))
theorem Sw.tup {xs : List V} (s : Sw a kvs G G') (h : SqT K G b xs) : SqT K G' b xs := by
 rcases h with h | h
 ·exact .inl (s.rd h (s.ne h (by intro o x z; cases z) (by intro z; cases z)))
 ·exact .inr h
theorem Sw.lst {xs : List V} (s : Sw a kvs G G') (h : SqL K G b xs) : SqL K G' b xs := by
 rcases h with h | h
 ·exact .inl (s.rd h (s.ne h (by intro o x z; cases z) (by intro z; cases z)))
 ·exact .inr h
theorem Sw.dct {ks : List (Key × V)} (s : Sw a kvs G G') (h : Rd G b (.dK ks)) : Rd G' b (.dK ks) := by
 by_cases z : b = a
 ·subst z
  rw [rd_inj h s.was]
  exact s.now
 ·exact s.rd h z
theorem Sw.rep (s : Sw a kvs G G') {v : V} {d : D} (h : Rep K G v d) : Rep K G' v d := by
 induction h with
 | non => exact .non
 | bl b => exact .bl b
 | int i => exact .int i
 | str cs => exact .str cs
 | ty n => exact .ty n
 | tup h hl _ ih => exact .tup (s.tup h) hl ih
 | lst h hl _ ih => exact .lst (s.lst h) hl ih
 | dct h hk _ ih => exact .dct (s.dct h) hk ih
theorem Sw.repL (s : Sw a kvs G G') {xs : List V} {ds : List D} (h : RepL K G xs ds) : RepL K G' xs ds := ⟨h.len, fun j x d a b => s.rep (h.get j x d a b)⟩
theorem Sw.repKV (s : Sw a kvs G G') {xs : List (Key × V)} {ds : List (Key × D)} (h : RepKV K G xs ds) : RepKV K G' xs ds := ⟨h.keys, fun j x d a b => s.rep (h.get j x d a b)⟩
theorem Sw.own (s : Sw a kvs G G') {d : D} (e : H' p = H p) (h : OwnAt K G H p d) : OwnAt K G' H' p d := by
 cases d with
 | lst ds => obtain ⟨xs, q, r⟩ := h; exact ⟨xs, by rw [e]; exact q, s.repL r⟩
 | dct es => obtain ⟨xs, q, r⟩ := h; exact ⟨xs, by rw [e]; exact q, s.repKV r⟩
 | _ => exact (show False from h).elim
theorem Sw.args (s : Sw a kvs G G') (hg : ∀ p, G p = none → G' p = none) (hH : ∀ p, G p = none → H' p = H p) : ∀ {ms : List Bool} {vs : List V} {ds : List D} {ps : List Addr}, ArgsR K G H ms vs ds ps → ArgsR K G' H' ms vs ds ps
 | _, _, _, _, .nil => .nil
 | _, _, _, _, .sh h r => .sh (s.rep h) (Sw.args s hg hH r)
 | _, _, _, _, .ln g o n r => .ln (hg _ g) (s.own (hH _ g) o) n (Sw.args s hg hH r)
end
def SpDW (K : PySem.W.Frag) (ms : List Bool) (i : Nat) (fm : List D → Option FR) : Sp := fun vs H Q E => ∃ G ds ps r, Same G H ∧ ArgsR K G H ms vs ds ps ∧ (∃ a o kvs es, vs[i]? = some (.ref a) ∧ G a = some (.frz o (.dK kvs)) ∧ ds[i]? = some (.dct es) ∧ RepKV K G kvs es) ∧ fm ds = some r ∧ match r with
 | .ret w fin => ∀ v G' H', After K G H ps G' H' fin → RepRet K H G' H' v w → Q v H'
 | .exc _ _ => False
end L3
set_option Elab.async false
set_option linter.all false
set_option maxRecDepth 100000
set_option maxHeartbeats 4000000
namespace L3
open PySem PySem.Spec PyProof.Rows L2
abbrev Gs := List (Int × List Int)
def mkO (b : Bool) (xs : List V) : HO := if b = true then .tup xs else .lst xs
def mkD (b : Bool) (xs : List D) : D := if b = true then .tup xs else .lst xs
def pairGD (b : Bool) (g : Int × List Int) : D := mkD b [.int g.1, .lst (g.2.map D.int)]
def setLast (i : Nat) (hs : List Int) (ρ : Env') : Env' := match hs.getLast? with
 | some h => ρ.set i (some (.sh (.int h)))
 | none => ρ
structure GrpAt (b : Bool) (H1 H : Hp) (p : Addr) (ts : List (Addr × Addr)) (gs : Gs) : Prop where
 out : ∀ c, c ≠ p → H1 c ≠ none → H c = H1 c
 dom : ∀ c, H c = none → H1 c = none
 lst : H p = some (.lst (ts.map fun t => V.ref t.1))
 len : ts.length = gs.length
 pr : ∀ (k : Nat) t g, ts[k]? = some t → gs[k]? = some g → H1 t.1 = none ∧ H1 t.2 = none ∧ H t.1 = some (mkO b [.int g.1, .ref t.2]) ∧ H t.2 = some (.lst (g.2.map V.int))
 nd : (ts.map (·.1) ++ ts.map (·.2)).Nodup
theorem GrpAt.done {B : Bs} {b : Bool} {G1 H1 H : Hp} {σ : St} {ρ : Env'} {p : Addr} {ts : List (Addr × Addr)} {gs : Gs} {i j : Nat} {hs : List Int} (R : RS B G1 H1 σ ρ) (hj : ρ[j]? = some (some (.ow false (.lst [])))) (hsj : σ[j]? = some (some (.ref p))) (hi : i < ρ.length) (hij : i ≠ j) (A : GrpAt b H1 H p ts gs) :
  ∃ G', Same G1 G' ∧ RS B G' H (match hs.getLast? with | some h => σ.set i (some (.int h)) | none => σ) ((setLast i hs ρ).set j (some (.ow false (.lst (gs.map (pairGD b)))))) := by
 obtain ⟨p0, q1, q2, q3, q4, q5⟩ := R.ow j false _ hj
 rw [hsj] at q1
 cases q1
 obtain ⟨ob, hob⟩ := q5.some
 have hp : H1 p ≠ none := by rw [hob]; exact nofun
 let L := ts.map (·.1) ++ ts.map (·.2)
 have inL : ∀ {c}, c ∈ L → H1 c = none := fun {c} hc => by
  rcases List.mem_append.mp hc with hc | hc
  ·obtain ⟨t, hm, rfl⟩ := List.mem_map.mp hc
   obtain ⟨k, hk⟩ := List.getElem?_of_mem hm
   have hkl : k < gs.length := by rw [← A.len]; exact (List.getElem?_eq_some_iff.mp hk).1
   exact (A.pr k t gs[k] hk (List.getElem?_eq_getElem hkl)).1
  ·obtain ⟨t, hm, rfl⟩ := List.mem_map.mp hc
   obtain ⟨k, hk⟩ := List.getElem?_of_mem hm
   have hkl : k < gs.length := by rw [← A.len]; exact (List.getElem?_eq_some_iff.mp hk).1
   exact (A.pr k t gs[k] hk (List.getElem?_eq_getElem hkl)).2.1
 have hpL : p ∉ L := fun m => hp (inL m)
 have s1 : Same G1 (plus G1 H L) := fun c o e => by
  rw [plus_out fun m => ?_]
  ·exact e
  ·have := inL m
   rw [R.gH c o e] at this
   cases this
 have reps : RepL B.K (plus G1 H L) (ts.map fun t => V.ref t.1) (gs.map (pairGD b)) := by
  refine ⟨by rw [List.length_map, List.length_map, A.len], fun k x d hx hd => ?_⟩
  rw [List.getElem?_map] at hx hd
  obtain ⟨t, ht, rfl⟩ := Option.map_eq_some_iff.mp hx
  obtain ⟨g, hg, rfl⟩ := Option.map_eq_some_iff.mp hd
  obtain ⟨_, _, a3, a4⟩ := A.pr k t g ht hg
  have m1 : t.1 ∈ L := List.mem_append_left _ (List.mem_map_of_mem (List.mem_of_getElem? ht))
  have m2 : t.2 ∈ L := List.mem_append_right _ (List.mem_map_of_mem (List.mem_of_getElem? ht))
  have r2 : Rep B.K (plus G1 H L) (.ref t.2) (.lst (g.2.map D.int)) := by
   have r := RepL.map_int (K := B.K) (G := plus G1 H L) g.2
   exact .lst (SqL.of (by rw [plus_in m2]; exact a4)) r.len r.get
  have r3 : RepL B.K (plus G1 H L) [.int g.1, .ref t.2] [.int g.1, .lst (g.2.map D.int)] := .cons (.int _) (.cons r2 .nil)
  unfold pairGD mkD
  unfold mkO at a3
  cases b with
  | true => exact .tup (SqT.of (by rw [plus_in m1]; exact a3)) r3.len r3.get
  | false => exact .lst (SqL.of (by rw [plus_in m1]; exact a3)) r3.len r3.get
 
 have R1 : RS B (plus G1 H L) H σ (ρ.set j (some (.ow false (.lst (gs.map (pairGD b)))))) := by
  have hjl : j < ρ.length := (List.getElem?_eq_some_iff.mp hj).1
  refine ⟨R.hk, fun c o e => ?_, R.g0.trans s1, fun c o e => ?_, fun c o e => ?_, fun c e => R.dom c (A.dom c e), by simp [R.len], fun k d e => ?_, fun k l d e => ?_, fun k m l d l' d' p' a b' => ?_, (R.fz.same s1).set1 (by intro _ h; cases h)⟩
  ·have e1 := R.keep c o e
   rw [A.out c (fun z => by rw [z, q3] at e; cases e) (by rw [e1]; exact nofun)]
   exact e1
  ·by_cases m : c ∈ L
   ·rw [plus_in m] at e; exact e
   ·rw [plus_out m] at e
    have e1 := R.gH c o e
    rw [A.out c (fun z => by rw [z, q2] at e; cases e) (by rw [e1]; exact nofun)]
    exact e1
  ·by_cases m : c ∈ L
   ·exact .inr (R.dom c (inL m))
   ·rw [plus_out m] at e; exact R.gnew c o e
  ·by_cases z : j = k
   ·subst z; rw [List.getElem?_set_self hjl] at e; cases e
   ·rw [List.getElem?_set_ne z] at e
    obtain ⟨v, a1, a2⟩ := R.sh k d e
    exact ⟨v, a1, a2.same s1⟩
  ·by_cases z : j = k
   ·subst z
    rw [List.getElem?_set_self hjl] at e
    cases e
    exact ⟨p, hsj, by rw [plus_out hpL]; exact q2, q3, q4, _, A.lst, reps⟩
   ·rw [List.getElem?_set_ne z] at e
    obtain ⟨p2, a1, a2, a3, a4, a5⟩ := R.ow k l d e
    obtain ⟨o2, ho2⟩ := a5.some
    have n1 : p2 ∉ L := fun m => by have := inL m; rw [ho2] at this; cases this
    have n2 : p2 ≠ p := fun zz => z (R.inj j k _ _ _ _ p hj e hsj (by rw [a1, zz]))
    exact ⟨p2, a1, by rw [plus_out n1]; exact a2, a3, a4, a5.same s1 (A.out p2 n2 (by rw [ho2]; exact nofun))⟩
  ·have old : ∀ {k : Nat} {l : Bool} {d : D}, (ρ.set j (some (.ow false (.lst (gs.map (pairGD b))))))[k]? = some (some (.ow l d)) → ∃ l d, ρ[k]? = some (some (.ow l d)) := fun {k l d} e => by
    by_cases z : j = k
    ·subst z; exact ⟨_, _, hj⟩
    ·rw [List.getElem?_set_ne z] at e; exact ⟨_, _, e⟩
   obtain ⟨l1, d1, a1⟩ := old a
   obtain ⟨l2, d2, a2⟩ := old b'
   exact R.inj k m l1 d1 l2 d2 p' a1 a2
 refine ⟨plus G1 H L, s1, ?_⟩
 unfold setLast
 cases hl : hs.getLast? with
 | none => exact R1
 | some h =>
  have e : (ρ.set i (some (C.sh (.int h)))).set j (some (.ow false (.lst (gs.map (pairGD b))))) = (ρ.set j (some (.ow false (.lst (gs.map (pairGD b)))))).set i (some (.sh (.int h))) := List.set_comm _ _ hij
  show RS B (plus G1 H L) H (σ.set i (some (.int h))) ((ρ.set i (some (C.sh (.int h)))).set j _)
  rw [e]
  exact R1.setSh (by simpa using hi) (.int h)
theorem SpDW.imp {K : PySem.W.Frag} {ms : List Bool} {i : Nat} {fm fm' : List D → Option FR} (h : ∀ ds r, fm ds = some r → fm' ds = some r) : ∀ vs H Q E, SpDW K ms i fm vs H Q E → SpDW K ms i fm' vs H Q E := by
 rintro vs H Q E ⟨G, ds, ps, r, a, b, b2, c, d⟩
 exact ⟨G, ds, ps, r, a, b, b2, h ds r c, d⟩
end L3
set_option Elab.async false
set_option linter.all false
set_option maxRecDepth 100000
set_option maxHeartbeats 4000000
namespace L3
open PySem L2
section
variable {tg : FT} {b : SM} {c : M Bool} {ρ ρ1 ρ2 : Env'} {d : D} {ds : List D} {w : W} {n i j : Nat} {r : Option SR} {es : List (Key × D)}
theorem for_nx (h1 : tg d ρ = some ρ1) (h2 : b ρ1 = some (.nx ρ2)) (h3 : forL tg b ds ρ2 = r) : forL tg b (d :: ds) ρ = r := by
 unfold forL
 rw [h1]
 simp only [h2]
 exact h3
end
end L3
set_option Elab.async false
set_option linter.all false
set_option maxRecDepth 100000
set_option maxHeartbeats 4000000
set_option Elab.async false
set_option linter.all false
set_option maxRecDepth 100000
set_option maxHeartbeats 4000000
namespace L3
open PySem PySem.Spec PyProof.Rows L2
def rInsert : V → List V → Hp → VK → Prop := fun x vs H Q => ∃ l xs k y, x = .ref l ∧ vs = [.int ((k : Nat) : Int), y] ∧ H l = some (.lst xs) ∧ xs.length < sizeLine ∧ k ≤ 1000000 ∧ Q .non (upd H l (.lst (xs.take k ++ y :: xs.drop k)))
theorem vals_ins {y : V} {u : Value} (hy : RelV y u) : ∀ {xs : List V} {its : List Value} (k : Nat), Vals xs its → Vals (xs.take k ++ y :: xs.drop k) (its.take k ++ u :: its.drop k)
 | _, _, 0, r => .cons hy r
 | _, _, k + 1, .nil => .cons hy .nil
 | _, _, k + 1, .cons r1 r2 => .cons r1 (vals_ins hy k r2)
theorem ins_arr (its : List Value) (k : Nat) (u : Value) : (its.toArray.extract 0 (min k its.toArray.size)).push u ++ its.toArray.extract (min k its.toArray.size) = (its.take k ++ u :: its.drop k).toArray := by
 apply Array.toList_inj.mp
 by_cases h : k ≤ its.length
 ·simp [Nat.min_eq_left h]
  exact List.take_of_length_le (by rw [List.length_drop]; omega)
 ·have h' : its.length ≤ k := by omega
  simp [Nat.min_eq_right h', List.drop_of_length_le h', List.take_of_length_le h']
theorem mt_insert {X : Cx} : MtM X "list.insert" rInsert := by
 intro pins s σ H x vs v us Q I rx rv h
 obtain ⟨l, xs, k, y, rfl, rfl, hH, hz, hk, q⟩ := h
 cases rx
 obtain ⟨u1, u2, rfl, r1, r2⟩ := vals2 rv
 obtain ⟨t1, rfl⟩ := r1
 obtain ⟨z, its, n, r, hl, e⟩ := I.lstM hH
 have hfit : ¬ (!Builtin.List.listFitsIndex ((k : Nat) : Int)) = true := by
  unfold Builtin.List.listFitsIndex
  have h1 : (-(2 ^ 63 : Int) ≤ ((k : Nat) : Int)) := by omega
  have h2 : (((k : Nat) : Int) < 2 ^ 63) := by omega
  rw [decide_eq_true h1, decide_eq_true h2]
  exact Bool.false_ne_true
 have hsz : its.toArray.size ≤ sizeLine := by rw [List.size_toArray]; omega
 generalize hx : ((k : Nat) : Int) = x at *
 have m := PySem.AutoSeq1.list_insert_list_int_val_1 l its.toArray n x t1 u2 hfit hsz
 refine call_meets F.slot_list_insert ⟨_, e, rfl⟩ F.entry_list_insert (F.args_list_insert_3 _ _ _) m ⟨e, ?_⟩
 refine ⟨.non, _, I.lset (its' := its.take k ++ u2 :: its.drop k) hH e ?_ (vals_ins r2 k r) ?_, rfl, q⟩
 ·subst hx
  have e0 : ¬ (((k : Nat) : Int) < 0) := by omega
  simp only [if_neg e0, Int.toNat_natCast]
  exact ins_arr its k u2
 rw [List.length_append, List.length_cons, List.length_take, List.length_drop]
 omega
def insertTo (i : Nat) (n : Int) (d : D) : M W := fun ρ => match ρ[i]? with
 | some (some (.ow l (.lst ds))) => grd (small ds.length ∧ 0 ≤ n ∧ n ≤ 1000000) (some (.ok (.val .non) (ρ.set i (some (.ow l (.lst (ds.take n.toNat ++ d :: ds.drop n.toNat)))))))
 | _ => none
def getI (w : W) : M Int := fun ρ => match getD w ρ with
 | some (.int n) => some (.ok n ρ)
 | _ => none
theorem getI_ok {w : W} {ρ : Env'} {r : R' Int} (h : getI w ρ = some r) : ∃ n, getD w ρ = some (.int n) ∧ r = .ok n ρ := by
 unfold getI at h
 split at h
 ·rename_i n e
  cases h
  exact ⟨n, e, rfl⟩
 ·cases h
def mInsert (i : Nat) (m : M (List W)) : M W := M.bind (mVar i) fun x => M.bind (chk "list" x) fun _ => M.bind m fun ws => match ws with
 | [wi, w] => M.bind (getI wi) fun n => M.bind (leak w) (insertTo i n)
 | _ => fun _ => none
section
variable {X : Cx} {B : Bs} {o e e2 : Expr} {es : List Expr} {mr : M (List W)} {apos cpos opos : Pos} {x : Str}
theorem repL_ins {K : PySem.W.Frag} {G : Hp} {v : V} {d : D} (hv : Rep K G v d) : ∀ {xs : List V} {ds : List D} (k : Nat), RepL K G xs ds → RepL K G (xs.take k ++ v :: xs.drop k) (ds.take k ++ d :: ds.drop k) := by
 intro xs ds k r
 exact (r.take k).append (.cons hv (r.drop k))
theorem d_insert (i : Nat) (ho : PD X B o (mVar i)) (ha : PDA X B [e, e2] mr)
  (hbase : attributeBase o "insert" X.env (eval o X.env) = eval o X.env := by rfl)
  (hfew : ((backTo cpos (starEach [e, e2] X.env)).all (fun x => !x.1) && (backToKw cpos (keywordEach [] X.env)).all (fun x => x.1.isSome)
   && decide (([e, e2] : List Expr).length + ([] : List Keyword).length + (if ([] : List Keyword).isEmpty then 0 else 1) < 30)) = true := by rfl)
  (hline : (apos.endLine == cpos.line) = true := by rfl) (hs : starEach [e, e2] X.env = (false, eval e X.env) :: starEach [e2] X.env := by rfl) (hplain : (backTo cpos (starEach [e2] X.env)).any (·.1) = false := by rfl) (hK : X.K = B.K := by rfl) :
  PD X B (.Call (.Attribute o "insert" apos) [e, e2] [] cpos) (mInsert i mr) := .mk fun ξ =>
 (pe_bm (X := rz X ξ) PySem.F.plainAttrs_list PySem.F.slot_list_insert PySem.F.type_list_insert mt_insert (ho.ap ξ) (ha.ap ξ) hbase hfew hline hs hplain).imp fun σ H Q t => by
  obtain ⟨G, ρ, R, t⟩ := t
  refine (TD.bindE (rel := relW) R t).mono fun x H1 ⟨G1, ρ1, w, er, s1, R1, q1, t2⟩ => ?_
  obtain ⟨rfl, rfl⟩ := mVar_run er
  have hv : σ[i]? = some (some x) := q1
  obtain ⟨u, ρ2, e2, t3⟩ := t2.step fun r h => ⟨(), _, (chk_ok h).1⟩
  obtain ⟨e3, d, hd, ty⟩ := chk_ok e2
  cases e3
  refine ⟨by show tyV X.K "list" x H1; rw [hK]; exact tyV_of R1 (q1.get R1 hd) ty, ?_⟩
  refine (TD.bind (rel := relWs) R1 t3).mono fun vs H2 ⟨G2, ρ2, ws, s2, R2, q2, t4⟩ => ?_
  match ws, q2, t4 with
  | [], _, ⟨r, er, _⟩ => cases er
  | [_], _, ⟨r, er, _⟩ => cases er
  | _ :: _ :: _ :: _, _, ⟨r, er, _⟩ => cases er
  | [wi, w], q2, t4 =>
   cases q2 with
   | @cons v1 _ vs _ h1 t1 =>
    cases t1 with
    | @cons v _ vs _ h t =>
     cases t
     obtain ⟨n, ρ2', e0, t5⟩ := t4.step fun r h => by
      obtain ⟨n, _, e⟩ := getI_ok h
      exact ⟨n, _, e⟩
     obtain ⟨n', hgi, e0'⟩ := getI_ok e0
     cases e0'
     obtain ⟨dv, ρ3, e4, r, er, p⟩ := t5.step fun r h => leak_ok h
     obtain ⟨G3, s3, R3, rv⟩ := h.1.leak R2 e4
     unfold insertTo at er
     split at er
     ·rename_i l ds hi
      obtain ⟨⟨hz, hn0, hn1⟩, er⟩ := grd_some er
      cases er
      obtain ⟨pp, rfl, g, xs, hx, rl⟩ := slot_of R3 hi hv
      have hn : v1 = .int ((n.toNat : Nat) : Int) := by
       have : v1 = .int n := (h1.1.get R2 hgi).int
       rw [this, Int.toNat_of_nonneg hn0]
      refine ⟨pp, xs, n.toNat, v, rfl, by rw [hn], hx, ?_, by omega, ?_⟩
      ·rw [rl.len, sizeLine_eq]; unfold small at hz; omega
      ·exact p .non G3 _ s3 (R3.write hi hv ⟨xs.take n.toNat ++ v :: xs.drop n.toNat, upd_same, repL_ins rv n.toNat rl⟩) .non
     ·cases er
variable {ρ ρ1 ρ2 ρ3 : Env'} {wi w : W} {d : D} {ds ds0 : List D} {i : Nat} {n : Int} {l : Bool}
theorem ev_insD (h0 : ρ[i]? = some (some (.ow l (.lst ds0)))) (ha : mr ρ = some (.ok [wi, w] ρ1)) (hn : getD wi ρ1 = some (.int n)) (hl : leak w ρ1 = some (.ok d ρ2)) (h1 : ρ2[i]? = some (some (.ow l (.lst ds)))) (hz : small ds.length) (hn0 : 0 ≤ n) (hn1 : n ≤ 1000000)
  (hs : ρ2.set i (some (.ow l (.lst (ds.take n.toNat ++ d :: ds.drop n.toNat)))) = ρ3) : dropS (mInsert i mr) ρ = some (.nx ρ3) := by
 subst hs
 refine ev_drop (w := .val .non) ?_
 unfold mInsert
 have hc : chk "list" (.slot i) ρ = some (.ok () ρ) := by
  unfold chk getD
  simp only [h0]
  rfl
 have hg : getI wi ρ1 = some (.ok n ρ1) := by unfold getI; rw [hn]
 rw [M.bind_ok (ev_var h0), M.bind_ok hc, M.bind_ok ha]
 show M.bind (getI wi) (fun n => M.bind (leak w) (insertTo i n)) ρ1 = _
 rw [M.bind_ok hg, M.bind_ok hl]
 unfold insertTo
 rw [h1]
 exact grd_pos ⟨hz, hn0, hn1⟩
end
end L3
set_option Elab.async false
set_option linter.all false
set_option maxRecDepth 100000
set_option maxHeartbeats 4000000
namespace L3
open PySem PySem.Spec PyProof.Rows L2
def CX1 (P : Program) (w : World) : CXT := fun outer H s E e s' => ∃ a cls dct H' T, e = .ref a ∧ s'.os = s.os ∧ AllBare s'.gens ∧ Un (frs outer) [] H H' s.heap s'.heap ∧ HOk P w H' s'.heap ∧ H' a = none ∧ s.heap.get? a = none ∧
 TrD s'.heap a T cls dct .none ∧ H' T = none ∧ s.heap.get? T = none ∧ E cls dct H'
def SpX (K : PySem.W.Frag) (ms : List Bool) (fm : List D → Option FR) : Sp := fun vs H Q E => ∃ G ds ps r, Same G H ∧ ArgsR K G H ms vs ds ps ∧ fm ds = some r ∧ match r with
 | .ret w fin => ∀ v G' H', After K G H ps G' H' fin → RepRet K H G' H' v w → Q v H'
 | .exc x fin => ∀ cls dct G' H', After K G H ps G' H' fin → ExnIs K H' x cls dct → E cls dct H'
theorem SpX.imp {K : PySem.W.Frag} {ms : List Bool} {fm fm' : List D → Option FR} (h : ∀ ds r, fm ds = some r → fm' ds = some r) : ∀ vs H Q E, SpX K ms fm vs H Q E → SpX K ms fm' vs H Q E := by
 rintro vs H Q E ⟨G, ds, ps, r, a, b, c, d⟩
 exact ⟨G, ds, ps, r, a, b, h ds r c, d⟩
def HasX (P : Program) (w : World) (K : PySem.W.Frag) (mg : Str → Option Value) (base : Heap) (k : Nat) (x : Str) (ps : List Str) (sp : Sp) : Prop :=
 ∃ (f : Addr) (fd : FuncData), FnOk P w K mg base (CX1 P w) k f fd ps sp ∧ Binds K fd ps [] ∧ mg x = some (.ref f) ∧ PySem.W.keepIn K (.ref f) = true
theorem HasX.mono {P : Program} {w : World} {K : PySem.W.Frag} {mg : Str → Option Value} {base : Heap} {j k : Nat} {x : Str} {ps : List Str} {sp : Sp} (h : HasX P w K mg base j x ps sp) (hk : j ≤ k) : HasX P w K mg base k x ps sp := by
 obtain ⟨f, fd, F, b, m, kp⟩ := h
 exact ⟨f, fd, F.mono hk, b, m, kp⟩
end L3
set_option Elab.async false
set_option linter.all false
set_option maxRecDepth 100000
set_option maxHeartbeats 4000000
namespace L3
open PySem PySem.Spec PyProof.Rows L2
abbrev bmV : List Value := [.type "ValueError", .type "Exception", .type "BaseException", .type "object"]
structure ExcObj (h : Heap) (C : Addr) (bm : List Value) : Prop where
 ex : ∃ (nm qn : Str) (N : Addr) (bs : List Value) (hd : Bool) (sn : List Str) (sub : List Value) (ab : Bool) (col : Option Bool) (dd : Option Addr) (k0 k1 k2 k3 k5 : Option Value) (mN : Str → Option Value),
  h.get? C = some (excClassObj nm qn C N bs bm hd sn sub ab col dd k0 k1 k2 k3 k5 "ValueError.__new__") ∧ h.Ns N mN ∧ mN "__init__" = none ∧ OwnTail h bmV bm
theorem ExcObj.keeps {h h' : Heap} {C : Addr} {bm : List Value} (x : ExcObj h C bm) (k : ∀ b o, h.get? b = some o → h'.get? b = some o) : ExcObj h' C bm := by
 obtain ⟨nm, qn, N, bs, hd, sn, sub, ab, col, dd, k0, k1, k2, k3, k5, mN, a1, a2, a3, a4⟩ := x.ex
 exact ⟨⟨nm, qn, N, bs, hd, sn, sub, ab, col, dd, k0, k1, k2, k3, k5, mN, k _ _ a1, a2.keeps k, a3, a4.keeps k⟩⟩
end L3
set_option Elab.async false
set_option linter.all false
set_option maxRecDepth 100000
set_option maxHeartbeats 4000000
set_option Elab.async false
set_option linter.all false
set_option maxRecDepth 100000
set_option maxHeartbeats 4000000
namespace L3
open PySem PySem.Spec PyProof.Rows L2
def PS0 (X : Cx) (st : Stmt) (t : TS) : Prop := ∀ (s : Shared) (σ : St) (H : Hp) (D : Ends), Inv X [] σ H s → t D σ H → wpAny (model X.prog X.w) X.A (exec st X.env) (SP X [] D) X.xe s
structure PSD0 (X : Cx) (B : Bs) (st : Stmt) (m : SM) : Prop where
 ap : ∀ ξ, PS0 (rz X ξ) st (SD B ξ m)
section
variable {X : Cx} {B : Bs} {st : Stmt} {rest sts : List Stmt} {m1 m2 m : SM}
theorem s0 (h : PSD X B st m) : PSD0 X B st m := .mk fun ξ s σ H D I t => h.ap ξ [] s σ H D I t
end
end L3
set_option Elab.async false
set_option linter.all false
set_option maxRecDepth 100000
set_option maxHeartbeats 4000000
namespace L3
open PySem PySem.Spec PyProof.Rows L2
abbrev hx (X : Cx) (v : Value) : Cx := { X with A := X.A.mark (some v), calm := false }
end L3
set_option Elab.async false
set_option linter.all false
set_option maxRecDepth 100000
set_option maxHeartbeats 4000000
set_option Elab.async false
set_option linter.all false
set_option maxRecDepth 100000
set_option maxHeartbeats 4000000
set_option Elab.async false
set_option linter.all false
set_option maxRecDepth 100000
set_option maxHeartbeats 4000000
set_option Elab.async false
set_option linter.all false
set_option maxRecDepth 100000
set_option maxHeartbeats 4000000
set_option Elab.async false
set_option linter.all false
set_option maxRecDepth 100000
set_option maxHeartbeats 4000000
set_option Elab.async false
set_option linter.all false
set_option maxRecDepth 100000
set_option maxHeartbeats 4000000
namespace L3
open PySem PySem.Spec PyProof.Rows L2
def Bst (kf : Nat → Int) (i n : Nat) : Prop := i < n ∧ ∀ j, j < n → kf i ≤ kf j ∧ (j < i → kf i < kf j)
theorem Bst.one (kf : Nat → Int) : Bst kf 0 1 := ⟨Nat.zero_lt_one, fun j hj => by
 have : j = 0 := by omega
 subst this
 exact ⟨Int.le_refl _, fun h => absurd h (Nat.lt_irrefl _)⟩⟩
theorem Bst.less {kf : Nat → Int} {i n : Nat} (b : Bst kf i n) (h : kf n < kf i) : Bst kf n (n + 1) := ⟨Nat.lt_succ_self _, fun j hj => by
 by_cases e : j = n
 ·subst e
  exact ⟨Int.le_refl _, fun h => absurd h (Nat.lt_irrefl _)⟩
 ·have := (b.2 j (by omega)).1
  exact ⟨by omega, fun _ => by omega⟩⟩
theorem Bst.more {kf : Nat → Int} {i n : Nat} (b : Bst kf i n) (h : ¬ kf n < kf i) : Bst kf i (n + 1) := ⟨Nat.lt_succ_of_lt b.1, fun j hj => by
 by_cases e : j = n
 ·subst e
  exact ⟨by omega, fun h => absurd h (Nat.not_lt_of_lt b.1)⟩
 ·exact b.2 j (by omega)⟩
def Held (kf : Nat → Int) (vs : List Value) (n : Nat) (arr : Array Value) : Prop := (n = 0 ∧ arr = #[]) ∨ ∃ i v t, arr = #[v, .int (kf i) t] ∧ vs[i]? = some v ∧ Bst kf i n
def Kept (h h' : Heap) : Prop := ∀ b o, h.get? b = some o → h'.get? b = some o
theorem Kept.at {h h1 h2 : Heap} {S : Addr} (k : Kept h h1) (hS : h.objs.size ≤ S) (s : Heap.SameBut S h1 h2) : Kept h h2 := fun b o e => by
 have : b < h.objs.size := Heap.lt_size e
 rw [s.2 b (Nat.ne_of_lt (Nat.lt_of_lt_of_le this hS))]
 exact k b o e
section
variable {prog : Program} {w : World} {A : Around} {s : Shared} {l I S : Addr} {kid : String} {vs : List Value} {df : Option Value} {R : Result → Shared → Prop}
theorem mn_loop (kf : Nat → Int) (hh : A.handled = none) (hl : s.heap.IsList l vs.toArray) (hI : s.heap.objs.size ≤ I) (hS : s.heap.objs.size ≤ S) (hIS : I ≠ S)
  (turn : ∀ i v h tk, vs[i]? = some v → Kept s.heap h → wpAny (model prog w) A.in1 (call (.builtin kid) [v]) (fun x s' => ∃ t tk', x = .int (kf i) t ∧ s' = { s with heap := h, toks := tk' }) (fun _ _ => False) { s with heap := h, toks := tk })
  (f0 : vs = [] → ∃ d, df = some d ∧ ∀ h tk, Kept s.heap h → R (.ok (.ret d)) { s with heap := h, toks := tk })
  (f1 : ∀ i v h tk, vs[i]? = some v → Bst kf i vs.length → Kept s.heap h → R (.ok (.ret v)) { s with heap := h, toks := tk }) :
  ∀ (r n : Nat) (h : Heap) (tk c : Nat) (arr : Array Value), n + r = vs.length → Kept s.heap h → h.IsListIter I l n → h.get? S = some (seqObj "list" arr c) → Held kf vs n arr →
   codeAny (model prog w) A (.builtin "min.loop" ⟨[.ref I, .builtin kid, .ref S], df.toList.map fun d => ("default", d)⟩) R { s with heap := h, toks := tk } := by
 have hnm : (toString "min" ++ toString ".loop" : String) = "min.loop" := by decide
 have hlI : l ≠ I := by
  obtain ⟨o, e, _⟩ := id hl
  have : l < s.heap.objs.size := Heap.lt_size e
  exact Nat.ne_of_lt (Nat.lt_of_lt_of_le this hI)
 have W := Walks.list (prog := prog) (w := w) (A := A.in1) hh I l hlI vs.toArray
 have hz : vs.toArray.size = vs.length := List.size_toArray ..
 have lat : ∀ h, Kept s.heap h → h.IsList l vs.toArray := fun h k => hl.at fun o e => k l o e
 intro r
 induction r with
 | zero =>
  intro n h tk c arr hr k hit gS hd
  have hn : n = vs.length := by omega
  refine (codeAny_builtin PySem.F.entry_min_loop (by
   rw [Around.under_plainId PySem.F.plain_min_loop _]
   show wpAny _ A.in1 (seqItems? (.ref S) >>= fun _ => _) _ _ _
   refine wpAny_bind (wpAny_seqItems gS rfl ?_)
   show wpAny _ A.in1 (tryCatch (pyNext (.ref I)) (fun _ => _) >>= fun _ => _) _ _ _
   refine wpAny_bind (wpAny_tryCatch (W.done _ _ _ ⟨by rw [hz, ← hn]; exact hit, lat h k⟩ fun h' tk' k' => ?_))
   have kk : Kept s.heap h' := fun b o e => k' b o (fun z => Nat.ne_of_lt (Nat.lt_of_lt_of_le (Heap.lt_size e) hI) (List.mem_singleton.mp z)) (k b o e)
   rcases hd with ⟨h0, rfl⟩ | ⟨i, v, t, rfl, hv, hb⟩
   ·obtain ⟨d, rfl, q⟩ := f0 (List.length_eq_zero_iff.mp (by omega))
    exact wpAny_bind (wpAny_rule (wpAny_pure (q h' tk' kk)))
   ·have gS' := k' S _ (by simpa using hIS.symm) gS
    have sb := Heap.SameBut.update h' S (Obj.mapSeq fun _ => (#[] : Array Value))
    show wpAny _ A.in1 (updateSeq S (fun _ => #[]) >>= fun _ => _) _ _ _
    refine wpAny_bind (wpAny_updateSeq gS' rfl (wpAny_bind (wpAny_letGo (wpAny_pure ?_))))
    exact f1 i v _ _ hv (hn ▸ hb) (kk.at hS sb)))
 | succ r ih =>
  intro n h tk c arr hr k hit gS hd
  have hlt : n < vs.length := by omega
  refine (codeAny_builtin PySem.F.entry_min_loop (by
   rw [Around.under_plainId PySem.F.plain_min_loop _]
   show wpAny _ A.in1 (seqItems? (.ref S) >>= fun _ => _) _ _ _
   refine wpAny_bind (wpAny_seqItems gS rfl ?_)
   show wpAny _ A.in1 (tryCatch (pyNext (.ref I)) (fun _ => _) >>= fun _ => _) _ _ _
   refine wpAny_bind (wpAny_tryCatch (W.item n _ _ _ (by rw [hz]; exact hlt) ⟨hit, lat h k⟩ fun v h' tk' hP hst k' => ?_))
   have hv : vs[n]? = some v := by simpa using hP
   have kk : Kept s.heap h' := fun b o e => k' b o (fun z => Nat.ne_of_lt (Nat.lt_of_lt_of_le (Heap.lt_size e) hI) (List.mem_singleton.mp z)) (k b o e)
   have gS' := k' S _ (by simpa using hIS.symm) gS
   show wpAny _ A.in1 (tryCatch (holding [v] (call (.builtin kid) [v])) (fun _ => _) >>= fun _ => _) _ _ _
   refine wpAny_bind (wpAny_tryCatch (wpAny_holding (wpAny_mono (turn n v h' tk' hv kk) (fun x s2 he => ?_) fun _ _ hF => hF.elim)))
   obtain ⟨t2, tk2, rfl, rfl⟩ := he
   rcases hd with ⟨h0, rfl⟩ | ⟨i, vb, tb, rfl, hvb, hb⟩
   ·subst h0
    have sb := Heap.SameBut.update h' S (Obj.mapSeq fun _ => #[v, .int (kf 0) t2])
    show wpAny _ A.in1 (updateSeq S (fun _ => #[v, .int (kf 0) t2]) >>= fun _ => _) _ _ _
    refine wpAny_bind (wpAny_updateSeq gS' rfl ?_)
    rw [hnm]
    exact wpAny_pure ⟨plainId_quiet PySem.F.plain_min_loop _, ih 1 _ _ _ _ (by omega) (kk.at hS sb) (hst.1.at fun o e => by rw [sb.2 I hIS]; exact e) (get?_update_seq gS' fun _ => #[v, .int (kf 0) t2]) (.inr ⟨0, v, t2, rfl, hv, Bst.one kf⟩)⟩
   ·show wpAny _ A.in1 (tryCatch (holding [v, .int (kf n) t2] (richCompare .Lt (.int (kf n) t2) (.int (kf i) tb) >>= fun _ => _)) (fun _ => _) >>= fun _ => _) _ _ _
    refine wpAny_bind (wpAny_tryCatch (wpAny_holding (wpAny_bind (CmpOf.ints_lt (prog := prog) (w := w) (A := A.in1) (P := fun i v => ∃ t, v = .int (kf i) t) kf (fun i v h => h) n i _ _ _ _ _ ⟨t2, rfl⟩ ⟨tb, rfl⟩ ?_))))
    refine wpAny_bind (wpAny_holding (wpAny_truthy_bool (wpAny_bind (wpAny_letGo (wpAny_pure ?_)))))
    by_cases hb' : kf n < kf i
    ·have sb := Heap.SameBut.update h' S (Obj.mapSeq fun _ => #[v, .int (kf n) t2])
     simp only [hb', decide_true, if_true]
     refine wpAny_bind (wpAny_updateSeq gS' rfl (wpAny_bind (wpAny_letGo ?_)))
     rw [hnm]
     exact wpAny_pure ⟨plainId_quiet PySem.F.plain_min_loop _, ih (n + 1) _ _ _ _ (by omega) (kk.at hS sb) (hst.1.at fun o e => by rw [sb.2 I hIS]; exact e) (get?_update_seq gS' fun _ => #[v, .int (kf n) t2]) (.inr ⟨n, v, t2, rfl, hv, hb.less hb'⟩)⟩
    ·simp only [hb', decide_false, Bool.false_eq_true, if_false]
     refine wpAny_bind (wpAny_letGo ?_)
     rw [hnm]
     exact wpAny_pure ⟨plainId_quiet PySem.F.plain_min_loop _, ih (n + 1) _ _ _ _ (by omega) kk hst.1 gS' (.inr ⟨i, vb, tb, rfl, hvb, hb.more hb'⟩)⟩))
theorem kw_len (a v : Value) : argsOk "min" ⟨[a], [("key", v)]⟩ := by unfold argsOk; kernel_rfl
theorem kw_two (a v d : Value) : argsOk "min" ⟨[a], [("key", v), ("default", d)]⟩ := by unfold argsOk; kernel_rfl
theorem mn_call {Q : Value → Shared → Prop} {E : Value → Shared → Prop} (kf : Nat → Int) (hh : A.handled = none) (hl : s.heap.IsList l vs.toArray)
  (turn : ∀ i v h tk, vs[i]? = some v → Kept s.heap h → wpAny (model prog w) A.in1 (call (.builtin kid) [v]) (fun x s' => ∃ t tk', x = .int (kf i) t ∧ s' = { s with heap := h, toks := tk' }) (fun _ _ => False) { s with heap := h, toks := tk })
  (f0 : vs = [] → ∃ d, df = some d ∧ ∀ h tk, Kept s.heap h → Q d { s with heap := h, toks := tk })
  (f1 : ∀ i v h tk, vs[i]? = some v → Bst kf i vs.length → Kept s.heap h → Q v { s with heap := h, toks := tk }) :
  wpAny (model prog w) A (call (.builtin "min") [.ref l] (("key", .builtin kid) :: df.toList.map fun d => ("default", d))) Q E s := by
 have hnm : (toString "min" ++ toString ".loop" : String) = "min.loop" := by decide
 have ak : argsOk "min" ⟨[.ref l], ("key", .builtin kid) :: df.toList.map fun d => ("default", d)⟩ := by
  cases df with
  | none => exact kw_len _ _
  | some d => exact kw_two _ _ _
 have bp : Builtin.Builtins.bindParams "min" ["key", "default"] 0 ⟨[], ("key", .builtin kid) :: df.toList.map fun d => ("default", d)⟩ = pure [some (.builtin kid), df] := by cases df <;> rfl
 refine kmb_tree PySem.F.kind_min PySem.F.plain_min PySem.F.entry_min ak ?_
 show wpAny _ A.in1 (Builtin.Builtins.bindParams "min" ["key", "default"] 0 ⟨[], ("key", .builtin kid) :: df.toList.map fun d => ("default", d)⟩ >>= fun _ => _) _ _ s
 refine wpAny_bind (wpAny_of_eq bp (wpAny_bind (wpAny_pure (wpAny_bind (wpAny_pyIter_list hl (wpAny_bind (wpAny_newList ?_ (Nat.zero_le _))))))))
 rw [hnm]
 have z1 : (s.heap.push { cls := .type "list_iterator", data := .fields #[.ref l, .int 0 0] }).objs.size = s.heap.objs.size + 1 := size_push' ..
 refine wpAny_pure ⟨plainId_quiet PySem.F.plain_min_loop _, mn_loop kf hh hl (Nat.le_refl _) (by rw [z1]; exact Nat.le_succ _) (by rw [z1]; exact Nat.ne_of_lt (Nat.lt_succ_self _)) turn f0 f1 vs.length 0 _ _ 0 #[] (Nat.zero_add _) (fun b o e => Heap.get?_push_of_some _ (Heap.get?_push_of_some _ e)) ⟨_, Heap.get?_push_of_some _ (Heap.get?_push_size _ rfl), rfl, rfl⟩ (Heap.get?_push_size _ rfl) (.inl ⟨rfl, rfl⟩)⟩
end
end L3
set_option Elab.async false
set_option linter.all false
set_option maxRecDepth 100000
set_option maxHeartbeats 4000000
namespace L3
open PySem PySem.Spec PyProof.Rows L2
def KW (X : Cx) (kws : List Keyword) (ws : List Value) : Prop := ∀ (pos : Pos) (pins : List (Addr × Obj)) (s : Shared) (σ : St) (H : Hp) (Q : List Value → Shared → Prop), Inv X pins σ H s → Q ws s →
 wpAny (model X.prog X.w) X.A (evalAll ((backToKw pos (keywordEach kws X.env)).map (·.2))) Q X.xe s
def CallRk (X : Cx) (id : String) (ks : List Str) (ws : List Value) (r : List V → Hp → VK → Prop) : Prop :=
 ∀ (pins : List (Addr × Obj)) (s : Shared) (σ : St) (H : Hp) (xs : List V) (us : List Value) (Q : VK), Inv X pins σ H s → Vals xs us → r xs H Q → wpAny (model X.prog X.w) X.A (call (.builtin id) us (ks.zip ws)) (EP X pins σ Q) X.xe s
section
variable {X : Cx} {x k : Str} {p pos kp : Pos} {e : Expr} {es : List Expr} {kws : List Keyword} {t : TA} {id : String} {ks : List Str} {ws : List Value} {u : Value} {nn : Nat} {r : List V → Hp → VK → Prop}
theorem kw_nil : KW X [] [] := fun _ _ _ _ _ _ _ h => kws_nil h
theorem kw_fn (hg : Gl X x) (hm : X.mg x = none) (hv : bootBuiltins x = some u) (hr : KW X kws ws) (hn : x ≠ "__name__" := by decide) (hd : (x == ("__debug__" : Str)) = false := by decide) : KW X (⟨some k, .Name x p, kp⟩ :: kws) (u :: ws) :=
 fun pos pins s σ H Q I h => kws_cons (ld_blt I hg hm hv (hr pos pins s σ H _ I h) hn hd)
theorem pe_callKb (hc : CallRk X id ks ws r) (hg : Gl X x) (hm : X.mg x = none) (hv : bootBuiltins x = some (.builtin id)) (ha : PA X (e :: es) t) (hk : KW X kws ws) (hks : (backToKw pos (keywordEach kws X.env)).filterMap (·.1) = ks)
  (h1 : backTo pos (starEach (e :: es) X.env) = (false, eval e X.env) :: backTo pos (starEach es X.env)) (h2 : (backTo pos (starEach (e :: es) X.env)).any (·.1) = false) (h3 : (backToKw pos (keywordEach kws X.env)).all (·.1.isSome) = true) (h4 : (backToKw pos (keywordEach kws X.env)).any (·.1.isNone) = false)
  (hn : x ≠ "__name__" := by decide) (hdb : (x == ("__debug__" : Str)) = false := by decide) : PE X (.Call (.Name x p) (e :: es) kws pos) (tCB r t) := by
 intro pins s σ H Q I h
 refine wpAny_Call_Name_kw (ld_blt I hg hm hv ?_ hn hdb)
 refine callWith_kw (thn (ha pos pins s σ H _ I h) fun us s1 ⟨vs, H1, I1, r1, q1⟩ => hk pos pins s1 σ H1 _ I1 ?_) h1 h2 h3 h4
 rw [hks]
 exact hc pins s1 σ H1 vs us Q I1 r1 q1
end
theorem vals_at {xs : List V} {us : List Value} {i : Nat} {u : Value} (r : Vals xs us) (h : us[i]? = some u) : ∃ x, xs[i]? = some x ∧ RelV x u := by
 have hl := r.length
 have hi : i < us.length := by
  rcases Nat.lt_or_ge i us.length with h' | h'
  ·exact h'
  ·rw [List.getElem?_eq_none h'] at h; cases h
 have hx : xs[i]? = some (xs[i]'(by omega)) := List.getElem?_eq_getElem _
 obtain ⟨u', e, ru⟩ := Vals.get r hx
 rw [e] at h
 cases h
 exact ⟨_, hx, ru⟩
section
variable {X : Cx}
theorem call_minlen {K : PySem.W.Frag} (hK : X.K = K) (hc : X.calm = true) : CallRk X "min" ["key"] [.builtin "len"] (fun xs H Q => ∃ (l : Addr) (ys : List V) (kf : Nat → Int), xs = [.ref l] ∧ SqL K H l ys ∧ ys ≠ [] ∧ (∀ i y, ys[i]? = some y → ∃ p zs, y = .ref p ∧ SqT K H p zs ∧ kf i = (zs.length : Int)) ∧ ∀ i y, ys[i]? = some y → Bst kf i ys.length → Q y H) := by
 subst hK
 intro pins s σ H xs us Q I rv h
 obtain ⟨l, ys, kf, rfl, hq, hne, hk, q⟩ := h
 obtain ⟨u, rfl, rx⟩ := vals1 rv
 cases rx
 obtain ⟨its, rl, pl, _⟩ := I.list hq
 have hlen := rl.length
 refine mn_call (df := none) kf (I.ok.hd hc) pl.isList (fun i v h tk hv kp => ?_) (fun z => ?_) (fun i v h tk hv hb kp => ?_)
 ·obtain ⟨y, hy, ry⟩ := vals_at rl hv
  obtain ⟨p, zs, rfl, hz, ez⟩ := hk i y hy
  cases ry
  obtain ⟨its2, r2, ⟨o, ho, hc1, n, hd⟩, hsz⟩ := I.tuple hz
  have ht : IsTup h p its2.toArray := ⟨o, kp p o ho, hc1, n, hd⟩
  have l63 := line63
  have e2 := r2.length
  refine len_tuple (s := { s with heap := h, toks := tk }) ht (by simp only [List.size_toArray] <;> omega) ⟨tk + 1, tk + 1 + 1, ?_, rfl⟩
  rw [ez, List.size_toArray, e2]
 ·subst z
  exact absurd (List.length_eq_zero_iff.mp hlen) hne
 ·obtain ⟨y, hy, ry⟩ := vals_at rl hv
  exact ⟨y, H, I.kept kp, ry, q i y hy (by rw [hlen]; exact hb)⟩
end
def bestBy {α : Type} (k : α → Int) : List α → Option α
 | [] => none
 | x :: xs => some (xs.foldl (fun b y => if k y < k b then y else b) x)
theorem Bst.uniq {kf : Nat → Int} {i j n : Nat} (a : Bst kf i n) (b : Bst kf j n) : i = j := by
 have h1 := a.2 j b.1
 have h2 := b.2 i a.1
 rcases Nat.lt_trichotomy i j with h | h | h
 ·have := h2.2 h; omega
 ·exact h
 ·have := h1.2 h; omega
theorem best_fold {α : Type} (k : α → Int) (all : List α) : ∀ (xs pre : List α) (b : α) (i : Nat), all = pre ++ xs → all[i]? = some b → Bst (fun i => ((all[i]?).map k).getD 0) i pre.length → ∃ j, all[j]? = some (xs.foldl (fun b y => if k y < k b then y else b) b) ∧ Bst (fun i => ((all[i]?).map k).getD 0) j all.length
 | [], pre, b, i, e, hi, hb => ⟨i, hi, by rw [e, List.append_nil] at *; exact hb⟩
 | y :: xs, pre, b, i, e, hi, hb => by
  have hy : all[pre.length]? = some y := by rw [e, List.getElem?_append_right (Nat.le_refl _), Nat.sub_self]; rfl
  have ky : ((all[pre.length]?).map k).getD 0 = k y := by rw [hy]; rfl
  have kb : ((all[i]?).map k).getD 0 = k b := by rw [hi]; rfl
  have e2 : all = (pre ++ [y]) ++ xs := by rw [e, List.append_assoc]; rfl
  rw [List.foldl_cons]
  by_cases h : k y < k b
  ·rw [if_pos h]
   refine best_fold k all xs (pre ++ [y]) y pre.length e2 hy ?_
   rw [List.length_append, List.length_singleton]
   exact hb.less (by show ((all[pre.length]?).map k).getD 0 < ((all[i]?).map k).getD 0; rw [ky, kb]; exact h)
  ·rw [if_neg h]
   refine best_fold k all xs (pre ++ [y]) b i e2 hi ?_
   rw [List.length_append, List.length_singleton]
   exact hb.more (by show ¬ ((all[pre.length]?).map k).getD 0 < ((all[i]?).map k).getD 0; rw [ky, kb]; exact h)
theorem best_at {α : Type} {k : α → Int} {xs : List α} {i : Nat} {x : α} (hi : xs[i]? = some x) (hb : Bst (fun i => ((xs[i]?).map k).getD 0) i xs.length) : bestBy k xs = some x := by
 cases xs with
 | nil => cases hi
 | cons y r =>
  obtain ⟨j, hj, hb2⟩ := best_fold k (y :: r) r [y] y 0 rfl rfl ⟨Nat.zero_lt_one, fun j hj => by
   have : j = 0 := by have : ([y] : List α).length = 1 := rfl; omega
   subst this
   exact ⟨Int.le_refl _, fun h => absurd h (Nat.lt_irrefl _)⟩⟩
  have := hb.uniq hb2
  subst this
  rw [hi] at hj
  show some _ = some x
  rw [Option.some.inj hj]
def tupK : D → Int
 | .tup c => (c.length : Int)
 | _ => 0
def isTupD : D → Bool
 | .tup _ => true
 | _ => false
def minlenD : List D → Option W
 | [.lst ds] => if ds.all isTupD = true then (bestBy tupK ds).map W.val else none
 | _ => none
def absK (i : Int) : Int := (i.natAbs : Int)
section
variable {X : Cx} {B : Bs} {e : Expr} {mr : M (List W)} {nn : Nat} {p pos p1 k1 p2 k2 : Pos}
theorem impN_minlen : ImpN B (fun xs H Q => ∃ (l : Addr) (ys : List V) (kf : Nat → Int), xs = [.ref l] ∧ SqL B.K H l ys ∧ ys ≠ [] ∧ (∀ i y, ys[i]? = some y → ∃ p zs, y = .ref p ∧ SqT B.K H p zs ∧ kf i = (zs.length : Int)) ∧ ∀ i y, ys[i]? = some y → Bst kf i ys.length → Q y H) minlenD := by
 intro G H σ ρ xs ds w Q R h ev pp
 match ds, ev with
 | [.lst ds], ev =>
  have ev : (if ds.all isTupD = true then (bestBy tupK ds).map W.val else none) = some w := ev
  split at ev
  ·rename_i hall
   obtain ⟨d, hd, rfl⟩ := Option.map_eq_some_iff.mp ev
   obtain ⟨x, rfl, hx⟩ := one_of h
   obtain ⟨q, ys, rfl, h1, r1⟩ := hx.lst R.gH
   have hl := r1.len
   have look : ∀ (i : Nat) (y : V), ys[i]? = some y → ∃ c, ds[i]? = some (D.tup c) ∧ Rep B.K G y (.tup c) := by
    intro i y hy
    obtain ⟨d', hd', rd⟩ := r1.atV hy
    have := List.all_eq_true.mp hall d' (List.mem_of_getElem? hd')
    cases d' with
    | tup c => exact ⟨c, hd', rd⟩
    | _ => cases this
   refine ⟨q, ys, fun i => ((ds[i]?).map tupK).getD 0, rfl, h1, ?_, ?_, ?_⟩
   ·rintro rfl
    have : ds = [] := List.length_eq_zero_iff.mp hl.symm
    subst this
    cases hd
   ·intro i y hy
    obtain ⟨c, hc, rc⟩ := look i y hy
    have rt : RepT B.K G H y (.tup c) := .inl rc
    obtain ⟨p', zs, rfl, hz, rz⟩ := rt.tup R.gH
    refine ⟨p', zs, rfl, hz, ?_⟩
    show ((ds[i]?).map tupK).getD 0 = _
    rw [hc, rz.len]
    rfl
   ·intro i y hy hb
    obtain ⟨c, hc, rc⟩ := look i y hy
    rw [hl] at hb
    have := best_at hc hb
    rw [hd] at this
    cases this
    exact pp y G H (Same.refl _) R rc
  ·cases ev
theorem d_minlen (hc : X.calm = true) (hm : X.mg "min" = none) (hm2 : X.mg "len" = none) (ha : PDA X B [e] mr) (hg : Gl X "min" := by rfl) (hg2 : Gl X "len" := by rfl) (hK : X.K = B.K := by rfl)
  (hks : (backToKw pos (keywordEach [⟨some "key", .Name "len" p1, k1⟩] X.env)).filterMap (·.1) = [("key" : Str)] := by rfl)
  (h1 : backTo pos (starEach [e] X.env) = (false, eval e X.env) :: backTo pos (starEach [] X.env) := by rfl) (h2 : (backTo pos (starEach [e] X.env)).any (·.1) = false := by rfl) (h3 : (backToKw pos (keywordEach [⟨some "key", .Name "len" p1, k1⟩] X.env)).all (·.1.isSome) = true := by rfl) (h4 : (backToKw pos (keywordEach [⟨some "key", .Name "len" p1, k1⟩] X.env)).any (·.1.isNone) = false := by rfl) :
  PD X B (.Call (.Name "min" p) [e] [⟨some "key", .Name "len" p1, k1⟩] pos) (mCB minlenD mr) := .mk fun ξ =>
 (pe_callKb (X := rz X ξ) (call_minlen (K := B.K) hK hc) hg hm PyProof.Rows.boot_min (ha.ap ξ) (kw_fn hg2 hm2 PySem.boot_len kw_nil) hks h1 h2 h3 h4).imp fun _ _ _ t => td_CB impN_minlen t
end
end L3
set_option Elab.async false
set_option linter.all false
set_option maxRecDepth 100000
set_option maxHeartbeats 4000000
set_option Elab.async false
set_option linter.all false
set_option maxRecDepth 100000
set_option maxHeartbeats 4000000
namespace L3
open PySem PySem.Spec PyProof.Rows L2
theorem ip_mul {X : Cx} : PIp X .Mult (fun x y H Q => ∃ i j, x = .int i ∧ y = .int j ∧ CMul i j ∧ Q (.int (i * j)) H) := by
 intro pins s σ H x y v u Q I r1 r2 h
 obtain ⟨i, j, rfl, rfl, hm, q⟩ := h
 obtain ⟨t, rfl⟩ := r1
 obtain ⟨t', rfl⟩ := r2
 exact PySem.P.imul_int ⟨.int _, H, I.tok _, ⟨_, rfl⟩, q⟩ hm.ok
def augM (i : Nat) (me : M W) : SM := fun ρ => match ρ[i]? with
 | some (some _) => thenS me (fun y ρ => match getD (.slot i) ρ, getD y ρ with
  | some (.int a), some (.int b) => if CMul a b then storeS i (.val (.int (a * b))) ρ else none
  | _, _ => none) ρ
 | _ => none
section
variable {X : Cx} {B : Bs} {e : Expr} {me : M W} {pos : Pos}
theorem s_augmul {i : Nat} {x : Str} {pos' : Pos} (he : PD X B e me) (hN : X.N.Nodup) (hi : X.N[i]? = some x := by rfl) (hx : Loc X.env.scope x := by first | exact Or.inl rfl | exact Or.inr rfl) (hf : X.fn x = true ∨ X.env.scope.names.lookup x = some .local := by first | exact .inl rfl | exact .inr rfl) :
  PSD X B (.AugAssign (.Name x pos') .Mult e pos) (augM i me) := .mk fun ξ => (ps_aug (X := rz X ξ) hN hi hx (he.ap ξ) ip_mul hf).imp fun Dn σ H t => by
 obtain ⟨G, ρ, R, r, e, p⟩ := t
 unfold augM at e
 split at e
 ·rename_i c h0
  have hv : ∃ v, σ[i]? = some (some v) := by
   cases c with
   | sh d => obtain ⟨v, q, _⟩ := R.sh i d h0; exact ⟨v, q⟩
   | ow l d => obtain ⟨v, q, _⟩ := R.ow i l d h0; exact ⟨_, q⟩
   | fz es => obtain ⟨a, o, kvs, q, _⟩ := R.fz i es h0; exact ⟨_, q⟩
  obtain ⟨v, hv⟩ := hv
  refine ⟨v, hv, ?_⟩
  refine (SD.step (rel := relW) R ⟨r, e, p⟩).mono fun y H1 ⟨G1, ρ1, w, s1, R1, q1, r, e, p⟩ => ?_
  dsimp only at e
  split at e
  ·rename_i a b ha hb
   split at e
   ·rename_i hc
    obtain ⟨ρ', G', rfl, s', R'⟩ := store_run (v := .int (a * b)) R1 (show RepW B G1 H1 σ ρ1 (.int (a * b)) (.val (.int (a * b))) from Rep.int _) e
    exact ⟨a, b, ((show RepW B G1 H1 σ ρ1 v (.slot i) from hv).get R1 ha).int, (q1.get R1 hb).int, hc, p _ G' H1 s' R'⟩
   ·cases e
  ·cases e
 ·cases e
end
section
variable {me : M W} {ρ ρ1 ρ2 : Env'} {w : W} {i n : Nat} {a b : Int} {c : M Bool} {bd : SM} {r : Option SR}
theorem ev_augM {c : C} (h0 : ρ[i]? = some (some c)) (hm : me ρ = some (.ok w ρ1)) (hx : getD (.slot i) ρ1 = some (.int a)) (hy : getD w ρ1 = some (.int b)) (hc : CMul a b) (hs : storeS i (.val (.int (a * b))) ρ1 = some (.nx ρ2)) : augM i me ρ = some (.nx ρ2) := by
 unfold augM
 rw [h0]
 show thenS me _ ρ = _
 rw [thenS_ok hm]
 simp only [hx, hy]
 rw [if_pos hc]
 exact hs
end
theorem fn_none {P : Program} {w : World} {K : PySem.W.Frag} {mg : Str → Option Value} {base : Heap} {k : Nat} {f : Addr} {fd : FuncData} {ps : List Str} {ms : List Bool} {fm : List D → Option FR} (h : ∀ ds, fm ds = none) : FnOk P w K mg base CX0 k f fd ps (SpD K ms fm) :=
 ⟨fun vs H Q E q => (by obtain ⟨_, ds, _, r, _, _, e, _⟩ := q; rw [h ds] at e; cases e), fun _ _ s H _ _ vs Q E _ _ _ _ q => (by obtain ⟨_, ds, _, r, _, _, e, _⟩ := q; rw [h ds] at e; cases e)⟩
theorem has_rec {P : Program} {w : World} {K : PySem.W.Frag} {mg : Str → Option Value} {base : Heap} {b : Nat} {x : Str} {st : Stmt} {ps : List Str} {ms : List Bool} {fm : Nat → List D → Option FR} (D' : Def K mg x st ps) (h0 : ∀ ds, fm 0 ds = none)
  (hs : ∀ n, Has P w K mg base (b + n) x ps (SpD K ms (fm n)) → ∀ f fd, Fun K x x st f fd → FnOk P w K mg base CX0 (b + n + 1) f fd ps (SpD K ms (fm (n + 1)))) : ∀ n, Has P w K mg base (b + n) x ps (SpD K ms (fm n))
 | 0 => D'.has fun _ _ _ => fn_none h0
 | n + 1 => D'.has (hs n (has_rec D' h0 hs n))
end L3
set_option Elab.async false
set_option linter.all false
set_option maxRecDepth 100000
set_option maxHeartbeats 4000000
namespace K23
open PySem L2 L3
def top (i : Nat) : Stmt := PySem.Challenge.pw_clausekeep_k23_counted_apart.main.body.getD i (.Pass ⟨0, 0, 0, 0⟩)
abbrev s_left_over : Stmt := top 1
theorem sc_left_over : FnScope ["clauses", "literal"] ["clauses", "literal"] (defScope s_left_over) := ⟨rfl, rfl, rfl, by decide +kernel, rfl, by decide +kernel, by decide +kernel⟩
abbrev s_without : Stmt := top 2
theorem sc_without : FnScope ["clause", "literal"] ["clause", "literal"] (defScope s_without) := ⟨rfl, rfl, rfl, by decide +kernel, rfl, by decide +kernel, by decide +kernel⟩
abbrev s_counted : Stmt := top 4
theorem sc_counted : FnScope ["variables", "clauses", "literal", "others"] ["variables", "clauses"] (defScope s_counted) := ⟨rfl, rfl, rfl, by decide +kernel, rfl, by decide +kernel, by decide +kernel⟩
abbrev s_ways : Stmt := top 5
theorem sc_ways : FnScope ["variables", "number", "variable"] ["variables"] (defScope s_ways) := ⟨rfl, rfl, rfl, by decide +kernel, rfl, by decide +kernel, by decide +kernel⟩
abbrev s_law_cell : Stmt := top 7
theorem sc_law_cell : FnScope ["_law_script", "_law_k"] ["_law_script", "_law_k"] (defScope s_law_cell) := ⟨rfl, rfl, rfl, by decide +kernel, rfl, by decide +kernel, by decide +kernel⟩
abbrev s_law_mix : Stmt := top 8
theorem sc_law_mix : FnScope ["_law_script", "_law_k", "_law_number"] ["_law_script", "_law_k"] (defScope s_law_mix) := ⟨rfl, rfl, rfl, by decide +kernel, rfl, by decide +kernel, by decide +kernel⟩
abbrev s_law_whole : Stmt := top 9
theorem sc_law_whole : FnScope ["_law_found"] ["_law_found"] (defScope s_law_whole) := ⟨rfl, rfl, rfl, by decide +kernel, rfl, by decide +kernel, by decide +kernel⟩
abbrev s_law_clause : Stmt := top 11
theorem sc_law_clause : FnScope ["_law_script", "_law_base", "_law_variables", "_law_most", "_law_number", "_law_size", "_law_found", "_law_k", "_law_part"] ["_law_script", "_law_base", "_law_variables", "_law_most"] (defScope s_law_clause) := ⟨rfl, rfl, rfl, by decide +kernel, rfl, by decide +kernel, by decide +kernel⟩
abbrev s_law_models : Stmt := top 13
theorem sc_law_models : FnScope ["_law_variables", "_law_clauses", "_law_found", "_law_number", "_law_model", "_law_k"] ["_law_variables", "_law_clauses"] (defScope s_law_models) := ⟨rfl, rfl, rfl, by decide +kernel, rfl, by decide +kernel, by decide +kernel⟩
abbrev s_law : Stmt := top 14
theorem sc_law : FnScope ["_law_script", "_law_used", "_law_clauses", "_law_due", "_law_k", "_law_size", "_law_part", "_law_clause_here", "_law_moved", "_law_free", "_law_found"] ["_law_script"] (defScope s_law) := ⟨rfl, rfl, rfl, by decide +kernel, rfl, by decide +kernel, by decide +kernel⟩
def isWholeD : D → Bool
 | .int _ => true
 | _ => false
def noTy : D → Bool
 | .ty _ => false
 | _ => true
def fm_law_cell : List D → Option FR
 | [.lst ds, .int k] => (intsOf ds).map fun ns => .ret (.val (.int (cellV ns k))) []
 | _ => none
def fm_law_mix : List D → Option FR
 | [.lst ds, .int k] => (intsOf ds).map fun ns => .ret (.val (.int (mixV ns k))) []
 | _ => none
def fm_law_whole : List D → Option FR
 | [d] => grd (noTy d = true) (some (.ret (.val (.bl (isWholeD d))) []))
 | _ => none
def litV (p v : Int) : Int := (1 + p / 2 % v) * (1 - 2 * (p % 2))
def sizeV (n most : Int) : Int := if n % 6 = 0 then 1 else if n % 6 = 1 then 2 else if n % 6 = 2 then 3 else if n % 6 = 3 then 2 else if n % 6 = 4 then 3 else n / 6 % (most + 1)
def clauseV (ns : List Int) (b v most : Int) : List Int := (List.range (sizeV (mixV ns b) most).toNat).map fun (k : Nat) => litV (mixV ns (b + 1 + (k : Int))) v
def fm_law_clause : List D → Option FR
 | [.lst ds, .int b, .int v, .int most] => (intsOf ds).bind fun ns => grd (0 < v ∧ v < 1000 ∧ 0 ≤ most ∧ most < 1000) (some (.ret (.val (.tup ((clauseV ns b v most).map D.int))) []))
 | _ => none
def addI (acc : List Int) (l : Int) : List Int := if l ∈ acc then acc else acc ++ [l]
def clsD (cs : List (List Int)) : List D := cs.map fun c => D.tup (c.map D.int)
def pwV (j : Int) : Int := if j = 0 then 1 else if j = 1 then 2 else if j = 2 then 4 else if j = 3 then 8 else 16
def cntV (v : Int) : Nat := if v = 1 then 2 else if v = 2 then 4 else if v = 3 then 8 else 16
def modL (v n : Int) (k : Nat) : Int := ((k : Int) + 1) * (2 * (n / pwV (v - 1 - k) % 2) - 1)
def modV (v n : Int) : List Int := (List.range v.toNat).map (modL v n)
def anyV (c M : List Int) : Bool := c.any fun l => decide (l ∈ M)
def satV (cs : List (List Int)) (M : List Int) : Bool := cs.all fun c => anyV c M
def modelsV (v : Int) (cs : List (List Int)) : List (List Int) := ((List.range (cntV v)).map fun (n : Nat) => modV v (n : Int)).filter (satV cs)
def clsOf : List D → Option (List (List Int))
 | [] => some []
 | .tup ds :: r => (intsOf ds).bind fun c => (clsOf r).map (c :: ·)
 | _ => none
def fm_law_models : List D → Option FR
 | [.int v, .lst ds] => (clsOf ds).bind fun cs => grd (0 < v ∧ v ≤ 4 ∧ cs.length ≤ 1000 ∧ (cs.all fun c => decide (c.length ≤ 1000)) = true) (some (.ret (.own (.lst (clsD (modelsV v cs)))) []))
 | _ => none
def okC (cs : List (List Int)) : Bool := decide (cs.length ≤ 1000) && cs.all fun c => decide (c.length ≤ 1000)
def withoutV (c : List Int) (l : Int) : List Int := c.filter fun x => !decide (x = l)
def fm_without : List D → Option FR
 | [.tup ds, .int l] => (intsOf ds).bind fun c => grd (c.length ≤ 1000) (some (.ret (.val (.tup ((withoutV c l).map D.int))) []))
 | _ => none
def leftV (cs : List (List Int)) (l : Int) : List (List Int) := (cs.filter fun c => !decide (l ∈ c)).map fun c => withoutV c (-l)
def fm_left_over : List D → Option FR
 | [.lst ds, .int l] => (clsOf ds).bind fun cs => grd (okC cs = true) (some (.ret (.own (.lst (clsD (leftV cs l)))) []))
 | _ => none
def waysV (v : Int) : Int := 2 ^ v.toNat
def fm_ways : List D → Option FR
 | [.int v] => grd (0 ≤ v ∧ v ≤ 60) (some (.ret (.val (.int (waysV v))) []))
 | _ => none
def shortV (cs : List (List Int)) : Int := match bestBy (fun c : List Int => (c.length : Int)) cs with
 | none => 0
 | some c => c.head?.getD 0
def countF : Nat → Int → List (List Int) → Int
 | 0, _, _ => 0
 | n + 1, v, cs => if [] ∈ cs then 0 else if cs = [] then waysV v else countF n (v - 1) (leftV cs (shortV cs)) + countF n (v - 1) (leftV cs (-(shortV cs)))
def varsV (cs : List (List Int)) : List Int := (cs.flatten.map absK).foldl addI []
def fmR_counted : Nat → List D → Option FR
 | 0, _ => none
 | n + 1, [.int v, .lst ds] => (clsOf ds).bind fun cs => grd (okC cs = true ∧ (varsV cs).length ≤ n ∧ ((varsV cs).length : Int) ≤ v ∧ v ≤ 60) (some (.ret (.val (.int (countF (n + 1) v cs))) []))
 | _, _ => none
def fm_counted : List D → Option FR := fmR_counted 15
def allM : Nat → Nat → List (List Int)
 | _, 0 => [[]]
 | k, m + 1 => (allM (k + 1) m).map (-((k : Int) + 1) :: ·) ++ (allM (k + 1) m).map (((k : Int) + 1) :: ·)
section
variable {P : Program} {w : World} {K : PySem.W.Frag} {mg : Str → Option Value} {base : Heap} {f : Addr} {fd : FuncData}
abbrev den_law_cell : SM := (seqS (ifS (mTru (mVar 0)) (retS (mBin ixD (mVar 0) (mBin modD (mVar 1) (mCB lenD (mCons (mVar 0) mNil))))) nxS)
 (retS (mC (.int 0))))
theorem run_law_cell (F : Fun K "_law_cell" "_law_cell" s_law_cell f fd) (z_len : mg "len" = none) :
  FnOk P w K mg base CX0 1 f fd ["_law_script", "_law_k"] (SpD K [false, false] (runF den_law_cell 2 [false, false])) :=
 have nd := sc_law_cell.nd
 fun_d (k := 0) F sc_law_cell rfl (fun cdv A outer s H E H0 HK G0 L hr => by
  have hu := hu8 hr
  exact (s_cons (s_if (t_tru (dv 0)) (s_one (s_ret (d_ix hu (dv 0) (d_mod (dv 1) (d_len z_len (a_cons (dv 0) a_nil)))))) s_nil)
   (s_one (s_ret d_int))))
abbrev den_law_mix : SM := (seqS (setS 2 (mBin modD (mBin addD (mCall [false, false] fm_law_cell (mCons (mVar 0) (mCons (mVar 1) mNil))) (mBin mulD (mC (.int 104729)) (mBin addD (mVar 1) (mC (.int 1))))) (mC (.int 4294967291))))
 (seqS (setS 2 (mBin modD (mBin mulD (mVar 2) (mC (.int 48271))) (mC (.int 4294967279))))
 (retS (mBin modD (mBin addD (mBin mulD (mBin divD (mVar 2) (mC (.int 64))) (mC (.int 69621))) (mVar 2)) (mC (.int 4294967231))))))
theorem run_law_mix (F : Fun K "_law_mix" "_law_mix" s_law_mix f fd)
  (h_law_cell : Has P w K mg base 1 "_law_cell" ["_law_script", "_law_k"] (SpD K [false, false] fm_law_cell)) :
  FnOk P w K mg base CX0 2 f fd ["_law_script", "_law_k"] (SpD K [false, false] (runF den_law_mix 3 [false, false])) :=
 have nd := sc_law_mix.nd
 fun_d (k := 1) F sc_law_mix rfl (fun cdv A outer s H E H0 HK G0 L hr => by
  have hu := hu8 hr
  exact (s_cons (s_set (i := 2) (d_mod (d_add (d_call h_law_cell (hr.mono (by decide)) (a_cons (dv 0) (a_cons (dv 1) a_nil))) (d_mul d_int (d_add (dv 1) d_int))) d_int) nd)
   (s_cons (s_set (i := 2) (d_mod (d_mul (dv 2) d_int) d_int) nd)
   (s_one (s_ret (d_mod (d_add (d_mul (d_div (dv 2) d_int) d_int) (dv 2)) d_int))))))
abbrev den_law_whole : SM := (retS (mAndV (mCB isiD (mCons (mVar 0) (mCons (mC (.ty "int")) mNil))) (mNotV (mCB isiD (mCons (mVar 0) (mCons (mC (.ty "bool")) mNil))))))
theorem run_law_whole (F : Fun K "_law_whole" "_law_whole" s_law_whole f fd) (z_isinstance : mg "isinstance" = none) (z_int : mg "int" = none) (z_bool : mg "bool" = none) :
  FnOk P w K mg base CX0 1 f fd ["_law_found"] (SpD K [false] (runF den_law_whole 1 [false])) :=
 have nd := sc_law_whole.nd
 fun_d (k := 0) F sc_law_whole rfl (fun cdv A outer s H E H0 HK G0 L hr => by
  have hu := hu8 hr
  exact (s_one (s_ret (d_and (d_isi z_isinstance (a_cons (dv 0) (a_cons (d_ty z_int PyProof.Rows.boot_int) a_nil))) (d_one (d_not (d_isi z_isinstance (a_cons (dv 0) (a_cons (d_ty z_bool PyProof.Rows.boot_bool) a_nil)))))))))
abbrev lp_law_clause_0 : SM := (seqS (setS 8 (mCall [false, false] fm_law_mix (mCons (mVar 0) (mCons (mBin addD (mBin addD (mVar 1) (mC (.int 1))) (mVar 7)) mNil))))
 (dropS (mAppend 6 (mCons (mBin mulD (mBin addD (mC (.int 1)) (mBin modD (mBin divD (mVar 8) (mC (.int 2))) (mVar 2))) (mBin subD (mC (.int 1)) (mBin mulD (mC (.int 2)) (mBin modD (mVar 8) (mC (.int 2)))))) mNil))))
abbrev den_law_clause : SM := (seqS (setS 4 (mCall [false, false] fm_law_mix (mCons (mVar 0) (mCons (mVar 1) mNil))))
 (seqS (setS 5 (mBin ixD (mLst (mCons (mC (.int 1)) (mCons (mC (.int 2)) (mCons (mC (.int 3)) (mCons (mC (.int 2)) (mCons (mC (.int 3)) (mCons (mBin modD (mBin divD (mVar 4) (mC (.int 6))) (mBin addD (mVar 3) (mC (.int 1)))) mNil))))))) (mBin modD (mVar 4) (mC (.int 6)))))
 (seqS (setS 6 (mLst mNil))
 (seqS (forS (mRng ints1 (mCons (mVar 5) mNil)) (tgN 7) lp_law_clause_0)
 (retS (mCB tupleD (mCons (mVar 6) mNil)))))))
theorem run_law_clause (F : Fun K "_law_clause" "_law_clause" s_law_clause f fd) (z_range : mg "range" = none) (z_tuple : mg "tuple" = none)
  (h_law_mix : Has P w K mg base 2 "_law_mix" ["_law_script", "_law_k"] (SpD K [false, false] fm_law_mix)) :
  FnOk P w K mg base CX0 3 f fd ["_law_script", "_law_base", "_law_variables", "_law_most"] (SpD K [false, false, false, false] (runF den_law_clause 9 [false, false, false, false])) :=
 have nd := sc_law_clause.nd
 fun_d (k := 2) F sc_law_clause rfl (fun cdv A outer s H E H0 HK G0 L hr => by
  have hu := hu8 hr
  exact (s_cons (s_set (i := 4) (d_call h_law_mix (hr.mono (by decide)) (a_cons (dv 0) (a_cons (dv 1) a_nil))) nd)
   (s_cons (s_set (i := 5) (d_ix hu (d_lst (a_cons d_int (a_cons d_int (a_cons d_int (a_cons d_int (a_cons d_int (a_cons (d_mod (d_div (dv 4) d_int) (d_add (dv 3) d_int)) a_nil))))))) (d_mod (dv 4) d_int)) nd)
   (s_cons (s_set (i := 6) (d_lst a_nil) nd)
   (s_cons (s_for (i_range1 z_range (a_cons (dv 5) a_nil)) (g_name (i := 7) nd) (s_cons (s_set (i := 8) (d_call h_law_mix (hr.mono (by decide)) (a_cons (dv 0) (a_cons (d_add (d_add (dv 1) d_int) (dv 7)) a_nil))) nd)
   (s_one (s_expr (d_append 6 (dv 6) (a_cons (d_mul (d_add d_int (d_mod (d_div (dv 8) d_int) (dv 2))) (d_sub d_int (d_mul d_int (d_mod (dv 8) d_int)))) a_nil))))))
   (s_one (s_ret (d_tuple z_tuple (a_cons (dv 6) a_nil)))))))))
abbrev lp_law_models_0 : SM := (dropS (mAppend 4 (mCons (mBin mulD (mBin addD (mVar 5) (mC (.int 1))) (mBin subD (mBin mulD (mC (.int 2)) (mBin modD (mBin divD (mVar 3) (mBin ixD (mLst (mCons (mC (.int 1)) (mCons (mC (.int 2)) (mCons (mC (.int 4)) (mCons (mC (.int 8)) (mCons (mC (.int 16)) mNil)))))) (mBin subD (mBin subD (mVar 0) (mC (.int 1))) (mVar 5)))) (mC (.int 2)))) (mC (.int 1)))) mNil)))
abbrev lp_law_models_1 : SM := (seqS (setS 4 (mLst mNil))
 (seqS (forS (mRng ints1 (mCons (mVar 0) mNil)) (tgN 5) lp_law_models_0)
 (ifS (mTru (mCB allD (mCons (mComp (mIter (mVar 1)) (tgN 0) mYes (mCB anyD (mCons (mComp (mIter (mVar 0)) (tgN 0) mYes (mBin inD (mVar 0) (mVar 1)) 1 [1]) mNil)) 1 [4]) mNil))) (dropS (mAppend 2 (mCons (mCB tupleD (mCons (mVar 4) mNil)) mNil))) nxS)))
abbrev den_law_models : SM := (seqS (setS 2 (mLst mNil))
 (seqS (forS (mRng ints1 (mCons (mBin ixD (mLst (mCons (mC (.int 1)) (mCons (mC (.int 2)) (mCons (mC (.int 4)) (mCons (mC (.int 8)) (mCons (mC (.int 16)) (mCons (mC (.int 32)) mNil))))))) (mVar 0)) mNil)) (tgN 3) lp_law_models_1)
 (retS (mVar 2))))
theorem run_law_models (F : Fun K "_law_models" "_law_models" s_law_models f fd) (z_range : mg "range" = none) (z_all : mg "all" = none) (z_any : mg "any" = none) (z_tuple : mg "tuple" = none) :
  FnOk P w K mg base CX0 1 f fd ["_law_variables", "_law_clauses"] (SpD K [false, false] (runF den_law_models 6 [false, false])) :=
 have nd := sc_law_models.nd
 fun_d (k := 0) F sc_law_models rfl (fun cdv A outer s H E H0 HK G0 L hr => by
  have hu := hu8 hr
  exact (s_cons (s_set (i := 2) (d_lst a_nil) nd)
   (s_cons (s_for (i_range1 z_range (a_cons (d_ix hu (d_lst (a_cons d_int (a_cons d_int (a_cons d_int (a_cons d_int (a_cons d_int (a_cons d_int a_nil))))))) (dv 0)) a_nil)) (g_name (i := 3) nd) (s_cons (s_set (i := 4) (d_lst a_nil) nd)
   (s_cons (s_for (i_range1 z_range (a_cons (dv 0) a_nil)) (g_name (i := 5) nd) (s_one (s_expr (d_append 4 (dv 4) (a_cons (d_mul (d_add (dv 5) d_int) (d_sub (d_mul d_int (d_mod (d_div (dv 3) (d_ix hu (d_lst (a_cons d_int (a_cons d_int (a_cons d_int (a_cons d_int (a_cons d_int a_nil)))))) (d_sub (d_sub (dv 0) d_int) (dv 5)))) d_int)) d_int)) a_nil)))))
   (s_one (s_if (t_tru (d_all rfl z_all (a_cons (d_comp (blkL [("_law_model", 4)] ⟨⟨rfl, rfl, .inl rfl⟩, trivial⟩) (i_seq (dv 1)) (fun _ _ _ _ _ _ _ _ _ => f_nil) (fun _ _ _ _ _ _ _ _ _ => (d_any rfl z_any (a_cons (d_comp (blkL [("_law_model", 1)] ⟨⟨rfl, rfl, .inl rfl⟩, trivial⟩) (i_seq (dv 0)) (fun _ _ _ _ _ _ _ _ _ => f_nil) (fun _ _ _ _ _ _ _ _ _ => (d_in' hu (dv 0) (dv 1)))) a_nil)))) a_nil))) (s_one (s_expr (d_append 2 (dv 2) (a_cons (d_tuple z_tuple (a_cons (dv 4) a_nil)) a_nil)))) s_nil)))))
   (s_one (s_ret (dv 2))))))
abbrev den_without : SM := (retS (mCB tupleD (mCons (mComp (mIter (mVar 0)) (tgN 0) (mTst (mBin neTD (mVar 0) (mVar 1))) (mVar 0) 1 [1]) mNil)))
theorem run_without (F : Fun K "without" "without" s_without f fd) (z_tuple : mg "tuple" = none) :
  FnOk P w K mg base CX0 1 f fd ["clause", "literal"] (SpD K [false, false] (runF den_without 2 [false, false])) :=
 have nd := sc_without.nd
 fun_d (k := 0) F sc_without rfl (fun cdv A outer s H E H0 HK G0 L hr => by
  have hu := hu8 hr
  exact (s_one (s_ret (d_tuple z_tuple (a_cons (d_comp (blkL [("literal", 1)] ⟨⟨rfl, rfl, .inl rfl⟩, trivial⟩) (i_seq (dv 0)) (fun _ _ _ _ _ _ _ _ _ => f_one (t_neX hu (dv 0) (dv 1))) (fun _ _ _ _ _ _ _ _ _ => (dv 0))) a_nil)))))
abbrev den_left_over : SM := (retS (mComp (mIter (mVar 0)) (tgN 0) (mTst (mBin notInD (mVar 1) (mVar 0))) (mCall [false, false] fm_without (mCons (mVar 0) (mCons (mUn negD (mVar 1)) mNil))) 1 [1]))
theorem run_left_over (F : Fun K "left_over" "left_over" s_left_over f fd)
  (h_without : Has P w K mg base 1 "without" ["clause", "literal"] (SpD K [false, false] fm_without)) :
  FnOk P w K mg base CX0 2 f fd ["clauses", "literal"] (SpD K [false, false] (runF den_left_over 2 [false, false])) :=
 have nd := sc_left_over.nd
 fun_d (k := 1) F sc_left_over rfl (fun cdv A outer s H E H0 HK G0 L hr => by
  have hu := hu8 hr
  exact (s_one (s_ret (d_comp (blkL [("literal", 1)] ⟨⟨rfl, rfl, .inl rfl⟩, trivial⟩) (i_seq (dv 0)) (fun _ _ _ _ _ _ _ _ _ => f_one (t_notIn hu (dv 1) (dv 0))) (fun _ _ _ _ _ _ _ _ _ => (d_call h_without (hr.mono (by decide)) (a_cons (dv 0) (a_cons (d_neg (dv 1)) a_nil))))))))
abbrev lp_ways_0 : SM := (augM 1 (mC (.int 2)))
abbrev den_ways : SM := (seqS (setS 1 (mC (.int 1)))
 (seqS (forS (mRng ints1 (mCons (mVar 0) mNil)) (tgN 2) lp_ways_0)
 (retS (mVar 1))))
theorem run_ways (F : Fun K "ways" "ways" s_ways f fd) (z_range : mg "range" = none) :
  FnOk P w K mg base CX0 1 f fd ["variables"] (SpD K [false] (runF den_ways 3 [false])) :=
 have nd := sc_ways.nd
 fun_d (k := 0) F sc_ways rfl (fun cdv A outer s H E H0 HK G0 L hr => by
  have hu := hu8 hr
  exact (s_cons (s_set (i := 1) d_int nd)
   (s_cons (s_for (i_range1 z_range (a_cons (dv 0) a_nil)) (g_name (i := 2) nd) (s_one (s_augmul (i := 1) d_int nd)))
   (s_one (s_ret (dv 1))))))
abbrev den_counted (n : Nat) : SM := (seqS (ifS (mTst (mBin inD (mTup mNil) (mVar 1))) (retS (mC (.int 0))) nxS)
 (seqS (ifS (mTst (mBin eqTD (mVar 1) (mLst mNil))) (retS (mCall [false] fm_ways (mCons (mVar 0) mNil))) nxS)
 (seqS (setS 2 (mBin ixD (mCB minlenD (mCons (mVar 1) mNil)) (mC (.int 0))))
 (seqS (setS 3 (mBin subD (mVar 0) (mC (.int 1))))
 (retS (mBin addD (mCall [false, false] (fmR_counted n) (mCons (mVar 3) (mCons (mCall [false, false] fm_left_over (mCons (mVar 1) (mCons (mVar 2) mNil))) mNil))) (mCall [false, false] (fmR_counted n) (mCons (mVar 3) (mCons (mCall [false, false] fm_left_over (mCons (mVar 1) (mCons (mUn negD (mVar 2)) mNil))) mNil)))))))))
theorem run_counted (n : Nat) (F : Fun K "counted" "counted" s_counted f fd) (z_min : mg "min" = none) (z_len : mg "len" = none)
  (h_ways : Has P w K mg base 1 "ways" ["variables"] (SpD K [false] fm_ways))
  (h_counted : Has P w K mg base (2 + n) "counted" ["variables", "clauses"] (SpD K [false, false] (fmR_counted n)))
  (h_left_over : Has P w K mg base 2 "left_over" ["clauses", "literal"] (SpD K [false, false] fm_left_over)) :
  FnOk P w K mg base CX0 (2 + n + 1) f fd ["variables", "clauses"] (SpD K [false, false] (runF (den_counted n) 4 [false, false])) :=
 have nd := sc_counted.nd
 fun_d (k := 2 + n) F sc_counted rfl (fun cdv A outer s H E H0 HK G0 L hr => by
  have hu := hu8 hr
  exact (s_cons (s_if (t_in hu (d_tup a_nil) (dv 1)) (s_one (s_ret d_int)) s_nil)
   (s_cons (s_if (t_eqX hu (dv 1) (d_lst a_nil)) (s_one (s_ret (d_call h_ways (hr.mono (by omega)) (a_cons (dv 0) a_nil)))) s_nil)
   (s_cons (s_set (i := 2) (d_ix hu (d_minlen rfl z_min z_len (a_cons (dv 1) a_nil)) d_int) nd)
   (s_cons (s_set (i := 3) (d_sub (dv 0) d_int) nd)
   (s_one (s_ret (d_add (d_call h_counted (hr.mono (by omega)) (a_cons (dv 3) (a_cons (d_call h_left_over (hr.mono (by omega)) (a_cons (dv 1) (a_cons (dv 2) a_nil))) a_nil))) (d_call h_counted (hr.mono (by omega)) (a_cons (dv 3) (a_cons (d_call h_left_over (hr.mono (by omega)) (a_cons (dv 1) (a_cons (d_neg (dv 2)) a_nil))) a_nil)))))))))))
abbrev lp_law_0 : SM := (seqS (setS 8 (mCB tupleD (mCons (mComp (mIter (mVar 7)) (tgN 0) mYes (mBin addD (mVar 0) (mBin mulD (mVar 1) (mBin subD (mC (.int 1)) (mBin mulD (mC (.int 2)) (mCB intD (mCons (mBin (cmpI fun i j => decide (i < j)) (mVar 0) (mC (.int 0))) mNil)))))) 1 [1]) mNil)))
 (dropS (mInsert 2 (mCons (mBin modD (mCall [false, false] fm_law_mix (mCons (mVar 0) (mCons (mBin addD (mC (.int 50)) (mVar 4)) mNil))) (mBin addD (mCB lenD (mCons (mVar 2) mNil)) (mC (.int 1)))) (mCons (mVar 8) mNil)))))
abbrev lp_law_1 : SM := (seqS (setS 5 (mBin addD (mC (.int 1)) (mBin modD (mCall [false, false] fm_law_mix (mCons (mVar 0) (mCons (mBin addD (mC (.int 1)) (mVar 4)) mNil))) (mC (.int 3)))))
 (ifS (mTst (mBin (cmpI fun i j => decide (i ≤ j)) (mBin addD (mVar 1) (mVar 5)) (mC (.int 12)))) (seqS (setS 6 (mComp (mRng ints1 (mCons (mBin modD (mCall [false, false] fm_law_mix (mCons (mVar 0) (mCons (mBin addD (mC (.int 40)) (mVar 4)) mNil))) (mC (.int 4))) mNil)) (tgN 0) mYes (mCall [false, false, false, false] fm_law_clause (mCons (mVar 1) (mCons (mBin addD (mBin addD (mC (.int 6)) (mBin mulD (mC (.int 17)) (mVar 2))) (mBin mulD (mC (.int 5)) (mVar 0))) (mCons (mVar 3) (mCons (mC (.int 3)) mNil))))) 1 [0, 4, 5]))
 (seqS (setS 3 (mBin mulD (mVar 3) (mCB lenD (mCons (mCall [false, false] fm_law_models (mCons (mVar 5) (mCons (mVar 6) mNil))) mNil))))
 (seqS (forS (mIter (mVar 6)) (tgN 7) lp_law_0)
 (setS 1 (mBin addD (mVar 1) (mVar 5)))))) nxS))
abbrev lp_law_2 : SM := (setS 3 (mBin mulD (mC (.int 2)) (mVar 3)))
abbrev den_law : SM := (seqS (setS 1 (mC (.int 0)))
 (seqS (setS 2 (mLst mNil))
 (seqS (setS 3 (mC (.int 1)))
 (seqS (forS (mRng ints1 (mCons (mBin modD (mCall [false, false] fm_law_mix (mCons (mVar 0) (mCons (mC (.int 0)) mNil))) (mC (.int 5))) mNil)) (tgN 4) lp_law_1)
 (seqS (setS 9 (mBin modD (mCall [false, false] fm_law_mix (mCons (mVar 0) (mCons (mC (.int 60)) mNil))) (mBin subD (mC (.int 13)) (mVar 1))))
 (seqS (forS (mRng ints1 (mCons (mVar 9) mNil)) (tgN 4) lp_law_2)
 (seqS (setS 10 (mCall [false, false] fm_counted (mCons (mBin addD (mVar 1) (mVar 9)) (mCons (mCB listD (mCons (mVar 2) mNil)) mNil))))
 (retS (mAndV (mCall [false] fm_law_whole (mCons (mVar 10) mNil)) (mBin eqTD (mVar 10) (mVar 3)))))))))))
theorem run_law (F : Fun K "law" "law" s_law f fd) (z_range : mg "range" = none) (z_list : mg "list" = none) (z_len : mg "len" = none) (z_tuple : mg "tuple" = none) (z_int : mg "int" = none)
  (h_counted : Has P w K mg base 17 "counted" ["variables", "clauses"] (SpD K [false, false] fm_counted))
  (h_law_mix : Has P w K mg base 2 "_law_mix" ["_law_script", "_law_k"] (SpD K [false, false] fm_law_mix))
  (h_law_whole : Has P w K mg base 1 "_law_whole" ["_law_found"] (SpD K [false] fm_law_whole))
  (h_law_clause : Has P w K mg base 3 "_law_clause" ["_law_script", "_law_base", "_law_variables", "_law_most"] (SpD K [false, false, false, false] fm_law_clause))
  (h_law_models : Has P w K mg base 1 "_law_models" ["_law_variables", "_law_clauses"] (SpD K [false, false] fm_law_models)) :
  FnOk P w K mg base CX0 18 f fd ["_law_script"] (SpD K [false] (runF den_law 11 [false])) :=
 have nd := sc_law.nd
 fun_d (k := 17) F sc_law rfl (fun cdv A outer s H E H0 HK G0 L hr => by
  have hu := hu8 hr
  exact (s_cons (s_set (i := 1) d_int nd)
   (s_cons (s_set (i := 2) (d_lst a_nil) nd)
   (s_cons (s_set (i := 3) d_int nd)
   (s_cons (s_for (i_range1 z_range (a_cons (d_mod (d_call h_law_mix (hr.mono (by decide)) (a_cons (dv 0) (a_cons d_int a_nil))) d_int) a_nil)) (g_name (i := 4) nd) (s_cons (s_set (i := 5) (d_add d_int (d_mod (d_call h_law_mix (hr.mono (by decide)) (a_cons (dv 0) (a_cons (d_add d_int (dv 4)) a_nil))) d_int)) nd)
   (s_one (s_if (t_le (d_add (dv 1) (dv 5)) d_int) (s_cons (s_setc (i := 6) (blkL [("_law_script", 0), ("_law_k", 4), ("_law_size", 5)] ⟨⟨rfl, rfl, .inl rfl⟩, ⟨⟨rfl, rfl, .inl rfl⟩, ⟨⟨rfl, rfl, .inl rfl⟩, trivial⟩⟩⟩) nd (i_range1 z_range (a_cons (d_mod (d_call h_law_mix (hr.mono (by decide)) (a_cons (dv 0) (a_cons (d_add d_int (dv 4)) a_nil))) d_int) a_nil)) (fun _ _ _ _ _ _ _ _ _ => f_nil) (fun _ _ _ _ _ _ _ _ _ => (d_call h_law_clause (hr.mono (by decide)) (a_cons (dv 1) (a_cons (d_add (d_add d_int (d_mul d_int (dv 2))) (d_mul d_int (dv 0))) (a_cons (dv 3) (a_cons d_int a_nil)))))))
   (s_cons (s_set (i := 3) (d_mul (dv 3) (d_len z_len (a_cons (d_call h_law_models (hr.mono (by decide)) (a_cons (dv 5) (a_cons (dv 6) a_nil))) a_nil))) nd)
   (s_cons (s_for (i_seq (dv 6)) (g_name (i := 7) nd) (s_cons (s_set (i := 8) (d_tuple z_tuple (a_cons (d_comp (blkL [("_law_used", 1)] ⟨⟨rfl, rfl, .inl rfl⟩, trivial⟩) (i_seq (dv 7)) (fun _ _ _ _ _ _ _ _ _ => f_nil) (fun _ _ _ _ _ _ _ _ _ => (d_add (dv 0) (d_mul (dv 1) (d_sub d_int (d_mul d_int (d_int' z_int (a_cons (d_lt (dv 0) d_int) a_nil)))))))) a_nil)) nd)
   (s_one (s_expr (d_insert 2 (dv 2) (a_cons (d_mod (d_call h_law_mix (hr.mono (by decide)) (a_cons (dv 0) (a_cons (d_add d_int (dv 4)) a_nil))) (d_add (d_len z_len (a_cons (dv 2) a_nil)) d_int)) (a_cons (dv 8) a_nil)))))))
   (s_one (s_set (i := 1) (d_add (dv 1) (dv 5)) nd))))) s_nil))))
   (s_cons (s_set (i := 9) (d_mod (d_call h_law_mix (hr.mono (by decide)) (a_cons (dv 0) (a_cons d_int a_nil))) (d_sub d_int (dv 1))) nd)
   (s_cons (s_for (i_range1 z_range (a_cons (dv 9) a_nil)) (g_name (i := 4) nd) (s_one (s_set (i := 3) (d_mul d_int (dv 3)) nd)))
   (s_cons (s_set (i := 10) (d_call h_counted (hr.mono (by decide)) (a_cons (d_add (dv 1) (dv 9)) (a_cons (d_list rfl z_list (a_cons (dv 2) a_nil)) a_nil))) nd)
   (s_one (s_ret (d_and (d_call h_law_whole (hr.mono (by decide)) (a_cons (dv 10) a_nil)) (d_one (d_eqX hu (dv 10) (dv 3))))))))))))))
end
theorem op_ixD {a b : D} {w : W} (h : ixD a b = some w) : ixD a b = some w := h
theorem op_eqTD {a b : D} {w : W} (h : eqTD a b = some w) : eqTD a b = some w := h
theorem op_neTD {a b : D} {w : W} (h : neTD a b = some w) : neTD a b = some w := h
theorem op_inD {a b : D} {w : W} (h : inD a b = some w) : inD a b = some w := h
theorem op_notInD {a b : D} {w : W} (h : notInD a b = some w) : notInD a b = some w := h
theorem ev_dct0 {ρ : Env'} : mDct0 ρ = some (.ok (.own (.dct [])) ρ) := rfl
theorem ev_to {s1 : SM} {ρ ρ1 ρ2 : Env'} (h : s1 ρ = some (.nx ρ1)) (e : ρ1 = ρ2) : s1 ρ = some (.nx ρ2) := e ▸ h
local macro_rules | `(tactic| walk_at "op") => `(tactic| first
  | with_reducible assumption
  | (with_reducible apply op_modD
     · first | decide | omega | assumption)
  | (with_reducible apply op_divD
     · first | exact ⟨by decide, by decide⟩ | assumption | exact ⟨by omega, by omega⟩)
  | (with_reducible apply op_mulD
     · first | exact .inl ⟨by decide, by decide⟩ | exact .inr ⟨by decide, by decide⟩ | assumption | exact .inl ⟨by omega, by omega⟩ | exact .inr ⟨by omega, by omega⟩)
  | (with_reducible apply op_ixD
     · first | assumption | rfl)
  | (with_reducible apply op_eqTD
     · first | assumption | rfl)
  | (with_reducible apply op_neTD
     · first | assumption | rfl)
  | (with_reducible apply op_inD
     · first | assumption | rfl)
  | (with_reducible apply op_notInD
     · first | assumption | rfl)
  | rfl
  | assumption)
local macro_rules | `(tactic| walk_at "ev") => `(tactic| first
  | with_reducible assumption
  | with_reducible exact ev_C
  | with_reducible exact ev_nil
  | with_reducible exact ev_dct0
  | with_reducible exact ev_nx
  | (with_reducible apply ev_to ev_nx
     · rfl)
  | (with_reducible apply ev_var
     · rfl)
  | (with_reducible apply ev_cons
     · walk_at "ev"
     · walk_at "ev")
  | (with_reducible apply ev_bin
     · walk_at "ev"
     · walk_at "ev"
     · rfl
     · rfl
     · walk_at "op")
  | (with_reducible apply ev_un
     · walk_at "ev"
     · rfl
     · walk_at "op")
  | (with_reducible apply ev_CB
     · walk_at "ev"
     · rfl
     · walk_at "op")
  | (with_reducible apply ev_call0
     · walk_at "ev"
     · rfl
     · rfl
     · walk_at "fm"
     · rfl
     · rfl)
  | (with_reducible apply ev_tst
     · walk_at "ev")
  | (with_reducible apply ev_tru
     · walk_at "ev"
     · rfl
     · walk_at "op")
  | (with_reducible apply ev_set
     · walk_at "ev"
     · rfl)
  | (with_reducible apply ev_ret
     · walk_at "ev"
     · rfl)
  | (with_reducible apply ev_drop
     · walk_at "ev")
  | (with_reducible apply ev_lst
     · walk_at "ev"
     · rfl
     · first | assumption | exact Nat.le_of_ble_eq_true rfl)
  | (with_reducible apply ev_tup
     · walk_at "ev"
     · rfl
     · first | assumption | exact Nat.le_of_ble_eq_true rfl)
  | (with_reducible apply ev_seq
     · walk_at "ev"
     · walk_at "ev")
  | (with_reducible apply ev_not
     · walk_at "ev")
  | (with_reducible apply ev_notV
     · walk_at "ev"
     · rfl)
  | (with_reducible apply ev_put
     · walk_at "ev"
     · rfl
     · walk_at "ev"
     · rfl
     · rfl
     · walk_at "fm")
  | (with_reducible apply ev_get1
     · walk_at "ev"
     · rfl
     · walk_at "ev"
     · rfl
     · rfl
     · rfl)
  | (with_reducible apply ev_get2
     · walk_at "ev"
     · rfl
     · walk_at "ev"
     · walk_at "ev"
     · rfl
     · rfl
     · rfl
     · rfl)
  | (with_reducible apply ev_append
     · rfl
     · walk_at "ev"
     · rfl
     · rfl
     · walk_at "fm")
  | (with_reducible apply ev_for
     · walk_at "ev"
     · walk_at "fm")
  | (with_reducible apply ev_rng
     · walk_at "ev"
     · rfl
     · walk_at "op")
  | (with_reducible apply ev_iter
     · walk_at "ev"
     · rfl
     · rfl)
  | (with_reducible apply ev_call
     · walk_at "ev"
     · rfl
     · rfl
     · walk_at "fm"
     · rfl
     · first | rfl | assumption)
  | (with_reducible apply ev_andVT
     · walk_at "ev"
     · rfl
     · rfl
     · walk_at "ev")
  | (with_reducible apply ev_and
     · walk_at "ev"
     · walk_at "ev")
  | (with_reducible apply ev_or
     · walk_at "ev"
     · walk_at "ev")
  | (with_reducible apply ev_mt
     · walk_at "ev"
     · rfl
     · rfl
     · walk_at "ev"
     · rfl
     · rfl
     · walk_at "op")
  | with_reducible exact ev_no
  | (with_reducible apply ev_part
     · walk_at "ev"
     · rfl)
  | (with_reducible apply ev_sl
     · walk_at "ev"
     · walk_at "ev"
     · walk_at "ev"
     · rfl
     · walk_at "op")
  | (with_reducible apply ev_comp
     · walk_at "ev"
     · walk_at "fm"
     · walk_at "fm"
     · first | exact .inr rfl | exact .inl (by assumption)))
theorem intsOf_map (ns : List Int) : intsOf (ns.map D.int) = some ns := by
 induction ns with
 | nil => rfl
 | cons n r ih => simp [intsOf, ih]
theorem atI_map {α β : Type} (f : α → β) (xs : List α) (i : Int) : L2.atI (xs.map f) i = (L2.atI xs i).map f := by
 unfold L2.atI
 rw [List.length_map]
 cases ixN xs.length i with
 | none => rfl
 | some j => simp
theorem cell_atN {ns : List Int} {k : Int} (h : ns ≠ []) : L2.atI ns (k % (ns.length : Int)) = some (cellV ns k) := by
 have q := cell_at (ns := ns) (k := k) h
 rw [atI_map, List.length_map] at q
 cases e : L2.atI ns (k % (ns.length : Int)) with
 | none => rw [e] at q; cases q
 | some v =>
  rw [e] at q
  have : V.int v = V.int (cellV ns k) := Option.some.inj q
  injection this with z
  rw [z]
theorem all_flat_ints (ns : List Int) : (ns.map D.int).all flatD = true := by
 rw [List.all_map, List.all_eq_true]
 intro x _
 rfl
theorem fe_cell {ns : List Int} {k : Int} : fm_law_cell [.lst (ns.map D.int), .int k] = some (.ret (.val (.int (cellV ns k))) []) := by
 show (intsOf (ns.map D.int)).map _ = _
 rw [intsOf_map]
 rfl
theorem fe_mix {ns : List Int} {k : Int} : fm_law_mix [.lst (ns.map D.int), .int k] = some (.ret (.val (.int (mixV ns k))) []) := by
 show (intsOf (ns.map D.int)).map _ = _
 rw [intsOf_map]
 rfl
local macro_rules | `(tactic| walk_at "fm") => `(tactic| first | assumption | exact fe_cell | exact fe_mix | rfl)
theorem spec_law_cell : ∀ ds r, fm_law_cell ds = some r → runF den_law_cell 2 [false, false] ds = some r := by
 intro ds r h
 match ds, h with
 | [.lst ds, .int k], h =>
  cases hb : intsOf ds with
  | none => simp [fm_law_cell, hb] at h
  | some ns =>
   have := intsOf_eq hb
   subst this
   rw [fe_cell] at h
   cases h
   cases ns with
   | nil => rfl
   | cons n r =>
    have q : ixD (.lst ((n :: r).map D.int)) (.int (k % ((((n :: r).map D.int).length : Nat) : Int))) = some (.val (.int (cellV (n :: r) k))) := by
     show (L2.atI _ _).map _ = _
     rw [List.length_map, atI_map, cell_atN (by simp)]
     rfl
    have hp : (0 : Int) < ((((n :: r).map D.int).length : Nat) : Int) := by simp
    apply run_of
    ·apply ev_seqR
     apply ev_ifT
     ·walk_at "ev"
     ·rfl
     ·walk_at "ev"
    ·rfl
theorem spec_law_mix : ∀ ds r, fm_law_mix ds = some r → runF den_law_mix 3 [false, false] ds = some r := by
 intro ds r h
 match ds, h with
 | [.lst ds, .int k], h =>
  cases hb : intsOf ds with
  | none => simp [fm_law_mix, hb] at h
  | some ns =>
   have := intsOf_eq hb
   subst this
   rw [fe_mix] at h
   cases h
   apply run_of
   ·walk_at "ev"
   ·rfl
theorem spec_law_whole : ∀ ds r, fm_law_whole ds = some r → runF den_law_whole 1 [false] ds = some r := by
 intro ds r h
 match ds, h with
 | [d], h =>
  obtain ⟨hn, h⟩ := grd_some h
  cases h
  cases d <;> first | rfl | cases hn
theorem fe_whole {d : D} (h : noTy d = true) : fm_law_whole [d] = some (.ret (.val (.bl (isWholeD d))) []) := grd_pos h
def toI : D → Int
 | .int i => i
 | _ => 0
theorem size_at (m x most : Int) (hx : x = m / 6 % (most + 1)) : ixD (.lst [.int 1, .int 2, .int 3, .int 2, .int 3, .int x]) (.int (m % 6)) = some (.val (.int (sizeV m most))) := by
 have h : m % 6 = 0 ∨ m % 6 = 1 ∨ m % 6 = 2 ∨ m % 6 = 3 ∨ m % 6 = 4 ∨ m % 6 = 5 := by omega
 unfold sizeV
 subst hx
 rcases h with h | h | h | h | h | h <;> rw [h] <;> rfl
theorem size_lo (m most : Int) (h : 0 ≤ most) : 0 ≤ sizeV m most := by
 unfold sizeV
 have := Int.emod_nonneg (m / 6) (b := most + 1) (by omega)
 split <;> (try split) <;> (try split) <;> (try split) <;> (try split) <;> omega
theorem size_hi (m most : Int) (h : 0 ≤ most) : sizeV m most ≤ most + 3 := by
 unfold sizeV
 have := Int.emod_lt_of_pos (m / 6) (b := most + 1) (by omega)
 split <;> (try split) <;> (try split) <;> (try split) <;> (try split) <;> omega
theorem fe_clause {ns : List Int} {b v most : Int} (h1 : 0 < v) (h2 : v < 1000) (h3 : 0 ≤ most) (h4 : most < 1000) : fm_law_clause [.lst (ns.map D.int), .int b, .int v, .int most] = some (.ret (.val (.tup ((clauseV ns b v most).map D.int))) []) := by
 show (intsOf (ns.map D.int)).bind _ = _
 rw [intsOf_map]
 exact grd_pos ⟨h1, h2, h3, h4⟩
def clauseG (ns : List Int) (b v most : Int) (n sz : Int) (pre : List D) : Env' := [some (.sh (.lst (ns.map D.int))), some (.sh (.int b)), some (.sh (.int v)), some (.sh (.int most)), some (.sh (.int n)), some (.sh (.int sz)),
 some (.ow false (.lst (pre.map fun d => D.int (litV (mixV ns (b + 1 + toI d)) v)))), pre.getLast?.map fun d => C.sh d, pre.getLast?.map fun d => C.sh (.int (mixV ns (b + 1 + toI d)))]
theorem spec_law_clause : ∀ ds r, fm_law_clause ds = some r → runF den_law_clause 9 [false, false, false, false] ds = some r := by
 intro ds r h
 match ds, h with
 | [.lst ds, .int b, .int v, .int most], h =>
  cases hb : intsOf ds with
  | none => simp [fm_law_clause, hb] at h
  | some ns =>
   have := intsOf_eq hb
   subst this
   have h' : (intsOf (ns.map D.int)).bind _ = some r := h
   rw [intsOf_map] at h'
   obtain ⟨⟨h1, h2, h3, h4⟩, _⟩ := grd_some h'
   rw [fe_clause h1 h2 h3 h4] at h
   cases h
   have hsz := size_at (mixV ns b) (mixV ns b / 6 % (most + 1)) most rfl
   have hlo := size_lo (mixV ns b) most h3
   have hhi := size_hi (mixV ns b) most h3
   generalize hS : sizeV (mixV ns b) most = S at hsz hlo hhi
   have hi : ints1 [.int S] = some ((List.range S.toNat).map fun k => D.int (0 + ((k : Nat) : Int))) := grd_pos ⟨by omega, by omega⟩
   have hl := forL_fold (ds := (List.range S.toNat).map fun k => D.int (0 + ((k : Nat) : Int))) (tg := tgN 7) (s1 := (seqS (setS 8 (mCall [false, false] fm_law_mix (mCons (mVar 0) (mCons (mBin addD (mBin addD (mVar 1) (mC (.int 1))) (mVar 7)) mNil))))
 (dropS (mAppend 6 (mCons (mBin mulD (mBin addD (mC (.int 1)) (mBin modD (mBin divD (mVar 8) (mC (.int 2))) (mVar 2))) (mBin subD (mC (.int 1)) (mBin mulD (mC (.int 2)) (mBin modD (mVar 8) (mC (.int 2)))))) mNil))))) (clauseG ns b v most (mixV ns b) S) (by
    intro pre d post e
    have hd : d ∈ ((List.range S.toNat).map fun k => D.int (0 + ((k : Nat) : Int))) := by rw [e]; simp
    obtain ⟨k, _, rfl⟩ := List.mem_map.mp hd
    have hz : small (pre.map fun d => D.int (litV (mixV ns (b + 1 + toI d)) v)).length := by
     have := congrArg List.length e
     simp at this
     show List.length _ ≤ 1000000
     rw [List.length_map]
     omega
    refine ⟨_, rfl, .inl ?_⟩
    apply ev_to
    ·walk_at "ev"
    ·simp [clauseG, litV, toI])
   apply run_of
   ·walk_at "ev"
   ·simp [clauseG, outS, finsOf, clauseV, hS, toI, Function.comp_def]
local macro_rules | `(tactic| walk_at "fm") => `(tactic| first | assumption | exact fe_cell | exact fe_mix | rfl)
theorem small_of {n : Nat} (h : n ≤ 100000) : small n := by unfold small; omega
theorem inL_ints (l : Int) (acc : List Int) : inL (.int l) (acc.map D.int) = some (decide (l ∈ acc)) := by
 induction acc with
 | nil => rfl
 | cons a r ih =>
  show (match eqD 7 (.int a) (.int l), inL (.int l) (r.map D.int) with | some a, some b => some (a || b) | _, _ => none) = _
  rw [ih]
  show some ((a == l) || decide (l ∈ r)) = _
  by_cases h : l = a
  ·simp [h]
  ·have h' : ¬ a = l := fun e => h e.symm
   simp [h, h']
theorem in_lst (l : Int) (c : List Int) : inD (.int l) (.lst (c.map D.int)) = some (.val (.bl (decide (l ∈ c)))) := by
 show (inL (.int l) (c.map D.int)).bind _ = _
 rw [inL_ints]
 rfl
theorem nin_tup (l : Int) (c : List Int) : notInD (.int l) (.tup (c.map D.int)) = some (.val (.bl (!decide (l ∈ c)))) := by
 show (inL (.int l) (c.map D.int)).bind _ = _
 rw [inL_ints]
 rfl
theorem bls_bl (bs : List Bool) : blsOf (bs.map D.bl) = some bs := by
 induction bs with
 | nil => rfl
 | cons b r ih =>
  show (blsOf (r.map D.bl)).map _ = _
  rw [ih]
  rfl
theorem all_bls (bs : List Bool) : allD [.lst (bs.map D.bl)] = some (.val (.bl (bs.all id))) := by
 show (blsOf _).bind _ = _
 rw [bls_bl]
 rfl
theorem any_bls (bs : List Bool) : anyD [.lst (bs.map D.bl)] = some (.val (.bl (bs.any id))) := by
 show (blsOf _).bind _ = _
 rw [bls_bl]
 rfl
theorem flat_bls (bs : List Bool) : (bs.map D.bl).all flatD = true := by
 rw [List.all_map, List.all_eq_true]
 intro x _
 rfl
theorem ev_appD {i : Nat} {mr : M (List W)} {w : W} {d : D} {ds : List D} {ρ ρ1 ρ2 ρ3 : Env'} {l : Bool} {ds0 : List D} (h0 : ρ[i]? = some (some (.ow l (.lst ds0)))) (ha : mr ρ = some (.ok [w] ρ1)) (hl : leak w ρ1 = some (.ok d ρ2)) (h1 : ρ2[i]? = some (some (.ow l (.lst ds)))) (hz : small ds.length) (hs : ρ2.set i (some (.ow l (.lst (ds ++ [d])))) = ρ3) : dropS (mAppend i mr) ρ = some (.nx ρ3) := by
 subst hs
 exact ev_drop (ev_append h0 ha hl h1 hz)
theorem eq_int (a b : Int) : eqTD (.int a) (.int b) = some (.val (.bl (decide (a = b)))) := by
 show some (W.val (.bl (a == b))) = _
 by_cases h : a = b <;> simp [h]
theorem ne_int (a b : Int) : neTD (.int a) (.int b) = some (.val (.bl (!decide (a = b)))) := by
 show some (W.val (.bl (!(a == b)))) = _
 by_cases h : a = b <;> simp [h]
section
variable {tg : FT} {mt : M Bool} {me : M W} {ρ ρ1 ρ2 ρ3 ρ4 : Env'} {d y : D} {w : W}
theorem turn_if {k : Bool} (h1 : tg d ρ = some ρ1) (h2 : mt ρ1 = some (.ok k ρ2)) (h3 : k = true → ∃ w ρ3 ρ4, me ρ2 = some (.ok w ρ3) ∧ leak w ρ3 = some (.ok y ρ4)) : compTurn tg mt me ρ d = some (if k = true then some y else none) := by
 cases k with
 | true =>
  obtain ⟨w, ρ3, ρ4, a, b⟩ := h3 rfl
  exact turn_yes h1 h2 a b
 | false => exact turn_no h1 h2
theorem comp_over {α : Type} {f g : α → D} {t : α → Bool} {xs : List α} (h : ∀ x ∈ xs, compTurn tg mt me ρ (f x) = some (if t x = true then some (g x) else none)) : compL tg mt me ρ (xs.map f) = some ((xs.filter t).map g) := by
 induction xs with
 | nil => rfl
 | cons x r ih =>
  have h1 := h x List.mem_cons_self
  have ih := ih fun y hy => h y (List.mem_cons_of_mem _ hy)
  rw [List.map_cons]
  unfold compL
  rw [h1]
  cases hx : t x with
  | true => rw [List.filter_cons_of_pos hx, ih]; rfl
  | false => rw [List.filter_cons_of_neg (by rw [hx]; decide), ih]; rfl
theorem comp_all {α : Type} {f g : α → D} {xs : List α} (h : ∀ x ∈ xs, ∃ ρ1 w ρ2 ρ3, tg (f x) ρ = some ρ1 ∧ me ρ1 = some (.ok w ρ2) ∧ leak w ρ2 = some (.ok (g x) ρ3)) : compL tg mYes me ρ (xs.map f) = some (xs.map g) := by
 have := comp_over (tg := tg) (mt := mYes) (me := me) (ρ := ρ) (f := f) (g := g) (t := fun _ => true) (xs := xs) (fun x hx => by
  obtain ⟨ρ1, w, ρ2, ρ3, a, b, c⟩ := h x hx
  exact turn_yes a rfl b c)
 rw [this, List.filter_eq_self.mpr (fun _ _ => rfl)]
end
theorem comp_in (O tr : List Int) : compL (tgN 0) mYes (mBin inD (mVar 0) (mVar 1)) [none, some (.sh (.lst (tr.map D.int)))] (O.map D.int) = some ((O.map fun l => decide (l ∈ tr)).map D.bl) := by
 rw [List.map_map]
 exact comp_all fun l _ => ⟨_, _, _, _, rfl, ev_bin (ev_var rfl) (ev_var rfl) rfl rfl (in_lst l tr), rfl⟩
theorem clsD_len (cs : List (List Int)) : (clsD cs).length = cs.length := List.length_map _
theorem flat_tupI (c : List Int) : flatD (.tup (c.map D.int)) = true := by
 show (c.map D.int).all (flatN 5) = true
 rw [List.all_map, List.all_eq_true]
 intro x _
 rfl
theorem flat_cls (cs : List (List Int)) : (clsD cs).all flatD = true := by
 unfold clsD
 rw [List.all_map, List.all_eq_true]
 intro c _
 exact flat_tupI c
theorem flat_ownC (cs : List (List Int)) : (flatW (.own (.lst (clsD cs))) && ([] : List D).all flatO) = true := by
 show ((clsD cs).all _ && true) = true
 rw [Bool.and_true]
 unfold clsD
 rw [List.all_map, List.all_eq_true]
 intro c _
 exact flat_tupI c
theorem eqD_int1 (n : Nat) (a b : Int) : eqD n (.int a) (.int b) = some (decide (a = b)) := by
 have : eqF (.int a) (.int b) = some (decide (a = b)) := by
  show some (a == b) = _
  by_cases h : a = b <;> simp [h]
 cases n <;> exact this
theorem eqL_ints2 (n : Nat) : ∀ a b : List Int, eqL (eqD n) (a.map D.int) (b.map D.int) = some (decide (a = b))
 | [], [] => by simp [eqL]
 | [], _ :: _ => by simp [eqL]
 | _ :: _, [] => by simp [eqL]
 | x :: r, y :: t => by
  show (match eqD n (.int x) (.int y), eqL (eqD n) (r.map D.int) (t.map D.int) with | some a, some b => some (a && b) | _, _ => none) = _
  rw [eqD_int1, eqL_ints2 n r t]
  by_cases h1 : x = y <;> by_cases h2 : r = t <;> simp [h1, h2]
theorem eqL_cls (n : Nat) : ∀ a b : List (List Int), eqL (eqD (n + 1)) (clsD a) (clsD b) = some (decide (a = b))
 | [], [] => by simp [eqL, clsD]
 | [], _ :: _ => by simp [eqL, clsD]
 | _ :: _, [] => by simp [eqL, clsD]
 | x :: r, y :: t => by
  show (match eqL (eqD n) (x.map D.int) (y.map D.int), eqL (eqD (n + 1)) (clsD r) (clsD t) with | some a, some b => some (a && b) | _, _ => none) = _
  rw [eqL_ints2, eqL_cls n r t]
  by_cases h1 : x = y <;> by_cases h2 : r = t <;> simp [h1, h2]
theorem eq_cls (a b : List (List Int)) : eqTD (.lst (clsD a)) (.lst (clsD b)) = some (.val (.bl (decide (a = b)))) := by
 show (eqL (eqD 7) (clsD a) (clsD b)).bind _ = _
 rw [eqL_cls]
 rfl
theorem clsOf_eq : ∀ {ds : List D} {cs : List (List Int)}, clsOf ds = some cs → ds = clsD cs
 | [], cs, h => by cases h; rfl
 | .tup ds :: r, cs, h => by
  have h' : (intsOf ds).bind (fun c => (clsOf r).map (c :: ·)) = some cs := h
  cases hc : intsOf ds with
  | none => rw [hc] at h'; cases h'
  | some c =>
   rw [hc] at h'
   obtain ⟨cs2, h2, rfl⟩ := Option.map_eq_some_iff.mp (show (clsOf r).map (c :: ·) = some cs from h')
   rw [clsOf_eq h2, intsOf_eq hc]
   rfl
 | .non :: r, cs, h => by simp [clsOf] at h
 | .bl _ :: r, cs, h => by simp [clsOf] at h
 | .int _ :: r, cs, h => by simp [clsOf] at h
 | .str _ :: r, cs, h => by simp [clsOf] at h
 | .ty _ :: r, cs, h => by simp [clsOf] at h
 | .lst _ :: r, cs, h => by simp [clsOf] at h
 | .dct _ :: r, cs, h => by simp [clsOf] at h
theorem clsOf_map (cs : List (List Int)) : clsOf (clsD cs) = some cs := by
 induction cs with
 | nil => rfl
 | cons c r ih =>
  show (intsOf (c.map D.int)).bind (fun c => (clsOf (clsD r)).map (c :: ·)) = _
  rw [intsOf_map]
  show (clsOf (clsD r)).map (c :: ·) = _
  rw [ih]
  rfl
theorem cls_cases {v : Int} (h1 : 0 < v) (h2 : v ≤ 4) : v = 1 ∨ v = 2 ∨ v = 3 ∨ v = 4 := by omega
theorem cnt_at {v : Int} (h1 : 0 < v) (h2 : v ≤ 4) : ixD (.lst [.int 1, .int 2, .int 4, .int 8, .int 16, .int 32]) (.int v) = some (.val (.int (cntV v : Nat))) := by
 rcases cls_cases h1 h2 with rfl | rfl | rfl | rfl <;> rfl
theorem pw_at {j : Int} (h1 : 0 ≤ j) (h2 : j < 5) : ixD (.lst [.int 1, .int 2, .int 4, .int 8, .int 16]) (.int j) = some (.val (.int (pwV j))) := by
 have : j = 0 ∨ j = 1 ∨ j = 2 ∨ j = 3 ∨ j = 4 := by omega
 rcases this with rfl | rfl | rfl | rfl | rfl <;> rfl
theorem pw_pos (j : Int) : 0 < pwV j ∧ pwV j < 1073741824 := by
 unfold pwV
 split <;> (try split) <;> (try split) <;> (try split) <;> omega
theorem cnt_le (v : Int) : cntV v ≤ 16 := by
 unfold cntV
 split <;> (try split) <;> (try split) <;> omega
def mdE (v : Int) (cs F : List (List Int)) (n : Int) (M : List Int) (o5 : Option C) : Env' := [some (.sh (.int v)), some (.sh (.lst (clsD cs))), some (.ow false (.lst (clsD F))), some (.sh (.int n)), some (.ow false (.lst (M.map D.int))), o5]
theorem model_loop (v : Int) (cs F : List (List Int)) (n : Int) (h1 : 0 < v) (h2 : v ≤ 4) : ∀ (m k : Nat) (o5 : Option C), m + k = v.toNat → ∃ o', forL (tgN 5) lp_law_models_0 ((List.range' k m).map fun j => D.int (0 + ((j : Nat) : Int))) (mdE v cs F n ((List.range k).map (modL v n)) o5) = some (.nx (mdE v cs F n (modV v n) o'))
 | 0, k, o5, h => ⟨o5, by rw [show k = v.toNat by omega]; rfl⟩
 | m + 1, k, o5, h => by
  obtain ⟨o', ih⟩ := model_loop v cs F n h1 h2 m (k + 1) (some (.sh (.int (k : Int)))) (by omega)
  refine ⟨o', ?_⟩
  rw [List.range'_succ, List.map_cons, Int.zero_add]
  refine for_nx rfl ?_ ih
  have hk : (k : Int) < v := by omega
  have pa := pw_at (j := v - 1 - (k : Int)) (by omega) (by omega)
  have dv : divD (.int n) (.int (pwV (v - 1 - (k : Int)))) = some (.val (.int (n / pwV (v - 1 - (k : Int))))) := op_divD (pw_pos _)
  have hz : small (((List.range k).map (modL v n)).map D.int).length := by unfold small; rw [List.length_map, List.length_map, List.length_range]; omega
  have es : ((List.range (k + 1)).map (modL v n)).map D.int = ((List.range k).map (modL v n)).map D.int ++ [D.int (modL v n k)] := by rw [List.range_succ, List.map_append, List.map_append]; rfl
  unfold mdE
  rw [es]
  exact ev_appD rfl (ev_cons (ev_bin (ev_bin (ev_var rfl) ev_C rfl rfl rfl) (ev_bin (ev_bin ev_C (ev_bin (ev_bin (ev_var rfl) (ev_bin (ev_lst (ev_cons ev_C (ev_cons ev_C (ev_cons ev_C (ev_cons ev_C (ev_cons ev_C ev_nil))))) rfl (Nat.le_of_ble_eq_true rfl)) (ev_bin (ev_bin (ev_var rfl) ev_C rfl rfl rfl) (ev_var rfl) rfl rfl rfl) rfl rfl pa) rfl rfl dv) ev_C rfl rfl (op_modD (by decide))) rfl rfl (op_mulD (.inl ⟨by decide, by decide⟩))) ev_C rfl rfl rfl) rfl rfl (op_mulD (.inl ⟨by omega, by omega⟩))) ev_nil) rfl rfl hz rfl
theorem any_eq (O M : List Int) : (O.map fun l => decide (l ∈ M)).any id = anyV O M := by rw [List.any_map]; rfl
def anD (M : List Int) : D → D
 | .tup ds => .bl (anyV ((intsOf ds).getD []) M)
 | _ => .non
theorem comp_sat (M : List Int) (cs : List (List Int)) (hl : ∀ c ∈ cs, c.length ≤ 1000) : compL (tgN 0) mYes (mCB anyD (mCons (mComp (mIter (mVar 0)) (tgN 0) mYes (mBin inD (mVar 0) (mVar 1)) 1 [1]) mNil)) [none, some (.sh (.lst (M.map D.int)))] (clsD cs) = some ((cs.map fun c => anyV c M).map D.bl) := by
 rw [show (cs.map fun c => anyV c M).map D.bl = (clsD cs).map (anD M) by
  unfold clsD
  rw [List.map_map, List.map_map]
  refine List.map_congr_left fun c _ => ?_
  show D.bl (anyV c M) = D.bl (anyV ((intsOf (c.map D.int)).getD []) M)
  rw [intsOf_map]
  rfl]
 apply compL_map
 intro d hd
 obtain ⟨c, hc, rfl⟩ := List.mem_map.mp hd
 have e : anD M (.tup (c.map D.int)) = .bl (anyV c M) := by
  show D.bl (anyV ((intsOf (c.map D.int)).getD []) M) = _
  rw [intsOf_map]
  rfl
 rw [e]
 have cl := hl c hc
 have m1 := ev_comp (mi := mIter (mVar 0)) (own := 1) (fr := [1]) (ρ := [some (.sh (.tup (c.map D.int))), some (.sh (.lst (M.map D.int)))]) (ρ1 := [some (.sh (.tup (c.map D.int))), some (.sh (.lst (M.map D.int)))]) (ev_iter (ev_var rfl) rfl rfl) (by unfold small; rw [List.length_map]; omega) (comp_in c M) (.inl (flat_bls _))
 have an := any_bls (c.map fun l => decide (l ∈ M))
 rw [any_eq] at an
 exact ⟨[some (.sh (.tup (c.map D.int))), some (.sh (.lst (M.map D.int)))], .val (.bl (anyV c M)), [some (.sh (.tup (c.map D.int))), some (.sh (.lst (M.map D.int)))], [some (.sh (.tup (c.map D.int))), some (.sh (.lst (M.map D.int)))], rfl, ev_CB (ev_cons m1 ev_nil) rfl an, rfl⟩
def moE (v : Int) (cs F : List (List Int)) (o3 o4 o5 : Option C) : Env' := [some (.sh (.int v)), some (.sh (.lst (clsD cs))), some (.ow false (.lst (clsD F))), o3, o4, o5]
theorem models_loop (v : Int) (cs : List (List Int)) (h1 : 0 < v) (h2 : v ≤ 4) (hz : cs.length ≤ 1000) (hl : ∀ c ∈ cs, c.length ≤ 1000) : ∀ (js : List Nat) (F : List (List Int)) (o3 o4 o5 : Option C), F.length + js.length ≤ 1000 → ∃ p3 p4 p5, forL (tgN 3) lp_law_models_1 (js.map fun j => D.int (0 + ((j : Nat) : Int))) (moE v cs F o3 o4 o5) = some (.nx (moE v cs (F ++ (js.map fun (n : Nat) => modV v (n : Int)).filter (satV cs)) p3 p4 p5))
 | [], F, o3, o4, o5, _ => ⟨o3, o4, o5, by rw [List.map_nil, List.map_nil, List.filter_nil, List.append_nil]; rfl⟩
 | j :: js, F, o3, o4, o5, hn => by
  rw [List.length_cons] at hn
  have jz : (0 : Int) + (j : Int) = (j : Int) := Int.zero_add _
  obtain ⟨q5, hm⟩ := model_loop v cs F (j : Int) h1 h2 v.toNat 0 o5 (by omega)
  rw [← List.range_eq_range'] at hm
  have hi : ints1 [.int v] = some ((List.range v.toNat).map fun k => D.int (0 + ((k : Nat) : Int))) := grd_pos ⟨by omega, by omega⟩
  have s1 : setS 4 (mLst mNil) (moE v cs F (some (.sh (.int (j : Int)))) o4 o5) = some (.nx (mdE v cs F (j : Int) ((List.range 0).map (modL v (j : Int))) o5)) := ev_set (ev_lst ev_nil rfl (Nat.le_of_ble_eq_true rfl)) rfl
  have s2 : forS (mRng ints1 (mCons (mVar 0) mNil)) (tgN 5) lp_law_models_0 (mdE v cs F (j : Int) ((List.range 0).map (modL v (j : Int))) o5) = some (.nx (mdE v cs F (j : Int) (modV v (j : Int)) q5)) := ev_for (ev_rng (ev_cons (ev_var rfl) ev_nil) rfl hi) hm
  have m3 := ev_comp (mi := mIter (mVar 1)) (own := 1) (fr := [4]) (ρ := mdE v cs F (j : Int) (modV v (j : Int)) q5) (ρ1 := mdE v cs F (j : Int) (modV v (j : Int)) q5) (ev_iter (ev_var rfl) rfl rfl) (by unfold small clsD; rw [List.length_map]; omega) (comp_sat (modV v (j : Int)) cs hl) (.inl (flat_bls _))
  have al := all_bls (cs.map fun c => anyV c (modV v (j : Int)))
  have ea : (cs.map fun c => anyV c (modV v (j : Int))).all id = satV cs (modV v (j : Int)) := by rw [List.all_map]; rfl
  rw [ea] at al
  have c3 := ev_tru (ev_CB (ev_cons m3 ev_nil) rfl al) rfl (k := satV cs (modV v (j : Int))) rfl
  rw [List.map_cons, List.map_cons, jz]
  cases hs : satV cs (modV v (j : Int)) with
  | false =>
   obtain ⟨p3, p4, p5, ih⟩ := models_loop v cs h1 h2 hz hl js F (some (.sh (.int (j : Int)))) (some (.ow false (.lst ((modV v (j : Int)).map D.int)))) q5 (by omega)
   refine ⟨p3, p4, p5, ?_⟩
   rw [List.filter_cons_of_neg (by rw [hs]; exact Bool.false_ne_true)]
   exact for_nx rfl (ev_seq s1 (ev_seq s2 (ev_ifF c3 hs ev_nx))) ih
  | true =>
   obtain ⟨p3, p4, p5, ih⟩ := models_loop v cs h1 h2 hz hl js (F ++ [modV v (j : Int)]) (some (.sh (.int (j : Int)))) (some (.ow false (.lst ((modV v (j : Int)).map D.int)))) q5 (by rw [List.length_append, List.length_singleton]; omega)
   refine ⟨p3, p4, p5, ?_⟩
   rw [List.filter_cons_of_pos hs, List.append_cons]
   have hzF : small (clsD F).length := by unfold small clsD; rw [List.length_map]; omega
   have eF : clsD (F ++ [modV v (j : Int)]) = clsD F ++ [D.tup ((modV v (j : Int)).map D.int)] := by unfold clsD; rw [List.map_append]; rfl
   have s4 : dropS (mAppend 2 (mCons (mCB tupleD (mCons (mVar 4) mNil)) mNil)) (mdE v cs F (j : Int) (modV v (j : Int)) q5) = some (.nx (mdE v cs (F ++ [modV v (j : Int)]) (j : Int) (modV v (j : Int)) q5)) := by
    unfold mdE
    rw [eF]
    exact ev_appD rfl (ev_cons (ev_CB (ev_cons (ev_var rfl) ev_nil) rfl rfl) ev_nil) rfl rfl hzF rfl
   exact for_nx rfl (ev_seq s1 (ev_seq s2 (ev_ifT c3 hs s4))) ih
theorem fe_models {v : Int} {cs : List (List Int)} (h1 : 0 < v) (h2 : v ≤ 4) (hz : cs.length ≤ 1000) (hl : ∀ c ∈ cs, c.length ≤ 1000) : fm_law_models [.int v, .lst (clsD cs)] = some (.ret (.own (.lst (clsD (modelsV v cs)))) []) := by
 show (clsOf (clsD cs)).bind _ = _
 rw [clsOf_map]
 exact grd_pos ⟨h1, h2, hz, List.all_eq_true.mpr fun c hc => decide_eq_true (hl c hc)⟩
theorem spec_law_models : ∀ ds r, fm_law_models ds = some r → runF den_law_models 6 [false, false] ds = some r := by
 intro ds r h
 match ds, h with
 | [.int v, .lst ds], h =>
  cases hc : clsOf ds with
  | none => simp [fm_law_models, hc] at h
  | some cs =>
   have e := clsOf_eq hc
   subst e
   have h' : (clsOf (clsD cs)).bind _ = some r := h
   rw [clsOf_map] at h'
   obtain ⟨⟨h1, h2, h3, h4⟩, _⟩ := grd_some h'
   have hl : ∀ c ∈ cs, c.length ≤ 1000 := fun c hc => of_decide_eq_true (List.all_eq_true.mp h4 c hc)
   rw [fe_models h1 h2 h3 hl] at h
   cases h
   have cl := cnt_le v
   obtain ⟨p3, p4, p5, hL⟩ := models_loop v cs h1 h2 h3 hl (List.range (cntV v)) [] none none none (by rw [List.length_range, List.length_nil]; omega)
   have hi : ints1 [.int ((cntV v : Nat) : Int)] = some ((List.range (cntV v)).map fun k => D.int (0 + ((k : Nat) : Int))) := grd_pos ⟨by omega, by omega⟩
   have s1 : setS 2 (mLst mNil) (startE 6 [false, false] [.int v, .lst (clsD cs)]) = some (.nx (moE v cs [] none none none)) := ev_set (ev_lst ev_nil rfl (Nat.le_of_ble_eq_true rfl)) rfl
   exact run_of (ev_seq s1 (ev_seq (ev_for (ev_rng (ev_cons (ev_bin (ev_lst (ev_cons ev_C (ev_cons ev_C (ev_cons ev_C (ev_cons ev_C (ev_cons ev_C (ev_cons ev_C ev_nil)))))) rfl (Nat.le_of_ble_eq_true rfl)) (ev_var rfl) rfl rfl (cnt_at h1 h2)) ev_nil) rfl hi) hL) (ev_ret (ev_var rfl) rfl))) rfl
theorem okC_len {cs : List (List Int)} (h : okC cs = true) : cs.length ≤ 1000 ∧ ∀ c ∈ cs, c.length ≤ 1000 := by
 unfold okC at h
 rw [Bool.and_eq_true] at h
 exact ⟨of_decide_eq_true h.1, fun c hc => of_decide_eq_true (List.all_eq_true.mp h.2 c hc)⟩
theorem okC_of {cs : List (List Int)} (h1 : cs.length ≤ 1000) (h2 : ∀ c ∈ cs, c.length ≤ 1000) : okC cs = true := by
 unfold okC
 rw [decide_eq_true h1, Bool.true_and]
 exact List.all_eq_true.mpr fun c hc => decide_eq_true (h2 c hc)
theorem inL_cls (c : List Int) : ∀ cs : List (List Int), inL (.tup (c.map D.int)) (clsD cs) = some (decide (c ∈ cs))
 | [] => rfl
 | d :: cs => by
  show (match eqL (eqD 6) (d.map D.int) (c.map D.int), inL (.tup (c.map D.int)) (clsD cs) with | some a, some b => some (a || b) | _, _ => none) = _
  rw [eqL_ints2, inL_cls c cs]
  by_cases h1 : c = d
  ·subst h1; simp
  ·have h2 : ¬ d = c := fun e => h1 e.symm
   simp [h1, h2]
theorem in_cls (c : List Int) (cs : List (List Int)) : inD (.tup (c.map D.int)) (.lst (clsD cs)) = some (.val (.bl (decide (c ∈ cs)))) := by
 show (inL (.tup (c.map D.int)) (clsD cs)).bind _ = _
 rw [inL_cls]
 rfl
theorem fe_without {c : List Int} {l : Int} (h : c.length ≤ 1000) : fm_without [.tup (c.map D.int), .int l] = some (.ret (.val (.tup ((withoutV c l).map D.int))) []) := by
 show (intsOf (c.map D.int)).bind _ = _
 rw [intsOf_map]
 exact grd_pos h
theorem spec_without : ∀ ds r, fm_without ds = some r → runF den_without 2 [false, false] ds = some r := by
 intro ds r h
 match ds, h with
 | [.tup ds, .int l], h =>
  have h0 : (intsOf ds).bind _ = some r := h
  cases hc : intsOf ds with
  | none => rw [hc] at h0; cases h0
  | some c =>
   rw [hc] at h0
   obtain ⟨hz, h0⟩ := grd_some h0
   cases h0
   have := intsOf_eq hc
   subst this
   have c1 : compL (tgN 0) (mTst (mBin neTD (mVar 0) (mVar 1))) (mVar 0) [none, some (.sh (.int l))] (c.map D.int) = some ((withoutV c l).map D.int) := comp_over fun x _ => turn_if rfl (ev_tst (ev_bin (ev_var rfl) (ev_var rfl) rfl rfl (ne_int x l))) fun _ => ⟨_, _, _, ev_var rfl, rfl⟩
   exact run_of (ev_ret (ev_CB (ev_cons (ev_comp (ev_iter (ev_var rfl) rfl rfl) (by rw [List.length_map]; exact small_of (by omega)) c1 (.inl (all_flat_ints _))) ev_nil) rfl rfl) rfl) rfl
theorem fe_left {cs : List (List Int)} {l : Int} (h : okC cs = true) : fm_left_over [.lst (clsD cs), .int l] = some (.ret (.own (.lst (clsD (leftV cs l)))) []) := by
 show (clsOf (clsD cs)).bind _ = _
 rw [clsOf_map]
 exact grd_pos h
theorem spec_left_over : ∀ ds r, fm_left_over ds = some r → runF den_left_over 2 [false, false] ds = some r := by
 intro ds r h
 match ds, h with
 | [.lst ds, .int l], h =>
  have h0 : (clsOf ds).bind _ = some r := h
  cases hc : clsOf ds with
  | none => rw [hc] at h0; cases h0
  | some cs =>
   rw [hc] at h0
   obtain ⟨hok, h0⟩ := grd_some h0
   cases h0
   have := clsOf_eq hc
   subst this
   obtain ⟨hz, hl⟩ := okC_len hok
   have c1 : compL (tgN 0) (mTst (mBin notInD (mVar 1) (mVar 0))) (mCall [false, false] fm_without (mCons (mVar 0) (mCons (mUn negD (mVar 1)) mNil))) [none, some (.sh (.int l))] (clsD cs) = some (clsD (leftV cs l)) := by
    have e : clsD (leftV cs l) = (cs.filter fun c => !decide (l ∈ c)).map fun c => D.tup ((withoutV c (-l)).map D.int) := by
     unfold clsD leftV
     rw [List.map_map]
     rfl
    rw [e]
    exact comp_over (f := fun c : List Int => D.tup (c.map D.int)) fun c hc => turn_if rfl (ev_tst (ev_bin (ev_var rfl) (ev_var rfl) rfl rfl (nin_tup l c))) fun _ => ⟨_, _, _, ev_call0 (ev_cons (ev_var rfl) (ev_cons (ev_un (ev_var rfl) rfl rfl) ev_nil)) rfl rfl (fe_without (hl c hc)) rfl rfl, rfl⟩
   exact run_of (ev_ret (ev_comp (ρ1 := [some (.sh (.lst (clsD cs))), some (.sh (.int l))]) (ev_iter (ev_var rfl) rfl rfl) (by rw [clsD_len]; exact small_of (by omega)) c1 (.inl (flat_cls _))) rfl) rfl
theorem ways_loop (v : Int) : ∀ (ks : List D) (a : Int) (o : Option C), 0 < a → a * 2 ^ ks.length < 2 ^ 63 → ∃ o', forL (tgN 2) lp_ways_0 ks [some (.sh (.int v)), some (.sh (.int a)), o] = some (.nx [some (.sh (.int v)), some (.sh (.int (a * 2 ^ ks.length))), o'])
 | [], a, o, _, _ => ⟨o, by rw [List.length_nil, Int.pow_zero, Int.mul_one]; rfl⟩
 | k :: ks, a, o, h0, h => by
  have e : a * 2 ^ (k :: ks).length = (a * 2) * 2 ^ ks.length := by rw [List.length_cons, Int.pow_succ, Int.mul_comm (2 ^ ks.length) 2, Int.mul_assoc]
  rw [e] at h ⊢
  obtain ⟨o', ih⟩ := ways_loop v ks (a * 2) (some (.sh k)) (by omega) h
  exact ⟨o', for_nx rfl (ev_augM rfl ev_C rfl rfl (.inr ⟨by decide, by decide⟩) rfl) ih⟩
theorem fe_ways {v : Int} (h0 : 0 ≤ v) (h1 : v ≤ 60) : fm_ways [.int v] = some (.ret (.val (.int (waysV v))) []) := grd_pos ⟨h0, h1⟩
theorem spec_ways : ∀ ds r, fm_ways ds = some r → runF den_ways 3 [false] ds = some r := by
 intro ds r h
 match ds, h with
 | [.int v], h =>
  obtain ⟨⟨h0, h1⟩, h⟩ := grd_some h
  cases h
  have rg : ints1 [.int v] = some ((List.range v.toNat).map fun k => D.int (0 + ((k : Nat) : Int))) := grd_pos ⟨by omega, by omega⟩
  have hp : (1 : Int) * 2 ^ ((List.range v.toNat).map fun k => D.int (0 + ((k : Nat) : Int))).length < 2 ^ 63 := by
   rw [List.length_map, List.length_range, Int.one_mul]
   exact Int.pow_lt_pow_of_lt (by decide) (by omega)
  obtain ⟨o', hL⟩ := ways_loop v _ 1 none (by decide) hp
  rw [List.length_map, List.length_range, Int.one_mul] at hL
  exact run_of (ev_seq (ev_set ev_C rfl) (ev_seq (ev_for (ev_rng (ev_cons (ev_var rfl) ev_nil) rfl rg) hL) (ev_ret (ev_var rfl) rfl))) rfl
theorem addAll_mem : ∀ (ls acc : List Int) (x : Int), x ∈ ls.foldl addI acc ↔ x ∈ acc ∨ x ∈ ls
 | [], acc, x => by simp
 | l :: ls, acc, x => by
  have am : x ∈ addI acc l ↔ x ∈ acc ∨ x = l := by
   unfold addI
   split
   ·rename_i h
    constructor
    ·exact .inl
    ·rintro (h' | rfl)
     ·exact h'
     ·exact h
   ·simp
  rw [List.foldl_cons, addAll_mem ls, am, List.mem_cons]
  constructor
  ·rintro ((h | h) | h)
   ·exact .inl h
   ·exact .inr (.inl h)
   ·exact .inr (.inr h)
  ·rintro (h | h | h)
   ·exact .inl (.inl h)
   ·exact .inl (.inr h)
   ·exact .inr h
theorem addAll_nodup : ∀ (ls acc : List Int), acc.Nodup → (ls.foldl addI acc).Nodup
 | [], acc, h => h
 | l :: ls, acc, h => by
  rw [List.foldl_cons]
  refine addAll_nodup ls _ ?_
  unfold addI
  split
  ·exact h
  ·rename_i hl
   rw [List.nodup_append]
   exact ⟨h, by simp, fun a ha b hb => by rw [List.mem_singleton.mp hb]; rintro rfl; exact hl ha⟩
theorem sub_len : ∀ {a b : List Int}, a.Nodup → (∀ x ∈ a, x ∈ b) → a.length ≤ b.length
 | [], _, _, _ => Nat.zero_le _
 | x :: a, b, h, hs => by
  have hx := hs x List.mem_cons_self
  rw [List.nodup_cons] at h
  have ih := sub_len (b := b.erase x) h.2 fun y hy => (List.mem_erase_of_ne (by rintro rfl; exact h.1 hy)).mpr (hs y (List.mem_cons_of_mem _ hy))
  rw [List.length_erase_of_mem hx] at ih
  have := List.length_pos_of_mem hx
  rw [List.length_cons]
  omega
theorem mem_vars {cs : List (List Int)} {x : Int} : x ∈ varsV cs ↔ ∃ c ∈ cs, ∃ l ∈ c, absK l = x := by
 unfold varsV
 rw [addAll_mem, List.mem_map]
 constructor
 ·rintro (h | ⟨l, hl, e⟩)
  ·cases h
  ·obtain ⟨c, hc, h⟩ := List.mem_flatten.mp hl
   exact ⟨c, hc, l, h, e⟩
 ·rintro ⟨c, hc, l, hl, e⟩
  exact .inr ⟨l, List.mem_flatten.mpr ⟨c, hc, hl⟩, e⟩
theorem vars_nodup (cs : List (List Int)) : (varsV cs).Nodup := addAll_nodup _ _ List.nodup_nil
theorem in_without {c : List Int} {l x : Int} : x ∈ withoutV c l ↔ x ∈ c ∧ x ≠ l := by
 unfold withoutV
 rw [List.mem_filter]
 simp
theorem in_left {cs : List (List Int)} {l : Int} {c : List Int} (h : c ∈ leftV cs l) : ∃ d ∈ cs, l ∉ d ∧ c = withoutV d (-l) := by
 obtain ⟨d, hd, rfl⟩ := List.mem_map.mp h
 obtain ⟨a, b⟩ := List.mem_filter.mp hd
 exact ⟨d, a, by simpa using b, rfl⟩
theorem vars_left {cs : List (List Int)} {l x : Int} (h : x ∈ varsV (leftV cs l)) : x ∈ varsV cs ∧ x ≠ absK l := by
 obtain ⟨c, hc, y, hy, e⟩ := mem_vars.mp h
 obtain ⟨d, hd, hl, rfl⟩ := in_left hc
 obtain ⟨h1, h2⟩ := in_without.mp hy
 refine ⟨mem_vars.mpr ⟨d, hd, y, h1, e⟩, fun z => ?_⟩
 have : y ≠ l := by rintro rfl; exact hl h1
 rw [← e] at z
 unfold absK at z
 omega
theorem vars_less {cs : List (List Int)} {l : Int} (h : absK l ∈ varsV cs) : (varsV (leftV cs l)).length + 1 ≤ (varsV cs).length := by
 have : (absK l :: varsV (leftV cs l)).Nodup := by
  rw [List.nodup_cons]
  exact ⟨fun z => (vars_left z).2 rfl, vars_nodup _⟩
 have := sub_len this (b := varsV cs) fun x hx => by
  rcases List.mem_cons.mp hx with rfl | hx
  ·exact h
  ·exact (vars_left hx).1
 rw [List.length_cons] at this
 exact this
theorem cfold_best {α : Type} (k : α → Int) : ∀ (xs : List α) (b : α), xs.foldl (fun b y => if k y < k b then y else b) b = b ∨ xs.foldl (fun b y => if k y < k b then y else b) b ∈ xs
 | [], b => .inl rfl
 | x :: xs, b => by
  rw [List.foldl_cons]
  by_cases h : k x < k b
  ·rw [if_pos h]
   rcases cfold_best k xs x with a | a
   ·rw [a]; exact .inr List.mem_cons_self
   ·exact .inr (List.mem_cons_of_mem _ a)
  ·rw [if_neg h]
   rcases cfold_best k xs b with a | a
   ·exact .inl a
   ·exact .inr (List.mem_cons_of_mem _ a)
theorem best_mem {α : Type} {k : α → Int} {xs : List α} {x : α} (h : bestBy k xs = some x) : x ∈ xs := by
 cases xs with
 | nil => cases h
 | cons y r =>
  have h := Option.some.inj h
  rcases cfold_best k r y with a | a
  ·rw [h] at a; rw [a]; exact List.mem_cons_self
  ·rw [h] at a; exact List.mem_cons_of_mem _ a
theorem best_map {α β : Type} (f : α → β) (k : β → Int) (xs : List α) : bestBy k (xs.map f) = (bestBy (fun x => k (f x)) xs).map f := by
 cases xs with
 | nil => rfl
 | cons x r =>
  show some _ = some _
  congr 1
  show (r.map f).foldl _ (f x) = f (r.foldl _ x)
  induction r generalizing x with
  | nil => rfl
  | cons y r ih =>
   rw [List.map_cons, List.foldl_cons, List.foldl_cons]
   by_cases h : k (f y) < k (f x)
   ·rw [if_pos h, if_pos h]; exact ih y
   ·rw [if_neg h, if_neg h]; exact ih x
theorem short_at {cs : List (List Int)} (h1 : [] ∉ cs) (h2 : cs ≠ []) : ∃ l c, l :: c ∈ cs ∧ shortV cs = l ∧ minlenD [.lst (clsD cs)] = some (.val (.tup ((l :: c).map D.int))) := by
 cases hb : bestBy (fun c : List Int => (c.length : Int)) cs with
 | none =>
  cases cs with
  | nil => exact absurd rfl h2
  | cons _ _ => cases hb
 | some c =>
  have hm := best_mem hb
  cases c with
  | nil => exact absurd hm h1
  | cons l c =>
   refine ⟨l, c, hm, by unfold shortV; rw [hb]; rfl, ?_⟩
   show (if (clsD cs).all isTupD = true then (bestBy tupK (clsD cs)).map W.val else none) = _
   have ht : (clsD cs).all isTupD = true := by
    unfold clsD
    rw [List.all_map, List.all_eq_true]
    intro x _
    rfl
   rw [if_pos ht]
   unfold clsD
   rw [best_map]
   have e : (fun c : List Int => tupK (D.tup (c.map D.int))) = fun c : List Int => (c.length : Int) := by
    funext c
    show ((c.map D.int).length : Int) = _
    rw [List.length_map]
   rw [e, hb]
   rfl
theorem okC_left {cs : List (List Int)} {l : Int} (h : okC cs = true) : okC (leftV cs l) = true := by
 obtain ⟨h1, h2⟩ := okC_len h
 refine okC_of ?_ fun c hc => ?_
 ·unfold leftV
  rw [List.length_map]
  exact Nat.le_trans (List.length_filter_le _ _) h1
 ·obtain ⟨d, hd, _, rfl⟩ := in_left hc
  exact Nat.le_trans (List.length_filter_le _ _) (h2 d hd)
theorem fe_countR {n : Nat} {v : Int} {cs : List (List Int)} (h : okC cs = true) (h1 : (varsV cs).length ≤ n) (h2 : ((varsV cs).length : Int) ≤ v) (h3 : v ≤ 60) : fmR_counted (n + 1) [.int v, .lst (clsD cs)] = some (.ret (.val (.int (countF (n + 1) v cs))) []) := by
 show (clsOf (clsD cs)).bind _ = _
 rw [clsOf_map]
 exact grd_pos ⟨h, h1, h2, h3⟩
theorem spec_counted (n : Nat) : ∀ ds r, fmR_counted (n + 1) ds = some r → runF (den_counted n) 4 [false, false] ds = some r := by
 intro ds r h
 match ds, h with
 | [.int v, .lst ds], h =>
  have h0 : (clsOf ds).bind _ = some r := h
  cases hc : clsOf ds with
  | none => rw [hc] at h0; cases h0
  | some cs =>
   rw [hc] at h0
   obtain ⟨⟨hok, hn, hv, hm⟩, h0⟩ := grd_some h0
   cases h0
   have := clsOf_eq hc
   subst this
   obtain ⟨hz, hl⟩ := okC_len hok
   have ht : mTst (mBin inD (mTup mNil) (mVar 1)) (startE 4 [false, false] [.int v, .lst (clsD cs)]) = some (.ok (decide ([] ∈ cs)) [some (.sh (.int v)), some (.sh (.lst (clsD cs))), none, none]) := ev_tst (ev_bin (ev_tup ev_nil rfl (Nat.le_of_ble_eq_true rfl)) (ev_var rfl) rfl rfl (in_cls [] cs))
   have hq : mTst (mBin eqTD (mVar 1) (mLst mNil)) [some (.sh (.int v)), some (.sh (.lst (clsD cs))), none, none] = some (.ok (decide (cs = [])) [some (.sh (.int v)), some (.sh (.lst (clsD cs))), none, none]) := ev_tst (ev_bin (ev_var rfl) (ev_lst ev_nil rfl (Nat.le_of_ble_eq_true rfl)) rfl rfl (eq_cls cs []))
   have eC : countF (n + 1) v cs = if [] ∈ cs then 0 else if cs = [] then waysV v else countF n (v - 1) (leftV cs (shortV cs)) + countF n (v - 1) (leftV cs (-(shortV cs))) := rfl
   rw [eC]
   by_cases he : [] ∈ cs
   ·rw [decide_eq_true he] at ht
    rw [if_pos he]
    exact run_of (ev_seqR (ev_ifT ht rfl (ev_ret ev_C rfl))) rfl
   ·rw [decide_eq_false he] at ht
    rw [if_neg he]
    by_cases hnil : cs = []
    ·rw [decide_eq_true hnil] at hq
     rw [if_pos hnil]
     exact run_of (ev_seq (ev_ifF ht rfl ev_nx) (ev_seqR (ev_ifT hq rfl (ev_ret (ev_call0 (ev_cons (ev_var rfl) ev_nil) rfl rfl (fe_ways (by omega) hm) rfl rfl) rfl)))) rfl
    ·rw [decide_eq_false hnil] at hq
     rw [if_neg hnil]
     obtain ⟨l, c, hlc, es, mn⟩ := short_at he hnil
     rw [es]
     have hvar : absK l ∈ varsV cs := mem_vars.mpr ⟨l :: c, hlc, l, List.mem_cons_self, rfl⟩
     have hvar' : absK (-l) ∈ varsV cs := by rw [show absK (-l) = absK l by unfold absK; omega]; exact hvar
     have l1 := vars_less hvar
     have l2 := vars_less hvar'
     obtain ⟨m, rfl⟩ : ∃ m, n = m + 1 := ⟨n - 1, by omega⟩
     have f1 := fe_countR (n := m) (v := v - 1) (okC_left (l := l) hok) (by omega) (by omega) (by omega)
     have f2 := fe_countR (n := m) (v := v - 1) (okC_left (l := -l) hok) (by omega) (by omega) (by omega)
     have ix : ixD (.tup ((l :: c).map D.int)) (.int 0) = some (.val (.int l)) := by simp [ixD, L2.atI, ixN]
     exact run_of (ev_seq (ev_ifF ht rfl ev_nx) (ev_seq (ev_ifF hq rfl ev_nx) (ev_seq (ev_set (ev_bin (ev_CB (ev_cons (ev_var rfl) ev_nil) rfl mn) ev_C rfl rfl ix) rfl) (ev_seq (ev_set (ev_bin (ev_var rfl) ev_C rfl rfl rfl) rfl) (ev_ret (ev_bin (ev_call0 (ev_cons (ev_var rfl) (ev_cons (ev_call0 (ev_cons (ev_var rfl) (ev_cons (ev_var rfl) ev_nil)) rfl rfl (fe_left hok) rfl rfl) ev_nil)) rfl rfl f1 rfl rfl) (ev_call0 (ev_cons (ev_var rfl) (ev_cons (ev_call0 (ev_cons (ev_var rfl) (ev_cons (ev_un (ev_var rfl) rfl rfl) ev_nil)) rfl rfl (fe_left hok) rfl rfl) ev_nil)) rfl rfl f2 rfl rfl) rfl rfl rfl) rfl))))) rfl
def signs : List Int → List (List Int)
 | [] => [[]]
 | x :: X => (signs X).map (-x :: ·) ++ (signs X).map (x :: ·)
def countS (X : List Int) (cs : List (List Int)) : Nat := ((signs X).filter (satV cs)).length
theorem signs_len : ∀ X : List Int, (signs X).length = 2 ^ X.length
 | [] => rfl
 | x :: X => by
  show (_ ++ _ : List (List Int)).length = _
  rw [List.length_append, List.length_map, List.length_map, signs_len X, List.length_cons, Nat.pow_succ]
  omega
theorem signs_mem : ∀ {X : List Int} {M : List Int}, M ∈ signs X → ∀ y ∈ M, y ∈ X ∨ -y ∈ X
 | [], M, h, y, hy => by
  have := List.mem_singleton.mp h
  subst this
  cases hy
 | x :: X, M, h, y, hy => by
  have h : M ∈ (signs X).map (-x :: ·) ++ (signs X).map (x :: ·) := h
  rcases List.mem_append.mp h with h | h
  ·obtain ⟨M', hM, rfl⟩ := List.mem_map.mp h
   rcases List.mem_cons.mp hy with rfl | hy
   ·exact .inr (by rw [Int.neg_neg]; exact List.mem_cons_self)
   ·rcases signs_mem hM y hy with h | h
    ·exact .inl (List.mem_cons_of_mem _ h)
    ·exact .inr (List.mem_cons_of_mem _ h)
  ·obtain ⟨M', hM, rfl⟩ := List.mem_map.mp h
   rcases List.mem_cons.mp hy with rfl | hy
   ·exact .inl List.mem_cons_self
   ·rcases signs_mem hM y hy with h | h
    ·exact .inl (List.mem_cons_of_mem _ h)
    ·exact .inr (List.mem_cons_of_mem _ h)
theorem sat_iff {cs : List (List Int)} {M : List Int} : satV cs M = true ↔ ∀ c ∈ cs, ∃ x ∈ c, x ∈ M := by
 unfold satV anyV
 rw [List.all_eq_true]
 constructor
 ·intro h c hc
  obtain ⟨x, hx, q⟩ := List.any_eq_true.mp (h c hc)
  exact ⟨x, hx, of_decide_eq_true q⟩
 ·intro h c hc
  obtain ⟨x, hx, q⟩ := h c hc
  exact List.any_eq_true.mpr ⟨x, hx, decide_eq_true q⟩
theorem left_in {cs : List (List Int)} {l : Int} {d : List Int} (h : d ∈ cs) (hl : l ∉ d) : withoutV d (-l) ∈ leftV cs l := List.mem_map.mpr ⟨d, List.mem_filter.mpr ⟨h, by simp [hl]⟩, rfl⟩
theorem sat_cons {cs : List (List Int)} {M : List Int} {y : Int} (h : -y ∉ M) : satV cs (y :: M) = satV (leftV cs y) M := by
 rw [Bool.eq_iff_iff, sat_iff, sat_iff]
 constructor
 ·intro hs c hc
  obtain ⟨d, hd, hl, rfl⟩ := in_left hc
  obtain ⟨x, hx, q⟩ := hs d hd
  rcases List.mem_cons.mp q with rfl | q
  ·exact absurd hx hl
  ·exact ⟨x, in_without.mpr ⟨hx, by rintro rfl; exact h q⟩, q⟩
 ·intro hs d hd
  by_cases hy : y ∈ d
  ·exact ⟨y, hy, List.mem_cons_self⟩
  ·obtain ⟨x, hx, q⟩ := hs _ (left_in hd hy)
   exact ⟨x, (in_without.mp hx).1, List.mem_cons_of_mem _ q⟩
structure Vs (X : List Int) : Prop where
 nd : X.Nodup
 ps : ∀ x ∈ X, 0 < x
theorem Vs.tail {x : Int} {X : List Int} (h : Vs (x :: X)) : Vs X := ⟨(List.nodup_cons.mp h.nd).2, fun y hy => h.ps y (List.mem_cons_of_mem _ hy)⟩
theorem signs_out {x : Int} {X M : List Int} (h : Vs (x :: X)) (hM : M ∈ signs X) : x ∉ M ∧ -x ∉ M := by
 have hx := (List.nodup_cons.mp h.nd).1
 have h0 := h.ps x List.mem_cons_self
 constructor
 ·intro z
  rcases signs_mem hM x z with q | q
  ·exact hx q
  ·have := h.ps _ (List.mem_cons_of_mem _ q); omega
 ·intro z
  rcases signs_mem hM (-x) z with q | q
  ·have := h.ps _ (List.mem_cons_of_mem _ q); omega
  ·rw [Int.neg_neg] at q; exact hx q
theorem filt_cons {cs : List (List Int)} {y : Int} {L : List (List Int)} (h : ∀ M ∈ L, -y ∉ M) : (L.map (y :: ·)).filter (satV cs) = (L.filter (satV (leftV cs y))).map (y :: ·) := by
 rw [List.filter_map]
 congr 1
 exact List.filter_congr fun M hM => sat_cons (h M hM)
theorem count_split {x : Int} {X : List Int} {cs : List (List Int)} (h : Vs (x :: X)) : countS (x :: X) cs = countS X (leftV cs (-x)) + countS X (leftV cs x) := by
 unfold countS
 show (((signs X).map (-x :: ·) ++ (signs X).map (x :: ·)).filter (satV cs)).length = _
 rw [List.filter_append, filt_cons (fun M hM => by rw [Int.neg_neg]; exact (signs_out h hM).1), filt_cons (fun M hM => (signs_out h hM).2), List.length_append, List.length_map, List.length_map]
theorem left_comm {cs : List (List Int)} {x y : Int} (h1 : x ≠ y) (h2 : x ≠ -y) : leftV (leftV cs x) y = leftV (leftV cs y) x := by
 have key : ∀ (a b : Int), a ≠ b → a ≠ -b → leftV (leftV cs a) b = (cs.filter fun c => !decide (a ∈ c) && !decide (b ∈ c)).map fun c => withoutV (withoutV c (-a)) (-b) := by
  intro a b g1 g2
  unfold leftV
  rw [List.filter_map, List.map_map, List.filter_filter]
  congr 1
  refine List.filter_congr fun c _ => ?_
  show (!decide (b ∈ withoutV c (-a)) && !decide (a ∈ c)) = (!decide (a ∈ c) && !decide (b ∈ c))
  have : (b ∈ withoutV c (-a)) ↔ b ∈ c := by
   rw [in_without]
   constructor
   ·exact fun q => q.1
   ·exact fun q => ⟨q, by omega⟩
  rw [decide_eq_decide.mpr this, Bool.and_comm]
 rw [key x y h1 h2, key y x (fun e => h1 e.symm) (by omega)]
 have e1 : (fun c : List Int => !decide (x ∈ c) && !decide (y ∈ c)) = fun c => !decide (y ∈ c) && !decide (x ∈ c) := by
  funext c
  rw [Bool.and_comm]
 have e2 : (fun c : List Int => withoutV (withoutV c (-x)) (-y)) = fun c => withoutV (withoutV c (-y)) (-x) := by
  funext c
  unfold withoutV
  rw [List.filter_filter, List.filter_filter]
  refine List.filter_congr fun z _ => ?_
  rw [Bool.and_comm]
 rw [e1, e2]
theorem Vs.perm {X Y : List Int} (h : Vs X) (p : X.Perm Y) : Vs Y := ⟨p.nodup_iff.mp h.nd, fun x hx => h.ps x (p.mem_iff.mpr hx)⟩
theorem count_perm {X Y : List Int} (p : X.Perm Y) : Vs X → ∀ cs, countS X cs = countS Y cs := by
 induction p with
 | nil => intro _ cs; rfl
 | @cons x X Y p ih =>
  intro h cs
  have h2 : Vs (x :: Y) := h.perm (p.cons x)
  rw [count_split h, count_split h2, ih h.tail, ih h.tail]
 | @swap x y X =>
  intro h cs
  have h2 : Vs (x :: y :: X) := h.perm (.swap x y X)
  have hn : x ≠ y := fun e => (List.nodup_cons.mp h.nd).1 (by rw [e]; exact List.mem_cons_self)
  have px := h.ps x (List.mem_cons_of_mem _ List.mem_cons_self)
  have py := h.ps y List.mem_cons_self
  rw [count_split h, count_split h2, count_split h.tail, count_split h.tail, count_split h2.tail, count_split h2.tail]
  rw [left_comm (x := -y) (y := -x) (by omega) (by omega), left_comm (x := -y) (y := x) (by omega) (by omega), left_comm (x := y) (y := -x) (by omega) (by omega), left_comm (x := y) (y := x) (by omega) (by omega)]
  omega
 | @trans X Y Z p1 p2 ih1 ih2 =>
  intro h cs
  rw [ih1 h, ih2 (h.perm p1)]
theorem count_zero {X : List Int} {cs : List (List Int)} (h : [] ∈ cs) : countS X cs = 0 := by
 unfold countS
 rw [List.length_eq_zero_iff, List.filter_eq_nil_iff]
 intro M _ hs
 obtain ⟨x, hx, _⟩ := sat_iff.mp hs [] h
 cases hx
theorem count_nil (X : List Int) : countS X [] = 2 ^ X.length := by
 unfold countS
 rw [show (signs X).filter (satV []) = signs X from List.filter_eq_self.mpr (fun _ _ => rfl), signs_len]
theorem count_ok : ∀ (n : Nat) (cs : List (List Int)) (X : List Int), Vs X → (∀ x ∈ varsV cs, x ∈ X) → (∀ c ∈ cs, ∀ l ∈ c, l ≠ 0) → (varsV cs).length < n → countF n (X.length : Int) cs = ((countS X cs : Nat) : Int)
 | 0, _, _, _, _, _, h => absurd h (Nat.not_lt_zero _)
 | n + 1, cs, X, hX, hv, h0, hn => by
  show (if [] ∈ cs then 0 else if cs = [] then waysV (X.length : Int) else countF n ((X.length : Int) - 1) (leftV cs (shortV cs)) + countF n ((X.length : Int) - 1) (leftV cs (-(shortV cs)))) = _
  by_cases he : [] ∈ cs
  ·rw [if_pos he, count_zero he]
   rfl
  ·rw [if_neg he]
   by_cases hnil : cs = []
   ·rw [if_pos hnil, hnil, count_nil]
    unfold waysV
    rw [Int.toNat_natCast, Int.natCast_pow]
    rfl
   ·rw [if_neg hnil]
    obtain ⟨l, c, hlc, es, _⟩ := short_at he hnil
    rw [es]
    have hl0 := h0 _ hlc l List.mem_cons_self
    have hvar : absK l ∈ varsV cs := mem_vars.mpr ⟨l :: c, hlc, l, List.mem_cons_self, rfl⟩
    have hvar' : absK (-l) ∈ varsV cs := by rw [show absK (-l) = absK l by unfold absK; omega]; exact hvar
    have hxX := hv _ hvar
    have pm : X.Perm (absK l :: X.erase (absK l)) := List.perm_cons_erase hxX
    have hX2 := hX.perm pm
    have len : X.length = (X.erase (absK l)).length + 1 := by rw [pm.length_eq, List.length_cons]
    have nz : ∀ k, ∀ c ∈ leftV cs k, ∀ l ∈ c, l ≠ 0 := by
     intro k c hc l hl
     obtain ⟨d, hd, _, rfl⟩ := in_left hc
     exact h0 d hd l (in_without.mp hl).1
    have vin : ∀ k, absK k = absK l → ∀ x ∈ varsV (leftV cs k), x ∈ X.erase (absK l) := by
     intro k hk x hx
     obtain ⟨a, b⟩ := vars_left hx
     exact (List.mem_erase_of_ne (by rw [← hk]; exact b)).mpr (hv x a)
    have i1 := count_ok n (leftV cs l) (X.erase (absK l)) hX2.tail (vin l rfl) (nz l) (by have := vars_less hvar; omega)
    have i2 := count_ok n (leftV cs (-l)) (X.erase (absK l)) hX2.tail (vin (-l) (by unfold absK; omega)) (nz (-l)) (by have := vars_less hvar'; omega)
    rw [show ((X.length : Nat) : Int) - 1 = ((X.erase (absK l)).length : Int) by omega, i1, i2, count_perm pm hX, count_split hX2]
    have : l = absK l ∨ -l = absK l := by unfold absK; omega
    rcases this with e | e
    ·rw [← e]; omega
    ·rw [← e, Int.neg_neg]; omega
theorem mods_all : ∀ v : Nat, 1 ≤ v → v ≤ 4 → (List.range (cntV (v : Int))).map (fun (n : Nat) => modV (v : Int) (n : Int)) = allM 0 v := by
 intro v h1 h4
 have : v = 1 ∨ v = 2 ∨ v = 3 ∨ v = 4 := by omega
 rcases this with rfl | rfl | rfl | rfl <;> decide +kernel
theorem all_signs : ∀ v : Nat, v ≤ 4 → allM 0 v = signs ((List.range v).map fun (k : Nat) => (k : Int) + 1) := by
 intro v h4
 have : v = 0 ∨ v = 1 ∨ v = 2 ∨ v = 3 ∨ v = 4 := by omega
 rcases this with rfl | rfl | rfl | rfl | rfl <;> decide +kernel
theorem lit_ne {p v : Int} (h : 0 < v) : litV p v ≠ 0 := by
 unfold litV
 have h1 := Int.emod_nonneg (p / 2) (b := v) (by omega)
 have h2 : p % 2 = 0 ∨ p % 2 = 1 := by omega
 rcases h2 with h2 | h2 <;> rw [h2]
 ·omega
 ·intro h
  omega
theorem clause_ne {ns : List Int} {b v most : Int} (h : 0 < v) : ∀ l ∈ clauseV ns b v most, l ≠ 0 := by
 intro l hl
 obtain ⟨k, _, rfl⟩ := List.mem_map.mp hl
 exact lit_ne h
def varL (a n : Nat) : List Int := (List.range' a n).map fun (k : Nat) => (k : Int) + 1
theorem mem_varL {a n : Nat} {x : Int} : x ∈ varL a n ↔ (a : Int) < x ∧ x ≤ (a : Int) + (n : Int) := by
 unfold varL
 rw [List.mem_map]
 constructor
 ·rintro ⟨k, hk, rfl⟩
  rw [List.mem_range'_1] at hk
  omega
 ·rintro ⟨h1, h2⟩
  exact ⟨(x - 1).toNat, by rw [List.mem_range'_1]; omega, by omega⟩
theorem varL_len (a n : Nat) : (varL a n).length = n := by unfold varL; rw [List.length_map, List.length_range']
theorem varL_vs (a n : Nat) : Vs (varL a n) := by
 refine ⟨?_, fun x hx => by have := (mem_varL.mp hx).1; omega⟩
 unfold varL
 rw [List.nodup_iff_pairwise_ne, List.pairwise_map]
 have : (List.range' a n).Pairwise fun x y => x ≠ y := List.nodup_range'
 exact this.imp fun h z => h (by omega)
theorem varL_app (a m n : Nat) : varL a (m + n) = varL a m ++ varL (a + m) n := by
 unfold varL
 rw [← List.map_append, ← List.range'_append_1]
def Over (X : List Int) (cs : List (List Int)) : Prop := ∀ c ∈ cs, ∀ l ∈ c, l ≠ 0 ∧ absK l ∈ X
theorem left_app (cs ds : List (List Int)) (l : Int) : leftV (cs ++ ds) l = leftV cs l ++ leftV ds l := by
 unfold leftV
 rw [List.filter_append, List.map_append]
theorem left_same {ds : List (List Int)} {l : Int} (h : ∀ c ∈ ds, l ∉ c ∧ -l ∉ c) : leftV ds l = ds := by
 unfold leftV
 rw [List.filter_eq_self.mpr fun c hc => by simp [(h c hc).1]]
 conv => rhs; rw [← List.map_id ds]
 refine List.map_congr_left fun c hc => ?_
 show withoutV c (-l) = c
 unfold withoutV
 rw [List.filter_eq_self]
 intro x hx
 have : x ≠ -l := by rintro rfl; exact (h c hc).2 hx
 simp [this]
theorem over_left {x l : Int} {X : List Int} {cs : List (List Int)} (h : Over (x :: X) cs) (hl : absK l = x) : Over X (leftV cs l) := by
 intro c hc y hy
 obtain ⟨d, hd, hn, rfl⟩ := in_left hc
 obtain ⟨h1, h2⟩ := in_without.mp hy
 obtain ⟨a, b⟩ := h d hd y h1
 refine ⟨a, ?_⟩
 rcases List.mem_cons.mp b with e | b
 ·have : y ≠ l := by rintro rfl; exact hn h1
  rw [← hl] at e
  unfold absK at e
  omega
 ·exact b
theorem over_nil {cs : List (List Int)} (h : Over [] cs) (hn : [] ∉ cs) : cs = [] := by
 cases cs with
 | nil => rfl
 | cons c r =>
  cases c with
  | nil => exact absurd List.mem_cons_self hn
  | cons l t => have := (h _ List.mem_cons_self l List.mem_cons_self).2; cases this
theorem count_prod : ∀ (X Y : List Int) (cs ds : List (List Int)), Vs (X ++ Y) → Over X cs → Over Y ds → countS (X ++ Y) (cs ++ ds) = countS X cs * countS Y ds
 | [], Y, cs, ds, _, hc, _ => by
  by_cases hn : [] ∈ cs
  ·rw [count_zero hn, Nat.zero_mul, count_zero (List.mem_append_left _ hn)]
  ·rw [over_nil hc hn, List.nil_append, List.nil_append, show countS [] [] = 1 from rfl, Nat.one_mul]
 | x :: X, Y, cs, ds, h, hc, hd => by
  have h' : Vs (x :: (X ++ Y)) := h
  have px := h.ps x List.mem_cons_self
  have hX : Vs (x :: X) := ⟨by rw [List.nodup_cons]; exact ⟨fun z => (List.nodup_cons.mp h'.nd).1 (List.mem_append_left _ z), (List.nodup_append.mp (List.nodup_cons.mp h'.nd).2).1⟩, fun y hy => by
   rcases List.mem_cons.mp hy with rfl | hy
   ·exact px
   ·exact h.ps y (List.mem_cons_of_mem _ (List.mem_append_left _ hy))⟩
  have ds1 : ∀ l, absK l = x → leftV ds l = ds := by
   intro l hl
   refine left_same fun c hc' => ⟨fun z => ?_, fun z => ?_⟩
   ·have := (hd c hc' l z).2
    rw [hl] at this
    exact (List.nodup_cons.mp h'.nd).1 (List.mem_append_right _ this)
   ·have := (hd c hc' (-l) z).2
    rw [show absK (-l) = absK l by unfold absK; omega, hl] at this
    exact (List.nodup_cons.mp h'.nd).1 (List.mem_append_right _ this)
  have e1 : absK x = x := by unfold absK; omega
  have e2 : absK (-x) = x := by unfold absK; omega
  show countS (x :: (X ++ Y)) (cs ++ ds) = _
  rw [count_split h', count_split hX, left_app, left_app, ds1 x e1, ds1 (-x) e2, count_prod X Y _ ds h'.tail (over_left hc e2) hd, count_prod X Y _ ds h'.tail (over_left hc e1) hd, Nat.add_mul]
theorem count_same {X : List Int} {cs ds : List (List Int)} (h : ∀ c, c ∈ cs ↔ c ∈ ds) : countS X cs = countS X ds := by
 unfold countS
 congr 1
 refine List.filter_congr fun M _ => ?_
 rw [Bool.eq_iff_iff, sat_iff, sat_iff]
 exact ⟨fun q c hc => q c ((h c).mpr hc), fun q c hc => q c ((h c).mp hc)⟩
def shI (u l : Int) : Int := l + u * (1 - 2 * (if l < 0 then 1 else 0))
theorem sh_pos {u l : Int} (h : 0 < l) : shI u l = l + u := by
 unfold shI
 rw [if_neg (by omega)]
 omega
theorem sh_neg {u l : Int} (h : l < 0) : shI u l = l - u := by
 unfold shI
 rw [if_pos h]
 omega
theorem sh_opp {u l : Int} (h : l ≠ 0) : shI u (-l) = -(shI u l) := by
 by_cases hp : 0 < l
 ·rw [sh_pos hp, sh_neg (by omega)]; omega
 ·rw [sh_neg (show l < 0 by omega), sh_pos (by omega)]; omega
theorem sh_inj {u a b : Int} (hu : 0 ≤ u) (ha : a ≠ 0) (hb : b ≠ 0) (h : shI u a = shI u b) : a = b := by
 by_cases pa : 0 < a <;> by_cases pb : 0 < b
 ·rw [sh_pos pa, sh_pos pb] at h; omega
 ·rw [sh_pos pa, sh_neg (show b < 0 by omega)] at h; omega
 ·rw [sh_neg (show a < 0 by omega), sh_pos pb] at h; omega
 ·rw [sh_neg (show a < 0 by omega), sh_neg (show b < 0 by omega)] at h; omega
theorem sh_mem {u l : Int} {c : List Int} (hu : 0 ≤ u) (hl : l ≠ 0) (hc : ∀ x ∈ c, x ≠ 0) : shI u l ∈ c.map (shI u) ↔ l ∈ c := by
 rw [List.mem_map]
 constructor
 ·rintro ⟨x, hx, e⟩
  rw [← sh_inj hu (hc x hx) hl e]
  exact hx
 ·exact fun h => ⟨l, h, rfl⟩
theorem left_shift {u l : Int} {ds : List (List Int)} (hu : 0 ≤ u) (hl : l ≠ 0) (h0 : ∀ c ∈ ds, ∀ x ∈ c, x ≠ 0) : leftV (ds.map fun c => c.map (shI u)) (shI u l) = (leftV ds l).map fun c => c.map (shI u) := by
 unfold leftV
 rw [List.filter_map, List.map_map, List.map_map]
 have e : ds.filter ((fun c => !decide (shI u l ∈ c)) ∘ fun c => c.map (shI u)) = ds.filter fun c => !decide (l ∈ c) := by
  refine List.filter_congr fun c hc => ?_
  show (!decide (shI u l ∈ c.map (shI u))) = _
  rw [decide_eq_decide.mpr (sh_mem hu hl (h0 c hc))]
 rw [e]
 refine List.map_congr_left fun c hc => ?_
 have hc0 := h0 c (List.mem_filter.mp hc).1
 show withoutV (c.map (shI u)) (-(shI u l)) = (withoutV c (-l)).map (shI u)
 unfold withoutV
 rw [List.filter_map]
 congr 1
 refine List.filter_congr fun x hx => ?_
 show (!decide (shI u x = -(shI u l))) = !decide (x = -l)
 rw [← sh_opp hl, decide_eq_decide.mpr ⟨fun q => sh_inj hu (hc0 x hx) (by omega) q, fun q => by rw [q]⟩]
theorem count_shift {u : Int} (hu : 0 ≤ u) : ∀ (X : List Int) (ds : List (List Int)), Vs X → (∀ c ∈ ds, ∀ x ∈ c, x ≠ 0) → countS (X.map (· + u)) (ds.map fun c => c.map (shI u)) = countS X ds
 | [], ds, _, _ => by
  unfold countS
  congr 1
  show [[]].filter _ = [[]].filter _
  refine List.filter_congr fun M hM => ?_
  rw [List.mem_singleton.mp hM, Bool.eq_iff_iff, sat_iff, sat_iff]
  constructor
  ·intro q c hc
   obtain ⟨x, _, z⟩ := q _ (List.mem_map.mpr ⟨c, hc, rfl⟩)
   cases z
  ·intro q c hc
   obtain ⟨d, hd, rfl⟩ := List.mem_map.mp hc
   obtain ⟨x, _, z⟩ := q d hd
   cases z
 | x :: X, ds, h, h0 => by
  have px := h.ps x List.mem_cons_self
  have h2 : Vs ((x + u) :: X.map (· + u)) := by
   refine ⟨?_, fun y hy => ?_⟩
   ·rw [List.nodup_cons]
    refine ⟨fun z => ?_, ?_⟩
    ·obtain ⟨y, hy, e⟩ := List.mem_map.mp z
     have : y = x := by omega
     exact (List.nodup_cons.mp h.nd).1 (this ▸ hy)
    ·rw [List.nodup_iff_pairwise_ne, List.pairwise_map]
     have := (List.nodup_cons.mp h.nd).2
     rw [List.nodup_iff_pairwise_ne] at this
     exact this.imp fun q z => q (by omega)
   ·rcases List.mem_cons.mp hy with rfl | hy
    ·omega
    ·obtain ⟨z, hz, rfl⟩ := List.mem_map.mp hy
     have := h.ps z (List.mem_cons_of_mem _ hz)
     omega
  have nz : ∀ k, ∀ c ∈ leftV ds k, ∀ l ∈ c, l ≠ 0 := by
   intro k c hc l hl
   obtain ⟨d, hd, _, rfl⟩ := in_left hc
   exact h0 d hd l (in_without.mp hl).1
  show countS ((x + u) :: X.map (· + u)) _ = _
  rw [count_split h2, count_split h]
  have s1 : x + u = shI u x := (sh_pos px).symm
  have s2 : -(x + u) = shI u (-x) := by rw [sh_opp (by omega), sh_pos px]
  rw [s2, s1, left_shift hu (by omega) h0, left_shift hu (by omega) h0, count_shift hu X _ h.tail (nz _), count_shift hu X _ h.tail (nz _)]
theorem varL_shift (u n : Nat) : varL u n = (varL 0 n).map (· + (u : Int)) := by
 unfold varL
 rw [List.map_map, List.range'_eq_map_range, List.range'_eq_map_range, List.map_map, List.map_map]
 refine List.map_congr_left fun k _ => ?_
 show ((u + k : Nat) : Int) + 1 = ((0 + k : Nat) : Int) + 1 + (u : Int)
 omega
theorem count_models {s : Nat} (h1 : 1 ≤ s) (h4 : s ≤ 4) (cs : List (List Int)) : (modelsV (s : Int) cs).length = countS (varL 0 s) cs := by
 unfold modelsV countS
 rw [mods_all s h1 h4, all_signs s h4]
 congr 3
 unfold varL
 rw [List.range_eq_range']
theorem group_more {u s : Nat} {cs P cs' : List (List Int)} (h1 : 1 ≤ s) (h4 : s ≤ 4) (hc : Over (varL 0 u) cs) (hp : ∀ c ∈ P, ∀ l ∈ c, l ≠ 0 ∧ l.natAbs ≤ s) (hm : ∀ c, c ∈ cs' ↔ c ∈ cs ∨ c ∈ P.map fun c => c.map (shI (u : Int))) :
  countS (varL 0 (u + s)) cs' = countS (varL 0 u) cs * (modelsV (s : Int) P).length ∧ Over (varL 0 (u + s)) cs' := by
 have hP : Over (varL u s) (P.map fun c => c.map (shI (u : Int))) := by
  intro c hc l hl
  obtain ⟨d, hd, rfl⟩ := List.mem_map.mp hc
  obtain ⟨x, hx, rfl⟩ := List.mem_map.mp hl
  obtain ⟨a, b⟩ := hp d hd x hx
  rw [mem_varL]
  by_cases px : 0 < x
  ·rw [sh_pos px]; unfold absK; omega
  ·rw [sh_neg (show x < 0 by omega)]; unfold absK; omega
 have v1 : Vs (varL 0 u ++ varL (0 + u) s) := by rw [← varL_app]; exact varL_vs _ _
 rw [Nat.zero_add] at v1
 constructor
 ·rw [count_same (ds := cs ++ P.map fun c => c.map (shI (u : Int))) (fun c => by rw [hm, List.mem_append]), varL_app, Nat.zero_add, count_prod _ _ _ _ v1 hc hP, varL_shift u s, count_shift (u := (u : Int)) (by omega) _ _ (varL_vs _ _) (fun c hc x hx => (hp c hc x hx).1), count_models h1 h4]
 ·intro c hcc l hl
  rw [varL_app, Nat.zero_add]
  rcases (hm c).mp hcc with q | q
  ·exact ⟨(hc c q l hl).1, List.mem_append_left _ (hc c q l hl).2⟩
  ·exact ⟨(hP c q l hl).1, List.mem_append_right _ (hP c q l hl).2⟩
theorem free_more {u f : Nat} {cs : List (List Int)} (hc : Over (varL 0 u) cs) : countS (varL 0 (u + f)) cs = countS (varL 0 u) cs * 2 ^ f := by
 have v1 : Vs (varL 0 u ++ varL (0 + u) f) := by rw [← varL_app]; exact varL_vs _ _
 have := count_prod (varL 0 u) (varL (0 + u) f) cs [] v1 hc (fun c hc => by cases hc)
 rw [List.append_nil, ← varL_app, count_nil, varL_len] at this
 exact this
theorem len_cls (cs : List (List Int)) : lenD [.lst (clsD cs)] = some (.val (.int (cs.length : Nat))) := by
 show some _ = _
 rw [clsD_len]
abbrev cuE (ns : List Int) (u : Nat) (cs : List (List Int)) (d : Int) (o4 o5 o6 o7 o8 : Option C) : Env' := [some (.sh (.lst (ns.map D.int))), some (.sh (.int (u : Int))), some (.ow false (.lst (clsD cs))), some (.sh (.int d)), o4, o5, o6, o7, o8, none, none]
theorem comp_sh (u : Nat) (hu : u ≤ 12) (c : List Int) : compL (tgN 0) mYes (mBin addD (mVar 0) (mBin mulD (mVar 1) (mBin subD (mC (.int 1)) (mBin mulD (mC (.int 2)) (mCB intD (mCons (mBin (cmpI fun i j => decide (i < j)) (mVar 0) (mC (.int 0))) mNil)))))) [none, some (.sh (.int (u : Int)))] (c.map D.int) = some ((c.map (shI (u : Int))).map D.int) := by
 rw [List.map_map]
 refine comp_all fun l _ => ?_
 have ib : intD [.bl (decide (l < 0))] = some (.val (.int (if l < 0 then 1 else 0))) := by
  show some (W.val (.int (if decide (l < 0) = true then 1 else 0))) = _
  by_cases h : l < 0 <;> simp [h]
 have hm : mulD (.int (u : Int)) (.int (1 - 2 * (if l < 0 then 1 else 0))) = some (.val (.int ((u : Int) * (1 - 2 * (if l < 0 then 1 else 0))))) := op_mulD (.inl ⟨by omega, by omega⟩)
 exact ⟨_, _, _, _, rfl, ev_bin (ev_var rfl) (ev_bin (ev_var rfl) (ev_bin ev_C (ev_bin ev_C (ev_CB (ev_cons (ev_bin (ev_var rfl) ev_C rfl rfl rfl) ev_nil) rfl ib) rfl rfl (op_mulD (.inl ⟨by decide, by decide⟩))) rfl rfl rfl) rfl rfl hm) rfl rfl rfl, rfl⟩
theorem put_loop (ns : List Int) (u : Nat) (hu : u ≤ 12) (d : Int) (k : Int) (o5 o6 : Option C) : ∀ (P cs : List (List Int)) (o7 o8 : Option C), cs.length + P.length ≤ 100 → (∀ c ∈ cs, c.length ≤ 100) → (∀ c ∈ P, c.length ≤ 100) → ∃ cs' p7 p8, forL (tgN 7) lp_law_0 (clsD P) (cuE ns u cs d (some (.sh (.int k))) o5 o6 o7 o8) = some (.nx (cuE ns u cs' d (some (.sh (.int k))) o5 o6 p7 p8)) ∧ cs'.length = cs.length + P.length ∧ (∀ c ∈ cs', c.length ≤ 100) ∧ ∀ c, c ∈ cs' ↔ c ∈ cs ∨ c ∈ P.map fun c => c.map (shI (u : Int))
 | [], cs, o7, o8, _, hl, _ => ⟨cs, o7, o8, rfl, rfl, hl, fun c => by simp⟩
 | c :: P, cs, o7, o8, hz, hl, hp => by
  rw [List.length_cons] at hz
  have hc := hp c List.mem_cons_self
  obtain ⟨t, ht⟩ : ∃ t, t = c.map (shI (u : Int)) := ⟨_, rfl⟩
  have tl : t.length ≤ 100 := by rw [ht, List.length_map]; exact hc
  have q1 := Int.emod_nonneg (mixV ns (50 + k)) (b := ((cs.length : Nat) : Int) + 1) (by omega)
  have q2 := Int.emod_lt_of_pos (mixV ns (50 + k)) (b := ((cs.length : Nat) : Int) + 1) (by omega)
  obtain ⟨m, hm⟩ : ∃ m : Nat, mixV ns (50 + k) % (((cs.length : Nat) : Int) + 1) = (m : Int) := ⟨(mixV ns (50 + k) % (((cs.length : Nat) : Int) + 1)).toNat, by omega⟩
  have md : modD (.int (mixV ns (50 + k))) (.int (((cs.length : Nat) : Int) + 1)) = some (.val (.int (m : Int))) := by rw [op_modD (by omega), hm]
  have mem1 : ∀ x, x ∈ cs.take m ++ t :: cs.drop m ↔ x ∈ cs ∨ x = t := by
   intro x
   rw [List.mem_append, List.mem_cons]
   constructor
   ·rintro (h | h | h)
    ·exact .inl (List.mem_of_mem_take h)
    ·exact .inr h
    ·exact .inl (List.mem_of_mem_drop h)
   ·rintro (h | h)
    ·rw [← List.take_append_drop m cs] at h
     rcases List.mem_append.mp h with h | h
     ·exact .inl h
     ·exact .inr (.inr h)
    ·exact .inr (.inl h)
  obtain ⟨cs', p7, p8, h1, h2, h3, h4⟩ := put_loop ns u hu d k o5 o6 P (cs.take m ++ t :: cs.drop m) (some (.sh (.tup (c.map D.int)))) (some (.sh (.tup (t.map D.int)))) (by rw [List.length_append, List.length_cons, List.length_take, List.length_drop]; omega) (fun x hx => by
   rcases (mem1 x).mp hx with h | h
   ·exact hl x h
   ·rw [h]; exact tl) (fun x hx => hp x (List.mem_cons_of_mem _ hx))
  have ei : clsD (cs.take m ++ t :: cs.drop m) = (clsD cs).take (m : Int).toNat ++ D.tup (t.map D.int) :: (clsD cs).drop (m : Int).toNat := by
   show _ = (clsD cs).take m ++ D.tup (t.map D.int) :: (clsD cs).drop m
   unfold clsD
   rw [List.map_append, List.map_cons, List.map_take, List.map_drop]
  refine ⟨cs', p7, p8, for_nx rfl ?_ h1, ?_, h3, fun x => ?_⟩
  ·have c1 := comp_sh u hu c
   rw [← ht] at c1
   refine ev_seq (ev_set (ev_CB (ev_cons (ev_comp (ρ1 := cuE ns u cs d (some (.sh (.int k))) o5 o6 (some (.sh (.tup (c.map D.int)))) o8) (ev_iter (ev_var rfl) rfl rfl) (by rw [List.length_map]; exact small_of (by omega)) c1 (.inl (all_flat_ints _))) ev_nil) rfl rfl) rfl) ?_
   unfold cuE
   rw [ei]
   exact ev_insD rfl (ev_cons (ev_bin (ev_call0 (ev_cons (ev_var rfl) (ev_cons (ev_bin ev_C (ev_var rfl) rfl rfl rfl) ev_nil)) rfl rfl fe_mix rfl rfl) (ev_bin (ev_CB (ev_cons (ev_var rfl) ev_nil) rfl (len_cls cs)) ev_C rfl rfl rfl) rfl rfl md) (ev_cons (ev_var rfl) ev_nil)) rfl rfl rfl (by rw [clsD_len]; exact small_of (by omega)) (by omega) (by omega) rfl
  ·rw [h2, List.length_append, List.length_cons, List.length_take, List.length_drop, List.length_cons]
   omega
  ·rw [h4, mem1, List.map_cons, List.mem_cons, ← ht]
   constructor
   ·rintro ((h | h) | h)
    ·exact .inl h
    ·exact .inr (.inl h)
    ·exact .inr (.inr h)
   ·rintro (h | h | h)
    ·exact .inl (.inl h)
    ·exact .inl (.inr h)
    ·exact .inr h
theorem cl_rg {ns : List Int} {b v : Int} (hv : 0 < v) : ∀ l ∈ clauseV ns b v 3, l ≠ 0 ∧ l.natAbs ≤ v.toNat := by
 intro l hl
 refine ⟨clause_ne hv l hl, ?_⟩
 obtain ⟨j, _, rfl⟩ := List.mem_map.mp hl
 show (litV _ v).natAbs ≤ v.toNat
 generalize mixV ns (b + 1 + (j : Int)) = p
 unfold litV
 have h1 := Int.emod_nonneg (p / 2) (b := v) (by omega)
 have h2 := Int.emod_lt_of_pos (p / 2) (b := v) hv
 have h3 : p % 2 = 0 ∨ p % 2 = 1 := by omega
 generalize p / 2 % v = a at *
 rcases h3 with h3 | h3 <;> rw [h3] <;> omega
theorem cl_len {ns : List Int} {b v : Int} : (clauseV ns b v 3).length ≤ 100 := by
 unfold clauseV
 rw [List.length_map, List.length_range]
 have := size_hi (mixV ns b) 3 (by decide)
 omega
theorem group_loop (ns : List Int) : ∀ (ks : List Nat) (u : Nat) (cs : List (List Int)) (o4 o5 o6 o7 o8 : Option C), u ≤ 12 → cs.length + 3 * ks.length ≤ 100 → (∀ c ∈ cs, c.length ≤ 100) → Over (varL 0 u) cs → ∃ u' cs' p4 p5 p6 p7 p8, forL (tgN 4) lp_law_1 (ks.map fun k => D.int (0 + ((k : Nat) : Int))) (cuE ns u cs ((countS (varL 0 u) cs : Nat) : Int) o4 o5 o6 o7 o8) = some (.nx (cuE ns u' cs' ((countS (varL 0 u') cs' : Nat) : Int) p4 p5 p6 p7 p8)) ∧ u' ≤ 12 ∧ cs'.length ≤ 100 ∧ (∀ c ∈ cs', c.length ≤ 100) ∧ Over (varL 0 u') cs'
 | [], u, cs, o4, o5, o6, o7, o8, hu, hz, hl, ho => ⟨u, cs, o4, o5, o6, o7, o8, rfl, hu, by simpa using hz, hl, ho⟩
 | k :: ks, u, cs, o4, o5, o6, o7, o8, hu, hz, hl, ho => by
  rw [List.length_cons] at hz
  have q1 := Int.emod_nonneg (mixV ns (1 + (0 + (k : Int)))) (b := 3) (by omega)
  have q2 := Int.emod_lt_of_pos (mixV ns (1 + (0 + (k : Int)))) (b := 3) (by omega)
  obtain ⟨s, hs⟩ : ∃ s : Nat, 1 + mixV ns (1 + (0 + (k : Int))) % 3 = (s : Int) := ⟨(1 + mixV ns (1 + (0 + (k : Int))) % 3).toNat, by omega⟩
  have s5 : setS 5 (mBin addD (mC (.int 1)) (mBin modD (mCall [false, false] fm_law_mix (mCons (mVar 0) (mCons (mBin addD (mC (.int 1)) (mVar 4)) mNil))) (mC (.int 3)))) (cuE ns u cs ((countS (varL 0 u) cs : Nat) : Int) (some (.sh (.int (0 + (k : Int))))) o5 o6 o7 o8) = some (.nx (cuE ns u cs ((countS (varL 0 u) cs : Nat) : Int) (some (.sh (.int (0 + (k : Int))))) (some (.sh (.int (s : Int)))) o6 o7 o8)) := by
   rw [← hs]
   exact ev_set (ev_bin ev_C (ev_bin (ev_call0 (ev_cons (ev_var rfl) (ev_cons (ev_bin ev_C (ev_var rfl) rfl rfl rfl) ev_nil)) rfl rfl fe_mix rfl rfl) ev_C rfl rfl (op_modD (by decide))) rfl rfl rfl) rfl
  have le : cmpI (fun i j => decide (i ≤ j)) (.int ((u : Int) + (s : Int))) (.int 12) = some (.val (.bl (decide (u + s ≤ 12)))) := by
   show some (W.val (.bl (decide _))) = _
   rw [decide_eq_decide.mpr (by omega : (u : Int) + (s : Int) ≤ 12 ↔ u + s ≤ 12)]
  have ct : mTst (mBin (cmpI fun i j => decide (i ≤ j)) (mBin addD (mVar 1) (mVar 5)) (mC (.int 12))) (cuE ns u cs ((countS (varL 0 u) cs : Nat) : Int) (some (.sh (.int (0 + (k : Int))))) (some (.sh (.int (s : Int)))) o6 o7 o8) = some (.ok (decide (u + s ≤ 12)) (cuE ns u cs ((countS (varL 0 u) cs : Nat) : Int) (some (.sh (.int (0 + (k : Int))))) (some (.sh (.int (s : Int)))) o6 o7 o8)) := ev_tst (ev_bin (ev_bin (ev_var rfl) (ev_var rfl) rfl rfl rfl) ev_C rfl rfl le)
  by_cases hle : u + s ≤ 12
  ·rw [decide_eq_true hle] at ct
   have q3 := Int.emod_nonneg (mixV ns (40 + (0 + (k : Int)))) (b := 4) (by omega)
   have q4 := Int.emod_lt_of_pos (mixV ns (40 + (0 + (k : Int)))) (b := 4) (by omega)
   obtain ⟨n, hn⟩ : ∃ n : Nat, mixV ns (40 + (0 + (k : Int))) % 4 = (n : Int) := ⟨(mixV ns (40 + (0 + (k : Int))) % 4).toNat, by omega⟩
   have md : modD (.int (mixV ns (40 + (0 + (k : Int))))) (.int 4) = some (.val (.int (n : Int))) := by rw [op_modD (by decide), hn]
   have rg : ints1 [.int (n : Int)] = some ((List.range n).map fun k => D.int (0 + ((k : Nat) : Int))) := by
    show grd _ _ = _
    rw [grd_pos (by omega)]
    rfl
   obtain ⟨P, hP⟩ : ∃ P, P = (List.range n).map fun (j : Nat) => clauseV ns (6 + 17 * (0 + (k : Int)) + 5 * (0 + (j : Int))) (s : Int) 3 := ⟨_, rfl⟩
   have pl : P.length = n := by rw [hP, List.length_map, List.length_range]
   have pr : ∀ c ∈ P, c.length ≤ 100 ∧ ∀ l ∈ c, l ≠ 0 ∧ l.natAbs ≤ s := by
    intro c hc
    rw [hP] at hc
    obtain ⟨j, _, rfl⟩ := List.mem_map.mp hc
    exact ⟨cl_len, cl_rg (by omega)⟩
   have c1 : compL (tgN 0) mYes (mCall [false, false, false, false] fm_law_clause (mCons (mVar 1) (mCons (mBin addD (mBin addD (mC (.int 6)) (mBin mulD (mC (.int 17)) (mVar 2))) (mBin mulD (mC (.int 5)) (mVar 0))) (mCons (mVar 3) (mCons (mC (.int 3)) mNil))))) [none, some (.sh (.lst (ns.map D.int))), some (.sh (.int (0 + (k : Int)))), some (.sh (.int (s : Int)))] ((List.range n).map fun k => D.int (0 + ((k : Nat) : Int))) = some (clsD P) := by
    rw [hP]
    unfold clsD
    rw [List.map_map]
    exact comp_all fun j _ => ⟨_, _, _, _, rfl, ev_call0 (ev_cons (ev_var rfl) (ev_cons (ev_bin (ev_bin ev_C (ev_bin ev_C (ev_var rfl) rfl rfl (op_mulD (.inl ⟨by decide, by decide⟩))) rfl rfl rfl) (ev_bin ev_C (ev_var rfl) rfl rfl (op_mulD (.inl ⟨by decide, by decide⟩))) rfl rfl rfl) (ev_cons (ev_var rfl) (ev_cons ev_C ev_nil)))) rfl rfl (fe_clause (by omega) (by omega) (by decide) (by decide)) rfl rfl, rfl⟩
   have fm := fe_models (v := (s : Int)) (cs := P) (by omega) (by omega) (by omega) (fun c hc => by have := (pr c hc).1; omega)
   have ml : mulD (.int ((countS (varL 0 u) cs : Nat) : Int)) (.int ((modelsV (s : Int) P).length : Nat)) = some (.val (.int (((countS (varL 0 u) cs : Nat) : Int) * ((modelsV (s : Int) P).length : Nat)))) := by
    refine op_mulD (.inr ?_)
    have : (modelsV (s : Int) P).length ≤ 16 := by
     unfold modelsV
     refine Nat.le_trans (List.length_filter_le _ _) ?_
     rw [List.length_map, List.length_range]
     exact cnt_le _
    exact ⟨by omega, by omega⟩
   obtain ⟨cs', p7, p8, h1, h2, h3, h4⟩ := put_loop ns u hu (((countS (varL 0 u) cs : Nat) : Int) * ((modelsV (s : Int) P).length : Nat)) (0 + (k : Int)) (some (.sh (.int (s : Int)))) (some (.sh (.lst (clsD P)))) P cs o7 o8 (by omega) hl (fun c hc => (pr c hc).1)
   obtain ⟨g1, g2⟩ := group_more (u := u) (s := s) (by omega) (by omega) ho (fun c hc => (pr c hc).2) h4
   obtain ⟨u', cs2, r4, r5, r6, r7, r8, i1, i2, i3, i4, i5⟩ := group_loop ns ks (u + s) cs' (some (.sh (.int (0 + (k : Int))))) (some (.sh (.int (s : Int)))) (some (.sh (.lst (clsD P)))) p7 p8 hle (by omega) h3 g2
   refine ⟨u', cs2, r4, r5, r6, r7, r8, ?_, i2, i3, i4, i5⟩
   rw [g1] at i1
   refine for_nx rfl (ev_seq s5 (ev_ifT ct rfl (ev_seq (ev_set (ev_comp (ev_rng (ev_cons (ev_bin (ev_call0 (ev_cons (ev_var rfl) (ev_cons (ev_bin ev_C (ev_var rfl) rfl rfl rfl) ev_nil)) rfl rfl fe_mix rfl rfl) ev_C rfl rfl md) ev_nil) rfl rg) (by rw [List.length_map, List.length_range]; exact small_of (by omega)) c1 (.inl (flat_cls _))) rfl) (ev_seq (ev_set (ev_bin (ev_var rfl) (ev_CB (ev_cons (ev_call (ev_cons (ev_var rfl) (ev_cons (ev_var rfl) ev_nil)) rfl rfl fm rfl (flat_ownC _)) ev_nil) rfl (len_cls _)) rfl rfl ml) rfl) (ev_seq (ev_for (ev_iter (ev_var rfl) rfl rfl) h1) (ev_set (ev_bin (ev_var rfl) (ev_var rfl) rfl rfl rfl) ?_)))))) i1
   unfold cuE
   rw [show (((u + s : Nat) : Int)) = (u : Int) + (s : Int) by omega, Int.natCast_mul]
   rfl
  ·rw [decide_eq_false hle] at ct
   obtain ⟨u', cs2, r4, r5, r6, r7, r8, i1, i2⟩ := group_loop ns ks u cs (some (.sh (.int (0 + (k : Int))))) (some (.sh (.int (s : Int)))) o6 o7 o8 hu (by omega) hl ho
   exact ⟨u', cs2, r4, r5, r6, r7, r8, for_nx rfl (ev_seq s5 (ev_ifF ct rfl ev_nx)) i1, i2⟩
theorem dbl_loop (ns : List Int) (u : Nat) (cs : List (List Int)) (f : Int) (o5 o6 o7 o8 : Option C) : ∀ (ks : List D) (d : Nat) (o4 : Option C), ∃ p4, forL (tgN 4) lp_law_2 ks [some (.sh (.lst (ns.map D.int))), some (.sh (.int (u : Int))), some (.ow false (.lst (clsD cs))), some (.sh (.int (d : Int))), o4, o5, o6, o7, o8, some (.sh (.int f)), none] = some (.nx [some (.sh (.lst (ns.map D.int))), some (.sh (.int (u : Int))), some (.ow false (.lst (clsD cs))), some (.sh (.int ((d * 2 ^ ks.length : Nat) : Int))), p4, o5, o6, o7, o8, some (.sh (.int f)), none])
 | [], d, o4 => ⟨o4, by rw [List.length_nil, Nat.pow_zero, Nat.mul_one]; rfl⟩
 | k :: ks, d, o4 => by
  obtain ⟨p4, ih⟩ := dbl_loop ns u cs f o5 o6 o7 o8 ks (2 * d) (some (.sh k))
  refine ⟨p4, ?_⟩
  have e : d * 2 ^ (k :: ks).length = 2 * d * 2 ^ ks.length := by rw [List.length_cons, Nat.pow_succ, Nat.mul_comm (2 ^ ks.length) 2, ← Nat.mul_assoc, Nat.mul_comm d 2]
  rw [e]
  have ml : mulD (.int 2) (.int (d : Int)) = some (.val (.int ((2 * d : Nat) : Int))) := by
   rw [op_mulD (.inl ⟨by decide, by decide⟩), Int.natCast_mul]
   rfl
  exact for_nx rfl (ev_set (ev_bin ev_C (ev_var rfl) rfl rfl ml) rfl) ih
theorem law_true : ∀ ns : List Int, ns.length ≤ 63 → runF den_law 11 [false] [.lst (ns.map D.int)] = some (.ret (.val (.bl true)) []) := by
 intro ns _
 have q1 := Int.emod_nonneg (mixV ns 0) (b := 5) (by omega)
 have q2 := Int.emod_lt_of_pos (mixV ns 0) (b := 5) (by omega)
 obtain ⟨n, hn⟩ : ∃ n : Nat, mixV ns 0 % 5 = (n : Int) := ⟨(mixV ns 0 % 5).toNat, by omega⟩
 have md : modD (.int (mixV ns 0)) (.int 5) = some (.val (.int (n : Int))) := by rw [op_modD (by decide), hn]
 have rgN : ∀ k : Nat, k ≤ 1000 → ints1 [.int (k : Int)] = some ((List.range k).map fun k => D.int (0 + ((k : Nat) : Int))) := by
  intro k hk
  show grd _ _ = _
  rw [grd_pos (by omega)]
  rfl
 obtain ⟨u, cs, p4, p5, p6, p7, p8, hL, hu, hz, hl, ho⟩ := group_loop ns (List.range n) 0 [] none none none none none (by omega) (by rw [List.length_nil, List.length_range]; omega) (fun c hc => by cases hc) (fun c hc => by cases hc)
 have hL : forL (tgN 4) lp_law_1 ((List.range n).map fun k => D.int (0 + ((k : Nat) : Int))) (cuE ns 0 [] 1 none none none none none) = some (.nx (cuE ns u cs ((countS (varL 0 u) cs : Nat) : Int) p4 p5 p6 p7 p8)) := hL
 have q3 := Int.emod_nonneg (mixV ns 60) (b := 13 - (u : Int)) (by omega)
 have q4 := Int.emod_lt_of_pos (mixV ns 60) (b := 13 - (u : Int)) (by omega)
 obtain ⟨f, hf⟩ : ∃ f : Nat, mixV ns 60 % (13 - (u : Int)) = (f : Int) := ⟨(mixV ns 60 % (13 - (u : Int))).toNat, by omega⟩
 have md2 : modD (.int (mixV ns 60)) (.int (13 - (u : Int))) = some (.val (.int (f : Int))) := by rw [op_modD (by omega), hf]
 obtain ⟨r4, hD⟩ := dbl_loop ns u cs (f : Int) p5 p6 p7 p8 ((List.range f).map fun k => D.int (0 + ((k : Nat) : Int))) (countS (varL 0 u) cs) p4
 rw [List.length_map, List.length_range, ← free_more ho] at hD
 have hok : okC cs = true := okC_of (by omega) (fun c hc => by have := hl c hc; omega)
 have vin : ∀ x ∈ varsV cs, x ∈ varL 0 (u + f) := by
  intro x hx
  obtain ⟨c, hc, l, hl', rfl⟩ := mem_vars.mp hx
  have := mem_varL.mp (ho c hc l hl').2
  rw [mem_varL]
  omega
 have vl : (varsV cs).length ≤ u + f := by
  have := sub_len (vars_nodup cs) vin
  rw [varL_len] at this
  exact this
 have co := count_ok 15 cs (varL 0 (u + f)) (varL_vs _ _) vin (fun c hc l hl' => (ho c hc l hl').1) (by omega)
 rw [varL_len] at co
 have fc := fe_countR (n := 14) (v := ((u + f : Nat) : Int)) hok (by omega) (by omega) (by omega)
 rw [co] at fc
 have fc : fm_counted [.int ((u + f : Nat) : Int), .lst (clsD cs)] = some (.ret (.val (.int ((countS (varL 0 (u + f)) cs : Nat) : Int))) []) := fc
 have ad : addD (.int (u : Int)) (.int (f : Int)) = some (.val (.int ((u + f : Nat) : Int))) := by
  show some (W.val (.int ((u : Int) + (f : Int)))) = _
  rw [show (u : Int) + (f : Int) = ((u + f : Nat) : Int) by omega]
 have eq := eq_int ((countS (varL 0 (u + f)) cs : Nat) : Int) ((countS (varL 0 (u + f)) cs : Nat) : Int)
 rw [decide_eq_true rfl] at eq
 generalize countS (varL 0 (u + f)) cs = T at *
 exact run_of (ev_seq (ev_set ev_C rfl) (ev_seq (ev_set (ev_lst ev_nil rfl (Nat.le_of_ble_eq_true rfl)) rfl) (ev_seq (ev_set ev_C rfl)
  (ev_seq (ev_for (ev_rng (ev_cons (ev_bin (ev_call0 (ev_cons (ev_var rfl) (ev_cons ev_C ev_nil)) rfl rfl fe_mix rfl rfl) ev_C rfl rfl md) ev_nil) rfl (rgN n (by omega))) hL)
  (ev_seq (ev_set (ev_bin (ev_call0 (ev_cons (ev_var rfl) (ev_cons ev_C ev_nil)) rfl rfl fe_mix rfl rfl) (ev_bin ev_C (ev_var rfl) rfl rfl rfl) rfl rfl md2) rfl)
  (ev_seq (ev_for (ev_rng (ev_cons (ev_var rfl) ev_nil) rfl (rgN f (by omega))) hD)
  (ev_seq (ev_set (ev_call0 (ev_cons (ev_bin (ev_var rfl) (ev_var rfl) rfl rfl ad) (ev_cons (ev_CB (ev_cons (ev_var rfl) ev_nil) rfl rfl) ev_nil)) rfl rfl fc rfl rfl) rfl)
  (ev_ret (ev_andVT (ev_call0 (ev_cons (ev_var rfl) ev_nil) rfl rfl (fe_whole rfl) rfl rfl) rfl rfl (ev_bin (ev_var rfl) (ev_var rfl) rfl rfl eq)) rfl)))))))) rfl
end K23
open PySem PySem.W PyProof.Rows
set_option maxRecDepth 100000 in
set_option maxHeartbeats 0 in
theorem PySem.Challenge.cw_clausekeep_k23_counted_apart_holds : PySem.Challenge.rw_clausekeep_k23_counted_apart.Holds := by
 w_on; o_law; k_head; (case hw => w_witness2)
 k_fill
 refine L2.walk_law (l := PySem.Challenge.rw_clausekeep_k23_counted_apart) (k := 18) (x := "_law_script") rfl rfl ⟨rfl, by decide, by decide⟩ (fun w h Y => PySem.W.kIn_of Y) ?F
 case F =>
  intro w mg fa h KX G hmg
  have D_law_cell : L2.Def (L2.KOf KX) mg "_law_cell" K23.s_law_cell ["_law_script", "_law_k"] := by
   refine' L2.def_mk KX G ?a ?l ?c ?k ?b
   (case a | l | c | k => (dsimp only [L2.KOf]; k_is))
   (case b => exact fun _ _ _ _ _ _ us hl => match us, hl with | [_, _], _ => rfl)
  have D_law_mix : L2.Def (L2.KOf KX) mg "_law_mix" K23.s_law_mix ["_law_script", "_law_k"] := by
   refine' L2.def_mk KX G ?a ?l ?c ?k ?b
   (case a | l | c | k => (dsimp only [L2.KOf]; k_is))
   (case b => exact fun _ _ _ _ _ _ us hl => match us, hl with | [_, _], _ => rfl)
  have D_law_whole : L2.Def (L2.KOf KX) mg "_law_whole" K23.s_law_whole ["_law_found"] := by
   refine' L2.def_mk KX G ?a ?l ?c ?k ?b
   (case a | l | c | k => (dsimp only [L2.KOf]; k_is))
   (case b => exact fun _ _ _ _ _ _ us hl => match us, hl with | [_], _ => rfl)
  have D_law_clause : L2.Def (L2.KOf KX) mg "_law_clause" K23.s_law_clause ["_law_script", "_law_base", "_law_variables", "_law_most"] := by
   refine' L2.def_mk KX G ?a ?l ?c ?k ?b
   (case a | l | c | k => (dsimp only [L2.KOf]; k_is))
   (case b => exact fun _ _ _ _ _ _ us hl => match us, hl with | [_, _, _, _], _ => rfl)
  have D_law_models : L2.Def (L2.KOf KX) mg "_law_models" K23.s_law_models ["_law_variables", "_law_clauses"] := by
   refine' L2.def_mk KX G ?a ?l ?c ?k ?b
   (case a | l | c | k => (dsimp only [L2.KOf]; k_is))
   (case b => exact fun _ _ _ _ _ _ us hl => match us, hl with | [_, _], _ => rfl)
  have D_without : L2.Def (L2.KOf KX) mg "without" K23.s_without ["clause", "literal"] := by
   refine' L2.def_mk KX G ?a ?l ?c ?k ?b
   (case a | l | c | k => (dsimp only [L2.KOf]; k_is))
   (case b => exact fun _ _ _ _ _ _ us hl => match us, hl with | [_, _], _ => rfl)
  have D_left_over : L2.Def (L2.KOf KX) mg "left_over" K23.s_left_over ["clauses", "literal"] := by
   refine' L2.def_mk KX G ?a ?l ?c ?k ?b
   (case a | l | c | k => (dsimp only [L2.KOf]; k_is))
   (case b => exact fun _ _ _ _ _ _ us hl => match us, hl with | [_, _], _ => rfl)
  have D_ways : L2.Def (L2.KOf KX) mg "ways" K23.s_ways ["variables"] := by
   refine' L2.def_mk KX G ?a ?l ?c ?k ?b
   (case a | l | c | k => (dsimp only [L2.KOf]; k_is))
   (case b => exact fun _ _ _ _ _ _ us hl => match us, hl with | [_], _ => rfl)
  have D_counted : L2.Def (L2.KOf KX) mg "counted" K23.s_counted ["variables", "clauses"] := by
   refine' L2.def_mk KX G ?a ?l ?c ?k ?b
   (case a | l | c | k => (dsimp only [L2.KOf]; k_is))
   (case b => exact fun _ _ _ _ _ _ us hl => match us, hl with | [_, _], _ => rfl)
  have D_law : L2.Def (L2.KOf KX) mg "law" K23.s_law ["_law_script"] := by
   refine' L2.def_mk KX G ?a ?l ?c ?k ?b
   (case a | l | c | k => (dsimp only [L2.KOf]; k_is))
   (case b => exact fun _ _ _ _ _ _ us hl => match us, hl with | [_], _ => rfl)
  have z_len : mg "len" = none := PySem.W.mg_none_of KX G (by k_is)
  have z_isinstance : mg "isinstance" = none := PySem.W.mg_none_of KX G (by k_is)
  have z_int : mg "int" = none := PySem.W.mg_none_of KX G (by k_is)
  have z_bool : mg "bool" = none := PySem.W.mg_none_of KX G (by k_is)
  have z_range : mg "range" = none := PySem.W.mg_none_of KX G (by k_is)
  have z_tuple : mg "tuple" = none := PySem.W.mg_none_of KX G (by k_is)
  have z_all : mg "all" = none := PySem.W.mg_none_of KX G (by k_is)
  have z_any : mg "any" = none := PySem.W.mg_none_of KX G (by k_is)
  have z_min : mg "min" = none := PySem.W.mg_none_of KX G (by k_is)
  have z_list : mg "list" = none := PySem.W.mg_none_of KX G (by k_is)
  have H_law_cell := fun base => D_law_cell.has (P := PySem.Challenge.rw_clausekeep_k23_counted_apart.prog) (w := w) (base := base) fun f fd F => (K23.run_law_cell F z_len).imp (L3.SpD.imp K23.spec_law_cell)
  have H_law_mix := fun base => D_law_mix.has (P := PySem.Challenge.rw_clausekeep_k23_counted_apart.prog) (w := w) (base := base) fun f fd F => (K23.run_law_mix F (H_law_cell base)).imp (L3.SpD.imp K23.spec_law_mix)
  have H_law_whole := fun base => D_law_whole.has (P := PySem.Challenge.rw_clausekeep_k23_counted_apart.prog) (w := w) (base := base) fun f fd F => (K23.run_law_whole F z_isinstance z_int z_bool).imp (L3.SpD.imp K23.spec_law_whole)
  have H_law_clause := fun base => D_law_clause.has (P := PySem.Challenge.rw_clausekeep_k23_counted_apart.prog) (w := w) (base := base) fun f fd F => (K23.run_law_clause F z_range z_tuple (H_law_mix base)).imp (L3.SpD.imp K23.spec_law_clause)
  have H_law_models := fun base => D_law_models.has (P := PySem.Challenge.rw_clausekeep_k23_counted_apart.prog) (w := w) (base := base) fun f fd F => (K23.run_law_models F z_range z_all z_any z_tuple).imp (L3.SpD.imp K23.spec_law_models)
  have H_without := fun base => D_without.has (P := PySem.Challenge.rw_clausekeep_k23_counted_apart.prog) (w := w) (base := base) fun f fd F => (K23.run_without F z_tuple).imp (L3.SpD.imp K23.spec_without)
  have H_left_over := fun base => D_left_over.has (P := PySem.Challenge.rw_clausekeep_k23_counted_apart.prog) (w := w) (base := base) fun f fd F => (K23.run_left_over F (H_without base)).imp (L3.SpD.imp K23.spec_left_over)
  have H_ways := fun base => D_ways.has (P := PySem.Challenge.rw_clausekeep_k23_counted_apart.prog) (w := w) (base := base) fun f fd F => (K23.run_ways F z_range).imp (L3.SpD.imp K23.spec_ways)
  have H_counted := fun base => L3.has_rec (P := PySem.Challenge.rw_clausekeep_k23_counted_apart.prog) (w := w) (base := base) (b := 2) (ms := [false, false]) (fm := K23.fmR_counted) D_counted (fun _ => rfl) (fun n hn f fd F => (K23.run_counted n F z_min z_len (H_ways base) hn (H_left_over base)).imp (L3.SpD.imp (K23.spec_counted n))) 15
  exact L2.law_of D_law hmg (fun f fd F base _ _ => (K23.run_law F z_range z_list z_len z_tuple z_int (H_counted base) (H_law_mix base) (H_law_whole base) (H_law_clause base) (H_law_models base)).imp (L3.law_imp K23.law_true))
#print axioms PySem.Challenge.cw_clausekeep_k23_counted_apart_holds
