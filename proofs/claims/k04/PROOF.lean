import PyProof.Rows.All
import Wide.All
import OpenK.AllK
import Wide.FinOn
import Lean
import PyProof.EqAt
import PyProof.EqKinds
import PyProof.TupleCall
import KE.KRevIter
import PyProof.NeData
import KE.KSortTup
import PyProof.Rows.SortWalk
import KE.KDictSum
import PySem.Challenge.RW_bellwheel_k04_whole_any_size
set_option Elab.async false
set_option linter.all false
set_option maxRecDepth 100000
namespace L2
open PySem PySem.Spec PyProof.Rows

/-- a key: an int or a str -/
abbrev Key := Sum Int Str
def keyIs : Key → Value → Bool
  | .inl k, v => Value.isInt k v
  | .inr x, v => Value.isStrOf x v
def keyH (w : World) : Key → Int
  | .inl k => hashInt k
  | .inr x => hashStr w x
theorem keyIs_shape : ∀ {k : Key} {v : Value}, keyIs k v = true → (∃ i t, k = Sum.inl i ∧ v = Value.int i t) ∨ (∃ x t, k = Sum.inr x ∧ v = Value.str x t)
  | .inl i, v, h => by
    obtain ⟨t, e⟩ := Value.isInt_shape (k := i) (v := v) h
    exact .inl ⟨i, t, rfl, e⟩
  | .inr x, v, h => by
    obtain ⟨t, e⟩ := Value.isStrOf_shape (x := x) (v := v) h
    exact .inr ⟨x, t, rfl, e⟩
theorem keyIs_int (i : Int) (t : Tok) : keyIs (.inl i) (.int i t) = true := by simp [keyIs, Value.isInt]
theorem keyIs_str (x : Str) (t : Tok) : keyIs (.inr x) (.str x t) = true := by simp [keyIs, Value.isStrOf]
theorem key_ll (a b : Int) : decide ((Sum.inl a : Key) = Sum.inl b) = (a == b) := by
  by_cases e : a = b
  · subst e; simp
  · have h : ¬ (Sum.inl a : Key) = Sum.inl b := fun q => e (Sum.inl.inj q)
    rw [decide_eq_false h]
    exact (beq_eq_false_iff_ne.mpr e).symm
theorem key_rr (a b : Str) : decide ((Sum.inr a : Key) = Sum.inr b) = decide (a = b) := by
  by_cases e : a = b
  · subst e; simp
  · have h : ¬ (Sum.inr a : Key) = Sum.inr b := fun q => e (Sum.inr.inj q)
    rw [decide_eq_false h, decide_eq_false e]
theorem key_lr (a : Int) (b : Str) : decide ((Sum.inl a : Key) = Sum.inr b) = false := decide_eq_false (fun q => nomatch q)
theorem key_rl (a : Str) (b : Int) : decide ((Sum.inr a : Key) = Sum.inl b) = false := decide_eq_false (fun q => nomatch q)

def mixKind (prog : Program) (w : World) : PySem.KeyKind prog w Key where
  is := keyIs
  hash := keyH w
  inj := fun v a b ha hb => by
    rcases keyIs_shape ha with ⟨i, t, rfl, rfl⟩ | ⟨x, t, rfl, rfl⟩
    · rcases keyIs_shape hb with ⟨j, u, rfl, e⟩ | ⟨y, u, rfl, e⟩
      · injection e with e1 _; rw [e1]
      · exact nomatch e
    · rcases keyIs_shape hb with ⟨j, u, rfl, e⟩ | ⟨y, u, rfl, e⟩
      · exact nomatch e
      · injection e with e1 _; rw [e1]
  byValue := fun k v h => by
    rcases keyIs_shape h with ⟨i, t, rfl, rfl⟩ | ⟨x, t, rfl, rfl⟩ <;> rfl
  pyHash := fun hv h => by
    rcases keyIs_shape hv with ⟨i, t, rfl, rfl⟩ | ⟨x, t, rfl, rfl⟩
    · exact wpAny_pyHash_int h
    · exact wpAny_pyHash_str h
  eqBool := fun hu hv h => by
    rcases keyIs_shape hu with ⟨i, t, rfl, rfl⟩ | ⟨x, t, rfl, rfl⟩
    · rcases keyIs_shape hv with ⟨j, u, rfl, rfl⟩ | ⟨y, u, rfl, rfl⟩
      · rw [key_ll] at h; exact wpAny_eqBool_int h
      · rw [key_lr] at h; exact SeqAt.EqAt.int_str i t y u _ _ _ _ h
    · rcases keyIs_shape hv with ⟨j, u, rfl, rfl⟩ | ⟨y, u, rfl, rfl⟩
      · rw [key_rl] at h; exact SeqAt.EqAt.str_int x t j u _ _ _ _ h
      · rw [key_rr] at h; exact wpAny_eqBool_str h
  «strs» := fun k x t v h => by
    rcases keyIs_shape h with ⟨i, u, rfl, e⟩ | ⟨y, u, rfl, e⟩
    · exact nomatch e
    · injection e with e1 _
      subst e1
      cases v <;> rfl

theorem mixKind_is (prog : Program) (w : World) (k : Key) (v : Value) : (mixKind prog w).is k v = keyIs k v := rfl
theorem mixKind_int (prog : Program) (w : World) (i : Int) (t : Tok) : (mixKind prog w).is (.inl i) (.int i t) = true := keyIs_int i t
theorem mixKind_str (prog : Program) (w : World) (x : Str) (t : Tok) : (mixKind prog w).is (.inr x) (.str x t) = true := keyIs_str x t
end L2

namespace L2
open PySem PySem.Spec PyProof.Rows

/-- a value, without the heap -/
inductive V where
  | non | bl (b : Bool) | int (i : Int) | str (x : Str) | byt (b : Array UInt8) | flt (b : UInt64) | ref (a : Addr) | ty (n : String)
  deriving DecidableEq

def RelV : V → Value → Prop
  | .non, u => u = Value.none
  | .bl b, u => u = Value.bool b
  | .int i, u => ∃ t, u = Value.int i t
  | .str x, u => ∃ t, u = Value.str x t
  | .byt b, u => ∃ t, u = Value.bytes b t
  | .flt b, u => ∃ t, u = Value.float b t
  | .ref a, u => u = Value.ref a
  | .ty n, u => u = Value.type n

abbrev Vals : List V → List Value → Prop := Paired RelV
theorem Vals.length {xs : List V} {us : List Value} (r : Vals xs us) : xs.length = us.length := Paired.length r
theorem Vals.get : ∀ {xs : List V} {us : List Value} {i : Nat} {x : V}, Vals xs us → xs[i]? = some x → ∃ u, us[i]? = some u ∧ RelV x u
  | _, _, _, _, .nil, e => by simp at e
  | _, _, 0, _, .cons r _, e => by simp at e; subst e; exact ⟨_, rfl, r⟩
  | _, _, i + 1, x, .cons _ t, e => by
    obtain ⟨u, h1, h2⟩ := Vals.get (i := i) (x := x) t (by simpa using e)
    exact ⟨u, by simpa using h1, h2⟩
theorem Vals.set {x : V} {u : Value} (r : RelV x u) : ∀ {xs : List V} {us : List Value} (i : Nat), Vals xs us → Vals (xs.set i x) (us.set i u)
  | _, _, _, .nil => .nil
  | _, _, 0, .cons _ t => .cons r t
  | _, _, i + 1, .cons q t => .cons q (Vals.set r i t)
theorem Vals.append : ∀ {xs ys : List V} {us ws : List Value}, Vals xs us → Vals ys ws → Vals (xs ++ ys) (us ++ ws)
  | _, _, _, _, .nil, s => s
  | _, _, _, _, .cons r t, s => .cons r (Vals.append t s)
theorem Vals.take : ∀ {xs : List V} {us : List Value} (n : Nat), Vals xs us → Vals (xs.take n) (us.take n)
  | _, _, 0, _ => .nil
  | _, _, _ + 1, .nil => .nil
  | _, _, n + 1, .cons r t => .cons r (Vals.take n t)
theorem Vals.drop : ∀ {xs : List V} {us : List Value} (n : Nat), Vals xs us → Vals (xs.drop n) (us.drop n)
  | _, _, 0, r => r
  | _, _, _ + 1, .nil => .nil
  | _, _, n + 1, .cons _ t => Vals.drop n t
theorem Vals.none_of : ∀ {xs : List V} {us : List Value} {i : Nat}, Vals xs us → xs[i]? = none → us[i]? = none := fun {xs us i} r e => by
  have h1 := r.length
  have h2 : xs.length ≤ i := List.getElem?_eq_none_iff.mp e
  exact List.getElem?_eq_none_iff.mpr (by omega)

def RelO : Option V → Option Value → Prop
  | some v, some u => RelV v u
  | none, none => True
  | _, _ => False
def KV {κ : Type} : List (κ × V) → List (κ × Value) → Prop := Paired fun (p : κ × V) (q : κ × Value) => p.1 = q.1 ∧ RelV p.2 q.2

/-- a key of a dict (00_mix): an int or a text -/
def kV : Key → V
  | .inl i => .int i
  | .inr x => .str x

/-- what stands at a tracked address -/
inductive HO where
  /-- a list -/
  | lst (xs : List V)
  /-- a tuple (never changes) -/
  | tup (xs : List V)
  /-- a dict whose keys are ints and texts; one whose keys are tuples of ints and texts (the empty one is both) -/
  | dK (kvs : List (Key × V)) | dT (kvs : List (List Key × V))
  /-- a set of ints: its members, its size -/
  | set (S : Int → Bool) (n : Nat)
  /-- an instance of the class at C, its dict at dx, its attributes -/
  | ins (C dx : Addr) (fs : List (Str × V))
  /-- the dict of the instance at x -/
  | own (x : Addr)
  /-- the dict of an exception -/
  | xd (fs : List (Str × V))
  /-- a bound method, f of x -/
  | met (f x : Addr)
  /-- a range object lo, lo + 1, .. below hi -/
  | rng (lo hi : Int)
  /-- a thing that is known to the object (the script; a dict while a loop walks it): read, never written while it is so -/
  | frz (o : Obj) (u : HO)
  /-- a code object's table -/
  | tbl (ps : Array Value)
  /-- any other thing, by what is true of its one object (a def of one's own: SetO a S n := HO.ext fun h => ..) -/
  | ext (φ : Heap → Prop)

abbrev Hp := Addr → Option HO
def upd (H : Hp) (a : Addr) (o : HO) : Hp := fun b => if b = a then some o else H b
theorem upd_same {H : Hp} {a : Addr} {o : HO} : upd H a o a = some o := by unfold upd; rw [if_pos rfl]
theorem upd_ne {H : Hp} {a b : Addr} {o : HO} (h : b ≠ a) : upd H a o b = H b := by unfold upd; rw [if_neg h]
theorem upd_upd {H : Hp} {a : Addr} {o u : HO} : upd (upd H a o) a u = upd H a u := by
  funext b; unfold upd; split <;> rfl
/-- two objects of different content stand apart -/
theorem ne_of {H : Hp} {a b : Addr} {o u : HO} (h : H a = some o) (h' : H b = some u) (d : o ≠ u) : a ≠ b := by
  intro e; subst e; rw [h] at h'; exact d (Option.some.inj h')
theorem ne_of_none {H : Hp} {a b : Addr} {o : HO} (h : H a = some o) (h' : H b = none) : a ≠ b := by
  intro e; subst e; rw [h] at h'; cases h'

section
variable (P : Program) (w : World)
def ObjOk (H : Hp) (h : Heap) (a : Addr) : HO → Prop
  | .lst xs => xs.length ≤ sizeLine ∧ ∃ (its : List Value) (n : Nat), Vals xs its ∧ h.get? a = some { cls := .type "list", data := .seq its.toArray n }
  | .tup xs => xs.length ≤ sizeLine ∧ ∃ its : List Value, Vals xs its ∧ IsTup h a its.toArray
  | .dK kvs => kvs.length ≤ sizeLine ∧ (a == sysModules) = false ∧ ∃ vs, KV kvs vs ∧ h.DictOf (mixKind P w) a vs
  | .dT kvs => kvs.length ≤ sizeLine ∧ (a == sysModules) = false ∧ ∃ xs : List (List Key × Addr × Value),
      Paired (fun (p : List Key × V) (q : List Key × Addr × Value) => p.1 = q.1 ∧ H q.2.1 = some (.tup (p.1.map kV)) ∧ RelV p.2 q.2.2) kvs xs ∧
      ∃ o es ep, h.get? a = some o ∧ o.ExactDict ∧ o.data = .dict es ep ∧ es.toList = xs.map (entryOfKey (tupleKind (mixKind P w))) ∧ (xs.map (·.1)).Nodup
  | .set S n => h.SetOf (intKind P w) a S n
  | .ins C dx fs => H dx = some (.own a) ∧ fs.length ≤ 1000 ∧ dx ≠ a ∧ h.get? a = some (PySem.W.instObj C dx) ∧
      ∃ mA, h.Ns1 dx mA ∧ (∀ f, RelO (fs.lookup f) (mA f)) ∧ PySem.Within mA (fs.map (·.1))
  | .own _ => ∃ o, h.get? a = some o
  | .xd fs => ∃ mA, h.Ns1 a mA ∧ ∀ f, RelO (fs.lookup f) (mA f)
  | .rng lo hi => ∃ t u v, h.get? a = some { cls := .type "range", data := .fields #[.int lo t, .int hi u, .int 1 v] }
  | .frz o u => h.get? a = some o ∧ ObjOk H h a u
  | .tbl ps => h.get? a = some { cls := .none, data := .fields ps }
  | .met f x => h.get? a = some (PySem.W.methodObj (.ref f) (.ref x))
  | .ext φ => φ h ∧ (∃ o, h.get? a = some o) ∧ ∀ h1 h2 : Heap, φ h1 → (∀ o, h1.get? a = some o → h2.get? a = some o) → φ h2
/-- the abstract heap is held -/
def HOk (H : Hp) (h : Heap) : Prop := ∀ a o, H a = some o → ObjOk P w H h a o
end

section
variable {P : Program} {w : World} {H H' : Hp} {h h' : Heap} {a : Addr} {o : HO}
theorem ObjOk.lt (x : ObjOk P w H h a o) : a < h.objs.size := by
  cases o with
  | lst xs => obtain ⟨_, _, _, _, e⟩ := x; exact Heap.lt_size e
  | tup xs => obtain ⟨_, _, _, p⟩ := x; exact p.lt
  | dK kvs => obtain ⟨_, _, _, _, o, _, _, e, _⟩ := x; exact Heap.lt_size e
  | dT kvs => obtain ⟨_, _, _, _, o, _, _, e, _⟩ := x; exact Heap.lt_size e
  | set S n => obtain ⟨o, _, _, _, e, _⟩ := x; exact Heap.lt_size e
  | ins C dx fs => obtain ⟨_, _, _, e, _⟩ := x; exact Heap.lt_size e
  | own y => obtain ⟨_, e⟩ := x; exact Heap.lt_size e
  | xd fs => obtain ⟨_, ⟨_, _, _, e, _⟩, _⟩ := x; exact Heap.lt_size e
  | rng lo hi => obtain ⟨_, _, _, e⟩ := x; exact Heap.lt_size e
  | frz ob u => obtain ⟨e, _⟩ := x; exact Heap.lt_size e
  | tbl ps => exact Heap.lt_size (show h.get? a = some _ from x)
  | met f y => exact Heap.lt_size (show h.get? a = some _ from x)
  | ext φ => obtain ⟨_, ⟨_, e⟩, _⟩ := x; exact Heap.lt_size e
theorem Paired.mapP {α β : Type} {F G : α → β → Prop} : ∀ {l₁ : List α} {l₂ : List β}, Paired F l₁ l₂ → (∀ a b, F a b → G a b) → Paired G l₁ l₂
  | _, _, .nil, _ => .nil
  | _, _, .cons r t, f => .cons (f _ _ r) (Paired.mapP t f)
theorem Paired.imp' {α β : Type} {F G : α → β → Prop} (f : ∀ a b, F a b → G a b) {l₁ : List α} {l₂ : List β} (r : Paired F l₁ l₂) : Paired G l₁ l₂ := Paired.mapP r f
/-- what an object's description leans on: its own object, its own dict, the tuples -/
theorem ObjOk.stay (x : ObjOk P w H h a o) (k : ∀ b u, (b = a ∨ H b = some (.own a)) → h.get? b = some u → h'.get? b = some u)
    (ho : ∀ b, H b = some (.own a) → H' b = some (.own a)) (ht : ∀ b xs, H b = some (.tup xs) → H' b = some (.tup xs)) : ObjOk P w H' h' a o := by
  induction o with
  | lst xs => obtain ⟨z, its, n, r, e⟩ := x; exact ⟨z, its, n, r, k _ _ (.inl rfl) e⟩
  | tup xs => obtain ⟨z, its, r, ob, e, c⟩ := x; exact ⟨z, its, r, ob, k _ _ (.inl rfl) e, c⟩
  | dK kvs => obtain ⟨z, y, vs, r, ob, es, ep, e, c⟩ := x; exact ⟨z, y, vs, r, ob, es, ep, k _ _ (.inl rfl) e, c⟩
  | dT kvs =>
    obtain ⟨z, y, xs, r, ob, es, ep, e, c⟩ := x
    exact ⟨z, y, xs, Paired.mapP r fun p q z => ⟨z.1, ht _ _ z.2.1, z.2.2⟩, ob, es, ep, k _ _ (.inl rfl) e, c⟩
  | set S n => obtain ⟨ob, es, ep, t, e, c⟩ := x; exact ⟨ob, es, ep, t, k _ _ (.inl rfl) e, c⟩
  | ins C dx fs =>
    obtain ⟨d, z, ne, e, mA, ⟨od, es, ep, e2, c⟩, r⟩ := x
    exact ⟨ho _ d, z, ne, k _ _ (.inl rfl) e, mA, ⟨od, es, ep, k _ _ (.inr d) e2, c⟩, r⟩
  | own y => obtain ⟨ob, e⟩ := x; exact ⟨ob, k _ _ (.inl rfl) e⟩
  | xd fs => obtain ⟨mA, ⟨od, es, ep, e, c⟩, r⟩ := x; exact ⟨mA, ⟨od, es, ep, k _ _ (.inl rfl) e, c⟩, r⟩
  | rng lo hi => obtain ⟨t, u, v, e⟩ := x; exact ⟨t, u, v, k _ _ (.inl rfl) e⟩
  | frz ob u ih => obtain ⟨e, q⟩ := x; exact ⟨k _ _ (.inl rfl) e, ih q⟩
  | tbl ps =>
    have e : h.get? a = some { cls := .none, data := .fields ps } := x
    show h'.get? a = some { cls := .none, data := .fields ps }
    exact k a _ (.inl rfl) e
  | met f y =>
    have e : h.get? a = some (PySem.W.methodObj (.ref f) (.ref y)) := x
    show h'.get? a = some (PySem.W.methodObj (.ref f) (.ref y))
    exact k a _ (.inl rfl) e
  | ext φ => obtain ⟨p, ⟨o, e⟩, st⟩ := x; exact ⟨st _ _ p fun o q => k _ _ (.inl rfl) q, ⟨o, k _ _ (.inl rfl) e⟩, st⟩
theorem HOk.lt (x : HOk P w H h) (e : H a = some o) : a < h.objs.size := (x a o e).lt
theorem HOk.fresh (x : HOk P w H h) (e : h.objs.size ≤ a) : H a = none := by
  cases q : H a with
  | none => rfl
  | some u => exact absurd (Nat.lt_of_lt_of_le (x.lt q) e) (Nat.lt_irrefl _)
/-- every object of the heap is kept -/
theorem HOk.kept (x : HOk P w H h) (k : ∀ b u, h.get? b = some u → h'.get? b = some u) : HOk P w H h' := fun a o e =>
  (x a o e).stay (fun b u _ q => k b u q) (fun _ q => q) fun _ _ q => q
/-- a new object is laid and tracked -/
theorem HOk.laid (x : HOk P w H h) (k : ∀ b u, h.get? b = some u → h'.get? b = some u) (hp : h.objs.size ≤ a) (new : ObjOk P w (upd H a o) h' a o) : HOk P w (upd H a o) h' := fun b u e => by
  have hn := x.fresh hp
  by_cases hb : b = a
  · subst hb; rw [upd_same] at e; cases e; exact new
  · rw [upd_ne hb] at e
    exact (x b u e).stay (fun c v _ q => k c v q) (fun c q => by rw [upd_ne (ne_of_none q hn)]; exact q) fun c xs q => by rw [upd_ne (ne_of_none q hn)]; exact q
end

/-- what may be read as u: it is u, or a known u -/
def Rd (H : Hp) (a : Addr) (u : HO) : Prop := H a = some u ∨ ∃ o, H a = some (.frz o u)
theorem Rd.of {H : Hp} {a : Addr} {u : HO} (h : H a = some u) : Rd H a u := .inl h
theorem Rd.ok {P : Program} {w : World} {H : Hp} {h : Heap} {a : Addr} {u : HO} (r : Rd H a u) (x : HOk P w H h) : ObjOk P w H h a u := by
  rcases r with r | ⟨o, r⟩
  · exact x a u r
  · obtain ⟨_, q⟩ := x a _ r
    exact q
/-- what may be written -/
def Mut : Option HO → Prop
  | some (.lst _) => True
  | some (.dK _) => True
  | some (.dT _) => True
  | some (.set _ _) => True
  | some (.ins _ _ _) => True
  | some (.ext _) => True
  | _ => False
section
variable {P : Program} {w : World} {H : Hp} {h h' : Heap} {x e : Addr} {o' : HO}
/-- the object at e is changed: x itself, or the dict of the instance x -/
theorem HOk.write (ok : HOk P w H h) (mu : Mut (H x)) (he : e = x ∨ H e = some (.own x)) (k : ∀ b u, b ≠ e → h.get? b = some u → h'.get? b = some u) (heo : ∃ u, h'.get? e = some u)
    (new : ObjOk P w (upd H x o') h' x o') : HOk P w (upd H x o') h' := fun b u q => by
  have nown : ∀ c y, H c = some (.own y) → c ≠ x := fun c y r z => by subst z; rw [r] at mu; exact mu
  have ntup : ∀ c xs, H c = some (.tup xs) → c ≠ x := fun c xs r z => by subst z; rw [r] at mu; exact mu
  by_cases hb : b = x
  · subst hb; rw [upd_same] at q; cases q; exact new
  · rw [upd_ne hb] at q
    by_cases hbe : b = e
    · have q' : H b = some (.own x) := by
        rcases he with z | z
        · exact absurd (hbe.trans z) hb
        · rw [hbe]; exact z
      rw [q] at q'; cases q'
      obtain ⟨v, hv⟩ := heo
      exact ⟨v, by rw [hbe]; exact hv⟩
    · refine (ok b u q).stay (fun c v hc r => k c v ?_ r) (fun c r => by rw [upd_ne (nown c b r)]; exact r) fun c xs r => by rw [upd_ne (ntup c xs r)]; exact r
      rcases hc with rfl | hc
      · exact hbe
      · rintro rfl
        rcases he with z | z
        · exact nown c b hc z
        · rw [hc] at z; cases z; exact hb rfl
end

/-! ### kept unless tracked; of the frames at fs (the callers') the slots may change (an exception that passes writes there); of the records at ex (iterators) nothing is said -/
structure Un (fs ex : List Addr) (H H' : Hp) (h h' : Heap) : Prop where
  keep : ∀ b o, h.get? b = some o → H b = none → b ∉ fs → b ∉ ex → h'.get? b = some o
  slot : ∀ b o, h.get? b = some o → H b = none → b ∈ fs → b ∉ ex → ∃ sl, h'.get? b = some { o with slots := sl }
  free : ∀ b o, h.get? b = some o → H b = none → b ∉ ex → H' b = none
  there : ∀ b o, h.get? b = some o → b ∉ ex → ∃ o', h'.get? b = some o'
  tups : ∀ b xs, H b = some (.tup xs) → H' b = some (.tup xs)
  frzs : ∀ b o u, H b = some (.frz o u) → H' b = some (.frz o u)
  tbls : ∀ b ps, H b = some (.tbl ps) → ∃ more, H' b = some (.tbl (ps ++ more))
section
variable {fs fs' ex ex' : List Addr} {H H1 H2 : Hp} {h h1 h2 h' : Heap} {a x e : Addr} {o : HO}
theorem Un.any (u : Un fs ex H H1 h h1) {b : Addr} {ob : Obj} (q : h.get? b = some ob) (n : H b = none) (hx : b ∉ ex) : ∃ sl, h1.get? b = some { ob with slots := sl } := by
  by_cases hb : b ∈ fs
  · exact u.slot b ob q n hb hx
  · exact ⟨ob.slots, u.keep b ob q n hb hx⟩
theorem Un.trans (a : Un fs ex H H1 h h1) (b : Un fs ex H1 H2 h1 h2) : Un fs ex H H2 h h2 where
  keep := fun c ob q n hc hx => b.keep c ob (a.keep c ob q n hc hx) (a.free c ob q n hx) hc hx
  slot := fun c ob q n hc hx => by
    obtain ⟨sl, e1⟩ := a.slot c ob q n hc hx
    obtain ⟨sl', e2⟩ := b.slot c _ e1 (a.free c ob q n hx) hc hx
    exact ⟨sl', e2⟩
  free := fun c ob q n hx => by
    obtain ⟨o', e1⟩ := a.there c ob q hx
    exact b.free c o' e1 (a.free c ob q n hx) hx
  there := fun c ob q hx => by
    obtain ⟨o', e1⟩ := a.there c ob q hx
    exact b.there c o' e1 hx
  tups := fun c xs q => b.tups c xs (a.tups c xs q)
  frzs := fun c ob xs q => b.frzs c ob xs (a.frzs c ob xs q)
  tbls := fun c ps q => by
    obtain ⟨m1, e1⟩ := a.tbls c ps q
    obtain ⟨m2, e2⟩ := b.tbls c _ e1
    exact ⟨m1 ++ m2, by rw [e2, Array.append_assoc]⟩
theorem Un.kept (k : ∀ b u, h.get? b = some u → h'.get? b = some u) : Un fs ex H H h h' :=
  ⟨fun b ob q _ _ _ => k b ob q, fun b ob q _ _ _ => ⟨ob.slots, k b ob q⟩, fun _ _ _ n _ => n, fun b ob q _ => ⟨ob, k b ob q⟩, fun _ _ q => q, fun _ _ _ q => q, fun _ ps q => ⟨#[], by rw [q]; simp⟩⟩
theorem Un.refl : Un fs ex H H h h := Un.kept fun _ _ q => q
theorem Un.laid (k : ∀ b u, h.get? b = some u → h'.get? b = some u) (hp : h.objs.size ≤ a) (hn : H a = none) : Un fs ex H (upd H a o) h h' where
  keep := fun b u q _ _ _ => k b u q
  slot := fun b u q _ _ _ => ⟨u.slots, k b u q⟩
  free := fun b u q n _ => by rw [upd_ne (Nat.ne_of_lt (Nat.lt_of_lt_of_le (Heap.lt_size q) hp))]; exact n
  there := fun b u q _ => ⟨u, k b u q⟩
  tups := fun b xs q => by rw [upd_ne (ne_of_none q hn)]; exact q
  frzs := fun b u xs q => by rw [upd_ne (ne_of_none q hn)]; exact q
  tbls := fun b ps q => ⟨#[], by rw [upd_ne (ne_of_none q hn), q]; simp⟩
theorem Un.write (mu : Mut (H x)) (he : e = x ∨ H e = some (.own x)) (k : ∀ b u, b ≠ e → h.get? b = some u → h'.get? b = some u) (heo : ∃ u, h'.get? e = some u) : Un fs ex H (upd H x o) h h' := by
  have hx : ∀ b, H b = none → b ≠ x := fun b n z => by subst z; rw [n] at mu; exact mu
  have hb : ∀ b, H b = none → b ≠ e := fun b n z => by
    subst z
    rcases he with r | r
    · exact hx b n r
    · rw [n] at r; cases r
  have hm : ∀ b u, H b = some u → ¬ Mut (some u) → b ≠ x := fun b u q nm z => by subst z; rw [q] at mu; exact nm mu
  refine ⟨fun b u q n _ _ => k b u (hb b n) q, fun b u q n _ _ => ⟨u.slots, k b u (hb b n) q⟩, fun b u q n _ => by rw [upd_ne (hx b n)]; exact n, fun b u q _ => ?_,
    fun b xs q => by rw [upd_ne (hm b _ q fun z => z)]; exact q, fun b u xs q => by rw [upd_ne (hm b _ q fun z => z)]; exact q, fun b ps q => ⟨#[], by rw [upd_ne (hm b _ q fun z => z), q]; simp⟩⟩
  by_cases hbe : b = e
  · subst hbe; exact heo
  · exact ⟨u, k b u hbe q⟩
theorem Un.mono (u : Un fs ex H H1 h h1) (hs : ∀ b ∈ fs, b ∈ fs') (hx : ∀ b ∈ ex, b ∈ ex') : Un fs' ex' H H1 h h1 :=
  ⟨fun b ob q n hb he => u.keep b ob q n (fun z => hb (hs b z)) fun z => he (hx b z), fun _ _ q n _ he => u.any q n fun z => he (hx _ z), fun b ob q n he => u.free b ob q n fun z => he (hx b z), fun b ob q he => u.there b ob q fun z => he (hx b z), u.tups, u.frzs, u.tbls⟩
end

/-! ### the heap without what is tracked -/
def trk (h : Heap) (H : Hp) : List Addr := (List.range h.objs.size).filter fun a => (H a).isSome
def hidT (h : Heap) (H : Hp) : Heap := PySem.W.hideAll h (trk h H)
theorem hidT_size (h : Heap) (H : Hp) : (hidT h H).objs.size = h.objs.size := PySem.W.hideAll_size _ _
theorem hidT_get {h : Heap} {H : Hp} {b : Addr} {o : Obj} (e : h.get? b = some o) (n : H b = none) : (hidT h H).get? b = some o :=
  PySem.W.hideAll_get _ e fun hm => by
    have q : (H b).isSome = true := (List.mem_filter.mp hm).2
    rw [n] at q; simp at q
theorem of_hidT {h : Heap} {H : Hp} {b : Addr} {o : Obj} (e : (hidT h H).get? b = some o) : h.get? b = some o ∧ H b = none := by
  have e' : h.get? b = some o := PySem.W.of_hideAll (trk h H) e
  refine ⟨e', ?_⟩
  cases q : H b with
  | none => rfl
  | some x =>
    have hm : b ∈ trk h H := List.mem_filter.mpr ⟨List.mem_range.mpr (Heap.lt_size e'), by simp [q]⟩
    have z : (hidT h H).get? b = none := PySem.W.hideAll_none (trk h H) hm
    rw [z] at e; cases e

/-! ### OpenK's ledger, filled with every new object but one -/
def allNews (g h : Heap) (L : Addr) : List (Addr × Obj) := (List.range h.objs.size).filterMap fun a => if a = L ∨ (g.get? a).isSome = true then none else (h.get? a).map fun o => (a, o)
theorem mem_allNews {g h : Heap} {L a : Addr} {o : Obj} (h1 : a ≠ L) (h2 : g.get? a = none) (h3 : h.get? a = some o) : (a, o) ∈ allNews g h L :=
  List.mem_filterMap.mpr ⟨a, List.mem_range.mpr (Heap.lt_size h3), by simp [h1, h2, h3]⟩
theorem of_mem_allNews {g h : Heap} {L : Addr} {p : Addr × Obj} (hp : p ∈ allNews g h L) : p.1 ≠ L ∧ g.get? p.1 = none ∧ h.get? p.1 = some p.2 := by
  obtain ⟨b, _, e⟩ := List.mem_filterMap.mp hp
  split at e
  · cases e
  · rename_i hn
    cases q : h.get? b with
    | none => rw [q] at e; simp at e
    | some u =>
      rw [q] at e
      simp only [Option.map_some, Option.some.injEq] at e
      subst e
      refine ⟨fun z => hn (.inl z), ?_, q⟩
      show g.get? b = none
      cases r : g.get? b with
      | none => rfl
      | some v => exact (hn (.inr (by simp [r]))).elim
def rest (g h : Heap) (L d : Addr) : List (Addr × Obj) := (allNews g h L).filter fun p => decide (p.1 ≠ d)
theorem rest_ne {g h : Heap} {L d : Addr} : ∀ p ∈ rest g h L d, p.1 ≠ d := fun p hp => of_decide_eq_true (List.mem_filter.mp hp).2
theorem mem_rest {g h : Heap} {L d a : Addr} {o : Obj} (h1 : a ≠ L) (h2 : g.get? a = none) (h3 : h.get? a = some o) (h4 : a ≠ d) : (a, o) ∈ rest g h L d :=
  List.mem_filter.mpr ⟨mem_allNews h1 h2 h3, decide_eq_true h4⟩
theorem news_all {g h : Heap} {L : Addr} : News g L h (allNews g h L) := fun p hp => let ⟨a, b, c⟩ := of_mem_allNews hp; ⟨c, a, b⟩
theorem news_at {g h : Heap} {L d : Addr} {o : Obj} (h1 : d ≠ L) (h2 : g.get? d = none) (h3 : h.get? d = some o) : News g L h ((d, o) :: rest g h L d) := fun p hp => by
  rcases List.mem_cons.mp hp with rfl | hp
  · exact ⟨h3, h1, h2⟩
  · exact news_all p (List.mem_filter.mp hp).1
/-- behind a rule that changed d alone: all else but the frame is kept -/
theorem kept_of_news {g h h' : Heap} {L d : Addr} {m : Str → Option Value} (k : ∀ b o, g.get? b = some o → h.get? b = some o) (F : Fr g L h' m) (N : News g L h' (rest g h L d)) :
    ∀ b o, b ≠ L → b ≠ d → h.get? b = some o → h'.get? b = some o := fun b o h1 h2 e => by
  cases q : g.get? b with
  | some u =>
    have := k b u q
    rw [e] at this; cases this
    exact F.keep b _ q
  | none => exact (N (b, o) (mem_rest h1 q e h2)).1
end L2

namespace L2
open PySem PySem.Spec PyProof.Rows

/-- the module's facts, over the base: the heap at the law's entry without what is tracked there -/
structure Mod (K : PySem.W.Frag) (mg : Str → Option Value) (base : Heap) : Prop where
  kin : K.In base
  glob : base.Ns mainGlobals mg
  blt : ∃ mb, base.Ns builtinsNs mb ∧ ∀ x : Str, x ≠ "__name__" → mb x = bootBuiltins x
  nolimit : base.NoLimit

/-- the context: a def's body (or a comprehension's block) running. base: fixed through the whole law; s₀, H₀: the entry; outer: the frames whose slots others may change (a def's callers); stack: all frames that run;
   ex: iterators that were made ahead of the entry and are walked here (a comprehension's); fn: the names whose cells were made at the entry (a def: all; a comprehension's block: its own); calm: not within an except suite; pn: pins that every state bears; xe: what is wanted of an exception that leaves the code -/
structure Cx where
  prog : Program
  w : World
  K : PySem.W.Frag
  mg : Str → Option Value
  base : Heap
  A : Around
  N : List Str
  s₀ : Shared
  H₀ : Hp
  env : Env
  outer : List Env
  stack : List Env
  ex : List Addr
  fn : Str → Bool
  calm : Bool
  pn : List (Addr × Obj)
  xe : Value → Shared → Prop
/-- the callers' frames -/
def frs (l : List Env) : List Addr := l.filterMap (·.frame)
abbrev Cx.fs (X : Cx) : List Addr := frs X.outer

def Vis (sc : Scope) (x : Str) : Prop := sc.names.lookup x = some .local ∨ sc.names.lookup x = some .cell ∨ sc.names.lookup x = some .free
def Loc (sc : Scope) (x : Str) : Prop := sc.names.lookup x = some .local ∨ sc.names.lookup x = some .cell
def Look (env : Env) (h : Heap) (m : Str → Option Value) (x : Str) (u : Value) : Prop :=
  (env.kindOf x = some .local ∧ m x = some u) ∨ ((env.kindOf x = some .cell ∨ env.kindOf x = some .free) ∧ ∃ c, env.cells.lookup x = some c ∧ h.IsCell c (some u))

structure Cx.Ok (X : Cx) : Prop where
  mod : Mod X.K X.mg X.base
  kind : X.env.scope.kind = .function
  glob : X.env.globals = mainGlobals
  blt : X.env.builtins = builtinsNs
  above : X.s₀.heap.objs.size ≤ X.env.locals
  inj : ∀ x y c, X.env.cells.lookup x = some c → X.env.cells.lookup y = some c → x = y
  has : ∀ x, (X.env.kindOf x = some .cell ∨ X.env.kindOf x = some .free) → ∃ c, X.env.cells.lookup x = some c
  cab : ∀ x c, X.fn x = true → X.env.cells.lookup x = some c → X.s₀.heap.objs.size ≤ c
  hd : X.calm = true → X.A.handled = none
  frames : X.A.frames = some X.stack
  stk : X.stack = X.outer ∨ (X.stack = X.env :: X.outer ∧ X.env.frame = some X.env.locals)
  exf : ∀ b ∈ X.ex, b ≠ X.env.locals ∧ ∀ x c, X.env.cells.lookup x = some c → c ≠ b
  bs : ∀ b o, X.base.get? b = some o → X.s₀.heap.get? b = some o ∧ X.H₀ b = none
  bsz : X.base.objs.size ≤ X.s₀.heap.objs.size
  noex : ∀ b o, X.base.get? b = some o → b ∉ X.ex
  exfs : ∀ b ∈ X.ex, b ∉ X.fs
  funs : X.s₀.heap.FunFrames X.base X.outer
  frf : ∀ b ∈ X.fs, X.H₀ b = none

structure Inv (X : Cx) (pins : List (Addr × Obj)) (σ : List (Option V)) (H : Hp) (s : Shared) : Prop where
  ok : X.Ok
  os : s.os = X.s₀.os
  bare : AllBare s.gens
  base : Un X.fs X.ex X.H₀ H X.s₀.heap s.heap
  loc : ∃ m, s.heap.Ns X.env.locals m ∧ ∀ (i : Nat) (x : Str) (v : V), X.N[i]? = some x → σ[i]? = some (some v) → Vis X.env.scope x → ∃ u, RelV v u ∧ Look X.env s.heap m x u
  cell : ∀ x c, X.env.cells.lookup x = some c → ∃ v, s.heap.IsCell c v
  free : H X.env.locals = none
  freeC : ∀ x c, X.env.cells.lookup x = some c → H c = none
  pin : ∀ p ∈ X.pn ++ pins, s.heap.get? p.1 = some p.2 ∧ H p.1 = none ∧ p.1 ≠ X.env.locals ∧ p.1 ∉ X.fs ∧ ∀ v, p.2.data ≠ .cell v
  hok : HOk X.prog X.w H s.heap
  len : σ.length = X.N.length

section
variable {X : Cx} {pins : List (Addr × Obj)} {σ : List (Option V)} {H H' : Hp} {s : Shared} {h' : Heap}

theorem Cx.Ok.nofr (ok : X.Ok) {b : Addr} {o : Obj} (e : X.base.get? b = some o) : b ∉ X.fs := fun hb => by
  have := (ok.funs.mem hb).1
  rw [e] at this; cases this
theorem Inv.bs (I : Inv X pins σ H s) : ∀ b o, X.base.get? b = some o → s.heap.get? b = some o ∧ H b = none := fun b o e =>
  ⟨I.base.keep b o (I.ok.bs b o e).1 (I.ok.bs b o e).2 (I.ok.nofr e) (I.ok.noex b o e), I.base.free b o (I.ok.bs b o e).1 (I.ok.bs b o e).2 (I.ok.noex b o e)⟩
theorem Inv.bk (I : Inv X pins σ H s) : ∀ b o, X.base.get? b = some o → s.heap.get? b = some o := fun b o e => (I.bs b o e).1
theorem Inv.mod (I : Inv X pins σ H s) : Mod X.K X.mg X.base := I.ok.mod
theorem Inv.kIn (I : Inv X pins σ H s) : X.K.In s.heap := I.ok.mod.kin.keeps I.bk
theorem Inv.nolimit (I : Inv X pins σ H s) : s.heap.NoLimit := I.ok.mod.nolimit.keeps I.bk
/-- the frame over the base: for OpenK's rules (K.In X.base is I.mod.kin) -/
theorem Inv.fr (I : Inv X pins σ H s) : ∃ m, Fr X.base X.env.locals s.heap m :=
  let ⟨m, hn, _⟩ := I.loc
  ⟨m, hn, I.bk, Nat.le_trans I.ok.bsz I.ok.above⟩
theorem Inv.lt (I : Inv X pins σ H s) : X.env.locals < s.heap.objs.size := let ⟨_, hn, _⟩ := I.loc; hn.lt
theorem Inv.sz (I : Inv X pins σ H s) : X.s₀.heap.objs.size ≤ s.heap.objs.size := Nat.le_trans I.ok.above (Nat.le_of_lt I.lt)
theorem Inv.nofs (I : Inv X pins σ H s) {a : Addr} (h : s.heap.objs.size ≤ a) : a ∉ X.fs := fun hb => by
  obtain ⟨_, o, ho, _⟩ := I.ok.funs.mem hb
  exact absurd (Nat.lt_of_lt_of_le (Heap.lt_size ho) (Nat.le_trans I.sz h)) (Nat.lt_irrefl _)
theorem Inv.cne (I : Inv X pins σ H s) : ∀ x c, X.env.cells.lookup x = some c → c ≠ X.env.locals := fun x c e z => by
  obtain ⟨v, o, ho, hd⟩ := I.cell x c e
  obtain ⟨m, ⟨o', es, ep, ho', hd', _⟩, _⟩ := I.loc
  rw [z, ho'] at ho; cases ho; rw [hd'] at hd; cases hd
theorem Inv.funs (I : Inv X pins σ H s) : s.heap.FunFrames X.base X.outer := by
  have all : ∀ (l : List Env), (∀ b ∈ frs l, b ∈ X.fs) → X.s₀.heap.FunFrames X.base l → s.heap.FunFrames X.base l := by
    intro l
    induction l with
    | nil => intro _ _; trivial
    | cons env r ih =>
      intro hs hl
      obtain ⟨hk, ⟨L, o, hf, hn, ho, hd⟩, hr⟩ := hl
      have hL : L ∈ X.fs := hs L (by unfold frs; rw [List.filterMap_cons, hf]; exact List.mem_cons_self)
      obtain ⟨sl, e⟩ := I.base.slot L o ho (I.ok.frf L hL) hL fun z => I.ok.exfs L z hL
      exact ⟨hk, ⟨L, _, hf, hn, e, hd⟩, ih (fun b hb => hs b (by unfold frs; rw [List.filterMap_cons, hf]; exact List.mem_cons_of_mem _ hb)) hr⟩
  exact all X.outer (fun _ hb => hb) I.ok.funs

/-- the frames that run, for a call -/
theorem Inv.stack (I : Inv X pins σ H s) : s.heap.FunFrames X.base X.stack := by
  rcases I.ok.stk with e | ⟨e, hf⟩
  · rw [e]; exact I.funs
  · rw [e]
    obtain ⟨m, hn, _⟩ := I.loc
    refine .cons (by rw [I.ok.kind]; decide) hf hn ?_ I.funs
    exact Heap.get?_none_of_le (Nat.le_trans I.ok.bsz I.ok.above)
theorem Inv.stkSub (I : Inv X pins σ H s) : ∀ b ∈ frs X.stack, b ∈ X.env.locals :: X.fs := fun b hb => by
  rcases I.ok.stk with e | ⟨e, hf⟩
  · rw [e] at hb; exact List.mem_cons_of_mem _ hb
  · rw [e] at hb
    unfold frs at hb
    rw [List.filterMap_cons, hf] at hb
    exact hb
theorem Inv.stkFree (I : Inv X pins σ H s) : ∀ b ∈ frs X.stack, H b = none := fun b hb => by
  rcases List.mem_cons.mp (I.stkSub b hb) with e | hb
  · rw [e]; exact I.free
  · obtain ⟨_, o, ho, _⟩ := I.ok.funs.mem hb
    exact I.base.free b o ho (I.ok.frf b hb) fun z => I.ok.exfs b z hb

/-- THE STEP: the untracked objects but the frame and the records at ch are kept (the callers' frames up to slots), the frame's map is kept, the new abstract heap is held -/
theorem Inv.step {g' : Array GenState} {t' : Nat} {d' : Drawn} {ch : List Addr} (I : Inv X pins σ H s)
    (hch : ∀ b ∈ ch, (b ∈ X.ex ∨ X.s₀.heap.objs.size ≤ b) ∧ b ≠ X.env.locals ∧ (∀ x c, X.env.cells.lookup x = some c → c ≠ b) ∧ ∀ p ∈ X.pn ++ pins, p.1 ≠ b)
    (keep : ∀ b o, b ≠ X.env.locals → b ∉ X.fs → b ∉ ch → s.heap.get? b = some o → H b = none → h'.get? b = some o)
    (slot : ∀ b o, b ≠ X.env.locals → b ∈ X.fs → b ∉ ch → s.heap.get? b = some o → H b = none → ∃ sl, h'.get? b = some { o with slots := sl }) (free : ∀ b o, b ∉ ch → s.heap.get? b = some o → H b = none → H' b = none)
    (there : ∀ b o, b ∉ ch → s.heap.get? b = some o → ∃ o', h'.get? b = some o')
    (tups : ∀ b xs, H b = some (.tup xs) → H' b = some (.tup xs)) (frzs : ∀ b o u, H b = some (.frz o u) → H' b = some (.frz o u)) (tbls : ∀ b ps, H b = some (.tbl ps) → ∃ more, H' b = some (.tbl (ps ++ more)))
    (ns : ∀ m, s.heap.Ns X.env.locals m → h'.Ns X.env.locals m) (hok : HOk X.prog X.w H' h') (hg : AllBare g') :
    Inv X pins σ H' { s with heap := h', gens := g', drawn := d', toks := t' } := by
  have neL : ∀ b o, X.s₀.heap.get? b = some o → b ≠ X.env.locals := fun b o e => Nat.ne_of_lt (Nat.lt_of_lt_of_le (Heap.lt_size e) I.ok.above)
  have neC : ∀ b o, X.s₀.heap.get? b = some o → b ∉ X.ex → b ∉ ch := fun b o e hx hb => by
    rcases (hch b hb).1 with z | z
    · exact hx z
    · exact absurd (Nat.lt_of_lt_of_le (Heap.lt_size e) z) (Nat.lt_irrefl _)
  have cellK : ∀ x c, X.env.cells.lookup x = some c → ∀ v, s.heap.IsCell c v → h'.IsCell c v := fun x c e v ⟨o, ho, hd⟩ => by
    have nch : c ∉ ch := fun z => (hch c z).2.2.1 x c e rfl
    by_cases hc : c ∈ X.fs
    · obtain ⟨sl, q⟩ := slot c o (I.cne x c e) hc nch ho (I.freeC x c e)
      exact ⟨_, q, hd⟩
    · exact ⟨o, keep c o (I.cne x c e) hc nch ho (I.freeC x c e), hd⟩
  refine ⟨I.ok, I.os, hg, ⟨fun b o e n hb hx => ?_, fun b o e n hb hx => ?_, fun b o e n hx => ?_, fun b o e hx => ?_, fun b xs e => tups b xs (I.base.tups b xs e), fun b o xs e => frzs b o xs (I.base.frzs b o xs e), fun b ps e => ?_⟩, ?_, fun x c e => ?_, ?_, fun x c e => ?_, fun p hp => ?_, hok, I.len⟩
  · exact keep b o (neL b o e) hb (neC b o e hx) (I.base.keep b o e n hb hx) (I.base.free b o e n hx)
  · obtain ⟨sl, e1⟩ := I.base.slot b o e n hb hx
    obtain ⟨sl', e2⟩ := slot b _ (neL b o e) hb (neC b o e hx) e1 (I.base.free b o e n hx)
    exact ⟨sl', e2⟩
  · obtain ⟨o', e1⟩ := I.base.there b o e hx
    exact free b o' (neC b o e hx) e1 (I.base.free b o e n hx)
  · obtain ⟨o', e1⟩ := I.base.there b o e hx
    exact there b o' (neC b o e hx) e1
  · obtain ⟨m1, e1⟩ := I.base.tbls b ps e
    obtain ⟨m2, e2⟩ := tbls b _ e1
    exact ⟨m1 ++ m2, by rw [e2, Array.append_assoc]⟩
  · obtain ⟨m, hn, hl⟩ := I.loc
    refine ⟨m, ns m hn, fun i x v e1 e2 e3 => ?_⟩
    obtain ⟨u, r, l⟩ := hl i x v e1 e2 e3
    refine ⟨u, r, ?_⟩
    rcases l with l | ⟨k, c, e, z⟩
    · exact .inl l
    · exact .inr ⟨k, c, e, cellK x c e _ z⟩
  · obtain ⟨v, z⟩ := I.cell x c e
    exact ⟨v, cellK x c e v z⟩
  · obtain ⟨m, ⟨o, _, _, ho, _⟩, _⟩ := I.loc
    exact free _ o (fun z => (hch _ z).2.1 rfl) ho I.free
  · obtain ⟨v, o, ho, hd⟩ := I.cell x c e
    exact free c o (fun z => (hch c z).2.2.1 x c e rfl) ho (I.freeC x c e)
  · obtain ⟨e, n, ne, nf, d⟩ := I.pin p hp
    have nch : p.1 ∉ ch := fun z => (hch p.1 z).2.2.2 p hp rfl
    exact ⟨keep p.1 p.2 ne nf nch e n, free p.1 p.2 nch e n, ne, nf, d⟩
/-- .. where the frame's own object is kept too -/
theorem Inv.un {t' : Nat} (I : Inv X pins σ H s) (u : Un X.fs [] H H' s.heap h') (hok : HOk X.prog X.w H' h') : Inv X pins σ H' { s with heap := h', toks := t' } := by
  obtain ⟨m, ⟨o, es, ep, ho, r⟩, _⟩ := id I.loc
  obtain ⟨sl, hL⟩ := u.any ho I.free (by simp)
  exact I.step (g' := s.gens) (d' := s.drawn) (ch := []) (fun _ z => nomatch z) (fun b o _ hb _ e n => u.keep b o e n hb (by simp)) (fun b o _ hb _ e n => u.slot b o e n hb (by simp)) (fun b o _ e n => u.free b o e n (by simp)) (fun b o _ e => u.there b o e (by simp)) u.tups u.frzs u.tbls (fun m' hm => by
    obtain ⟨o', es', ep', ho', r'⟩ := hm
    rw [ho] at ho'; cases ho'
    exact ⟨_, es', ep', hL, r'⟩) hok I.bare
/-- behind a call (or a comprehension's block): the slots of this frame may have changed too, the records at ch may have turned -/
theorem Inv.call {g' : Array GenState} {t' : Nat} {d' : Drawn} {ch : List Addr} (I : Inv X pins σ H s) (u : Un (frs X.stack) ch H H' s.heap h') (hok : HOk X.prog X.w H' h') (hg : AllBare g')
    (hch : ∀ b ∈ ch, (b ∈ X.ex ∨ X.s₀.heap.objs.size ≤ b) ∧ b ≠ X.env.locals ∧ (∀ x c, X.env.cells.lookup x = some c → c ≠ b) ∧ ∀ p ∈ X.pn ++ pins, p.1 ≠ b) :
    Inv X pins σ H' { s with heap := h', gens := g', drawn := d', toks := t' } := by
  obtain ⟨m, ⟨o, es, ep, ho, r⟩, _⟩ := id I.loc
  obtain ⟨sl, hL⟩ := u.any ho I.free fun z => (hch _ z).2.1 rfl
  exact I.step (ch := ch) hch (fun b o hL hb hc e n => u.keep b o e n (fun z => (List.mem_cons.mp (I.stkSub b z)).elim hL hb) hc) (fun b o _ _ hc e n => u.any e n hc) (fun b o hc e n => u.free b o e n hc) (fun b o hc e => u.there b o e hc) u.tups u.frzs u.tbls (fun m' hm => by
    obtain ⟨o', es', ep', ho', r'⟩ := hm
    rw [ho] at ho'; cases ho'
    exact ⟨_, es', ep', hL, r'⟩) hok hg
/-- an untracked record of ours (an iterator) has turned -/
theorem Inv.turned {t' : Nat} {it : Addr} (I : Inv X pins σ H s) (k : ∀ b o, b ≠ it → s.heap.get? b = some o → h'.get? b = some o) (hn : H it = none) (hL : it ≠ X.env.locals)
    (h1 : it ∈ X.ex ∨ X.s₀.heap.objs.size ≤ it) (h2 : ∀ x c, X.env.cells.lookup x = some c → c ≠ it) (h3 : ∀ p ∈ X.pn ++ pins, p.1 ≠ it) : Inv X pins σ H { s with heap := h', toks := t' } := by
  have nit : ∀ b u, H b = some u → b ≠ it := fun b u e z => by rw [z, hn] at e; cases e
  refine I.step (g' := s.gens) (d' := s.drawn) (ch := [it]) (fun b hb => ?_) (fun b o _ _ hc e _ => k b o (fun z => hc (by simp [z])) e) (fun b o _ _ hc e _ => ⟨o.slots, k b o (fun z => hc (by simp [z])) e⟩) (fun _ _ _ _ n => n)
    (fun b o hc e => ⟨o, k b o (fun z => hc (by simp [z])) e⟩) (fun _ _ e => e) (fun _ _ _ e => e) (fun b ps e => ⟨#[], by rw [e]; simp⟩) (fun m hm => ?_) (fun b u e => ?_) I.bare
  · have e : b = it := by simpa using hb
    subst e
    exact ⟨h1, hL, h2, h3⟩
  · obtain ⟨o, es, ep, ho, r⟩ := hm
    exact ⟨o, es, ep, k _ o (Ne.symm hL) ho, r⟩
  · refine (I.hok b u e).stay (fun c v hc q => k c v ?_ q) (fun _ q => q) fun _ _ q => q
    rcases hc with z | z
    · rw [z]; exact nit b u e
    · exact nit c _ z
theorem Inv.tok (I : Inv X pins σ H s) (t : Nat) : Inv X pins σ H { s with toks := t } := I.un (h' := s.heap) (t' := t) Un.refl I.hok
/-- all objects kept -/
theorem Inv.kept {t' : Nat} (I : Inv X pins σ H s) (k : ∀ b u, s.heap.get? b = some u → h'.get? b = some u) : Inv X pins σ H { s with heap := h', toks := t' } := I.un (Un.kept k) (I.hok.kept k)
/-- a new object laid and tracked -/
theorem Inv.laid {a : Addr} {o : HO} {t' : Nat} (I : Inv X pins σ H s) (k : ∀ b u, s.heap.get? b = some u → h'.get? b = some u) (hp : s.heap.objs.size ≤ a) (new : ObjOk X.prog X.w (upd H a o) h' a o) :
    Inv X pins σ (upd H a o) { s with heap := h', toks := t' } := I.un (Un.laid k hp (I.hok.fresh hp)) (I.hok.laid k hp new)
/-- an object written -/
theorem Inv.write {x e : Addr} {o : HO} {t' : Nat} (I : Inv X pins σ H s) (mu : Mut (H x)) (he : e = x ∨ H e = some (.own x)) (k : ∀ b u, b ≠ e → s.heap.get? b = some u → h'.get? b = some u) (heo : ∃ u, h'.get? e = some u)
    (new : ObjOk X.prog X.w (upd H x o) h' x o) : Inv X pins σ (upd H x o) { s with heap := h', toks := t' } := I.un (Un.write mu he k heo) (I.hok.write mu he k heo new)
/-- forgetting slots, pins -/
theorem Inv.weak {σ' : List (Option V)} (I : Inv X pins σ H s) (hl : σ'.length = σ.length) (w : ∀ (i : Nat) v, σ'[i]? = some (some v) → σ[i]? = some (some v)) : Inv X pins σ' H s :=
  ⟨I.ok, I.os, I.bare, I.base, let ⟨m, hn, hl'⟩ := I.loc; ⟨m, hn, fun i x v e1 e2 e3 => hl' i x v e1 (w i v e2) e3⟩, I.cell, I.free, I.freeC, I.pin, I.hok, hl.trans I.len⟩
theorem Inv.pins_of {pins' : List (Addr × Obj)} (I : Inv X pins σ H s) (h : ∀ p ∈ pins', s.heap.get? p.1 = some p.2 ∧ H p.1 = none ∧ p.1 ≠ X.env.locals ∧ p.1 ∉ X.fs ∧ ∀ v, p.2.data ≠ .cell v) : Inv X pins' σ H s :=
  ⟨I.ok, I.os, I.bare, I.base, I.loc, I.cell, I.free, I.freeC, fun p hp => (List.mem_append.mp hp).elim (fun z => I.pin p (List.mem_append_left _ z)) (h p), I.hok, I.len⟩

theorem nodup_ix {N : List Str} (hN : N.Nodup) {i j : Nat} {x : Str} (a : N[i]? = some x) (b : N[j]? = some x) : i = j := by
  obtain ⟨h1, e1⟩ := List.getElem?_eq_some_iff.mp a
  obtain ⟨h2, e2⟩ := List.getElem?_eq_some_iff.mp b
  exact (List.getElem_inj hN).mp (e1.trans e2.symm)

/-- a name is stored; what changed -/
theorem store_ok2 {M : Model} {A : Around} {E : Value → Shared → Prop} {i : Nat} {x : Str} {v : V} {u : Value} {Q : Unit → Shared → Prop} (I : Inv X pins σ H s) (hN : X.N.Nodup) (hi : X.N[i]? = some x) (hx : Loc X.env.scope x) (r : RelV v u)
    (h : ∀ s', Inv X pins (σ.set i (some v)) H s' → (∃ a, Heap.SameBut a s.heap s'.heap ∧ (a = X.env.locals ∨ X.env.cells.lookup x = some a)) → Q () s') (hf : X.fn x = true ∨ X.env.scope.names.lookup x = some .local := by first | exact .inl rfl | exact .inr rfl | assumption) : wpAny M A (storeName X.env x u) Q E s := by
  obtain ⟨m, hn, hl⟩ := id I.loc
  have hcls : (X.env.scope.kind == .class || (X.env.scope.kind == .module && X.env.locals != X.env.globals)) = false := by rw [I.ok.kind]; rfl
  have hiσ : i < σ.length := by rw [I.len]; exact (List.getElem?_eq_some_iff.mp hi).1
  have cne := I.cne
  have tracked : ∀ {a : Addr} {h' : Heap}, (∃ o, s.heap.get? a = some o ∧ H a = none) → Heap.SameBut a s.heap h' → HOk X.prog X.w H h' := fun {a h'} ha hs b ob e => by
    obtain ⟨_, _, hfree⟩ := ha
    refine (I.hok b ob e).stay (fun c w' hc q => (hs.2 c ?_).trans q) (fun _ q => q) fun _ _ q => q
    rintro rfl
    rcases hc with rfl | hc
    · rw [hfree] at e; cases e
    · rw [hfree] at hc; cases hc
  rcases hx with hk | hk
  · refine wpAny_storeName_local hk hn (fun h' hn' hs => ?_) hcls
    obtain ⟨oL, _, _, hoL, _⟩ := id hn
    refine h _ ⟨I.ok, I.os, I.bare, ⟨fun b o e n hb hx => ?_, fun b o e n hb hx => ?_, I.base.free, fun b o e hx => ?_, I.base.tups, I.base.frzs, I.base.tbls⟩, ⟨_, hn', fun j y v' e1 e2 e3 => ?_⟩, fun y c e => ?_, I.free, I.freeC, fun p hp => ?_, tracked ⟨oL, hoL, I.free⟩ hs, by simpa using I.len⟩ ⟨_, hs, .inl rfl⟩
    · exact (hs.2 b (Nat.ne_of_lt (Nat.lt_of_lt_of_le (Heap.lt_size e) I.ok.above))).trans (I.base.keep b o e n hb hx)
    · obtain ⟨sl, e1⟩ := I.base.slot b o e n hb hx
      exact ⟨sl, (hs.2 b (Nat.ne_of_lt (Nat.lt_of_lt_of_le (Heap.lt_size e) I.ok.above))).trans e1⟩
    · obtain ⟨o', e1⟩ := I.base.there b o e hx
      exact ⟨o', (hs.2 b (Nat.ne_of_lt (Nat.lt_of_lt_of_le (Heap.lt_size e) I.ok.above))).trans e1⟩
    · by_cases hj : j = i
      · subst hj
        rw [hi] at e1; cases e1
        rw [List.getElem?_set_self hiσ] at e2
        cases e2
        exact ⟨u, r, .inl ⟨hk, by simp⟩⟩
      · rw [List.getElem?_set_ne (Ne.symm hj)] at e2
        obtain ⟨u', r', q⟩ := hl j y v' e1 e2 e3
        refine ⟨u', r', ?_⟩
        rcases q with ⟨k, e⟩ | ⟨k, c, e, z⟩
        · refine .inl ⟨k, ?_⟩
          have : y ≠ x := fun e => hj (nodup_ix hN e1 (e ▸ hi))
          simp [this, e]
        · exact .inr ⟨k, c, e, z.sameBut hs (cne y c e)⟩
    · obtain ⟨w', z⟩ := I.cell y c e
      exact ⟨w', z.sameBut hs (cne y c e)⟩
    · obtain ⟨e, n, ne, nf, d⟩ := I.pin p hp
      exact ⟨(hs.2 p.1 ne).trans e, n, ne, nf, d⟩
  · have hfn : X.fn x = true := by
      rcases hf with z | z
      · exact z
      · rw [z] at hk; cases hk
    obtain ⟨c, hc⟩ := I.ok.has x (.inl hk)
    obtain ⟨w', z⟩ := I.cell x c hc
    refine wpAny_storeName_cell I.ok.kind hk hc z (fun h' hc' hs => ?_)
    obtain ⟨oc, hoc, hocd⟩ := id z
    refine h { s with heap := h' } ⟨I.ok, I.os, I.bare, ⟨fun b o e n hb hx => ?_, fun b o e n hb hx => ?_, I.base.free, fun b o e hx => ?_, I.base.tups, I.base.frzs, I.base.tbls⟩, ⟨m, hn.sameBut hs (Ne.symm (cne x c hc)), fun j y v' e1 e2 e3 => ?_⟩, fun y c' e => ?_, I.free, I.freeC, fun p hp => ?_, tracked ⟨oc, hoc, I.freeC x c hc⟩ hs, by simpa using I.len⟩ ⟨c, hs, .inr hc⟩
    · exact (hs.2 b (Nat.ne_of_lt (Nat.lt_of_lt_of_le (Heap.lt_size e) (I.ok.cab x c hfn hc)))).trans (I.base.keep b o e n hb hx)
    · obtain ⟨sl, e1⟩ := I.base.slot b o e n hb hx
      exact ⟨sl, (hs.2 b (Nat.ne_of_lt (Nat.lt_of_lt_of_le (Heap.lt_size e) (I.ok.cab x c hfn hc)))).trans e1⟩
    · obtain ⟨o', e1⟩ := I.base.there b o e hx
      exact ⟨o', (hs.2 b (Nat.ne_of_lt (Nat.lt_of_lt_of_le (Heap.lt_size e) (I.ok.cab x c hfn hc)))).trans e1⟩
    · by_cases hj : j = i
      · subst hj
        rw [hi] at e1; cases e1
        rw [List.getElem?_set_self hiσ] at e2
        cases e2
        exact ⟨u, r, .inr ⟨.inl hk, c, hc, hc'⟩⟩
      · rw [List.getElem?_set_ne (Ne.symm hj)] at e2
        obtain ⟨u', r', q⟩ := hl j y v' e1 e2 e3
        refine ⟨u', r', ?_⟩
        rcases q with q | ⟨k, c', e, z'⟩
        · exact .inl q
        · refine .inr ⟨k, c', e, z'.sameBut hs ?_⟩
          rintro rfl
          exact hj (nodup_ix hN e1 (I.ok.inj _ _ _ e hc ▸ hi))
    · by_cases hcc : c' = c
      · subst hcc; exact ⟨_, hc'⟩
      · obtain ⟨w2, z2⟩ := I.cell y c' e
        exact ⟨w2, z2.sameBut hs hcc⟩
    · obtain ⟨e, n, ne, nf, d⟩ := I.pin p hp
      refine ⟨(hs.2 p.1 ?_).trans e, n, ne, nf, d⟩
      intro q
      rw [q, hoc] at e
      have q' : oc = p.2 := Option.some.inj e
      exact d w' (by rw [← q']; exact hocd)
theorem store_ok {M : Model} {A : Around} {E : Value → Shared → Prop} {i : Nat} {x : Str} {v : V} {u : Value} {Q : Unit → Shared → Prop} (I : Inv X pins σ H s) (hN : X.N.Nodup) (hi : X.N[i]? = some x) (hx : Loc X.env.scope x) (r : RelV v u)
    (h : ∀ s', Inv X pins (σ.set i (some v)) H s' → Q () s') (hf : X.fn x = true ∨ X.env.scope.names.lookup x = some .local := by first | exact .inl rfl | exact .inr rfl | assumption) : wpAny M A (storeName X.env x u) Q E s :=
  store_ok2 I hN hi hx r (fun s' I' _ => h s' I') hf
/-- behind a call or a block, the state as it is -/
theorem Inv.call' {s' : Shared} {ch : List Addr} (I : Inv X pins σ H s) (ho : s'.os = s.os) (u : Un (frs X.stack) ch H H' s.heap s'.heap) (hok : HOk X.prog X.w H' s'.heap) (hg : AllBare s'.gens)
    (hch : ∀ b ∈ ch, (b ∈ X.ex ∨ X.s₀.heap.objs.size ≤ b) ∧ b ≠ X.env.locals ∧ (∀ x c, X.env.cells.lookup x = some c → c ≠ b) ∧ ∀ p ∈ X.pn ++ pins, p.1 ≠ b) : Inv X pins σ H' s' := by
  obtain ⟨h', g', d', t', o'⟩ := s'
  have e : o' = s.os := ho
  subst e
  exact I.call (g' := g') (t' := t') (d' := d') u hok hg hch
end

/-! ### the judgements -/
/-- an exception: its class, its own dict's address (where it has one), the abstract heap behind it -/
abbrev XK := Value → Option Addr → Hp → Prop
abbrev St := List (Option V)
abbrev VK := V → Hp → Prop
/-- an expression's reading; a test's; an argument list's -/
abbrev TE := St → Hp → VK → Prop
abbrev TT := St → Hp → (Bool → Hp → Prop) → Prop
abbrev TA := St → Hp → (List V → Hp → Prop) → Prop
/-- what is wanted behind a statement -/
structure Ends where
  nx : St → Hp → Prop
  rt : VK
  bk : St → Hp → Prop := fun _ _ => False
  ct : St → Hp → Prop := fun _ _ => False
abbrev TS := Ends → St → Hp → Prop

def EP (X : Cx) (pins : List (Addr × Obj)) (σ : St) (Q : VK) (u : Value) (s' : Shared) : Prop := ∃ v H', Inv X pins σ H' s' ∧ RelV v u ∧ Q v H'
def TP (X : Cx) (pins : List (Addr × Obj)) (σ : St) (Q : Bool → Hp → Prop) (b : Bool) (s' : Shared) : Prop := ∃ H', Inv X pins σ H' s' ∧ Q b H'
def AP (X : Cx) (pins : List (Addr × Obj)) (σ : St) (Q : List V → Hp → Prop) (us : List Value) (s' : Shared) : Prop := ∃ vs H', Inv X pins σ H' s' ∧ Vals vs us ∧ Q vs H'
def SP (X : Cx) (pins : List (Addr × Obj)) (D : Ends) (f : Flow) (s' : Shared) : Prop :=
  match f with
  | .next => ∃ σ' H', Inv X pins σ' H' s' ∧ D.nx σ' H'
  | .brk => ∃ σ' H', Inv X pins σ' H' s' ∧ D.bk σ' H'
  | .cont => ∃ σ' H', Inv X pins σ' H' s' ∧ D.ct σ' H'
  | .ret u => ∃ v σ' H', Inv X pins σ' H' s' ∧ RelV v u ∧ D.rt v H'

def PE (X : Cx) (e : Expr) (t : TE) : Prop :=
  ∀ (pins : List (Addr × Obj)) (s : Shared) (σ : St) (H : Hp) (Q : VK), Inv X pins σ H s → t σ H Q → wpAny (model X.prog X.w) X.A (eval e X.env) (EP X pins σ Q) X.xe s
def PT (X : Cx) (e : Expr) (t : TT) : Prop :=
  ∀ (pins : List (Addr × Obj)) (s : Shared) (σ : St) (H : Hp) (Q : Bool → Hp → Prop), Inv X pins σ H s → t σ H Q → wpAny (model X.prog X.w) X.A (isTrue e X.env (eval e X.env)) (TP X pins σ Q) X.xe s
/-- a test whatever its 'whole' is (and, or) -/
def PW (X : Cx) (e : Expr) (t : TT) : Prop :=
  ∀ (whole : Sem Value) (pins : List (Addr × Obj)) (s : Shared) (σ : St) (H : Hp) (Q : Bool → Hp → Prop), Inv X pins σ H s → t σ H Q → wpAny (model X.prog X.w) X.A (isTrue e X.env whole) (TP X pins σ Q) X.xe s
theorem PW.pt {X : Cx} {e : Expr} {t : TT} (h : PW X e t) : PT X e t := h _
/-- an argument list (no star), from the left -/
def PA (X : Cx) (es : List Expr) (t : TA) : Prop :=
  ∀ (pos : Pos) (pins : List (Addr × Obj)) (s : Shared) (σ : St) (H : Hp) (Q : List V → Hp → Prop), Inv X pins σ H s → t σ H Q → wpAny (model X.prog X.w) X.A (spliced (backTo pos (starEach es X.env))) (AP X pins σ Q) X.xe s
def PS (X : Cx) (st : Stmt) (t : TS) : Prop :=
  ∀ (pins : List (Addr × Obj)) (s : Shared) (σ : St) (H : Hp) (D : Ends), Inv X pins σ H s → t D σ H → wpAny (model X.prog X.w) X.A (exec st X.env) (SP X pins D) X.xe s
def PSs (X : Cx) (st : List Stmt) (t : TS) : Prop :=
  ∀ (pins : List (Addr × Obj)) (s : Shared) (σ : St) (H : Hp) (D : Ends), Inv X pins σ H s → t D σ H → wpAny (model X.prog X.w) X.A (execs st X.env) (SP X pins D) X.xe s
/-- weaken the end -/
theorem thn {α : Type} {t : Sem α} {Q Q' : α → Shared → Prop} {M : Model} {A : Around} {E : Value → Shared → Prop} {s : Shared} (h : wpAny M A t Q E s) (hQ : ∀ a s, Q a s → Q' a s) : wpAny M A t Q' E s := wpAny_mono h hQ fun _ _ x => x
end L2

namespace L2
open PySem PySem.Spec PyProof.Rows
section
variable {X : Cx}

/-- two expressions in a row -/
theorem bin {a b : Expr} {ta tb : TE} (ha : PE X a ta) (hb : PE X b tb) {pins : List (Addr × Obj)} {s : Shared} {σ : St} {H : Hp} {R : V → V → Hp → Prop} (I : Inv X pins σ H s) (h : ta σ H fun x H1 => tb σ H1 fun y H2 => R x y H2)
    {α : Type} {Q : α → Shared → Prop} {f : Value → Value → Sem α}
    (hf : ∀ v u s2 x y H2, Inv X pins σ H2 s2 → RelV x v → RelV y u → R x y H2 → wpAny (model X.prog X.w) X.A (f v u) Q X.xe s2) :
    wpAny (model X.prog X.w) X.A (eval a X.env) (fun v s₁ => wpAny (model X.prog X.w) X.A (eval b X.env) (fun u s₂ => wpAny (model X.prog X.w) X.A (f v u) Q X.xe s₂) X.xe s₁) X.xe s := by
  refine thn (ha pins s σ H _ I h) fun v s1 ⟨x, H1, I1, r1, q1⟩ => ?_
  refine thn (hb pins s1 σ H1 _ I1 q1) fun u s2 ⟨y, H2, I2, r2, q2⟩ => ?_
  exact hf v u s2 x y H2 I2 r1 r2 q2

/-! ### names and constants -/
def tVar (i : Nat) : TE := fun σ H Q => ∃ v, σ[i]? = some (some v) ∧ Q v H
def tC (v : V) : TE := fun _ H Q => Q v H
theorem pe_var {i : Nat} {x : Str} {pos : Pos} (hN : X.N[i]? = some x) (hv : Vis X.env.scope x) (hd : (x == ("__debug__" : Str)) = false := by decide) (hcd : (x == ("__classdict__" : Str)) = false := by decide) : PE X (.Name x pos) (tVar i) := by
  intro pins s σ H Q I h
  obtain ⟨v, e, h⟩ := h
  obtain ⟨m, hn, hl⟩ := I.loc
  obtain ⟨u, r, l⟩ := hl i x v hN e hv
  have fin : EP X pins σ Q u s := ⟨v, H, I, r, h⟩
  rcases l with ⟨hk, hm⟩ | ⟨hk, c, hc, hcell⟩
  · exact wpAny_Name (wpAny_loadName_local I.ok.kind hk hn hm fin) hd
  · rcases hk with hk | hk
    · exact wpAny_Name (wpAny_loadName_cell I.ok.kind hk hc hcell fin) hd
    · exact wpAny_Name (wpAny_loadName_free I.ok.kind hk hc hcell fin hcd) hd
theorem pe_int {i j pos} : PE X (.Constant (.int i) j pos) (tC (.int i)) := fun _ _ _ H _ I h => wpAny_Constant_int ⟨.int i, H, I.tok _, ⟨_, rfl⟩, h⟩
theorem pe_bl {b j pos} : PE X (.Constant (.bool b) j pos) (tC (.bl b)) := fun _ _ _ H _ I h => Constant_bool ⟨.bl b, H, I, rfl, h⟩
theorem pe_non {j pos} : PE X (.Constant .none j pos) (tC .non) := fun _ _ _ H _ I h => Constant_none ⟨.non, H, I, rfl, h⟩
theorem pe_str {x j pos} : PE X (.Constant (.str x) j pos) (tC (.str x)) := fun _ _ _ H _ I h => Calls.Constant_str ⟨.str x, H, I.tok _, ⟨_, rfl⟩, h⟩

/-- a global name of the def -/
def Gl (X : Cx) (x : Str) : Prop := X.env.kindOf x = some .globalImplicit
theorem ld_glob {E : Value → Shared → Prop} {pins : List (Addr × Obj)} {s : Shared} {σ : St} {H : Hp} {x : Str} {u : Value} {pos : Pos} {Q : Value → Shared → Prop} (I : Inv X pins σ H s) (hg : Gl X x) (hm : X.mg x = some u) (h : Q u s)
    (hd : (x == ("__debug__" : Str)) = false := by decide) : wpAny (model X.prog X.w) X.A (eval (.Name x pos) X.env) Q E s :=
  Calls.Name_function_global I.ok.kind hg (Calls.loadGlobal_global (by rw [I.ok.glob]; exact I.mod.glob.keeps I.bk) hm h) hd
theorem ld_blt {E : Value → Shared → Prop} {pins : List (Addr × Obj)} {s : Shared} {σ : St} {H : Hp} {x : Str} {u : Value} {pos : Pos} {Q : Value → Shared → Prop} (I : Inv X pins σ H s) (hg : Gl X x) (hm : X.mg x = none) (hv : bootBuiltins x = some u) (h : Q u s)
    (hn : x ≠ "__name__" := by decide) (hd : (x == ("__debug__" : Str)) = false := by decide) : wpAny (model X.prog X.w) X.A (eval (.Name x pos) X.env) Q E s := by
  obtain ⟨mb, h1, h2⟩ := I.mod.blt
  exact Calls.Name_function_global I.ok.kind hg (Calls.loadGlobal_builtin (by rw [I.ok.glob]; exact I.mod.glob.keeps I.bk) hm (by rw [I.ok.blt]; exact h1.keeps I.bk) ((h2 x hn).trans hv) h) hd
/-- a module's constant, a class, a function, as a value -/
theorem pe_glob {x : Str} {v : V} {u : Value} {pos : Pos} (hg : Gl X x) (hm : X.mg x = some u) (r : RelV v u) (hd : (x == ("__debug__" : Str)) = false := by decide) : PE X (.Name x pos) (tC v) :=
  fun _ _ _ H _ I h => ld_glob I hg hm ⟨v, H, I, r, h⟩ hd
theorem pe_bltn {x : Str} {v : V} {u : Value} {pos : Pos} (hg : Gl X x) (hm : X.mg x = none) (hv : bootBuiltins x = some u) (r : RelV v u) (hn : x ≠ "__name__" := by decide) (hd : (x == ("__debug__" : Str)) = false := by decide) : PE X (.Name x pos) (tC v) :=
  fun _ _ _ H _ I h => ld_blt I hg hm hv ⟨v, H, I, r, h⟩ hn hd

/-! ### arithmetic -/
/-- two ints -/
def t2I (ta tb : TE) (k : Int → Int → Hp → Prop) : St → Hp → Prop := fun σ H => ta σ H fun x H1 => tb σ H1 fun y H2 => ∃ i j, x = .int i ∧ y = .int j ∧ k i j H2
def tAdd (ta tb : TE) : TE := fun σ H Q => t2I ta tb (fun i j H2 => Q (.int (i + j)) H2) σ H
def tSub (ta tb : TE) : TE := fun σ H Q => t2I ta tb (fun i j H2 => Q (.int (i - j)) H2) σ H
/-- the left factor below 2^64 -/
def tMul (ta tb : TE) : TE := fun σ H Q => t2I ta tb (fun i j H2 => (-(2 ^ 64) < i ∧ i < 2 ^ 64) ∧ Q (.int (i * j)) H2) σ H
variable {a b : Expr} {ta tb : TE} {pos : Pos}
theorem pe_add (ha : PE X a ta) (hb : PE X b tb) : PE X (.BinOp a .Add b pos) (tAdd ta tb) := by
  intro pins s σ H Q I h
  refine wpAny_BinOp (bin ha hb I h fun v u s2 x y H2 I2 rx ry q => ?_)
  obtain ⟨i, j, rfl, rfl, q⟩ := q
  obtain ⟨t, rfl⟩ := rx
  obtain ⟨t', rfl⟩ := ry
  exact add_int ⟨.int _, H2, I2.tok _, ⟨_, rfl⟩, q⟩
theorem pe_sub (ha : PE X a ta) (hb : PE X b tb) : PE X (.BinOp a .Sub b pos) (tSub ta tb) := by
  intro pins s σ H Q I h
  refine wpAny_BinOp (bin ha hb I h fun v u s2 x y H2 I2 rx ry q => ?_)
  obtain ⟨i, j, rfl, rfl, q⟩ := q
  obtain ⟨t, rfl⟩ := rx
  obtain ⟨t', rfl⟩ := ry
  exact sub_int ⟨.int _, H2, I2.tok _, ⟨_, rfl⟩, q⟩
theorem pe_mul (ha : PE X a ta) (hb : PE X b tb) : PE X (.BinOp a .Mult b pos) (tMul ta tb) := by
  intro pins s σ H Q I h
  refine wpAny_BinOp (bin ha hb I h fun v u s2 x y H2 I2 rx ry q => ?_)
  obtain ⟨i, j, rfl, rfl, ⟨q1, q2⟩, q⟩ := q
  obtain ⟨t, rfl⟩ := rx
  obtain ⟨t', rfl⟩ := ry
  exact mul_int ⟨.int _, H2, I2.tok _, ⟨_, rfl⟩, q⟩ (.of_left (intBits_le_64 q1 q2))

/-! ### comparisons -/
def PC (X : Cx) (op : CmpOp) (a b : Expr) (t : TE) : Prop :=
  ∀ (pins : List (Addr × Obj)) (s : Shared) (σ : St) (H : Hp) (Q : VK), Inv X pins σ H s → t σ H Q →
    wpAny (model X.prog X.w) X.A (eval a X.env) (fun v s₁ => wpAny (model X.prog X.w) X.A (eval b X.env) (fun u s₂ => wpAny (model X.prog X.w) X.A (compareOp op v u) (EP X pins σ Q) X.xe s₂) X.xe s₁) X.xe s
theorem nobehind (b : Expr) {op : CmpOp} (h : op ≠ .In) (h2 : op ≠ .NotIn) : behindInMarks op b = false := by
  have e1 : (op == CmpOp.In) = false := by cases op <;> first | rfl | exact absurd rfl h
  have e2 : (op == CmpOp.NotIn) = false := by cases op <;> first | rfl | exact absurd rfl h2
  cases b <;> simp [behindInMarks, e1, e2]
def tCmp (p : Int → Int → Bool) (ta tb : TE) : TE := fun σ H Q => t2I ta tb (fun i j H2 => Q (.bl (p i j)) H2) σ H
abbrev tLt : TE → TE → TE := tCmp fun i j => decide (i < j)
abbrev tLe : TE → TE → TE := tCmp fun i j => decide (i ≤ j)
abbrev tGt : TE → TE → TE := tCmp fun i j => decide (j < i)
abbrev tGe : TE → TE → TE := tCmp fun i j => decide (j ≤ i)
abbrev tEqI : TE → TE → TE := tCmp fun i j => decide (i = j)
abbrev tNeI : TE → TE → TE := tCmp fun i j => !decide (i = j)
/-- a comparison of two ints, by its rule -/
theorem pc_int {op : CmpOp} {p : Int → Int → Bool} (ha : PE X a ta) (hb : PE X b tb)
    (rule : ∀ (i j : Int) (t u : Tok) (Q : Value → Shared → Prop) (s : Shared), Q (.bool (p i j)) s → wpAny (model X.prog X.w) X.A (compareOp op (.int i t) (.int j u)) Q X.xe s) : PC X op a b (tCmp p ta tb) := by
  intro pins s σ H Q I h
  refine bin ha hb I h fun v u s2 x y H2 I2 rx ry q => ?_
  obtain ⟨i, j, rfl, rfl, q⟩ := q
  obtain ⟨t, rfl⟩ := rx
  obtain ⟨t', rfl⟩ := ry
  exact rule i j t t' _ s2 ⟨.bl _, H2, I2, rfl, q⟩
theorem pc_lt (ha : PE X a ta) (hb : PE X b tb) : PC X .Lt a b (tLt ta tb) := pc_int ha hb fun _ _ _ _ _ _ h => lt_int h
theorem pc_le (ha : PE X a ta) (hb : PE X b tb) : PC X .LtE a b (tLe ta tb) := pc_int ha hb fun _ _ _ _ _ _ h => le_int h
theorem pc_gt (ha : PE X a ta) (hb : PE X b tb) : PC X .Gt a b (tGt ta tb) := pc_int ha hb fun _ _ _ _ _ _ h => gt_int h
theorem pc_ge (ha : PE X a ta) (hb : PE X b tb) : PC X .GtE a b (tGe ta tb) := pc_int ha hb fun _ _ _ _ _ _ h => ge_int h
theorem pc_eqI (ha : PE X a ta) (hb : PE X b tb) : PC X .Eq a b (tEqI ta tb) := pc_int ha hb fun _ _ _ _ _ _ h => eq_int (by rw [Bool.beq_eq_decide_eq]; exact h)
theorem pc_neI (ha : PE X a ta) (hb : PE X b tb) : PC X .NotEq a b (tNeI ta tb) := pc_int ha hb fun _ _ _ _ _ _ h => ne_int (by rw [bne, Bool.beq_eq_decide_eq]; exact h)
/-- is None -/
def tIsN (ta : TE) : TE := fun σ H Q => ta σ H fun x H1 => Q (.bl (decide (x = .non))) H1
def tNotN (ta : TE) : TE := fun σ H Q => ta σ H fun x H1 => Q (.bl (!decide (x = .non))) H1
theorem RelV.none_iff {x : V} {v : Value} (r : RelV x v) : (v == Value.none) = decide (x = .non) := by
  cases x with
  | non => cases r; rfl
  | bl _ => cases r; rfl
  | int _ => obtain ⟨t, rfl⟩ := r; rfl
  | str _ => obtain ⟨t, rfl⟩ := r; rfl
  | byt _ => obtain ⟨t, rfl⟩ := r; rfl
  | flt _ => obtain ⟨t, rfl⟩ := r; rfl
  | ref _ => cases r; rfl
  | ty _ => cases r; rfl
theorem pc_isN {j pos'} (ha : PE X a ta) : PC X .Is a (.Constant .none j pos') (tIsN ta) := by
  intro pins s σ H Q I h
  refine thn (ha pins s σ H _ I h) fun v s1 ⟨x, H1, I1, r1, q1⟩ => ?_
  exact Constant_none (is_none_gen ⟨.bl _, H1, I1, by rw [r1.none_iff]; rfl, q1⟩)
theorem pc_notN {j pos'} (ha : PE X a ta) : PC X .IsNot a (.Constant .none j pos') (tNotN ta) := by
  intro pins s σ H Q I h
  refine thn (ha pins s σ H _ I h) fun v s1 ⟨x, H1, I1, r1, q1⟩ => ?_
  exact Constant_none (isnot_none_gen ⟨.bl _, H1, I1, by rw [r1.none_iff]; rfl, q1⟩)
/-- a comparison as a value, as a test -/
def tB (t : TE) : TT := fun σ H Q => t σ H fun x H1 => ∃ c, x = .bl c ∧ Q c H1
theorem pe_cmp {op : CmpOp} {t : TE} (h : PC X op a b t) (h1 : behindInMarks op b = false := by first | exact nobehind _ (by decide) (by decide) | rfl) : PE X (.Compare a [op] [b] pos) t := fun pins s σ H Q I hw => wpAny_Compare1 (h pins s σ H Q I hw) h1
theorem pt_cmp {op : CmpOp} {t : TE} (h : PC X op a b t) (h1 : behindInMarks op b = false := by first | exact nobehind _ (by decide) (by decide) | rfl) : PT X (.Compare a [op] [b] pos) (tB t) := by
  intro pins s σ H Q I hw
  refine wpAny_isTrue_Compare1 (thn (h pins s σ H _ I hw) fun v s1 h1 => thn h1 fun u s2 h2 => thn h2 fun c s3 ⟨x, H1, I1, r1, q1⟩ => ?_) h1
  obtain ⟨d, rfl, q⟩ := q1
  cases r1
  exact wpAny_truthy_bool ⟨H1, I1, q⟩
/-- an expression whose value is a bool, as a test -/
theorem pt_val {e : Expr} {t : TE} (h : PE X e t) (he : ∀ whole, isTrue e X.env whole = (do let v ← whole; standAt e.pos; holding [v] (truthy v)) := by intro _; rfl) : PT X e (tB t) := by
  intro pins s σ H Q I hw
  refine isTrue_plain (thn (h pins s σ H _ I hw) fun v s1 ⟨x, H1, I1, r1, q1⟩ => ?_) (he _)
  obtain ⟨d, rfl, q⟩ := q1
  cases r1
  exact wpAny_truthy_bool ⟨H1, I1, q⟩

/-! ### and, or, not -/
variable {tA tB' : TT} {rest : List Expr}
def tAnd (t u : TT) : TT := fun σ H Q => t σ H fun c H1 => if c = true then u σ H1 Q else Q false H1
def tOr (t u : TT) : TT := fun σ H Q => t σ H fun c H1 => if c = true then Q true H1 else u σ H1 Q
def tNot (t : TT) : TT := fun σ H Q => t σ H fun c H1 => Q (!c) H1
theorem pw_and1 (ha : PT X a tA) : PW X (.BoolOp .And [a] pos) tA := by
  intro wh pins s σ H Q I h
  refine isTrue_and (thn (ha pins s σ H Q I h) fun c s1 e => ?_)
  cases c with
  | true => exact isTrue_and_nil e
  | false => exact e
theorem pw_or1 (ha : PT X a tA) : PW X (.BoolOp .Or [a] pos) tA := by
  intro wh pins s σ H Q I h
  refine isTrue_or (thn (ha pins s σ H Q I h) fun c s1 e => ?_)
  cases c with
  | false => exact isTrue_or_nil e
  | true => exact e
theorem pw_and (ha : PT X a tA) (hb : PW X (.BoolOp .And (b :: rest) pos) tB') : PW X (.BoolOp .And (a :: b :: rest) pos) (tAnd tA tB') := by
  intro wh pins s σ H Q I h
  refine isTrue_and (thn (ha pins s σ H _ I h) fun c s1 ⟨H1, I1, q1⟩ => ?_)
  cases c with
  | true => exact hb wh pins s1 σ H1 Q I1 q1
  | false => exact ⟨H1, I1, q1⟩
theorem pw_or (ha : PT X a tA) (hb : PW X (.BoolOp .Or (b :: rest) pos) tB') : PW X (.BoolOp .Or (a :: b :: rest) pos) (tOr tA tB') := by
  intro wh pins s σ H Q I h
  refine isTrue_or (thn (ha pins s σ H _ I h) fun c s1 ⟨H1, I1, q1⟩ => ?_)
  cases c with
  | true => exact ⟨H1, I1, q1⟩
  | false => exact hb wh pins s1 σ H1 Q I1 q1
theorem pt_not (ha : PT X a tA) : PT X (.UnaryOp .Not a pos) (tNot tA) := by
  intro pins s σ H Q I h
  exact isTrue_not (ha pins s σ H (fun c H1 => Q (!c) H1) I h)
/-- .. as values (bools) -/
def tAndV (ta tb : TE) : TE := fun σ H Q => ta σ H fun x H1 => ∃ c, x = .bl c ∧ if c = true then tb σ H1 Q else Q (.bl false) H1
def tOrV (ta tb : TE) : TE := fun σ H Q => ta σ H fun x H1 => ∃ c, x = .bl c ∧ if c = true then Q (.bl true) H1 else tb σ H1 Q
def tNotV (ta : TE) : TE := fun σ H Q => ta σ H fun x H1 => ∃ c, x = .bl c ∧ Q (.bl (!c)) H1
theorem pe_one {op} {t : TE} (h : PE X a t) : PE X (.BoolOp op [a] pos) t := fun pins s σ H Q I hw => BoolOp_one (h pins s σ H Q I hw)
theorem pe_and (ha : PE X a ta) (hb : PE X (.BoolOp .And (b :: rest) pos) tb) : PE X (.BoolOp .And (a :: b :: rest) pos) (tAndV ta tb) := by
  intro pins s σ H Q I h
  refine BoolOp_and (thn (ha pins s σ H _ I h) fun v s1 ⟨x, H1, I1, r1, q1⟩ => ?_)
  obtain ⟨c, rfl, q1⟩ := q1
  cases r1
  refine wpAny_truthy_bool ?_
  cases c with
  | true => exact hb pins s1 σ H1 Q I1 q1
  | false => exact ⟨.bl false, H1, I1, rfl, q1⟩
theorem pe_or (ha : PE X a ta) (hb : PE X (.BoolOp .Or (b :: rest) pos) tb) : PE X (.BoolOp .Or (a :: b :: rest) pos) (tOrV ta tb) := by
  intro pins s σ H Q I h
  refine BoolOp_or (thn (ha pins s σ H _ I h) fun v s1 ⟨x, H1, I1, r1, q1⟩ => ?_)
  obtain ⟨c, rfl, q1⟩ := q1
  cases r1
  refine wpAny_truthy_bool ?_
  cases c with
  | false => exact hb pins s1 σ H1 Q I1 q1
  | true => exact ⟨.bl true, H1, I1, rfl, q1⟩
theorem pe_not (ha : PE X a ta) : PE X (.UnaryOp .Not a pos) (tNotV ta) := by
  intro pins s σ H Q I h
  refine UnaryOp_ (thn (ha pins s σ H _ I h) fun v s1 ⟨x, H1, I1, r1, q1⟩ => ?_)
  obtain ⟨c, rfl, q1⟩ := q1
  cases r1
  exact not_of (wpAny_truthy_bool ⟨.bl (!c), H1, I1, rfl, q1⟩)
/-- a if t else b -/
def tIf (t : TT) (ta tb : TE) : TE := fun σ H Q => t σ H fun c H1 => if c = true then ta σ H1 Q else tb σ H1 Q
theorem pe_ifExp {c : Expr} (hc : PT X c tA) (ha : PE X a ta) (hb : PE X b tb) : PE X (.IfExp c a b pos) (tIf tA ta tb) := by
  intro pins s σ H Q I h
  refine wpAny_IfExp (thn (hc pins s σ H _ I h) fun d s1 ⟨H1, I1, q1⟩ => ?_)
  cases d with
  | true => exact ha pins s1 σ H1 Q I1 q1
  | false => exact hb pins s1 σ H1 Q I1 q1
end
end L2

namespace L2
open PySem PySem.Spec PyProof.Rows

/-! ### a list, a tuple that is read: tracked, frozen, or an object of the module -/
def SqL (K : PySem.W.Frag) (H : Hp) (a : Addr) (xs : List V) : Prop :=
  Rd H a (.lst xs) ∨
    ∃ (o : Obj) (its : Array Value) (n : Nat), K.lookup a = some o ∧ o.cls = .type "list" ∧ o.dict = none ∧ o.data = .seq its n ∧ its.size ≤ sizeLine ∧ Vals xs its.toList
def SqT (K : PySem.W.Frag) (H : Hp) (a : Addr) (xs : List V) : Prop :=
  Rd H a (.tup xs) ∨
    ∃ (o : Obj) (its : Array Value) (n : Nat), K.lookup a = some o ∧ o.cls = .type "tuple" ∧ o.data = .seq its n ∧ its.size ≤ sizeLine ∧ Vals xs its.toList
def absV : Value → Option V
  | .none => some .non
  | .bool b => some (.bl b)
  | .int i _ => some (.int i)
  | .str x _ => some (.str x)
  | .bytes b _ => some (.byt b)
  | .float b _ => some (.flt b)
  | .ref a => some (.ref a)
  | .type n => some (.ty n)
  | _ => none
theorem RelV.abs {x : V} {u : Value} (r : RelV x u) : absV u = some x := by
  cases x with
  | non => cases r; rfl
  | bl _ => cases r; rfl
  | int _ => obtain ⟨t, rfl⟩ := r; rfl
  | str _ => obtain ⟨t, rfl⟩ := r; rfl
  | byt _ => obtain ⟨t, rfl⟩ := r; rfl
  | flt _ => obtain ⟨t, rfl⟩ := r; rfl
  | ref _ => cases r; rfl
  | ty _ => cases r; rfl
theorem RelV.inj {x y : V} {u : Value} (r : RelV x u) (q : RelV y u) : x = y := Option.some.inj (r.abs.symm.trans q.abs)
theorem Vals.inj : ∀ {xs ys : List V} {us : List Value}, Vals xs us → Vals ys us → xs = ys
  | _, _, _, .nil, .nil => rfl
  | _, _, _, .cons r t, .cons r' t' => by rw [r.inj r', Vals.inj t t']
section
variable {X : Cx} {pins : List (Addr × Obj)} {σ : St} {H : Hp} {s : Shared} {a : Addr} {xs ys : List V}
theorem SqL.of {K : PySem.W.Frag} (h : H a = some (.lst xs)) : SqL K H a xs := .inl (.inl h)
theorem SqT.of {K : PySem.W.Frag} (h : H a = some (.tup xs)) : SqT K H a xs := .inl (.inl h)
theorem Inv.list (I : Inv X pins σ H s) (h : SqL X.K H a xs) : ∃ its : List Value, Vals xs its ∧ PlainL s.heap a its.toArray ∧ xs.length ≤ sizeLine := by
  rcases h with h | ⟨o, its, n, hk, hc, hd, hs, hz, r⟩
  · obtain ⟨z, its, n, r, e⟩ := h.ok I.hok
    exact ⟨its, r, ⟨_, n, e, rfl, rfl, rfl⟩, z⟩
  · refine ⟨its.toList, r, ⟨o, n, I.kIn a o hk, hc, hd, by simpa using hs⟩, ?_⟩
    have e := r.length
    simp only [Array.length_toList] at e
    omega
theorem Inv.tuple (I : Inv X pins σ H s) (h : SqT X.K H a xs) : ∃ its : List Value, Vals xs its ∧ IsTup s.heap a its.toArray ∧ xs.length ≤ sizeLine := by
  rcases h with h | ⟨o, its, n, hk, hc, hs, hz, r⟩
  · obtain ⟨z, its, r, p⟩ := h.ok I.hok
    exact ⟨its, r, p, z⟩
  · refine ⟨its.toList, r, ⟨o, I.kIn a o hk, hc, n, by simpa using hs⟩, ?_⟩
    have e := r.length
    simp only [Array.length_toList] at e
    omega
theorem Inv.list_inj (I : Inv X pins σ H s) (h : SqL X.K H a xs) (h' : SqL X.K H a ys) : xs = ys := by
  obtain ⟨its, r, ⟨o, n, e, _, _, d⟩, _⟩ := I.list h
  obtain ⟨its', r', ⟨o', n', e', _, _, d'⟩, _⟩ := I.list h'
  rw [e] at e'; cases e'
  rw [d] at d'
  injection d' with d1 _
  have : its = its' := by simpa using congrArg Array.toList d1
  subst this
  exact r.inj r'
theorem Inv.tuple_inj (I : Inv X pins σ H s) (h : SqT X.K H a xs) (h' : SqT X.K H a ys) : xs = ys := by
  obtain ⟨its, r, ⟨o, e, _, n, d⟩, _⟩ := I.tuple h
  obtain ⟨its', r', ⟨o', e', _, n', d'⟩, _⟩ := I.tuple h'
  rw [e] at e'; cases e'
  rw [d] at d'
  injection d' with d1 _
  have : its = its' := by simpa using congrArg Array.toList d1
  subst this
  exact r.inj r'
end

/-! ### another wish about exceptions -/
abbrev Cx.wish (X : Cx) (E : Value → Shared → Prop) : Cx := { X with xe := E }
/-- no exception leaves -/
abbrev Cx.nox (X : Cx) : Cx := X.wish fun _ _ => False
theorem Cx.Ok.wish {X : Cx} (ok : X.Ok) (E : Value → Shared → Prop) : (X.wish E).Ok :=
  ⟨ok.mod, ok.kind, ok.glob, ok.blt, ok.above, ok.inj, ok.has, ok.cab, ok.hd, ok.frames, ok.stk, ok.exf, ok.bs, ok.bsz, ok.noex, ok.exfs, ok.funs, ok.frf⟩
theorem Cx.Ok.unwish {X : Cx} {E : Value → Shared → Prop} (ok : (X.wish E).Ok) : X.Ok :=
  ⟨ok.mod, ok.kind, ok.glob, ok.blt, ok.above, ok.inj, ok.has, ok.cab, ok.hd, ok.frames, ok.stk, ok.exf, ok.bs, ok.bsz, ok.noex, ok.exfs, ok.funs, ok.frf⟩
section
variable {X : Cx} {pins : List (Addr × Obj)} {σ : St} {H : Hp} {s : Shared} {E : Value → Shared → Prop}
theorem Inv.wish (I : Inv X pins σ H s) (E : Value → Shared → Prop) : Inv (X.wish E) pins σ H s := ⟨I.ok.wish E, I.os, I.bare, I.base, I.loc, I.cell, I.free, I.freeC, I.pin, I.hok, I.len⟩
theorem Inv.unwish (I : Inv (X.wish E) pins σ H s) : Inv X pins σ H s := ⟨I.ok.unwish, I.os, I.bare, I.base, I.loc, I.cell, I.free, I.freeC, I.pin, I.hok, I.len⟩
theorem SP.unwish {D : Ends} {f : Flow} {s' : Shared} (h : SP (X.wish E) pins D f s') : SP X pins D f s' := by
  cases f with
  | next => obtain ⟨σ', H', I, q⟩ := h; exact ⟨σ', H', I.unwish, q⟩
  | brk => obtain ⟨σ', H', I, q⟩ := h; exact ⟨σ', H', I.unwish, q⟩
  | cont => obtain ⟨σ', H', I, q⟩ := h; exact ⟨σ', H', I.unwish, q⟩
  | ret u => obtain ⟨v, σ', H', I, r, q⟩ := h; exact ⟨v, σ', H', I.unwish, r, q⟩
theorem PE.nox {e : Expr} {t : TE} (h : PE X.nox e t) : PE X e t := fun pins s σ H Q I hw =>
  wpAny_mono (h pins s σ H Q (I.wish _) hw) (fun _ _ ⟨v, H', I', r, q⟩ => ⟨v, H', I'.unwish, r, q⟩) fun _ _ z => False.elim z
theorem PT.nox {e : Expr} {t : TT} (h : PT X.nox e t) : PT X e t := fun pins s σ H Q I hw =>
  wpAny_mono (h pins s σ H Q (I.wish _) hw) (fun _ _ ⟨H', I', q⟩ => ⟨H', I'.unwish, q⟩) fun _ _ z => False.elim z
theorem PSs.nox {st : List Stmt} {t : TS} (h : PSs X.nox st t) : PSs X st t := fun pins s σ H D I hw =>
  wpAny_mono (h pins s σ H D (I.wish _) hw) (fun _ _ q => q.unwish) fun _ _ z => False.elim z
end

/-! ### blocks and small statements -/
section
variable {X : Cx} {st : Stmt} {rest : List Stmt} {t u : TS} {e : Expr} {te : TE} {pos : Pos}
def tNext : TS := fun D σ H => D.nx σ H
def tSeq (t u : TS) : TS := fun D σ H => t { D with nx := u D } σ H
theorem pss_nil : PSs X [] tNext := fun _ _ σ H _ I h => wpAny_execs_nil ⟨σ, H, I, h⟩
theorem pss_cons (h1 : PS X st t) (h2 : PSs X rest u) : PSs X (st :: rest) (tSeq t u) := by
  intro pins s σ H D I h
  refine wpAny_execs_cons (thn (h1 pins s σ H { D with nx := u D } I h) fun f s1 q => ?_)
  cases f with
  | next =>
    obtain ⟨σ', H', I', q⟩ := q
    exact h2 pins s1 σ' H' D I' q
  | ret v => exact q
  | brk => exact q
  | cont => exact q
theorem pss_one (h1 : PS X st t) : PSs X [st] t := by
  intro pins s σ H D I h
  refine wpAny_execs_cons (thn (h1 pins s σ H D I h) fun f s1 q => ?_)
  cases f with
  | next => exact wpAny_execs_nil q
  | ret v => exact q
  | brk => exact q
  | cont => exact q
def tBreak : TS := fun D σ H => D.bk σ H
def tCont : TS := fun D σ H => D.ct σ H
theorem ps_pass : PS X (.Pass pos) tNext := fun _ _ σ H _ I h => wpAny_Pass ⟨σ, H, I, h⟩
theorem ps_break : PS X (.Break pos) tBreak := fun _ _ σ H _ I h => wpAny_Break ⟨σ, H, I, h⟩
theorem ps_continue : PS X (.Continue pos) tCont := fun _ _ σ H _ I h => wpAny_Continue ⟨σ, H, I, h⟩
/-- in a def's body nothing is shown -/
theorem Inv.quiet {pins : List (Addr × Obj)} {σ : St} {H : Hp} {s : Shared} (I : Inv X pins σ H s) : interactive X.env = false := by simp [interactive, I.ok.kind]
/-- a docstring -/
theorem ps_doc {x j pos pos'} : PS X (.Expr (.Constant (.str x) j pos) pos') tNext := fun _ s σ H _ I h => wpAny_Expr (Calls.Constant_str (show SP X _ _ .next { s with toks := s.toks + 1 } from ⟨σ, H, I.tok _, h⟩)) I.quiet
/-- an expression whose value is dropped -/
def tDrop (te : TE) : TS := fun D σ H => te σ H fun _ H1 => D.nx σ H1
theorem ps_expr (he : PE X e te) (hs : swapsWith e none pos.line X.env = pure false := by rfl) : PS X (.Expr e pos) (tDrop te) := by
  intro pins s σ H D I h
  exact wpAny_Expr_any (thn (he pins s σ H _ I h) fun v s1 ⟨x, H1, I1, r1, q1⟩ => ⟨σ, H1, I1, q1⟩) I.quiet hs
def tRet (te : TE) : TS := fun D σ H => te σ H D.rt
theorem ps_ret (he : PE X e te) : PS X (.Return (some e) pos) (tRet te) := by
  intro pins s σ H D I h
  exact wpAny_Return_some (thn (he pins s σ H _ I h) fun v s1 ⟨x, H1, I1, r1, q1⟩ => ⟨x, σ, H1, I1, r1, q1⟩)
def tRetN : TS := fun D _ H => D.rt .non H
theorem ps_retN : PS X (.Return none pos) tRetN := fun _ _ σ H _ I h => wpAny_Return_none ⟨.non, σ, H, I, rfl, h⟩
def tIfS (c : TT) (t u : TS) : TS := fun D σ H => c σ H fun b H1 => if b = true then t D σ H1 else u D σ H1
theorem ps_if {c : Expr} {a b : List Stmt} {tc : TT} (hc : PT X c tc) (ha : PSs X a t) (hb : PSs X b u) : PS X (.If c a b pos) (tIfS tc t u) := by
  intro pins s σ H D I h
  refine wpAny_If (thn (hc pins s σ H _ I h) fun d s1 ⟨H1, I1, q1⟩ => ?_)
  cases d with
  | true => exact ha pins s1 σ H1 D I1 q1
  | false => exact hb pins s1 σ H1 D I1 q1
/-- code that the proof never comes to -/
def tNever : TS := fun _ _ _ => False
theorem ps_never : PS X st tNever := fun _ _ _ _ _ _ h => h.elim
theorem pss_never {sts : List Stmt} : PSs X sts tNever := fun _ _ _ _ _ _ h => h.elim
end

/-! ### targets -/
abbrev TG := V → St → Hp → (St → Hp → Prop) → Prop
abbrev TGs := List V → St → Hp → (St → Hp → Prop) → Prop
def PG (X : Cx) (target : Expr) (t : TG) : Prop :=
  ∀ (pins : List (Addr × Obj)) (s : Shared) (σ : St) (H : Hp) (v : V) (u : Value) (Q : St → Hp → Prop), Inv X pins σ H s → RelV v u → t v σ H Q →
    wpAny (model X.prog X.w) X.A (assign target X.env u) (fun _ s' => ∃ σ' H', Inv X pins σ' H' s' ∧ Q σ' H') X.xe s
/-- several targets, one after another -/
def PGs (X : Cx) (ts : List Expr) (t : TGs) : Prop :=
  ∀ (pins : List (Addr × Obj)) (s : Shared) (σ : St) (H : Hp) (vs : List V) (us : List Value) (Q : St → Hp → Prop), Inv X pins σ H s → Vals vs us → t vs σ H Q →
    wpAny (model X.prog X.w) X.A (assignInOrder ((assignEach ts X.env).map (·.2)) us) (fun _ s' => ∃ σ' H', Inv X pins σ' H' s' ∧ Q σ' H') X.xe s
/-- o[i] = v, by values -/
abbrev TSet := V → V → V → Hp → (Hp → Prop) → Prop
def PSet (X : Cx) (t : TSet) : Prop :=
  ∀ (pins : List (Addr × Obj)) (s : Shared) (σ : St) (H : Hp) (o i v : V) (ov iv u : Value) (Q : Hp → Prop), Inv X pins σ H s → RelV o ov → RelV i iv → RelV v u → t o i v H Q →
    wpAny (model X.prog X.w) X.A (setItem ov iv u) (fun _ s' => ∃ H', Inv X pins σ H' s' ∧ Q H') X.xe s
/-- a op= b, by values -/
abbrev TIp := V → V → Hp → VK → Prop
def PIp (X : Cx) (op : Operator) (t : TIp) : Prop :=
  ∀ (pins : List (Addr × Obj)) (s : Shared) (σ : St) (H : Hp) (x y : V) (v u : Value) (Q : VK), Inv X pins σ H s → RelV x v → RelV y u → t x y H Q →
    wpAny (model X.prog X.w) X.A (inplaceOp op v u) (EP X pins σ Q) X.xe s
section
variable {X : Cx} {pos : Pos}
def gName (i : Nat) : TG := fun v σ H Q => Q (σ.set i (some v)) H
theorem pg_name {i : Nat} {x : Str} (hN : X.N.Nodup) (hi : X.N[i]? = some x) (hx : Loc X.env.scope x) (hf : X.fn x = true ∨ X.env.scope.names.lookup x = some .local := by first | exact .inl rfl | exact .inr rfl | assumption) : PG X (.Name x pos) (gName i) := by
  intro pins s σ H v u Q I r h
  exact wpAny_assign_Name (store_ok I hN hi hx r (fun s' I' => ⟨_, H, I', h⟩) hf)
def gNil : TGs := fun vs σ H Q => vs = [] ∧ Q σ H
def gCons (t : TG) (u : TGs) : TGs := fun vs σ H Q => ∃ v r, vs = v :: r ∧ t v σ H fun σ' H' => u r σ' H' Q
theorem pgs_nil : PGs X [] gNil := by
  intro pins s σ H vs us Q I r h
  obtain ⟨e, h⟩ := h
  subst e
  cases r
  exact assignInOrder_nil ⟨σ, H, I, h⟩
theorem pgs_cons {e : Expr} {es : List Expr} {t : TG} {u : TGs} (h1 : PG X e t) (h2 : PGs X es u)
    (hs : (assignEach (e :: es) X.env).map (·.2) = assign e X.env :: (assignEach es X.env).map (·.2) := by rfl) : PGs X (e :: es) (gCons t u) := by
  intro pins s σ H vs us Q I r h
  obtain ⟨v, vr, e1, h⟩ := h
  subst e1
  cases r with
  | cons r rr =>
    rw [hs]
    refine assignInOrder_cons (thn (h1 pins s σ H _ _ _ I r h) fun _ s1 ⟨σ1, H1, I1, q1⟩ => ?_)
    exact h2 pins s1 σ1 H1 _ _ Q I1 rr q1
/-- (a, b, ..) = a tuple of that length -/
def gTup (K : PySem.W.Frag) (n : Nat) (t : TGs) : TG := fun v σ H Q => ∃ a xs, v = .ref a ∧ SqT K H a xs ∧ xs.length = n ∧ t xs σ H Q
theorem pg_tup {es : List Expr} {k : Nat} {t : TGs} {n : Nat} (hc : X.calm = true) (h : PGs X es t)
    (hn : (assignEach es X.env).length = n := by rfl) (hst : (assignEach es X.env).findIdx? (·.1) = none := by rfl) : PG X (.Tuple es k pos) (gTup X.K n t) := by
  intro pins s σ H v u Q I r hw
  obtain ⟨a, xs, e1, hq, hl, hw⟩ := hw
  subst e1
  cases r
  obtain ⟨its, rv, ht, hz⟩ := I.tuple hq
  refine assign_Tuple_tuple (I.ok.hd hc) ht (by simp [hn, ← hl, rv.length]) hst fun h' hx => ?_
  have I1 : Inv X pins σ H { s with heap := h' } := I.kept (t' := s.toks) fun b o e => hx b o (Nat.ne_of_lt (Heap.lt_size e)) e
  exact h pins _ σ H xs _ Q I1 (by simpa using rv) hw
/-- o[i] = .. -/
def gSub (to ti : TE) (t : TSet) : TG := fun v σ H Q => to σ H fun o H1 => ti σ H1 fun i H2 => t o i v H2 fun H3 => Q σ H3
theorem pg_sub {o i : Expr} {to ti : TE} {t : TSet} (ho : PE X o to) (hi : PE X i ti) (hs : PSet X t)
    (ha : ∀ v, assign (.Subscript o i pos) X.env v = (do
      let ov ← holding [v] (eval o X.env)
      let iv ← holding [v, ov] (eval i X.env)
      standAt pos
      holding [v, ov, iv] (setItem ov iv v)
      release [v, ov, iv] []) := by intro _; rfl) : PG X (.Subscript o i pos) (gSub to ti t) := by
  intro pins s σ H v u Q I r h
  rw [ha]
  refine wpAny_bind (wpAny_holding (thn (ho pins s σ H _ I h) fun ov s1 ⟨x, H1, I1, r1, q1⟩ => ?_))
  refine wpAny_bind (wpAny_holding (thn (hi pins s1 σ H1 _ I1 q1) fun iv s2 ⟨y, H2, I2, r2, q2⟩ => ?_))
  refine wpAny_bind (wpAny_standAt (wpAny_bind (wpAny_holding (thn (hs pins s2 σ H2 x y v ov iv u _ I2 r1 r2 r q2) fun _ s3 ⟨H3, I3, q3⟩ => ?_))))
  exact wpAny_release ⟨σ, H3, I3, q3⟩
/-- target = value -/
def tAsg (te : TE) (g : TG) : TS := fun D σ H => te σ H fun x H1 => g x σ H1 D.nx
theorem ps_asg {tg e : Expr} {te : TE} {g : TG} (he : PE X e te) (hg : PG X tg g) (hs : swapsWithSole [tg] e pos.line X.env = pure false := by rfl) (hw : swappedStores [tg] e X.env = pure none := by rfl)
    (h1 : (assignEach [tg] X.env).map (·.2) = [assign tg X.env] := by rfl) : PS X (.Assign [tg] e pos) (tAsg te g) := by
  intro pins s σ H D I h
  refine wpAny_Assign_stores (thn (he pins s σ H _ I h) fun v s1 ⟨x, H1, I1, r1, q1⟩ => ?_) hs hw
  rw [h1]
  exact thn (hg pins s1 σ H1 x v _ I1 r1 q1) fun _ s2 q => q
/-- name = value -/
theorem ps_set {i : Nat} {x : Str} {e : Expr} {te : TE} {pos' : Pos} (hN : X.N.Nodup) (hi : X.N[i]? = some x) (hx : Loc X.env.scope x) (he : PE X e te) (hs : swapsWith e (some (.Name x pos')) pos.line X.env = pure false := by rfl) (hf : X.fn x = true ∨ X.env.scope.names.lookup x = some .local := by first | exact .inl rfl | exact .inr rfl | assumption) :
    PS X (.Assign [.Name x pos'] e pos) (tAsg te (gName i)) := by
  intro pins s σ H D I h
  refine wpAny_Assign_Name (thn (he pins s σ H _ I h) fun v s1 ⟨y, H1, I1, r1, q1⟩ => ?_) hs
  exact store_ok I1 hN hi hx r1 (fun s2 I2 => ⟨_, H1, I2, q1⟩) hf
/-- a, b = x, y with plain local names: stored from the right; the pair itself is not tracked (the opening rows as in PyProof/Rows/TupAssign.lean:23) -/
def tPar (i j : Nat) (ta : TA) : TS := fun D σ H => ta σ H fun vs H1 => ∃ v w, vs = [v, w] ∧ D.nx ((σ.set i (some v)).set j (some w)) H1
theorem ps_par {i j : Nat} {x y : Str} {a b : Expr} {ta : TA} {px py pt : Pos} {kt k2 pt2} (hc : X.calm = true) (hN : X.N.Nodup) (hi : X.N[i]? = some x) (hj : X.N[j]? = some y) (hij : i ≠ j)
    (hx : X.env.scope.names.lookup x = some .local) (hy : X.env.scope.names.lookup y = some .local) (ha : PA X [a, b] ta)
    (hw : swappedStores [.Tuple [.Name x px, .Name y py] kt pt] (.Tuple [a, b] k2 pt2) X.env = pure (some [x, y]))
    (hs : swapsWithSole [.Tuple [.Name x px, .Name y py] kt pt] (.Tuple [a, b] k2 pt2) pos.line X.env = pure false := by rfl) :
    PS X (.Assign [.Tuple [.Name x px, .Name y py] kt pt] (.Tuple [a, b] k2 pt2) pos) (tPar i j ta) := by
  intro pins s σ H D I h
  rw [exec_Assign_arm]
  refine wpAny_bind (wpAny_standAt ?_)
  rw [hs]
  refine wpAny_bind (wpAny_pure ?_)
  rw [if_neg (by decide)]
  refine wpAny_bind (Tuple_ (thn (ha _ pins s σ H _ I h) fun us s1 ⟨vs, H1, I1, r1, q1⟩ => ?_))
  obtain ⟨v, w, e1, q1⟩ := q1
  subst e1
  obtain ⟨u1, u2, rfl, rv, rw'⟩ : ∃ u1 u2, us = [u1, u2] ∧ RelV v u1 ∧ RelV w u2 := by
    cases r1 with
    | cons p q =>
      cases q with
      | cons p' q' =>
        cases q'
        exact ⟨_, _, rfl, p, p'⟩
  refine wpAny_newObj_type ?_ (by show 2 ≤ sizeLine; decide)
  have I2 : Inv X pins σ H1 { s1 with heap := s1.heap.push { cls := .type "tuple", data := .seq [u1, u2].toArray } } := I1.kept (t' := s1.toks) fun b o e => Heap.get?_push_of_some _ e
  rw [hw]
  refine wpAny_bind (wpAny_pure ?_)
  show wpAny (model X.prog X.w) X.A (do rule "assign.swapped-stores"; let items ← unpackItems (.ref s1.heap.objs.size) 2 none; assignInOrder [fun v => bindName X.env y v, fun v => bindName X.env x v] items.reverse; pure Flow.next) _ _ _
  refine wpAny_bind (wpAny_rule (wpAny_bind (unpackItems_tuple (items := #[u1, u2]) (I.ok.hd hc) (IsTup.new s1.heap _) fun h' hx' => ?_)))
  have I3 := I2.kept (h' := h') (t' := s1.toks) fun b o e => hx' b o (Nat.ne_of_lt (Heap.lt_size e)) e
  show wpAny _ _ (assignInOrder [fun v => bindName X.env y v, fun v => bindName X.env x v] [u2, u1] >>= fun _ => pure Flow.next) _ _ _
  refine wpAny_bind (assignInOrder_cons (wpAny_bindName (store_ok I3 hN hj (.inl hy) rw' (fun s2 I4 => ?_) (.inr hy))))
  refine assignInOrder_cons (wpAny_bindName (store_ok I4 hN hi (.inl hx) rv (fun s3 I5 => assignInOrder_nil (wpAny_pure ?_)) (.inr hx)))
  rw [List.set_comm _ _ (Ne.symm hij)] at I5
  exact ⟨_, H1, I5, q1⟩
/-- name op= e -/
def tAug (i : Nat) (te : TE) (ti : TIp) : TS := fun D σ H => ∃ x, σ[i]? = some (some x) ∧ te σ H fun y H1 => ti x y H1 fun z H2 => D.nx (σ.set i (some z)) H2
theorem ps_aug {i : Nat} {x : Str} {e : Expr} {te : TE} {op : Operator} {ti : TIp} {pos' : Pos} (hN : X.N.Nodup) (hi : X.N[i]? = some x) (hx : Loc X.env.scope x) (he : PE X e te) (ho : PIp X op ti) (hf : X.fn x = true ∨ X.env.scope.names.lookup x = some .local := by first | exact .inl rfl | exact .inr rfl | assumption) :
    PS X (.AugAssign (.Name x pos') op e pos) (tAug i te ti) := by
  intro pins s σ H D I h
  obtain ⟨v, e1, h⟩ := h
  obtain ⟨m, hn, hl⟩ := I.loc
  have vis : Vis X.env.scope x := by rcases hx with k | k; exact .inl k; exact .inr (.inl k)
  obtain ⟨u, r, l⟩ := hl i x v hi e1 vis
  refine wpAny_AugAssign_Name ?_
  have go : wpAny (model X.prog X.w) X.A (eval e X.env) (fun w s₂ => wpAny (model X.prog X.w) X.A (inplaceOp op u w) (fun r s₃ => wpAny (model X.prog X.w) X.A (storeName X.env x r) (fun _ => SP X pins D .next) X.xe s₃) X.xe s₂) X.xe s := by
    refine thn (he pins s σ H _ I h) fun w s1 ⟨y, H1, I1, r1, q1⟩ => ?_
    refine thn (ho pins s1 σ H1 v y u w _ I1 r r1 q1) fun z s2 ⟨zv, H2, I2, r2, q2⟩ => ?_
    exact store_ok I2 hN hi hx r2 (fun s3 I3 => ⟨_, H2, I3, q2⟩) hf
  rcases l with ⟨hk, hm⟩ | ⟨hk, c, hc, hcell⟩
  · exact wpAny_loadName_local I.ok.kind hk hn hm go
  · rcases hk with hk | hk
    · exact wpAny_loadName_cell I.ok.kind hk hc hcell go
    · rcases hx with k | k
      · have : X.env.scope.names.lookup x = some .free := hk
        rw [k] at this; cases this
      · have : X.env.scope.names.lookup x = some .free := hk
        rw [k] at this; cases this
/-- o[i] op= e -/
def tAugS (to ti te : TE) (tget : V → V → Hp → VK → Prop) (tip : TIp) (tset : TSet) : TS := fun D σ H => to σ H fun o H1 => ti σ H1 fun i H2 => tget o i H2 fun x H3 => te σ H3 fun y H4 => tip x y H4 fun z H5 => tset o i z H5 fun H6 => D.nx σ H6
/-- o[i], by values -/
def PGet (X : Cx) (t : V → V → Hp → VK → Prop) : Prop :=
  ∀ (pins : List (Addr × Obj)) (s : Shared) (σ : St) (H : Hp) (o i : V) (ov iv : Value) (Q : VK), Inv X pins σ H s → RelV o ov → RelV i iv → t o i H Q →
    wpAny (model X.prog X.w) X.A (getItem ov iv) (EP X pins σ Q) X.xe s
theorem ps_augS {o i e : Expr} {to ti te : TE} {tget : V → V → Hp → VK → Prop} {tip : TIp} {tset : TSet} {op : Operator} {tpos : Pos} (ho : PE X o to) (hi : PE X i ti) (hg : PGet X tget) (he : PE X e te) (hp : PIp X op tip) (hs : PSet X tset)
    (ha : ∀ ov iv new, augStore i ov iv new = (do holding [new, ov, iv] (setItem ov iv new); release [new, ov, iv] []; pure .next) := by intros; rfl) : PS X (.AugAssign (.Subscript o i tpos) op e pos) (tAugS to ti te tget tip tset) := by
  intro pins s σ H D I h
  refine wpAny_AugAssign_SubscriptAny (thn (ho pins s σ H _ I h) fun ov s1 ⟨x1, H1, I1, r1, q1⟩ => ?_) ha
  refine thn (hi pins s1 σ H1 _ I1 q1) fun iv s2 ⟨x2, H2, I2, r2, q2⟩ => ?_
  refine thn (hg pins s2 σ H2 x1 x2 ov iv _ I2 r1 r2 q2) fun old s3 ⟨x3, H3, I3, r3, q3⟩ => ?_
  refine thn (he pins s3 σ H3 _ I3 q3) fun v s4 ⟨x4, H4, I4, r4, q4⟩ => ?_
  refine thn (hp pins s4 σ H4 x3 x4 old v _ I4 r3 r4 q4) fun new s5 ⟨x5, H5, I5, r5, q5⟩ => ?_
  exact thn (hs pins s5 σ H5 x1 x2 x5 ov iv new _ I5 r1 r2 r5 q5) fun _ s6 ⟨H6, I6, q6⟩ => ⟨σ, H6, I6, q6⟩
/-- ints -/
def ipI (f : Int → Int → Int) : TIp := fun x y H Q => ∃ i j, x = .int i ∧ y = .int j ∧ Q (.int (f i j)) H
theorem ip_add : PIp X .Add (ipI fun i j => i + j) := by
  intro pins s σ H x y v u Q I r1 r2 h
  obtain ⟨i, j, e1, e2, q⟩ := h
  subst e1; subst e2
  obtain ⟨t, rfl⟩ := r1
  obtain ⟨t', rfl⟩ := r2
  exact iadd_int ⟨.int _, H, I.tok _, ⟨_, rfl⟩, q⟩
theorem ip_sub : PIp X .Sub (ipI fun i j => i - j) := by
  intro pins s σ H x y v u Q I r1 r2 h
  obtain ⟨i, j, e1, e2, q⟩ := h
  subst e1; subst e2
  obtain ⟨t, rfl⟩ := r1
  obtain ⟨t', rfl⟩ := r2
  exact isub_int ⟨.int _, H, I.tok _, ⟨_, rfl⟩, q⟩
end

/-! ### while -/
section
variable {X : Cx} {pos : Pos}
/-- the invariant W with its measure -/
def tWhile (c : TT) (tb : TS) : TS := fun D σ H => ∃ W : Nat → St → Hp → Prop, (∃ m, W m σ H) ∧ ∀ m σ H, W m σ H →
  c σ H fun b H1 => if b = true then ∃ N : St → Hp → Prop, (∀ σ' H', N σ' H' → ∃ m', m' < m ∧ W m' σ' H') ∧ tb { D with nx := N, ct := N, bk := D.nx } σ H1 else D.nx σ H1
theorem ps_while {c : Expr} {body : List Stmt} {tc : TT} {tb : TS} (hp : PassesOwn (model X.prog X.w) X.A X.env X.xe) (hc : PT X c tc) (hb : PSs X body tb) : PS X (.While c body [] pos) (tWhile tc tb) := by
  intro pins s σ H D I h
  obtain ⟨W, ⟨m0, w0⟩, turn⟩ := h
  refine wpAny_While (codeAny_whileLoop (fun n s' => ∃ σ' H', Inv X pins σ' H' s' ∧ W n σ' H') ?_ m0 ⟨σ, H, I, w0⟩)
  rintro n s1 ⟨σ1, H1, I1, w1⟩
  refine wpAny_passesOwn hp (thn (hc pins s1 σ1 H1 _ I1 (turn n σ1 H1 w1)) fun b s2 ⟨H2, I2, q2⟩ => ?_)
  cases b with
  | true =>
    obtain ⟨N, hN, q2⟩ := q2
    rw [if_pos rfl]
    refine wpAny_passesOwn hp (thn (hb pins s2 σ1 H2 _ I2 q2) fun f s3 q3 => ?_)
    cases f with
    | next =>
      obtain ⟨σ3, H3, I3, n3⟩ := q3
      obtain ⟨m', hm, w3⟩ := hN σ3 H3 n3
      exact ⟨m', hm, σ3, H3, I3, w3⟩
    | cont =>
      obtain ⟨σ3, H3, I3, n3⟩ := q3
      obtain ⟨m', hm, w3⟩ := hN σ3 H3 n3
      exact ⟨m', hm, σ3, H3, I3, w3⟩
    | brk => exact q3
    | ret v => exact q3
  | false =>
    rw [if_neg Bool.false_ne_true]
    exact wpAny_execs_nil ⟨σ1, H2, I2, q2⟩
end

/-! ### what a loop or a comprehension walks -/
/-- at turn i: it yields x (the heap may grow), or it stops -/
structure It where
  go : Nat → Hp → Prop
  yld : Nat → Hp → V → Hp → Prop
  stop : Nat → Hp → Prop
/-- the iterator's own objects may turn: they are not the frame's, not pinned, younger than the entry (or a comprehension's own) -/
def FpOk (X : Cx) (pins : List (Addr × Obj)) (H : Hp) (b : Addr) : Prop :=
  H b = none ∧ b ≠ X.env.locals ∧ b ∉ X.fs ∧ (b ∈ X.ex ∨ X.s₀.heap.objs.size ≤ b) ∧ (∀ x c, X.env.cells.lookup x = some c → c ≠ b) ∧ ∀ p ∈ X.pn ++ pins, p.1 ≠ b
theorem Inv.fpOk {X : Cx} {pins : List (Addr × Obj)} {σ : St} {H H' : Hp} {s : Shared} {b : Addr} (I : Inv X pins σ H s) (hb : s.heap.objs.size ≤ b) (hn : H' b = none) : FpOk X pins H' b := by
  refine ⟨hn, Nat.ne_of_gt (Nat.lt_of_lt_of_le I.lt hb), I.nofs hb, .inr (Nat.le_trans I.sz hb), fun x c e z => ?_, fun p hp z => ?_⟩
  · obtain ⟨v, q⟩ := I.cell x c e
    exact absurd (Nat.lt_of_lt_of_le q.lt (by rw [z]; exact hb)) (Nat.lt_irrefl _)
  · exact absurd (Nat.lt_of_lt_of_le (Heap.lt_size (I.pin p hp).1) (by rw [z]; exact hb)) (Nat.lt_irrefl _)
structure Turn (P : Program) (w : World) (K : PySem.W.Frag) (tg : Expr) (J : It) (fp : List Addr) (it : Addr) (tn : Nat → Heap → Prop) : Prop where
  mem : it ∈ fp
  obj : ∀ i h, tn i h → ∀ b ∈ fp, ∃ o, h.get? b = some o ∧ ∀ v, o.data ≠ .cell v
  keep : ∀ i h h', tn i h → (∀ b ∈ fp, ∀ o, h.get? b = some o → h'.get? b = some o) → tn i h'
  item : ∀ (X : Cx), X.prog = P → X.w = w → X.K = K → X.calm = true → ∀ (i : Nat) (pins : List (Addr × Obj)) (s : Shared) (σ : St) (H : Hp) (E : Value → Shared → Prop), Inv X pins σ H s → (∀ b ∈ fp, FpOk X pins H b) → tn i s.heap → J.go i H →
    wpAny (model P w) X.A (pyNext (.ref it)) (fun r s1 => ∃ u, r = some u ∧
      wpAny (model P w) X.A (letOwnedTupleGo tg (.ref it) u) (fun _ s2 => ∃ x H', Inv X pins σ H' s2 ∧ RelV x u ∧ J.yld i H x H' ∧ tn (i + 1) s2.heap ∧ ∀ b ∈ fp, H' b = none) E s1) E s
  done : ∀ (X : Cx), X.prog = P → X.w = w → X.K = K → X.calm = true → ∀ (i : Nat) (pins : List (Addr × Obj)) (s : Shared) (σ : St) (H : Hp) (E : Value → Shared → Prop), Inv X pins σ H s → (∀ b ∈ fp, FpOk X pins H b) → tn i s.heap → J.stop i H →
    wpAny (model P w) X.A (pyNext (.ref it)) (fun r s1 => r = none ∧ Inv X pins σ H s1) E s
  self : ∀ (A : Around) (i : Nat) (s : Shared) (Q : Value → Shared → Prop) (E : Value → Shared → Prop), tn i s.heap → Q (.ref it) s → wpAny (model P w) A (pyIter (.ref it)) Q E s
abbrev TI := St → Hp → (It → Hp → Prop) → Prop
/-- an iterator has come -/
def PIE (X : Cx) (pins : List (Addr × Obj)) (σ : St) (tg : Expr) (R : It → Hp → Prop) (itv : Value) (s2 : Shared) : Prop :=
  ∃ (it : Addr) (fp : List Addr) (tn : Nat → Heap → Prop) (J : It) (H' : Hp), itv = .ref it ∧ Inv X pins σ H' s2 ∧ Turn X.prog X.w X.K tg J fp it tn ∧ tn 0 s2.heap ∧ (∀ b ∈ fp, FpOk X pins H' b) ∧ R J H'
def PI (X : Cx) (tg iter : Expr) (wi : TI) : Prop :=
  ∀ (pins : List (Addr × Obj)) (s : Shared) (σ : St) (H : Hp) (R : It → Hp → Prop), Inv X pins σ H s → wi σ H R →
    wpAny (model X.prog X.w) X.A (eval iter X.env) (fun v s1 => wpAny (model X.prog X.w) X.A (pyIter v) (PIE X pins σ tg R) X.xe s1) X.xe s

/-- the step ahead of the store is nothing for an iterator that keeps no tuple -/
theorem go_of {M : Model} {A : Around} {E : Value → Shared → Prop} {s : Shared} {tg : Expr} {it : Addr} {u : Value} {o : Obj} {n : String} {vs : Array Value} {Q : Unit → Shared → Prop} (ho : s.heap.get? it = some o) (hc : o.cls = .type n) (hd : o.data = .fields vs)
    (hn : ["enumerate", "zip", "dict_itemiterator", "dict_reverseitemiterator", "odict_iterator", "itertools.zip_longest", "itertools.pairwise"].contains n = false) (hQ : Q () s) : wpAny M A (letOwnedTupleGo tg (.ref it) u) Q E s := by
  unfold letOwnedTupleGo
  cases tg <;> first
    | exact wpAny_pure hQ
    | (cases u <;> first
        | exact wpAny_pure hQ
        | (refine wpAny_bind (wpAny_load ho ?_)
           rw [hc, hd]
           show wpAny M A (if (["enumerate", "zip", "dict_itemiterator", "dict_reverseitemiterator", "odict_iterator", "itertools.zip_longest", "itertools.pairwise"].contains n && vs[0]? == some (rawInt _)) = true then _ else _) Q E s
           rw [if_neg (by intro h; rw [hn, Bool.false_and] at h; cases h)]
           exact wpAny_pure hQ))

/-- the list at a, as it stands at each turn (a loop may append to it) -/
def Itl (K : PySem.W.Frag) (a : Addr) : It :=
  ⟨fun i H => ∃ xs x, SqL K H a xs ∧ xs[i]? = some x, fun i H x H' => H' = H ∧ ∀ xs, SqL K H a xs → xs[i]? = some x, fun i H => ∃ xs, SqL K H a xs ∧ xs.length ≤ i⟩
def Itt (K : PySem.W.Frag) (a : Addr) : It :=
  ⟨fun i H => ∃ xs x, SqT K H a xs ∧ xs[i]? = some x, fun i H x H' => H' = H ∧ ∀ xs, SqT K H a xs → xs[i]? = some x, fun i H => ∃ xs, SqT K H a xs ∧ xs.length ≤ i⟩
/-- lo, lo + 1, .. (n of them) -/
def Itr (lo : Int) (n : Nat) : It := ⟨fun i _ => i < n, fun i H x H' => H' = H ∧ x = .int (lo + i), fun i _ => n ≤ i⟩
theorem turn_list {P : Program} {w : World} {K : PySem.W.Frag} {tg : Expr} (a it : Addr) : Turn P w K tg (Itl K a) [it] it (fun i h => h.IsListIter it a i) where
  mem := by simp
  obj := fun i h st b hb => by
    have e : b = it := by simpa using hb
    subst e
    obtain ⟨o, e, c, d⟩ := st
    exact ⟨o, e, fun v z => by rw [d] at z; cases z⟩
  keep := fun i h h' st k => st.at fun o e => k it (by simp) o e
  item := by
    intro X hP hw hK hc i pins s σ H E I hf st hg
    subst hP hw hK
    obtain ⟨xs, x, hq, hx⟩ := hg
    obtain ⟨its, rv, p, hz⟩ := I.list hq
    obtain ⟨u, hu, ru⟩ := rv.get hx
    obtain ⟨f0, f1, f2, f3, f4, f5⟩ := hf it (by simp)
    refine wpAny_pyNext_list_item st p.isList (x := u) (by simpa using hu) fun h' st' sb => ?_
    have I1 : Inv X pins σ H { s with heap := h' } := I.turned (t' := s.toks) (fun b o hb e => (sb.2 b hb).trans e) f0 f1 f3 f4 f5
    obtain ⟨o, e, c, d⟩ := id st'
    exact ⟨u, rfl, go_of (s := { s with heap := h' }) e c d (by decide) ⟨x, H, I1, ru, ⟨rfl, fun ys hy => by rw [I.list_inj hy hq]; exact hx⟩, st', fun b hb => (hf b hb).1⟩⟩
  done := by
    intro X hP hw hK hc i pins s σ H E I hf st hg
    subst hP hw hK
    obtain ⟨xs, hq, hx⟩ := hg
    obtain ⟨its, rv, p, hz⟩ := I.list hq
    obtain ⟨f0, f1, f2, f3, f4, f5⟩ := hf it (by simp)
    have hl := rv.length
    exact wpAny_pyNext_list_end (I.ok.hd hc) st p.isList (by simp; omega) fun h' eb => ⟨rfl, I.turned (t' := s.toks) (fun b o hb e => eb b o hb e) f0 f1 f3 f4 f5⟩
  self := fun _ _ _ _ _ st h => wpAny_pyIter_listiter st h
theorem turn_tuple {P : Program} {w : World} {K : PySem.W.Frag} {tg : Expr} (a it : Addr) : Turn P w K tg (Itt K a) [it] it (fun i h => h.IsTupleIter it a i) where
  mem := by simp
  obj := fun i h st b hb => by
    have e : b = it := by simpa using hb
    subst e
    obtain ⟨o, e, c, d⟩ := st
    exact ⟨o, e, fun v z => by rw [d] at z; cases z⟩
  keep := fun i h h' st k => st.at fun o e => k it (by simp) o e
  item := by
    intro X hP hw hK hc i pins s σ H E I hf st hg
    subst hP hw hK
    obtain ⟨xs, x, hq, hx⟩ := hg
    obtain ⟨its, rv, p, hz⟩ := I.tuple hq
    obtain ⟨u, hu, ru⟩ := rv.get hx
    obtain ⟨f0, f1, f2, f3, f4, f5⟩ := hf it (by simp)
    refine wpAny_pyNext_tuple_item st (show s.heap.IsTuple a its.toArray from p) (x := u) (by simpa using hu) fun h' st' sb => ?_
    have I1 : Inv X pins σ H { s with heap := h' } := I.turned (t' := s.toks) (fun b o hb e => (sb.2 b hb).trans e) f0 f1 f3 f4 f5
    obtain ⟨o, e, c, d⟩ := id st'
    exact ⟨u, rfl, go_of (s := { s with heap := h' }) e c d (by decide) ⟨x, H, I1, ru, ⟨rfl, fun ys hy => by rw [I.tuple_inj hy hq]; exact hx⟩, st', fun b hb => (hf b hb).1⟩⟩
  done := by
    intro X hP hw hK hc i pins s σ H E I hf st hg
    subst hP hw hK
    obtain ⟨xs, hq, hx⟩ := hg
    obtain ⟨its, rv, p, hz⟩ := I.tuple hq
    obtain ⟨f0, f1, f2, f3, f4, f5⟩ := hf it (by simp)
    have hl := rv.length
    exact wpAny_pyNext_tuple_end (I.ok.hd hc) st (show s.heap.IsTuple a its.toArray from p) (by simp; omega) fun h' eb => ⟨rfl, I.turned (t' := s.toks) (fun b o hb e => eb b o hb e) f0 f1 f3 f4 f5⟩
  self := fun _ _ _ _ _ st h => wpAny_pyIter_tupleiter st h
theorem turn_range {P : Program} {w : World} {K : PySem.W.Frag} {tg : Expr} (it : Addr) (lo : Int) (n : Nat) : Turn P w K tg (Itr lo n) [it] it (fun i h => IsRangeIter h it (lo + (i : Nat) * 1) ((n : Int) - (i : Nat)) 1) where
  mem := by simp
  obj := fun i h st b hb => by
    have e : b = it := by simpa using hb
    subst e
    exact ⟨_, st, fun v z => by
      have z' : Data.fields _ = Data.cell v := z
      cases z'⟩
  keep := fun i h h' st k => k it (by simp) _ st
  item := by
    intro X hP hw hK hc i pins s σ H E I hf st hg
    subst hP hw hK
    obtain ⟨f0, f1, f2, f3, f4, f5⟩ := hf it (by simp)
    have W := Walks.range (prog := X.prog) (w := X.w) (I.ok.hd hc) it lo 1 n
    refine W.item i s _ _ hg st fun v h' tk hv st' kk => ?_
    obtain ⟨t, rfl⟩ := hv
    have I1 : Inv X pins σ H { s with heap := h', toks := tk } := I.turned (fun b o hb e => kk b o (by simpa using hb) e) f0 f1 f3 f4 f5
    refine ⟨_, rfl, go_of (s := { s with heap := h', toks := tk }) (n := "range_iterator") st' rfl rfl (by decide) ⟨.int (lo + i), H, I1, ⟨t, ?_⟩, ⟨rfl, rfl⟩, st', fun b hb => (hf b hb).1⟩⟩
    rw [Int.mul_one]
  done := by
    intro X hP hw hK hc i pins s σ H E I hf st hg
    subst hP hw hK
    obtain ⟨f0, f1, f2, f3, f4, f5⟩ := hf it (by simp)
    exact wpAny_pyNext_range_end (I.ok.hd hc) st (by have : n ≤ i := hg; omega) fun h' eb => ⟨rfl, I.turned (t' := s.toks) (fun b o hb e => eb b o hb e) f0 f1 f3 f4 f5⟩
  self := fun _ _ _ _ _ st h => wpAny_pyIter_rangeiter st h
end L2

namespace L2
open PySem PySem.Spec PyProof.Rows
section
variable {X : Cx} {tg : Expr}
def iList (K : PySem.W.Frag) (tl : TE) : TI := fun σ H R => tl σ H fun x H1 => ∃ a, x = .ref a ∧ (∃ xs, SqL K H1 a xs) ∧ R (Itl K a) H1
def iTup (K : PySem.W.Frag) (tl : TE) : TI := fun σ H R => tl σ H fun x H1 => ∃ a, x = .ref a ∧ (∃ xs, SqT K H1 a xs) ∧ R (Itt K a) H1
theorem pi_list {l : Expr} {tl : TE} (hl : PE X l tl) : PI X tg l (iList X.K tl) := by
  intro pins s σ H R I h
  refine thn (hl pins s σ H _ I h) fun v s1 ⟨x, H1, I1, r1, q1⟩ => ?_
  obtain ⟨a, e, ⟨xs, hq⟩, q⟩ := q1
  subst e
  cases r1
  obtain ⟨its, rv, p, hz⟩ := I1.list hq
  refine wpAny_pyIter_list p.isList ?_
  refine ⟨s1.heap.objs.size, [s1.heap.objs.size], _, _, H1, rfl, I1.kept (t' := s1.toks) fun b o e => Heap.get?_push_of_some _ e, turn_list a _, ⟨_, Heap.get?_push_size _ rfl, rfl, rfl⟩, fun b hb => ?_, q⟩
  have e : b = s1.heap.objs.size := by simpa using hb
  subst e
  exact I1.fpOk (Nat.le_refl _) (I1.hok.fresh (Nat.le_refl _))
theorem pi_tup {l : Expr} {tl : TE} (hl : PE X l tl) : PI X tg l (iTup X.K tl) := by
  intro pins s σ H R I h
  refine thn (hl pins s σ H _ I h) fun v s1 ⟨x, H1, I1, r1, q1⟩ => ?_
  obtain ⟨a, e, ⟨xs, hq⟩, q⟩ := q1
  subst e
  cases r1
  obtain ⟨its, rv, p, hz⟩ := I1.tuple hq
  refine wpAny_pyIter_tuple (show s1.heap.IsTuple a its.toArray from p) ?_
  refine ⟨s1.heap.objs.size, [s1.heap.objs.size], _, _, H1, rfl, I1.kept (t' := s1.toks) fun b o e => Heap.get?_push_of_some _ e, turn_tuple a _, ⟨_, Heap.get?_push_size _ rfl, rfl, rfl⟩, fun b hb => ?_, q⟩
  have e : b = s1.heap.objs.size := by simpa using hb
  subst e
  exact I1.fpOk (Nat.le_refl _) (I1.hok.fresh (Nat.le_refl _))
/-- a range object just made, walked -/
theorem range_it {pins : List (Addr × Obj)} {σ : St} {H : Hp} {s : Shared} {R : It → Hp → Prop} {E : Value → Shared → Prop} {lo hi : Int} {t u v : Tok} {tk : Nat} (I : Inv X pins σ H s) (h1 : -(2 ^ 62) ≤ lo) (h2 : lo < 2 ^ 62) (h3 : -(2 ^ 62) ≤ hi) (h4 : hi < 2 ^ 62)
    (q : R (Itr lo (hi - lo).toNat) H) : wpAny (model X.prog X.w) X.A (pyIter (.ref s.heap.objs.size)) (PIE X pins σ tg R) E { s with heap := s.heap.push { cls := .type "range", data := .fields #[.int lo t, .int hi u, .int 1 v] }, toks := tk } := by
  refine wpAny_pyIter_range (IsRange.new ..) (small_one h1 h2 h3 h4) ?_
  have I1 : Inv X pins σ H { s with heap := s.heap.push { cls := .type "range", data := .fields #[.int lo t, .int hi u, .int 1 v] }, toks := tk } := I.kept fun b o e => Heap.get?_push_of_some _ e
  refine ⟨(s.heap.push { cls := .type "range", data := .fields #[.int lo t, .int hi u, .int 1 v] }).objs.size, [(s.heap.push { cls := .type "range", data := .fields #[.int lo t, .int hi u, .int 1 v] }).objs.size], _, _, H, rfl,
    I1.kept (t' := tk) fun b o e => Heap.get?_push_of_some _ e, turn_range _ lo (hi - lo).toNat, ?_, fun b hb => ?_, q⟩
  · have e1 : lo + ((0 : Nat) : Int) * 1 = lo := by simp
    have e2 : (((hi - lo).toNat : Nat) : Int) - ((0 : Nat) : Int) = Builtin.Range.rangeSize lo hi 1 := by rw [rangeSize_one]; split <;> omega
    show IsRangeIter _ _ (lo + ((0 : Nat) : Int) * 1) ((((hi - lo).toNat : Nat) : Int) - ((0 : Nat) : Int)) 1
    rw [e1, e2]
    exact Heap.get?_push_size _ rfl
  · have e : b = (s.heap.push { cls := .type "range", data := .fields #[.int lo t, .int hi u, .int 1 v] }).objs.size := by simpa using hb
    subst e
    exact I1.fpOk (Nat.le_refl _) (I1.hok.fresh (Nat.le_refl _))
def iRng1 (ta : TA) : TI := fun σ H R => ta σ H fun vs H1 => ∃ j : Int, vs = [.int j] ∧ -(2 ^ 62) ≤ j ∧ j < 2 ^ 62 ∧ R (Itr 0 j.toNat) H1
def iRng2 (ta : TA) : TI := fun σ H R => ta σ H fun vs H1 => ∃ i j : Int, vs = [.int i, .int j] ∧ (-(2 ^ 62) ≤ i ∧ i < 2 ^ 62 ∧ -(2 ^ 62) ≤ j ∧ j < 2 ^ 62) ∧ R (Itr i (j - i).toNat) H1
theorem pi_range1 {a : Expr} {ta : TA} {p pos : Pos} (hg : Gl X "range") (hm : X.mg "range" = none) (ha : PA X [a] ta) (hs : starEach [a] X.env = [(false, eval a X.env)] := by rfl) : PI X tg (.Call (.Name "range" p) [a] [] pos) (iRng1 ta) := by
  intro pins s σ H R I h
  refine Call_ (ld_blt I hg hm boot_range (PyProof.Rows.callWith_type1 (thn (ha pos pins s σ H _ I h) fun us s1 ⟨vs, H1, I1, r1, q1⟩ => ?_) hs rfl))
  obtain ⟨j, e, q1, q2, q⟩ := q1
  subst e
  cases r1 with
  | cons r rr =>
    cases rr
    obtain ⟨t, rfl⟩ := r
    exact call_range_1 (range_it I1 (by omega) (by omega) q1 q2 (by simpa using q))
theorem pi_range2 {a b : Expr} {ta : TA} {p pos : Pos} (hg : Gl X "range") (hm : X.mg "range" = none) (ha : PA X [a, b] ta) (hs : starEach [a, b] X.env = [(false, eval a X.env), (false, eval b X.env)] := by rfl) (hs2 : starEach [b] X.env = [(false, eval b X.env)] := by rfl) :
    PI X tg (.Call (.Name "range" p) [a, b] [] pos) (iRng2 ta) := by
  intro pins s σ H R I h
  refine Call_ (ld_blt I hg hm boot_range (PyProof.Rows.callWith_type1 (thn (ha pos pins s σ H _ I h) fun us s1 ⟨vs, H1, I1, r1, q1⟩ => ?_) (by rw [hs, hs2]) (by rw [hs2]; rfl)))
  obtain ⟨i, j, e, ⟨q1, q2, q3, q4⟩, q⟩ := q1
  subst e
  cases r1 with
  | cons r rr =>
    cases rr with
    | cons r' rr =>
      cases rr
      obtain ⟨t, rfl⟩ := r
      obtain ⟨t', rfl⟩ := r'
      exact call_range_2 (range_it I1 q1 q2 q3 q4 q)

/-! ### for -/
/-- W: the invariant by the turn and a measure; N: what the body is to reach -/
def tFor (wi : TI) (g : TG) (tb : TS) : TS := fun D σ H => wi σ H fun J H1 => ∃ W : Nat → Nat → St → Hp → Prop, (∃ m, W 0 m σ H1) ∧ ∀ i m σ H, W i m σ H →
  (J.stop i H ∧ D.nx σ H) ∨ (J.go i H ∧ ∃ N : St → Hp → Prop, (∀ σ' H', N σ' H' → ∃ m', m' < m ∧ W (i + 1) m' σ' H') ∧ ∀ x H', J.yld i H x H' → g x σ H' fun σ2 H2 => tb { D with nx := N, ct := N, bk := D.nx } σ2 H2)
/-- the records at fp as they stand -/
def pinsAt (fp : List Addr) (h : Heap) : List (Addr × Obj) := fp.filterMap fun b => (h.get? b).map fun o => (b, o)
theorem mem_pinsAt {fp : List Addr} {h : Heap} {b : Addr} {o : Obj} (hb : b ∈ fp) (e : h.get? b = some o) : (b, o) ∈ pinsAt fp h := List.mem_filterMap.mpr ⟨b, hb, by rw [e]; rfl⟩
theorem of_pinsAt {fp : List Addr} {h : Heap} {p : Addr × Obj} (hp : p ∈ pinsAt fp h) : p.1 ∈ fp ∧ h.get? p.1 = some p.2 := by
  obtain ⟨b, hb, e⟩ := List.mem_filterMap.mp hp
  cases q : h.get? b with
  | none => rw [q] at e; cases e
  | some o =>
    rw [q] at e
    have e' : (b, o) = p := Option.some.inj e
    subst e'
    exact ⟨hb, q⟩
theorem Inv.pinned {pins : List (Addr × Obj)} {σ : St} {H : Hp} {s : Shared} {fp : List Addr} (I : Inv X pins σ H s) (hf : ∀ b ∈ fp, FpOk X pins H b) (ho : ∀ b ∈ fp, ∃ o, s.heap.get? b = some o ∧ ∀ v, o.data ≠ .cell v) : Inv X (pins ++ pinsAt fp s.heap) σ H s :=
  I.pins_of fun p hp => (List.mem_append.mp hp).elim (fun z => I.pin p (List.mem_append_right _ z)) fun z => by
    obtain ⟨hb, e⟩ := of_pinsAt z
    obtain ⟨f0, f1, f2, _⟩ := hf p.1 hb
    obtain ⟨o, e', d⟩ := ho p.1 hb
    rw [e] at e'; cases e'
    exact ⟨e, f0, f1, f2, d⟩
theorem Inv.unpinned {pins pl : List (Addr × Obj)} {σ : St} {H : Hp} {s : Shared} (I : Inv X (pins ++ pl) σ H s) : Inv X pins σ H s := I.pins_of fun p hp => I.pin p (List.mem_append_right _ (List.mem_append_left _ hp))
theorem ps_for {iter : Expr} {body : List Stmt} {wi : TI} {g : TG} {tb : TS} {pos : Pos} (hp : PassesOwn (model X.prog X.w) X.A X.env X.xe) (hc : X.calm = true) (hi : PI X tg iter wi) (hg : PG X tg g) (hb : PSs X body tb)
    (hs : ∀ x, foldedSetIterable iter X.env x = pure x := by intro _; rfl) : PS X (.For tg iter body [] pos) (tFor wi g tb) := by
  intro pins s σ H D I h
  refine wpAny_For (thn (hi pins s σ H _ I h) fun v s1 h1 => thn h1 fun itv s2 h2 => ?_) hs
  obtain ⟨it, fp, tn, J, H2, e, I2, T, st2, f2, W, ⟨m0, w0⟩, turn⟩ := h2
  subst e
  -- what stays true of the iterator's objects through the loop
  have stat : ∀ {H' : Hp}, (∀ b ∈ fp, H' b = none) → ∀ b ∈ fp, FpOk X pins H' b := fun hn b hb => ⟨hn b hb, (f2 b hb).2⟩
  refine codeAny_forLoop_any (fun n s' => ∃ i σ' H', Inv X pins σ' H' s' ∧ tn i s'.heap ∧ (∀ b ∈ fp, H' b = none) ∧ W i n σ' H') ?_ m0 ⟨0, σ, H2, I2, st2, fun b hb => (f2 b hb).1, w0⟩
  rintro n s3 ⟨i, σ3, H3, I3, st3, fr3, w3⟩
  rcases turn i n σ3 H3 w3 with ⟨stop, qn⟩ | ⟨go, N, hN, step⟩
  · refine wpAny_passesOwn hp (thn (T.done X rfl rfl rfl hc i pins s3 σ3 H3 X.xe I3 (stat fr3) st3 stop) fun r s4 ⟨hr, I4⟩ => ?_)
    subst hr
    exact wpAny_execs_nil ⟨σ3, H3, I4, qn⟩
  · refine wpAny_passesOwn hp (thn (T.item X rfl rfl rfl hc i pins s3 σ3 H3 X.xe I3 (stat fr3) st3 go) fun r s4 ⟨u, hr, h4⟩ => ?_)
    subst hr
    refine wpAny_passesOwn hp (thn h4 fun _ s5 ⟨x, H5, I5, r5, y5, st5, fr5⟩ => ?_)
    have I5' := I5.pinned (stat fr5) (T.obj _ _ st5)
    refine wpAny_passesOwn hp (thn (hg _ s5 σ3 H5 x u _ I5' r5 (step x H5 y5)) fun _ s6 ⟨σ6, H6, I6, q6⟩ => ?_)
    refine wpAny_passesOwn hp (thn (hb _ s6 σ6 H6 _ I6 q6) fun f s7 q7 => ?_)
    have again : ∀ {σ7 : St} {H7 : Hp}, Inv X (pins ++ pinsAt fp s5.heap) σ7 H7 s7 → N σ7 H7 → ∃ m, m < n ∧ ∃ i σ' H', Inv X pins σ' H' s7 ∧ tn i s7.heap ∧ (∀ b ∈ fp, H' b = none) ∧ W i m σ' H' := fun {σ7 H7} I7 n7 => by
      obtain ⟨m', hm, w7⟩ := hN σ7 H7 n7
      refine ⟨m', hm, i + 1, σ7, H7, I7.unpinned, T.keep _ _ _ st5 fun b hb o e => (I7.pin (b, o) (List.mem_append_right _ (List.mem_append_right _ (mem_pinsAt hb e)))).1, fun b hb => ?_, w7⟩
      obtain ⟨o, e, d⟩ := T.obj _ _ st5 b hb
      exact (I7.pin (b, o) (List.mem_append_right _ (List.mem_append_right _ (mem_pinsAt hb e)))).2.1
    cases f with
    | next => obtain ⟨σ7, H7, I7, n7⟩ := q7; exact again I7 n7
    | cont => obtain ⟨σ7, H7, I7, n7⟩ := q7; exact again I7 n7
    | brk => obtain ⟨σ7, H7, I7, q7⟩ := q7; exact ⟨σ7, H7, I7.unpinned, q7⟩
    | ret v => obtain ⟨x7, σ7, H7, I7, r7, q7⟩ := q7; exact ⟨x7, σ7, H7, I7.unpinned, r7, q7⟩
end

/-! ### the forms one uses -/
/-- over a list that the body leaves as it is -/
theorem for_list {K : PySem.W.Frag} {a : Addr} {xs : List V} {g : TG} {tb : TS} {D : Ends} {σ : St} {H : Hp} (Pv : Nat → St → Hp → Prop) (h0 : Pv 0 σ H) (hl : ∀ i σ H, i ≤ xs.length → Pv i σ H → SqL K H a xs)
    (hs : ∀ i x σ H, xs[i]? = some x → Pv i σ H → g x σ H fun σ2 H2 => tb { D with nx := Pv (i + 1), ct := Pv (i + 1), bk := D.nx } σ2 H2) (hd : ∀ σ H, Pv xs.length σ H → D.nx σ H) :
    ∃ W : Nat → Nat → St → Hp → Prop, (∃ m, W 0 m σ H) ∧ ∀ i m σ H, W i m σ H →
      ((Itl K a).stop i H ∧ D.nx σ H) ∨ ((Itl K a).go i H ∧ ∃ N : St → Hp → Prop, (∀ σ' H', N σ' H' → ∃ m', m' < m ∧ W (i + 1) m' σ' H') ∧ ∀ x H', (Itl K a).yld i H x H' → g x σ H' fun σ2 H2 => tb { D with nx := N, ct := N, bk := D.nx } σ2 H2) := by
  refine ⟨fun i m σ H => m = xs.length - i ∧ i ≤ xs.length ∧ Pv i σ H, ⟨xs.length, by simp, Nat.zero_le _, h0⟩, ?_⟩
  rintro i m σ H ⟨rfl, hi, p⟩
  have q := hl i σ H hi p
  by_cases hlt : i < xs.length
  · refine .inr ⟨⟨xs, xs[i], q, by simp [hlt]⟩, Pv (i + 1), fun σ' H' p' => ⟨xs.length - (i + 1), by omega, rfl, hlt, p'⟩, fun x H' y => ?_⟩
    obtain ⟨e, y⟩ := y
    subst e
    exact hs i x σ _ (y xs q) p
  · have e : i = xs.length := by omega
    subst e
    exact .inl ⟨⟨xs, q, Nat.le_refl _⟩, hd σ H p⟩
theorem for_tup {K : PySem.W.Frag} {a : Addr} {xs : List V} {g : TG} {tb : TS} {D : Ends} {σ : St} {H : Hp} (Pv : Nat → St → Hp → Prop) (h0 : Pv 0 σ H) (hl : ∀ i σ H, i ≤ xs.length → Pv i σ H → SqT K H a xs)
    (hs : ∀ i x σ H, xs[i]? = some x → Pv i σ H → g x σ H fun σ2 H2 => tb { D with nx := Pv (i + 1), ct := Pv (i + 1), bk := D.nx } σ2 H2) (hd : ∀ σ H, Pv xs.length σ H → D.nx σ H) :
    ∃ W : Nat → Nat → St → Hp → Prop, (∃ m, W 0 m σ H) ∧ ∀ i m σ H, W i m σ H →
      ((Itt K a).stop i H ∧ D.nx σ H) ∨ ((Itt K a).go i H ∧ ∃ N : St → Hp → Prop, (∀ σ' H', N σ' H' → ∃ m', m' < m ∧ W (i + 1) m' σ' H') ∧ ∀ x H', (Itt K a).yld i H x H' → g x σ H' fun σ2 H2 => tb { D with nx := N, ct := N, bk := D.nx } σ2 H2) := by
  refine ⟨fun i m σ H => m = xs.length - i ∧ i ≤ xs.length ∧ Pv i σ H, ⟨xs.length, by simp, Nat.zero_le _, h0⟩, ?_⟩
  rintro i m σ H ⟨rfl, hi, p⟩
  have q := hl i σ H hi p
  by_cases hlt : i < xs.length
  · refine .inr ⟨⟨xs, xs[i], q, by simp [hlt]⟩, Pv (i + 1), fun σ' H' p' => ⟨xs.length - (i + 1), by omega, rfl, hlt, p'⟩, fun x H' y => ?_⟩
    obtain ⟨e, y⟩ := y
    subst e
    exact hs i x σ _ (y xs q) p
  · have e : i = xs.length := by omega
    subst e
    exact .inl ⟨⟨xs, q, Nat.le_refl _⟩, hd σ H p⟩
theorem for_range {lo : Int} {n : Nat} {g : TG} {tb : TS} {D : Ends} {σ : St} {H : Hp} (Pv : Nat → St → Hp → Prop) (h0 : Pv 0 σ H)
    (hs : ∀ i σ H, i < n → Pv i σ H → g (.int (lo + i)) σ H fun σ2 H2 => tb { D with nx := Pv (i + 1), ct := Pv (i + 1), bk := D.nx } σ2 H2) (hd : ∀ σ H, Pv n σ H → D.nx σ H) :
    ∃ W : Nat → Nat → St → Hp → Prop, (∃ m, W 0 m σ H) ∧ ∀ i m σ H, W i m σ H →
      ((Itr lo n).stop i H ∧ D.nx σ H) ∨ ((Itr lo n).go i H ∧ ∃ N : St → Hp → Prop, (∀ σ' H', N σ' H' → ∃ m', m' < m ∧ W (i + 1) m' σ' H') ∧ ∀ x H', (Itr lo n).yld i H x H' → g x σ H' fun σ2 H2 => tb { D with nx := N, ct := N, bk := D.nx } σ2 H2) := by
  refine ⟨fun i m σ H => m = n - i ∧ i ≤ n ∧ Pv i σ H, ⟨n, by simp, Nat.zero_le _, h0⟩, ?_⟩
  rintro i m σ H ⟨rfl, hi, p⟩
  by_cases hlt : i < n
  · refine .inr ⟨hlt, Pv (i + 1), fun σ' H' p' => ⟨n - (i + 1), by omega, rfl, hlt, p'⟩, fun x H' y => ?_⟩
    obtain ⟨e, y⟩ := y
    subst e y
    exact hs i σ _ hlt p
  · have e : i = n := by omega
    subst e
    exact .inl ⟨Nat.le_refl _, hd σ H p⟩
/-- while, by a word and a measure of the state -/
theorem while_by {c : TT} {tb : TS} {D : Ends} {σ : St} {H : Hp} (Pv : St → Hp → Prop) (μ : St → Hp → Nat) (h0 : Pv σ H)
    (hs : ∀ σ H, Pv σ H → c σ H fun b H1 => if b = true then tb { D with nx := fun σ' H' => Pv σ' H' ∧ μ σ' H' < μ σ H, ct := fun σ' H' => Pv σ' H' ∧ μ σ' H' < μ σ H, bk := D.nx } σ H1 else D.nx σ H1)
    (mono : ∀ σ H Q Q', (∀ b H1, Q b H1 → Q' b H1) → c σ H Q → c σ H Q') : tWhile c tb D σ H := by
  refine ⟨fun m σ H => m = μ σ H ∧ Pv σ H, ⟨_, rfl, h0⟩, ?_⟩
  rintro m σ H ⟨rfl, p⟩
  refine mono σ H _ _ (fun b H1 q => ?_) (hs σ H p)
  cases b with
  | true => exact ⟨_, fun σ' H' ⟨p', l⟩ => ⟨_, l, rfl, p'⟩, q⟩
  | false => exact q
end L2

namespace L2
open PySem PySem.Spec PyProof.Rows

abbrev R2 := V → V → Hp → VK → Prop
/-- a two-place operation on values: f is binaryOp op, inplaceOp op or compareOp op -/
def OpR (X : Cx) (f : Value → Value → Sem Value) (r : R2) : Prop :=
  ∀ (pins : List (Addr × Obj)) (s : Shared) (σ : St) (H : Hp) (x y : V) (v u : Value) (Q : VK), Inv X pins σ H s → RelV x v → RelV y u → r x y H Q →
    wpAny (model X.prog X.w) X.A (f v u) (EP X pins σ Q) X.xe s
/-- a one-place operation -/
def UnR (X : Cx) (f : Value → Sem Value) (r : V → Hp → VK → Prop) : Prop :=
  ∀ (pins : List (Addr × Obj)) (s : Shared) (σ : St) (H : Hp) (x : V) (v : Value) (Q : VK), Inv X pins σ H s → RelV x v → r x H Q →
    wpAny (model X.prog X.w) X.A (f v) (EP X pins σ Q) X.xe s
/-- a call of a value that is known (a builtin, a type) with values -/
def CallR (X : Cx) (f : Value) (r : List V → Hp → VK → Prop) : Prop :=
  ∀ (pins : List (Addr × Obj)) (s : Shared) (σ : St) (H : Hp) (xs : List V) (us : List Value) (Q : VK), Inv X pins σ H s → Vals xs us → r xs H Q →
    wpAny (model X.prog X.w) X.A (call f us) (EP X pins σ Q) X.xe s
/-- a value's truth -/
def TruR (X : Cx) (r : V → Hp → (Bool → Hp → Prop) → Prop) : Prop :=
  ∀ (pins : List (Addr × Obj)) (s : Shared) (σ : St) (H : Hp) (x : V) (v : Value) (Q : Bool → Hp → Prop), Inv X pins σ H s → RelV x v → r x H Q →
    wpAny (model X.prog X.w) X.A (truthy v) (TP X pins σ Q) X.xe s

def tOp (r : R2) (ta tb : TE) : TE := fun σ H Q => ta σ H fun x H1 => tb σ H1 fun y H2 => r x y H2 Q
def tUn (r : V → Hp → VK → Prop) (ta : TE) : TE := fun σ H Q => ta σ H fun x H1 => r x H1 Q
/-- ints in, under C, and a value out -/
def rI (C : Int → Int → Prop) (g : Int → Int → V) : R2 := fun x y H Q => ∃ i j, x = .int i ∧ y = .int j ∧ C i j ∧ Q (g i j) H
def rI0 (g : Int → Int → V) : R2 := fun x y H Q => ∃ i j, x = .int i ∧ y = .int j ∧ Q (g i j) H
def rU (g : Int → V) : V → Hp → VK → Prop := fun x H Q => ∃ i, x = .int i ∧ Q (g i) H

section
variable {X : Cx} {a b c : Expr} {ta tb tc : TE} {pos : Pos}

theorem binT (ha : PE X a ta) (hb : PE X b tb) {pins : List (Addr × Obj)} {s : Shared} {σ : St} {H : Hp} {R : V → V → Hp → Prop} (I : Inv X pins σ H s)
    (h : ta σ H fun x H1 => tb σ H1 fun y H2 => R x y H2) {Q : Value → Shared → Prop} {f : Value → Value → Sem Value}
    (hf : ∀ v u s2 x y H2, Inv X pins σ H2 s2 → RelV x v → RelV y u → R x y H2 → wpAny (model X.prog X.w) X.A (f v u) Q X.xe s2) :
    wpAny (model X.prog X.w) X.A (eval a X.env) (fun v s₁ => wpAny (model X.prog X.w) X.A (eval b X.env) (fun u s₂ => wpAny (model X.prog X.w) X.A (f v u) Q X.xe s₂) X.xe s₁) X.xe s := by
  refine thn (ha pins s σ H _ I h) fun v s1 ⟨x, H1, I1, r1, q1⟩ => ?_
  refine thn (hb pins s1 σ H1 _ I1 q1) fun u s2 ⟨y, H2, I2, r2, q2⟩ => ?_
  exact hf v u s2 x y H2 I2 r1 r2 q2

theorem pe_op {op : Operator} {r : R2} (ho : OpR X (binaryOp op) r) (ha : PE X a ta) (hb : PE X b tb) : PE X (.BinOp a op b pos) (tOp r ta tb) := by
  intro pins s σ H Q I h
  exact wpAny_BinOp (binT ha hb I h fun v u s2 x y H2 I2 rx ry q => ho pins s2 σ H2 x y v u Q I2 rx ry q)
theorem pe_un {op : UnaryOp} {r : V → Hp → VK → Prop} (ho : UnR X (unaryOp op) r) (ha : PE X a ta) : PE X (.UnaryOp op a pos) (tUn r ta) := by
  intro pins s σ H Q I h
  exact UnaryOp_ (thn (ha pins s σ H _ I h) fun v s1 ⟨x, H1, I1, r1, q1⟩ => ho pins s1 σ H1 x v Q I1 r1 q1)
/-- a op= e at a name: the name's slot i -/
theorem augR {op : Operator} {r : R2} (ho : OpR X (inplaceOp op) r) {pins : List (Addr × Obj)} {s : Shared} {σ : St} {H : Hp} {x y : V} {v u : Value} {Q : VK} (I : Inv X pins σ H s)
    (rx : RelV x v) (ry : RelV y u) (q : r x y H Q) : wpAny (model X.prog X.w) X.A (inplaceOp op v u) (EP X pins σ Q) X.xe s := ho pins s σ H x y v u Q I rx ry q

/-! ### ints -/
theorem opI {f : Value → Value → Sem Value} {C : Int → Int → Prop} {g : Int → Int → Int}
    (rule : ∀ (i j : Int) (t u : Tok) (s : Shared) (Q : Value → Shared → Prop) (E : Value → Shared → Prop), C i j → Q (.int (g i j) s.toks) { s with toks := s.toks + 1 } → wpAny (model X.prog X.w) X.A (f (.int i t) (.int j u)) Q E s) :
    OpR X f (rI C fun i j => .int (g i j)) := by
  intro pins s σ H x y v u Q I rx ry h
  obtain ⟨i, j, rfl, rfl, hc, q⟩ := h
  obtain ⟨t, rfl⟩ := rx
  obtain ⟨t', rfl⟩ := ry
  exact rule i j t t' s _ _ hc ⟨.int (g i j), H, I.tok _, ⟨_, rfl⟩, q⟩
theorem opI0 {f : Value → Value → Sem Value} {g : Int → Int → Int}
    (rule : ∀ (i j : Int) (t u : Tok) (s : Shared) (Q : Value → Shared → Prop) (E : Value → Shared → Prop), Q (.int (g i j) s.toks) { s with toks := s.toks + 1 } → wpAny (model X.prog X.w) X.A (f (.int i t) (.int j u)) Q E s) :
    OpR X f (rI0 fun i j => .int (g i j)) := by
  intro pins s σ H x y v u Q I rx ry h
  obtain ⟨i, j, rfl, rfl, q⟩ := h
  obtain ⟨t, rfl⟩ := rx
  obtain ⟨t', rfl⟩ := ry
  exact rule i j t t' s _ _ ⟨.int (g i j), H, I.tok _, ⟨_, rfl⟩, q⟩
theorem opB0 {f : Value → Value → Sem Value} {g : Int → Int → Bool}
    (rule : ∀ (i j : Int) (t u : Tok) (s : Shared) (Q : Value → Shared → Prop) (E : Value → Shared → Prop), Q (.bool (g i j)) s → wpAny (model X.prog X.w) X.A (f (.int i t) (.int j u)) Q E s) :
    OpR X f (rI0 fun i j => .bl (g i j)) := by
  intro pins s σ H x y v u Q I rx ry h
  obtain ⟨i, j, rfl, rfl, q⟩ := h
  obtain ⟨t, rfl⟩ := rx
  obtain ⟨t', rfl⟩ := ry
  exact rule i j t t' s _ _ ⟨.bl (g i j), H, I, rfl, q⟩

def CDiv (i j : Int) : Prop := 0 < j ∧ j < 1073741824
def CDivN (i j : Int) : Prop := j ≠ 0 ∧ j.natAbs < 1073741824
def CPow (i j : Int) : Prop := 0 ≤ j ∧ j ≤ 1000000 ∧ i.natAbs < 2 ^ 64
def CMul (i j : Int) : Prop := (-(2 ^ 64) < i ∧ i < 2 ^ 64) ∨ (-(2 ^ 64) < j ∧ j < 2 ^ 64)
theorem CMul.ok {i j : Int} (h : CMul i j) : IntMulOk i j := by
  rcases h with ⟨h1, h2⟩ | ⟨h1, h2⟩
  · exact .of_left (intBits_le_64 h1 h2)
  · exact .of_right (intBits_le_64 h1 h2)
theorem two_pow_nn (k : Nat) : (0 : Int) ≤ 2 ^ k := by
  rw [two_pow_cast]
  exact Int.natCast_nonneg _

theorem op_add : OpR X (binaryOp .Add) (rI0 fun i j => .int (i + j)) := opI0 fun _ _ _ _ _ _ _ q => add_int q
theorem op_sub : OpR X (binaryOp .Sub) (rI0 fun i j => .int (i - j)) := opI0 fun _ _ _ _ _ _ _ q => sub_int q
theorem op_mul : OpR X (binaryOp .Mult) (rI CMul fun i j => .int (i * j)) := opI fun _ _ _ _ _ _ _ hc q => mul_int q hc.ok
/-- // by a positive divisor -/
theorem op_fdiv : OpR X (binaryOp .FloorDiv) (rI CDiv fun i j => .int (i / j)) := opI fun i j _ _ _ _ _ hc q => by
  have h1 : (0 : Int) < j := hc.1
  have h2 : j < 1073741824 := hc.2
  exact floordiv_int (by omega) (by rw [Int.fdiv_eq_ediv_of_nonneg i (by omega)]; exact q) (.inl (PyProof.noPylong_small (by omega)))
theorem op_fdivN : OpR X (binaryOp .FloorDiv) (rI CDivN fun i j => .int (i.fdiv j)) := opI fun _ _ _ _ _ _ _ hc q => floordiv_int hc.1 q (.inl (PyProof.noPylong_small hc.2))
/-- % by a positive divisor of any size -/
theorem op_mod : OpR X (binaryOp .Mod) (rI (fun _ j => 0 < j) fun i j => .int (i % j)) := opI fun i j _ _ _ _ _ hc q => by
  have h1 : (0 : Int) < j := hc
  exact mod_int' (by omega) (by rw [Int.fmod_eq_emod_of_nonneg i (by omega)]; exact q)
theorem op_modN : OpR X (binaryOp .Mod) (rI (fun _ j => j ≠ 0) fun i j => .int (i.fmod j)) := opI fun _ _ _ _ _ _ _ hc q => mod_int' hc q
theorem op_pow : OpR X (binaryOp .Pow) (rI CPow fun i j => .int (i ^ j.toNat)) := opI fun _ _ _ _ _ _ _ hc q => pow_int_small hc.1 hc.2.1 hc.2.2 q
theorem op_shl : OpR X (binaryOp .LShift) (rI CPow fun i j => .int (i * 2 ^ j.toNat)) := opI fun _ _ _ _ _ _ _ hc q => lshift_int_small hc.1 hc.2.1 hc.2.2 q
theorem op_shr : OpR X (binaryOp .RShift) (rI (fun _ j => 0 ≤ j) fun i j => .int (i / 2 ^ j.toNat)) := opI fun i j _ _ _ _ _ hc q =>
  rshift_int hc (by rw [Int.fdiv_eq_ediv_of_nonneg i (two_pow_nn _)]; exact q)
theorem op_and : OpR X (binaryOp .BitAnd) (rI0 fun i j => .int (Builtin.bitAnd i j)) := opI0 fun _ _ _ _ _ _ _ q => and_int q
theorem op_or : OpR X (binaryOp .BitOr) (rI0 fun i j => .int (Builtin.bitOr i j)) := opI0 fun _ _ _ _ _ _ _ q => or_int q
theorem op_xor : OpR X (binaryOp .BitXor) (rI0 fun i j => .int (Builtin.bitXor i j)) := opI0 fun _ _ _ _ _ _ _ q => xor_int q

theorem iop_add : OpR X (inplaceOp .Add) (rI0 fun i j => .int (i + j)) := opI0 fun _ _ _ _ _ _ _ q => iadd_int q
theorem iop_sub : OpR X (inplaceOp .Sub) (rI0 fun i j => .int (i - j)) := opI0 fun _ _ _ _ _ _ _ q => isub_int q
theorem iop_mul : OpR X (inplaceOp .Mult) (rI CMul fun i j => .int (i * j)) := opI fun _ _ _ _ _ _ _ hc q => imul_int q hc.ok
theorem iop_fdiv : OpR X (inplaceOp .FloorDiv) (rI CDiv fun i j => .int (i / j)) := opI fun i j _ _ _ _ _ hc q => by
  have h1 : (0 : Int) < j := hc.1
  have h2 : j < 1073741824 := hc.2
  exact ifloordiv_int (by omega) (by rw [Int.fdiv_eq_ediv_of_nonneg i (by omega)]; exact q) (.inl (PyProof.noPylong_small (by omega)))
theorem iop_mod : OpR X (inplaceOp .Mod) (rI (fun _ j => 0 < j) fun i j => .int (i % j)) := opI fun i j _ _ _ _ _ hc q => by
  have h1 : (0 : Int) < j := hc
  exact imod_int (by omega) (by rw [Int.fmod_eq_emod_of_nonneg i (by omega)]; exact q)
theorem iop_shl : OpR X (inplaceOp .LShift) (rI CPow fun i j => .int (i * 2 ^ j.toNat)) := opI fun _ _ _ _ _ _ _ hc q => ilshift_int_small hc.1 hc.2.1 hc.2.2 q
theorem iop_shr : OpR X (inplaceOp .RShift) (rI (fun _ j => 0 ≤ j) fun i j => .int (i / 2 ^ j.toNat)) := opI fun i j _ _ _ _ _ hc q =>
  irshift_int hc (by rw [Int.fdiv_eq_ediv_of_nonneg i (two_pow_nn _)]; exact q)
theorem iop_and : OpR X (inplaceOp .BitAnd) (rI0 fun i j => .int (Builtin.bitAnd i j)) := opI0 fun _ _ _ _ _ _ _ q => iand_int q
theorem iop_or : OpR X (inplaceOp .BitOr) (rI0 fun i j => .int (Builtin.bitOr i j)) := opI0 fun _ _ _ _ _ _ _ q => ior_int q
theorem iop_xor : OpR X (inplaceOp .BitXor) (rI0 fun i j => .int (Builtin.bitXor i j)) := opI0 fun _ _ _ _ _ _ _ q => ixor_int q

theorem unI {f : Value → Sem Value} {g : Int → Int}
    (rule : ∀ (i : Int) (t : Tok) (s : Shared) (Q : Value → Shared → Prop) (E : Value → Shared → Prop), Q (.int (g i) s.toks) { s with toks := s.toks + 1 } → wpAny (model X.prog X.w) X.A (f (.int i t)) Q E s) :
    UnR X f (rU fun i => .int (g i)) := by
  intro pins s σ H x v Q I rx h
  obtain ⟨i, rfl, q⟩ := h
  obtain ⟨t, rfl⟩ := rx
  exact rule i t s _ _ ⟨.int (g i), H, I.tok _, ⟨_, rfl⟩, q⟩
theorem un_neg : UnR X (unaryOp .USub) (rU fun i => .int (-i)) := unI fun _ _ _ _ _ q => neg_int q
theorem un_inv : UnR X (unaryOp .Invert) (rU fun i => .int (Builtin.bitNot i)) := unI fun _ _ _ _ _ q => invert_int q

/-! ### bools among ints: n += (a < b) -/
theorem op_add_ib : OpR X (binaryOp .Add) (fun x y H Q => ∃ i k, x = .int i ∧ y = .bl k ∧ Q (.int (i + b2i k)) H) := by
  intro pins s σ H x y v u Q I rx ry h
  obtain ⟨i, k, rfl, rfl, q⟩ := h
  obtain ⟨t, rfl⟩ := rx
  cases ry
  exact add_int_bool ⟨.int (i + b2i k), H, I.tok _, ⟨_, rfl⟩, q⟩
end

/-! ### comparisons -/
/-- the scalars that == tells apart as data does -/
def scal : V → V → Bool
  | .non, .non => true | .non, .int _ => true | .int _, .non => true | .non, .bl _ => true | .bl _, .non => true | .non, .str _ => true | .str _, .non => true
  | .int _, .int _ => true | .bl _, .bl _ => true | .str _, .str _ => true | .byt _, .byt _ => true
  | .int _, .str _ => true | .str _, .int _ => true | .bl _, .str _ => true | .str _, .bl _ => true
  | _, _ => false
def rEq : R2 := fun x y H Q => scal x y = true ∧ Q (.bl (decide (x = y))) H
def rNe : R2 := fun x y H Q => scal x y = true ∧ Q (.bl (!decide (x = y))) H

theorem dec_int {i j : Int} : decide (V.int i = V.int j) = (i == j) := by
  rw [Bool.eq_iff_iff]
  simp
theorem dec_bl {i j : Bool} : decide (V.bl i = V.bl j) = (i == j) := by
  rw [Bool.eq_iff_iff]
  simp
theorem dec_str {i j : Str} : decide (V.str i = V.str j) = (i == j) := by
  rw [Bool.eq_iff_iff]
  simp
theorem dec_byt {i j : Array UInt8} : decide (V.byt i = V.byt j) = (i.toList == j.toList) := by
  rw [Bool.eq_iff_iff]
  cases i
  cases j
  simp

section
variable {X : Cx} {a b c : Expr} {ta tb tc : TE} {pos : Pos}
theorem fin_bl {pins : List (Addr × Obj)} {σ : St} {H : Hp} {s : Shared} {Q : VK} {k k' : Bool} (I : Inv X pins σ H s) (q : Q (.bl k) H) (e : k = k') : EP X pins σ Q (.bool k') s := by
  subst e
  exact ⟨.bl k, H, I, rfl, q⟩
theorem op_eq : OpR X (compareOp .Eq) rEq := by
  intro pins s σ H x y v u Q I rx ry h
  obtain ⟨hs, q⟩ := h
  cases x with
  | non =>
    cases rx
    cases y with
    | non => cases ry; exact PySem.EqNone.eq_none_none (fin_bl I q (by simp))
    | bl j => cases ry; exact PySem.EqNone.eq_none_bool (fin_bl I q (by simp))
    | int j => obtain ⟨t', rfl⟩ := ry; exact PySem.EqNone.eq_none_int (fin_bl I q (by simp))
    | str j => obtain ⟨t', rfl⟩ := ry; exact PySem.EqNone.eq_none_str (fin_bl I q (by simp))
    | _ => exact absurd (show false = true from hs) Bool.false_ne_true
  | bl i =>
    cases rx
    cases y with
    | non => cases ry; exact PySem.EqNone.eq_bool_none (fin_bl I q (by simp))
    | bl j => cases ry; exact eq_bool (fin_bl I q dec_bl)
    | str j => obtain ⟨t', rfl⟩ := ry; exact PySem.EqMixed.eq_bool_str (fin_bl I q (by simp))
    | _ => exact absurd (show false = true from hs) Bool.false_ne_true
  | int i =>
    obtain ⟨t, rfl⟩ := rx
    cases y with
    | non => cases ry; exact PySem.EqNone.eq_int_none (fin_bl I q (by simp))
    | int j => obtain ⟨t', rfl⟩ := ry; exact eq_int (fin_bl I q dec_int)
    | str j => obtain ⟨t', rfl⟩ := ry; exact PySem.EqMixed.eq_int_str (fin_bl I q (by simp))
    | _ => exact absurd (show false = true from hs) Bool.false_ne_true
  | str i =>
    obtain ⟨t, rfl⟩ := rx
    cases y with
    | non => cases ry; exact PySem.EqNone.eq_str_none (fin_bl I q (by simp))
    | bl j => cases ry; exact PySem.EqMixed.eq_str_bool (fin_bl I q (by simp))
    | int j => obtain ⟨t', rfl⟩ := ry; exact PySem.EqMixed.eq_str_int (fin_bl I q (by simp))
    | str j => obtain ⟨t', rfl⟩ := ry; exact eq_str (fin_bl I q dec_str)
    | _ => exact absurd (show false = true from hs) Bool.false_ne_true
  | byt i =>
    obtain ⟨t, rfl⟩ := rx
    cases y with
    | byt j => obtain ⟨t', rfl⟩ := ry; exact PySem.W.eq_bytes (fin_bl I q dec_byt)
    | _ => exact absurd (show false = true from hs) Bool.false_ne_true
  | _ => cases y <;> exact absurd (show false = true from hs) Bool.false_ne_true
theorem op_ne : OpR X (compareOp .NotEq) rNe := by
  intro pins s σ H x y v u Q I rx ry h
  obtain ⟨hs, q⟩ := h
  cases x with
  | non =>
    cases rx
    cases y with
    | non => cases ry; exact PySem.EqNone.ne_none_none (fin_bl I q (by simp))
    | bl j => cases ry; exact PySem.EqNone.ne_none_bool (fin_bl I q (by simp))
    | int j => obtain ⟨t', rfl⟩ := ry; exact PySem.EqNone.ne_none_int (fin_bl I q (by simp))
    | str j => obtain ⟨t', rfl⟩ := ry; exact PySem.EqNone.ne_none_str (fin_bl I q (by simp))
    | _ => exact absurd (show false = true from hs) Bool.false_ne_true
  | bl i =>
    cases rx
    cases y with
    | non => cases ry; exact PySem.EqNone.ne_bool_none (fin_bl I q (by simp))
    | bl j => cases ry; exact ne_bool (fin_bl I q (congrArg not dec_bl))
    | str j => obtain ⟨t', rfl⟩ := ry; exact PySem.EqMixed.ne_bool_str (fin_bl I q (by simp))
    | _ => exact absurd (show false = true from hs) Bool.false_ne_true
  | int i =>
    obtain ⟨t, rfl⟩ := rx
    cases y with
    | non => cases ry; exact PySem.EqNone.ne_int_none (fin_bl I q (by simp))
    | int j => obtain ⟨t', rfl⟩ := ry; exact ne_int (fin_bl I q (congrArg not dec_int))
    | str j => obtain ⟨t', rfl⟩ := ry; exact PySem.EqMixed.ne_int_str (fin_bl I q (by simp))
    | _ => exact absurd (show false = true from hs) Bool.false_ne_true
  | str i =>
    obtain ⟨t, rfl⟩ := rx
    cases y with
    | non => cases ry; exact PySem.EqNone.ne_str_none (fin_bl I q (by simp))
    | bl j => cases ry; exact PySem.EqMixed.ne_str_bool (fin_bl I q (by simp))
    | int j => obtain ⟨t', rfl⟩ := ry; exact PySem.EqMixed.ne_str_int (fin_bl I q (by simp))
    | str j => obtain ⟨t', rfl⟩ := ry; exact ne_str (fin_bl I q (congrArg not dec_str))
    | _ => exact absurd (show false = true from hs) Bool.false_ne_true
  | byt i =>
    obtain ⟨t, rfl⟩ := rx
    cases y with
    | byt j => obtain ⟨t', rfl⟩ := ry; exact PySem.W.ne_bytes (fin_bl I q (congrArg not dec_byt))
    | _ => exact absurd (show false = true from hs) Bool.false_ne_true
  | _ => cases y <;> exact absurd (show false = true from hs) Bool.false_ne_true

theorem op_lt : OpR X (compareOp .Lt) (rI0 fun i j => .bl (decide (i < j))) := opB0 fun _ _ _ _ _ _ _ q => lt_int q
theorem op_le : OpR X (compareOp .LtE) (rI0 fun i j => .bl (decide (i ≤ j))) := opB0 fun _ _ _ _ _ _ _ q => le_int q
theorem op_gt : OpR X (compareOp .Gt) (rI0 fun i j => .bl (decide (j < i))) := opB0 fun _ _ _ _ _ _ _ q => gt_int q
theorem op_ge : OpR X (compareOp .GtE) (rI0 fun i j => .bl (decide (j ≤ i))) := opB0 fun _ _ _ _ _ _ _ q => ge_int q
theorem op_lt_str : OpR X (compareOp .Lt) (fun x y H Q => ∃ i j, x = .str i ∧ y = .str j ∧ Q (.bl (decide (i.cps.toList < j.cps.toList))) H) := by
  intro pins s σ H x y v u Q I rx ry h
  obtain ⟨i, j, rfl, rfl, q⟩ := h
  obtain ⟨t, rfl⟩ := rx
  obtain ⟨t', rfl⟩ := ry
  exact lt_str (fin_bl I q rfl)
/-- the one string within the other -/
theorem op_in_str : OpR X (compareOp .In) (fun x y H Q => ∃ i j, x = .str i ∧ y = .str j ∧ Q (.bl (!(Builtin.Str.occurrences j i 0 j.length 1).isEmpty)) H) := by
  intro pins s σ H x y v u Q I rx ry h
  obtain ⟨i, j, rfl, rfl, q⟩ := h
  obtain ⟨t, rfl⟩ := rx
  obtain ⟨t', rfl⟩ := ry
  exact in_str (fin_bl I q rfl)

/-- is None, is not None: the right side a value none -/
theorem op_isN : OpR X (compareOp .Is) (fun x y H Q => y = .non ∧ Q (.bl (decide (x = .non))) H) := by
  intro pins s σ H x y v u Q I rx ry h
  obtain ⟨rfl, q⟩ := h
  cases ry
  refine is_none_gen (fin_bl I q ?_)
  cases x <;> first
    | (cases rx; rfl)
    | (obtain ⟨t, rfl⟩ := rx; rfl)
theorem op_notN : OpR X (compareOp .IsNot) (fun x y H Q => y = .non ∧ Q (.bl (!decide (x = .non))) H) := by
  intro pins s σ H x y v u Q I rx ry h
  obtain ⟨rfl, q⟩ := h
  cases ry
  refine isnot_none_gen (fin_bl I q ?_)
  cases x <;> first
    | (cases rx; rfl)
    | (obtain ⟨t, rfl⟩ := rx; rfl)

theorem op_notin_str : OpR X (compareOp .NotIn) (fun x y H Q => ∃ i j, x = .str i ∧ y = .str j ∧ Q (.bl (!(!(Builtin.Str.occurrences j i 0 j.length 1).isEmpty))) H) := by
  intro pins s σ H x y v u Q I rx ry h
  obtain ⟨i, j, rfl, rfl, q⟩ := h
  obtain ⟨t, rfl⟩ := rx
  obtain ⟨t', rfl⟩ := ry
  exact notIn_str (fin_bl I q rfl)
/-- is, is not of two objects that are tracked lists or instances -/
def isObj : HO → Bool
  | .lst _ => true
  | .ins _ _ _ => true
  | _ => false
theorem obj_there {pins : List (Addr × Obj)} {s : Shared} {σ : St} {H : Hp} {a : Addr} {o : HO} (I : Inv X pins σ H s) (h : H a = some o) (p : isObj o = true) : ∃ ob, s.heap.get? a = some ob ∧ ob.cls ≠ .type "tuple" := by
  cases o with
  | lst xs =>
    obtain ⟨_, its, n, _, e⟩ : xs.length ≤ sizeLine ∧ ∃ (its : List Value) (n : Nat), Vals xs its ∧ s.heap.get? a = some { cls := .type "list", data := .seq its.toArray n } := I.hok a _ h
    exact ⟨_, e, (by show Value.type "list" ≠ .type "tuple"; decide +kernel)⟩
  | ins C dx fs =>
    have x := I.hok a _ h
    obtain ⟨_, _, _, e, _⟩ := x
    exact ⟨_, e, (by show Value.ref C ≠ .type "tuple"; exact fun z => by cases z)⟩
  | _ => exact absurd (show false = true from p) Bool.false_ne_true
theorem op_is_ref : OpR X (compareOp .Is) (fun x y H Q => ∃ a b oa ob, x = .ref a ∧ y = .ref b ∧ H a = some oa ∧ isObj oa = true ∧ H b = some ob ∧ isObj ob = true ∧ Q (.bl (decide (a = b))) H) := by
  intro pins s σ H x y v u Q I rx ry h
  obtain ⟨a, b, oa, ob, rfl, rfl, ha, pa, hb, pb, q⟩ := h
  cases rx
  cases ry
  obtain ⟨o1, e1, n1⟩ := obj_there I ha pa
  obtain ⟨o2, e2, _⟩ := obj_there I hb pb
  by_cases z : a = b
  · subst z
    exact wpAny_is_ref_self (fin_bl I q (by simp))
  · exact wpAny_is_ref_other z e1 e2 n1 (fin_bl I q (by simp [z]))
theorem op_isnot_ref : OpR X (compareOp .IsNot) (fun x y H Q => ∃ a b oa ob, x = .ref a ∧ y = .ref b ∧ H a = some oa ∧ isObj oa = true ∧ H b = some ob ∧ isObj ob = true ∧ Q (.bl (!decide (a = b))) H) := by
  intro pins s σ H x y v u Q I rx ry h
  obtain ⟨a, b, oa, ob, rfl, rfl, ha, pa, hb, pb, q⟩ := h
  cases rx
  cases ry
  obtain ⟨o1, e1, n1⟩ := obj_there I ha pa
  obtain ⟨o2, e2, _⟩ := obj_there I hb pb
  by_cases z : a = b
  · subst z
    exact wpAny_isNot_ref_self (fin_bl I q (by simp))
  · exact wpAny_isNot_ref_other z e1 e2 n1 (fin_bl I q (by simp [z]))

/-- two rules for one operation: by cases -/
theorem OpR.or {f : Value → Value → Sem Value} {r r' : R2} (h : OpR X f r) (h' : OpR X f r') : OpR X f (fun x y H Q => r x y H Q ∨ r' x y H Q) := by
  intro pins s σ H x y v u Q I rx ry q
  rcases q with q | q
  · exact h pins s σ H x y v u Q I rx ry q
  · exact h' pins s σ H x y v u Q I rx ry q

theorem nomark (b : Expr) {op : CmpOp} (h : op ≠ .In := by decide) (h2 : op ≠ .NotIn := by decide) : behindInMarks op b = false := by
  have e1 : (op == CmpOp.In) = false := by cases op <;> first | rfl | exact absurd rfl h
  have e2 : (op == CmpOp.NotIn) = false := by cases op <;> first | rfl | exact absurd rfl h2
  cases b <;> simp [behindInMarks, e1, e2]
/-- a comparison as a value; hm: nomark b, or (for in, not in) by with_unfolding_all rfl -/
theorem pe_cmpR {op : CmpOp} {r : R2} (ho : OpR X (compareOp op) r) (ha : PE X a ta) (hb : PE X b tb) (hm : behindInMarks op b = false) : PE X (.Compare a [op] [b] pos) (tOp r ta tb) := by
  intro pins s σ H Q I h
  exact wpAny_Compare1 (binT ha hb I h fun v u s2 x y H2 I2 rx ry q => ho pins s2 σ H2 x y v u Q I2 rx ry q) hm
/-- a reading of a value as a test -/
def tTest (t : TE) : TT := fun σ H Q => t σ H fun x H' => ∃ k, x = .bl k ∧ Q k H'
theorem pt_cmpR {op : CmpOp} {r : R2} (ho : OpR X (compareOp op) r) (ha : PE X a ta) (hb : PE X b tb) (hm : behindInMarks op b = false) : PT X (.Compare a [op] [b] pos) (tTest (tOp r ta tb)) := by
  intro pins s σ H Q I h
  refine wpAny_isTrue_Compare1 (thn (ha pins s σ H _ I h) fun v s1 ⟨x, H1, I1, r1, q1⟩ => thn (hb pins s1 σ H1 _ I1 q1) fun u s2 ⟨y, H2, I2, r2, q2⟩ =>
    thn (ho pins s2 σ H2 x y v u _ I2 r1 r2 q2) fun c s3 ⟨z, H3, I3, r3, k, e, q3⟩ => ?_) hm
  subst e
  cases r3
  exact wpAny_truthy_bool ⟨H3, I3, q3⟩
/-- a op1 b op2 c -/
def tChain (r r' : R2) (ta tb tc : TE) : TE := fun σ H Q => ta σ H fun x H1 => tb σ H1 fun y H2 => r x y H2 fun z H3 => ∃ k, z = .bl k ∧
  (if k = true then tc σ H3 fun w' H4 => r' y w' H4 Q else Q (.bl false) H3)
theorem pe_chain {op op' : CmpOp} {r r' : R2} (ho : OpR X (compareOp op) r) (ho' : OpR X (compareOp op') r') (ha : PE X a ta) (hb : PE X b tb) (hc : PE X c tc)
    (hm : lastMarks [op, op'] [b, c] = false := by with_unfolding_all rfl) : PE X (.Compare a [op, op'] [b, c] pos) (tChain r r' ta tb tc) := by
  intro pins s σ H Q I h
  refine Compare_chain (thn (ha pins s σ H _ I h) fun v s1 ⟨x, H1, I1, r1, q1⟩ => chain_link (thn (hb pins s1 σ H1 _ I1 q1) fun u s2 ⟨y, H2, I2, r2, q2⟩ =>
    thn (ho pins s2 σ H2 x y v u _ I2 r1 r2 q2) fun d s3 ⟨z, H3, I3, r3, k, e, q3⟩ => ?_)) hm
  subst e
  cases r3
  refine wpAny_truthy_bool ?_
  cases k with
  | false => exact ite_ff ⟨.bl false, H3, I3, rfl, q3⟩
  | true => exact ite_tt (chain_last (thn (hc pins s3 σ H3 _ I3 q3) fun w' s4 ⟨z', H4, I4, r4, q4⟩ => ho' pins s4 σ H4 y z' u w' Q I4 r2 r4 q4))
theorem pt_chain {op op' : CmpOp} {r r' : R2} (ho : OpR X (compareOp op) r) (ho' : OpR X (compareOp op') r') (ha : PE X a ta) (hb : PE X b tb) (hc : PE X c tc)
    (hm : lastMarks [op, op'] [b, c] = false := by with_unfolding_all rfl) : PT X (.Compare a [op, op'] [b, c] pos) (tTest (tChain r r' ta tb tc)) := by
  intro pins s σ H Q I h
  refine isTrue_chain (thn (ha pins s σ H _ I h) fun v s1 ⟨x, H1, I1, r1, q1⟩ => test_link (thn (hb pins s1 σ H1 _ I1 q1) fun u s2 ⟨y, H2, I2, r2, q2⟩ =>
    thn (ho pins s2 σ H2 x y v u _ I2 r1 r2 q2) fun d s3 ⟨z, H3, I3, r3, k, e, q3⟩ => ?_)) hm
  subst e
  cases r3
  refine wpAny_truthy_bool ?_
  cases k with
  | false =>
    obtain ⟨k', e', q'⟩ := q3
    cases e'
    exact ite_ff ⟨H3, I3, q'⟩
  | true =>
    refine ite_tt (test_last (thn (hc pins s3 σ H3 _ I3 q3) fun w' s4 ⟨z', H4, I4, r4, q4⟩ => thn (ho' pins s4 σ H4 y z' u w' _ I4 r2 r4 q4) fun d' s5 ⟨z2, H5, I5, r5, k2, e2, q5⟩ => ?_))
    subst e2
    cases r5
    exact wpAny_truthy_bool ⟨H5, I5, q5⟩

/-! ### truth -/
/-- a value's truth by the abstract heap -/
def TruV (K : PySem.W.Frag) (x : V) (H : Hp) (k : Bool) : Prop :=
  match x with
  | .non => k = false
  | .bl b => k = b
  | .int i => k = (i != 0)
  | .str y => y.length ≤ sizeLine ∧ k = ((y.length : Int) != 0)
  | .byt y => y.size ≤ sizeLine ∧ k = ((y.size : Int) != 0)
  | .ref p => (∃ xs, SqL K H p xs ∧ k = !xs.isEmpty) ∨ (∃ xs, SqT K H p xs ∧ k = !xs.isEmpty) ∨ ∃ kvs, H p = some (.dK kvs) ∧ k = !kvs.isEmpty
  | _ => False
theorem isEmpty_kv {κ : Type} {kvs : List (κ × V)} {vs : List (κ × Value)} (r : KV kvs vs) : (!vs.isEmpty) = !kvs.isEmpty := by
  cases r <;> rfl
theorem isEmpty_of {xs : List V} {its : List Value} (r : Vals xs its) : (!its.toArray.isEmpty) = !xs.isEmpty := by
  cases r <;> simp
theorem line63 : (sizeLine : Nat) < 2 ^ 63 := by rw [sizeLine_eq]; decide
theorem tru_ok : TruR X (fun x H Q => ∃ k, TruV X.K x H k ∧ Q k H) := by
  intro pins s σ H x v Q I rx h
  obtain ⟨k, e, q⟩ := h
  have hl := line63
  have hs : sizeLine = 16777216 := sizeLine_eq
  cases x with
  | non =>
    cases rx
    have e' : k = false := e
    subst e'
    exact truthy_none ⟨H, I, q⟩
  | bl b =>
    cases rx
    have e' : k = b := e
    subst e'
    exact wpAny_truthy_bool ⟨H, I, q⟩
  | int i =>
    obtain ⟨t, rfl⟩ := rx
    have e' : k = (i != 0) := e
    subst e'
    exact PySem.P.truthy_int ⟨H, I, q⟩
  | str y =>
    obtain ⟨t, rfl⟩ := rx
    obtain ⟨hy, e'⟩ : y.length ≤ sizeLine ∧ k = ((y.length : Int) != 0) := e
    subst e'
    exact PySem.P.truthy_str (by omega) ⟨H, I.tok _, q⟩
  | byt y =>
    obtain ⟨t, rfl⟩ := rx
    obtain ⟨hy, e'⟩ : y.size ≤ sizeLine ∧ k = ((y.size : Int) != 0) := e
    subst e'
    exact PySem.W.truthy_bytes (by omega) ⟨H, I.tok _, q⟩
  | ref p =>
    cases rx
    have e' : (∃ xs, SqL X.K H p xs ∧ k = !xs.isEmpty) ∨ (∃ xs, SqT X.K H p xs ∧ k = !xs.isEmpty) ∨ ∃ kvs, H p = some (.dK kvs) ∧ k = !kvs.isEmpty := e
    rcases e' with ⟨xs, hx, e'⟩ | ⟨xs, hx, e'⟩ | ⟨kvs, hx, e'⟩
    · subst e'
      obtain ⟨its, r, pl, hz⟩ := I.list hx
      have hlen := r.length
      exact wpAny_truthy_list pl.isList (by simp only [List.size_toArray]; omega) ⟨H, I.tok _, by rw [isEmpty_of r]; exact q⟩
    · subst e'
      obtain ⟨its, r, pl, hz⟩ := I.tuple hx
      have hlen := r.length
      exact truthy_tuple pl (by simp only [List.size_toArray]; omega) ⟨H, I.tok _, by rw [isEmpty_of r]; exact q⟩
    · subst e'
      obtain ⟨hz, hS, vs, r, m⟩ : kvs.length ≤ sizeLine ∧ (p == sysModules) = false ∧ ∃ vs, KV kvs vs ∧ s.heap.DictOf (mixKind X.prog X.w) p vs := I.hok p _ hx
      have hlen : kvs.length = vs.length := Paired.length r
      exact wpAny_truthy_dict hS m (by omega) ⟨H, I.tok _, by rw [isEmpty_kv r]; exact q⟩
  | _ => exact (show False from e).elim
/-- any expression whose test is its value's truth (a name, a call, a subscript, a field ..: he by fun _ => rfl) -/
theorem pt_truth (ha : PE X a ta) (he : ∀ whole, isTrue a X.env whole = (do let v ← whole; standAt a.pos; holding [v] (truthy v))) :
    PT X a (fun σ H Q => ta σ H fun x H' => ∃ k, TruV X.K x H' k ∧ Q k H') := by
  intro pins s σ H Q I h
  exact isTrue_plain (thn (ha pins s σ H _ I h) fun v s1 ⟨x, H1, I1, r1, q1⟩ => tru_ok pins s1 σ H1 x v Q I1 r1 q1) (he _)

/-! ### strs and bytes -/
theorem pe_byt {x : List UInt8} {k : Nat} : PE X (.Constant (.bytes x) k pos) (fun _ H Q => Q (.byt x.toArray) H) := fun _ _ _ H _ I h => PySem.W.Constant_bytes ⟨.byt x.toArray, H, I.tok _, ⟨_, rfl⟩, h⟩
theorem op_add_str : OpR X (binaryOp .Add) (fun x y H Q => ∃ i j, x = .str i ∧ y = .str j ∧ i.length + j.length ≤ sizeLine ∧ Q (.str (i ++ j)) H) := by
  intro pins s σ H x y v u Q I rx ry h
  obtain ⟨i, j, rfl, rfl, hz, q⟩ := h
  obtain ⟨t, rfl⟩ := rx
  obtain ⟨t', rfl⟩ := ry
  exact add_str (fun t' tk => ⟨.str (i ++ j), H, I.tok _, ⟨_, rfl⟩, q⟩) hz
theorem iop_add_str : OpR X (inplaceOp .Add) (fun x y H Q => ∃ i j, x = .str i ∧ y = .str j ∧ i.length + j.length ≤ sizeLine ∧ Q (.str (i ++ j)) H) := by
  intro pins s σ H x y v u Q I rx ry h
  obtain ⟨i, j, rfl, rfl, hz, q⟩ := h
  obtain ⟨t, rfl⟩ := rx
  obtain ⟨t', rfl⟩ := ry
  exact iadd_str (fun t' tk => ⟨.str (i ++ j), H, I.tok _, ⟨_, rfl⟩, q⟩) hz
theorem op_add_byt : OpR X (binaryOp .Add) (fun x y H Q => ∃ i j, x = .byt i ∧ y = .byt j ∧ i.size + j.size ≤ 16777216 ∧ Q (.byt (i ++ j)) H) := by
  intro pins s σ H x y v u Q I rx ry h
  obtain ⟨i, j, rfl, rfl, hz, q⟩ := h
  obtain ⟨t, rfl⟩ := rx
  obtain ⟨t', rfl⟩ := ry
  exact PySem.W.KBy.add_bytes hz (fun t' tk => ⟨.byt (i ++ j), H, I.tok _, ⟨_, rfl⟩, q⟩)

def PlainIxT (b : Expr) : Prop := ∀ o i, subscripted b false o i = operate [o, i] (getItem o i)
/-- s[i], 0 ≤ i < len -/
theorem pe_item_str (ha : PE X a ta) (hb : PE X b tb) (hs : PlainIxT b) :
    PE X (.Subscript a b pos) (tOp (fun x y H Q => ∃ z i c, x = .str z ∧ y = .int i ∧ 0 ≤ i ∧ i < 2 ^ 63 ∧ i < z.length ∧ z.cps[i.toNat]? = some c ∧ Q (.str ⟨#[c]⟩) H) ta tb) := by
  intro pins s σ H Q I h
  refine Subscript_ (binT ha hb I h fun v u s2 x y H2 I2 rx ry q => ?_)
  obtain ⟨z, i, c, rfl, rfl, h0, h63, h1, hc, q⟩ := q
  obtain ⟨t, rfl⟩ := rx
  obtain ⟨t', rfl⟩ := ry
  have e : seqIndex? i z.length = some i.toNat := PySem.StrLaws.seqIndex_nonneg h0 h1
  exact tail_any (typeIs_str s2 z t) slot_str_getitem.lookup (getItem_str (c := c) (by
    have e1 : decide (i < -(2 ^ 63 : Int)) = false := decide_eq_false (by omega)
    have e2 : decide (i ≥ 2 ^ 63) = false := decide_eq_false (by omega)
    rw [e1, e2] <;> rfl) (by rw [e]; exact hc) ⟨.str ⟨#[c]⟩, H2, I2.tok _, ⟨_, rfl⟩, q⟩) (hs _ _)
/-- b[i], 0 ≤ i < len -/
theorem pe_item_byt (ha : PE X a ta) (hb : PE X b tb) (hs : PlainIxT b) :
    PE X (.Subscript a b pos) (tOp (fun x y H Q => ∃ (z : List UInt8) (i : Int), x = .byt z.toArray ∧ y = .int i ∧ z.length ≤ sizeLine ∧ 0 ≤ i ∧ i < z.length ∧ Q (.int ((z.getD i.toNat 0).toNat : Nat)) H) ta tb) := by
  intro pins s σ H Q I h
  refine Subscript_ (binT ha hb I h fun v u s2 x y H2 I2 rx ry q => ?_)
  obtain ⟨z, i, rfl, rfl, hz, h0, h1, q⟩ := q
  obtain ⟨t, rfl⟩ := rx
  obtain ⟨t', rfl⟩ := ry
  have hl : sizeLine = 16777216 := sizeLine_eq
  exact tail_any (PySem.W.typeIs_bytes s2 z.toArray t) PySem.W.FB.slot_bytes_getitem.lookup (PySem.W.getItem_bytes (by omega) h0 h1 ⟨.int ((z.getD i.toNat 0).toNat : Nat), H2, I2.tok _, ⟨_, rfl⟩, q⟩) (hs _ _)

/-! ### scalar builtins, by CallR -/
theorem vals1 {x : V} {us : List Value} (r : Vals [x] us) : ∃ u, us = [u] ∧ RelV x u := by
  cases r with
  | cons r1 r2 => cases r2; exact ⟨_, rfl, r1⟩
theorem vals2 {x y : V} {us : List Value} (r : Vals [x, y] us) : ∃ u w', us = [u, w'] ∧ RelV x u ∧ RelV y w' := by
  cases r with
  | cons r1 r2 =>
    cases r2 with
    | cons r3 r4 => cases r4; exact ⟨_, _, rfl, r1, r3⟩
theorem call_abs : CallR X (.builtin "abs") (fun xs H Q => ∃ i, xs = [.int i] ∧ Q (.int (if i < 0 then -i else i)) H) := by
  intro pins s σ H xs us Q I r h
  obtain ⟨i, rfl, q⟩ := h
  obtain ⟨u, rfl, t, rfl⟩ := vals1 r
  exact call_abs_int fun u tk => ⟨.int (if i < 0 then -i else i), H, I.tok _, ⟨_, rfl⟩, q⟩
theorem call_max2 (hc : X.calm = true) : CallR X (.builtin "max") (fun xs H Q => ∃ i j, xs = [.int i, .int j] ∧ Q (.int (if j > i then j else i)) H) := by
  intro pins s σ H xs us Q I r h
  obtain ⟨i, j, rfl, q⟩ := h
  obtain ⟨u, w', rfl, ⟨t, rfl⟩, ⟨t', rfl⟩⟩ := vals2 r
  refine max_two_ints (I.ok.hd hc) fun h' tk k => ⟨_, H, I.kept k, ?_, q⟩
  by_cases hj : j > i
  · rw [if_pos hj, if_pos hj]; exact ⟨_, rfl⟩
  · rw [if_neg hj, if_neg hj]; exact ⟨_, rfl⟩
theorem call_min2 (hc : X.calm = true) : CallR X (.builtin "min") (fun xs H Q => ∃ i j, xs = [.int i, .int j] ∧ Q (.int (if j < i then j else i)) H) := by
  intro pins s σ H xs us Q I r h
  obtain ⟨i, j, rfl, q⟩ := h
  obtain ⟨u, w', rfl, ⟨t, rfl⟩, ⟨t', rfl⟩⟩ := vals2 r
  refine min_two_ints (I.ok.hd hc) fun h' tk k => ⟨_, H, I.kept k, ?_, q⟩
  by_cases hj : j < i
  · rw [if_pos hj, if_pos hj]; exact ⟨_, rfl⟩
  · rw [if_neg hj, if_neg hj]; exact ⟨_, rfl⟩
theorem call_int1 : CallR X (.type "int") (fun xs H Q => (∃ i, xs = [.int i] ∧ Q (.int i) H) ∨ ∃ k, xs = [.bl k] ∧ Q (.int (if k then 1 else 0)) H) := by
  intro pins s σ H xs us Q I r h
  rcases h with ⟨i, rfl, q⟩ | ⟨k, rfl, q⟩
  · obtain ⟨u, rfl, t, rfl⟩ := vals1 r
    exact call_int_int ⟨.int i, H, I, ⟨_, rfl⟩, q⟩
  · obtain ⟨u, rfl, r1⟩ := vals1 r
    cases r1
    exact call_int_bool ⟨.int (if k then 1 else 0), H, I.tok _, ⟨_, rfl⟩, q⟩
theorem call_bool1 : CallR X (.type "bool") (fun xs H Q => (∃ i, xs = [.int i] ∧ Q (.bl (i != 0)) H) ∨ ∃ k, xs = [.bl k] ∧ Q (.bl k) H) := by
  intro pins s σ H xs us Q I r h
  rcases h with ⟨i, rfl, q⟩ | ⟨k, rfl, q⟩
  · obtain ⟨u, rfl, t, rfl⟩ := vals1 r
    exact call_bool_int ⟨.bl (i != 0), H, I, rfl, q⟩
  · obtain ⟨u, rfl, r1⟩ := vals1 r
    cases r1
    exact call_bool_bool ⟨.bl k, H, I, rfl, q⟩
theorem call_str_int : CallR X (.type "str") (fun xs H Q => ∃ i, xs = [.int i] ∧ i.natAbs.log2 < 1920 ∧ Q (.str (toString i)) H) := by
  intro pins s σ H xs us Q I r h
  obtain ⟨i, rfl, hz, q⟩ := h
  obtain ⟨u, rfl, t, rfl⟩ := vals1 r
  exact PySem.P.str_of_int hz ⟨.str _, H, I.tok _, ⟨_, rfl⟩, q⟩
theorem call_ord : CallR X (.builtin "ord") (fun xs H Q => ∃ x, xs = [.str x] ∧ x.length = 1 ∧ Q (.int (x.cps.getD 0 0 : Nat)) H) := by
  intro pins s σ H xs us Q I r h
  obtain ⟨x, rfl, hz, q⟩ := h
  obtain ⟨u, rfl, t, rfl⟩ := vals1 r
  exact ord_of_one hz ⟨.int _, H, I.tok _, ⟨_, rfl⟩, q⟩
theorem call_chr : CallR X (.builtin "chr") (fun xs H Q => ∃ i, xs = [.int i] ∧ 0 ≤ i ∧ i ≤ 1114111 ∧ Q (.str ⟨#[i.toNat]⟩) H) := by
  intro pins s σ H xs us Q I r h
  obtain ⟨i, rfl, h0, h1, q⟩ := h
  obtain ⟨u, rfl, t, rfl⟩ := vals1 r
  exact chr_of_range h0 h1 ⟨.str _, H, I.tok _, ⟨_, rfl⟩, q⟩
/-- len of a str, a bytes, a list, a tuple -/
def LenV (K : PySem.W.Frag) (x : V) (H : Hp) (n : Nat) : Prop :=
  match x with
  | .str y => y.length ≤ sizeLine ∧ n = y.length
  | .byt y => y.size ≤ sizeLine ∧ n = y.size
  | .ref p => (∃ xs, SqL K H p xs ∧ n = xs.length) ∨ ∃ xs, SqT K H p xs ∧ n = xs.length
  | _ => False
theorem call_len : CallR X (.builtin "len") (fun xs H Q => ∃ x n, xs = [x] ∧ LenV X.K x H n ∧ Q (.int n) H) := by
  intro pins s σ H xs us Q I r h
  obtain ⟨x, n, rfl, e, q⟩ := h
  obtain ⟨u, rfl, rx⟩ := vals1 r
  have hl := line63
  have hs : sizeLine = 16777216 := sizeLine_eq
  cases x with
  | str y =>
    obtain ⟨t, rfl⟩ := rx
    obtain ⟨hy, e'⟩ : y.length ≤ sizeLine ∧ n = y.length := e
    subst e'
    exact len_str (by omega) ⟨.int _, H, I.tok _, ⟨_, rfl⟩, q⟩
  | byt y =>
    obtain ⟨t, rfl⟩ := rx
    obtain ⟨hy, e'⟩ : y.size ≤ sizeLine ∧ n = y.size := e
    subst e'
    exact PySem.W.len_bytes (by omega) ⟨.int _, H, I.tok _, ⟨_, rfl⟩, q⟩
  | ref p =>
    cases rx
    have e' : (∃ xs, SqL X.K H p xs ∧ n = xs.length) ∨ ∃ xs, SqT X.K H p xs ∧ n = xs.length := e
    rcases e' with ⟨xs, hx, e'⟩ | ⟨xs, hx, e'⟩
    · subst e'
      obtain ⟨its, r', pl, hz⟩ := I.list hx
      have hlen := r'.length
      exact Calls.call_len_list pl.isList (by simp only [List.size_toArray]; omega) ⟨.int xs.length, H, I.tok _, ⟨_, by simp only [List.size_toArray]; rw [hlen]⟩, q⟩
    · subst e'
      obtain ⟨its, r', pl, hz⟩ := I.tuple hx
      have hlen := r'.length
      exact len_tuple pl (by simp only [List.size_toArray]; omega) ⟨.int xs.length, H, I.tok _, ⟨_, by simp only [List.size_toArray]; rw [hlen]⟩, q⟩
  | _ => exact (show False from e).elim
/-- divmod: a new tuple -/
theorem call_divmod : CallR X (.builtin "divmod") (fun xs H Q => ∃ i j, xs = [.int i, .int j] ∧ CDiv i j ∧ ∀ p, H p = none → Q (.ref p) (upd H p (.tup [.int (i / j), .int (i % j)]))) := by
  intro pins s σ H xs us Q I r h
  obtain ⟨i, j, rfl, ⟨h1, h2⟩, q⟩ := h
  obtain ⟨u, w', rfl, ⟨t, rfl⟩, ⟨t', rfl⟩⟩ := vals2 r
  refine divmod_int (by omega) ?_ (.inl (PyProof.noPylong_small (by omega)))
  rw [Int.fdiv_eq_ediv_of_nonneg i (by omega), Int.fmod_eq_emod_of_nonneg i (by omega)]
  have hn : H s.heap.objs.size = none := I.hok.fresh (Nat.le_refl _)
  refine ⟨.ref s.heap.objs.size, _, ?_, rfl, q _ hn⟩
  refine I.laid (fun b o e => Heap.get?_push_of_some _ e) (Nat.le_refl _) ⟨by simp only [List.length_cons, List.length_nil]; rw [sizeLine_eq]; decide, [.int (i / j) s.toks, .int (i % j) (s.toks + 1)], .cons ⟨_, rfl⟩ (.cons ⟨_, rfl⟩ .nil), ?_⟩
  exact ⟨_, Heap.get?_push_size s.heap rfl, rfl, 0, rfl⟩
end
end L2

namespace L2
open PySem PySem.Spec PyProof.Rows

/-! ### an instance, its attributes a map -/
structure ObjM (h : Heap) (x dx C : Addr) (mA : Str → Option Value) : Prop where
  obj : h.get? x = some (PySem.W.instObj C dx)
  ns : h.Ns1 dx mA
  ne : dx ≠ x

theorem lookIn_ns {h : Heap} {dx : Addr} {mA : Str → Option Value} (n : h.Ns1 dx mA) : ∃ od, h.get? dx = some od ∧ ∀ name, PySem.W.lookIn name od = some (mA name) := by
  obtain ⟨o, es, ep, ho, hd, hk, _, hm⟩ := n
  refine ⟨o, ho, fun name => ?_⟩
  have e := hm name
  unfold nsFind findBy at e
  rw [← Array.find?_toList] at e
  unfold PySem.W.lookIn
  rw [hd]
  dsimp only
  split
  · rename_i y q
    rw [q] at e
    exact congrArg some e
  · rename_i q
    rw [q] at e
    have a : es.toList.any (·.refKey) = false := by
      rw [List.any_eq_false]
      intro y hy
      obtain ⟨z, t, hkey⟩ := hk y (Array.mem_toList_iff.mp hy)
      simp [DictEntry.refKey, hkey]
    have a' : ¬ es.toList.any (·.refKey) = true := by rw [a]; exact Bool.false_ne_true
    rw [if_neg a']
    exact congrArg some e

theorem ObjM.look {h : Heap} {x dx C : Addr} {mA : Str → Option Value} (I : ObjM h x dx C mA) : ∃ od, PySem.W.InstAt h x (PySem.W.instObj C dx) C (some od) ∧ ∀ name, PySem.W.lookIn name od = some (mA name) :=
  let ⟨od, ho, hl⟩ := lookIn_ns I.ns
  ⟨od, ⟨I.obj, rfl, rfl, ho⟩, hl⟩

section
variable {prog : Program} {w : World} {A : Around} {E : Value → Shared → Prop} {s : Shared} {K : PySem.W.Frag} {x dx C f : Addr} {mA : Str → Option Value} {name : Str} {v : Value}

theorem get_map {expr : Bool} {Q : Value → Shared → Prop} (X : K.In s.heap) (I : ObjM s.heap x dx C mA) (hg : PySem.W.plainGet K C name = true) (hh : PySem.W.hasDictIn K C = true)
    (ha : PySem.W.findIn K (.ref C) name = some none) (hv : mA name = some v) (hv' : PySem.W.handedIn v = true) (h : Q v { s with toks := s.toks + 1 }) :
    wpAny (model prog w) A (getAttr (.ref x) name expr) Q E s := by
  obtain ⟨od, J, hl⟩ := I.look
  exact PySem.W.get_value X J (PySem.W.plainGet_of hg).1 (PySem.W.findObj_own hh ha rfl (by rw [hl, hv])) hv' h

theorem get_const {expr : Bool} {a : Value} {Q : Value → Shared → Prop} (X : K.In s.heap) (I : ObjM s.heap x dx C mA) (hg : PySem.W.plainGet K C name = true) (hh : PySem.W.hasDictIn K C = true)
    (ha : PySem.W.findIn K (.ref C) name = some (some a)) (hn : PySem.W.specialIn K a "__get__" = some none) (hc : PySem.W.copiedNames.contains name = false) (hv : mA name = none) (hv' : PySem.W.handedIn a = true)
    (h : Q a { s with toks := s.toks + 1 }) : wpAny (model prog w) A (getAttr (.ref x) name expr) Q E s := by
  obtain ⟨od, J, hl⟩ := I.look
  exact PySem.W.get_value X J (PySem.W.plainGet_of hg).1 (PySem.W.findObj_cls hh ha hn hv' hc (by rw [hl, hv])) hv' h

theorem get_meth {pl : Sem Bool} {Q : Value × List Value → Shared → Prop} (X : K.In s.heap) (I : ObjM s.heap x dx C mA) (hg : PySem.W.plainGet K C name = true)
    (hf : PySem.W.findIn K (.ref C) name = some (some (.ref f))) (ht : PySem.W.isFn K (.ref f) = true) (hv : mA name = none) (h : Q (.ref f, [.ref x]) s) :
    wpAny (model prog w) A (getMethod (.ref x) name pl) Q E s := by
  obtain ⟨od, J, hl⟩ := I.look
  exact PySem.W.method_fn X J (PySem.W.plainGet_of hg).1 (PySem.W.plainGet_of hg).2 hf (beq_iff_eq.mp ht) (by show (PySem.W.lookIn name od).map (·.isSome) = some false; rw [hl, hv]; rfl) h

theorem set_map {ns : List Str} {Q : Unit → Shared → Prop} (X : K.In s.heap) (I : ObjM s.heap x dx C mA)
    (hs : PySem.W.findIn K (.ref C) "__setattr__" = some (some (.builtin "object.__setattr__"))) (hp : PySem.W.plainOver K C = true) (ht : PySem.W.takerIn K C name = some none) (hh : PySem.W.hasDictIn K C = true)
    (hw : PySem.Within mA ns) (hsz : ns.length ≤ sizeLine)
    (h : ∀ h', ObjM h' x dx C (fun y => if y = name then some v else mA y) → Heap.SameBut dx s.heap h' → Q () { s with heap := h', toks := s.toks + 2 }) :
    wpAny (model prog w) A (setAttr (.ref x) name v) Q E s := by
  obtain ⟨od, J, hl⟩ := I.look
  refine PySem.W.set_plain X J hs (PySem.W.osa_open (s := { s with toks := s.toks + 1 }) (r := none) X J hp ht fun b => ?_)
  obtain ⟨cd, hc, hd'⟩ := PySem.W.any_some hh
  have hx : s.heap.get? x = some ⟨.ref C, some dx, .plain, #[]⟩ := I.obj
  refine wpAny_bind (wpAny_pure (wpAny_bind (wpAny_bind (wpAny_loadPart hx (wpAny_bind (PySem.W.Looks.here (s := { s with toks := s.toks + 1 }) (PySem.W.looks_clsIn X hc) ?_))))))
  rw [hd']
  refine wpAny_pure (a := some dx) (wpAny_bind (wpAny_pure (wpAny_bind ?_)))
  refine wpAny_nsSet1 (s := { s with toks := s.toks + 1 }) I.ns fun h' hn2 hs2 => ?_
  obtain ⟨oD, esD, epD, hoD, hdD, hcD⟩ := hn2.count (PySem.Within.cons name v hw)
  refine wpAny_bind (wpAny_lookBehind hoD (by rw [hdD]; exact pastItsLine_dict (Nat.le_trans hcD (by rw [List.length_cons]; omega))) ?_)
  exact wpAny_pure (h _ ⟨(hs2.2 _ (Ne.symm I.ne)).trans I.obj, hn2, I.ne⟩ hs2)

/-- C(..): the dict at the heap's end, the instance behind it; then its __init__ -/
theorem make_map {R : Result → Shared → Prop} {vs : List Value} {kw : List (Str × Value)} (X : K.In s.heap) (hm : PySem.W.makesIn K C = true)
    (hi : PySem.W.findIn K (.ref C) "__init__" = some (some (.ref f))) (hf : PySem.W.typeIn K (.ref f) = some (.type "function"))
    (h : codeAny (model prog w) (A.under (.builtin "type.__call__" ⟨.ref C :: vs, kw⟩)) (.call (.ref f) ⟨.ref (s.heap.objs.size + 1) :: vs, kw⟩) (PySem.W.InitBack (s.heap.objs.size + 1) R)
      { s with heap := (s.heap.push PySem.W.emptyDict).push (PySem.W.instObj C s.heap.objs.size) }) :
    codeAny (model prog w) A (.call (.ref C) ⟨vs, kw⟩) R s := by
  obtain ⟨hh, g, d, t, os⟩ := s
  exact PySem.W.make_core (PySem.W.makes_of X hm) (PySem.W.looks_findIn X hi) (fun self => PySem.W.bind_fn X self hf) (.inl rfl) h
/-- C() where there is no __init__ but object's -/
theorem make_map0 {R : Result → Shared → Prop} (X : K.In s.heap) (hm : PySem.W.makesIn K C = true)
    (hi : PySem.W.findIn K (.ref C) "__init__" = some (some (.builtin "object.__init__")))
    (hb : ∀ self, PySem.W.Looks (model prog w) s.heap (bindSpecial (.builtin "object.__init__") self) (.builtin "object.__init__", [self]))
    (h : codeAny (model prog w) (A.under (.builtin "type.__call__" ⟨[.ref C], []⟩)) (.call (.builtin "object.__init__") ⟨[.ref (s.heap.objs.size + 1)], []⟩) (PySem.W.InitBack (s.heap.objs.size + 1) R)
      { s with heap := (s.heap.push PySem.W.emptyDict).push (PySem.W.instObj C s.heap.objs.size) }) :
    codeAny (model prog w) A (.call (.ref C) ⟨[], []⟩) R s := by
  obtain ⟨hh, g, d, t, os⟩ := s
  exact PySem.W.make_core (PySem.W.makes_of X hm) (PySem.W.looks_findIn X hi) hb (.inr ⟨rfl, rfl⟩) h
end

/-! ### the attributes as a list of pairs -/
def putF (f : Str) (v : V) : List (Str × V) → List (Str × V)
  | [] => [(f, v)]
  | (g, x) :: r => if g = f then (g, v) :: r else (g, x) :: putF f v r
theorem lookup_putF (f g : Str) (v : V) : ∀ fs : List (Str × V), (putF f v fs).lookup g = if g = f then some v else fs.lookup g
  | [] => by
    show List.lookup g [(f, v)] = _
    by_cases h : g = f
    · have hb : (g == f) = true := beq_iff_eq.mpr h
      simp only [List.lookup, hb, if_pos h]
    · have hb : (g == f) = false := beq_eq_false_iff_ne.mpr h
      simp only [List.lookup, hb, if_neg h]
  | (k, x) :: r => by
    have ih := lookup_putF f g v r
    rw [show putF f v ((k, x) :: r) = (if k = f then (k, v) :: r else (k, x) :: putF f v r) from rfl]
    by_cases hk : k = f
    · rw [if_pos hk]
      by_cases h : g = k
      · have hb : (g == k) = true := beq_iff_eq.mpr h
        simp only [List.lookup, hb, if_pos (h.trans hk)]
      · have hb : (g == k) = false := beq_eq_false_iff_ne.mpr h
        simp only [List.lookup, hb, if_neg (fun e : g = f => h (e.trans hk.symm))]
    · rw [if_neg hk]
      by_cases h : g = k
      · have hb : (g == k) = true := beq_iff_eq.mpr h
        simp only [List.lookup, hb, if_neg (fun e : g = f => hk (h.symm.trans e))]
      · have hb : (g == k) = false := beq_eq_false_iff_ne.mpr h
        simp only [List.lookup, hb]
        exact ih
theorem keys_putF (f : Str) (v : V) : ∀ fs : List (Str × V), f ∈ (putF f v fs).map (·.1) ∧ ∀ g, g ∈ fs.map (·.1) → g ∈ (putF f v fs).map (·.1)
  | [] => ⟨by simp [putF], fun g h => by simp at h⟩
  | (k, x) :: r => by
    obtain ⟨i1, i2⟩ := keys_putF f v r
    rw [show putF f v ((k, x) :: r) = (if k = f then (k, v) :: r else (k, x) :: putF f v r) from rfl]
    by_cases hk : k = f
    · rw [if_pos hk]
      subst hk
      exact ⟨by simp, fun g h => by simpa using h⟩
    · rw [if_neg hk]
      refine ⟨?_, fun g h => ?_⟩
      · rw [List.map_cons]
        exact List.mem_cons_of_mem _ i1
      · rw [List.map_cons] at h ⊢
        rcases List.mem_cons.mp h with e | e
        · exact List.mem_cons.mpr (.inl e)
        · exact List.mem_cons_of_mem _ (i2 g e)
theorem length_putF (f : Str) (v : V) : ∀ fs : List (Str × V), (putF f v fs).length ≤ fs.length + 1
  | [] => by simp [putF]
  | (k, x) :: r => by
    have ih := length_putF f v r
    rw [show putF f v ((k, x) :: r) = (if k = f then (k, v) :: r else (k, x) :: putF f v r) from rfl]
    by_cases hk : k = f
    · rw [if_pos hk, List.length_cons, List.length_cons]; omega
    · rw [if_neg hk, List.length_cons, List.length_cons]; omega

theorem RelO.some_of {v : V} {o : Option Value} (r : RelO (some v) o) : ∃ u, o = some u ∧ RelV v u := by
  cases o with
  | none => exact (show False from r).elim
  | some u => exact ⟨u, rfl, r⟩
theorem RelO.none_of {o : Option Value} (r : RelO none o) : o = none := by
  cases o with
  | none => rfl
  | some u => exact (show False from r).elim
theorem handed_of {v : V} {u : Value} (r : RelV v u) : PySem.W.handedIn u = true := by
  cases v with
  | non => cases (show u = Value.none from r); rfl
  | bl b => cases (show u = Value.bool b from r); rfl
  | int i => obtain ⟨t, e⟩ := (show ∃ t, u = Value.int i t from r); cases e; rfl
  | str x => obtain ⟨t, e⟩ := (show ∃ t, u = Value.str x t from r); cases e; rfl
  | byt b => obtain ⟨t, e⟩ := (show ∃ t, u = Value.bytes b t from r); cases e; rfl
  | flt b => obtain ⟨t, e⟩ := (show ∃ t, u = Value.float b t from r); cases e; rfl
  | ref a => cases (show u = Value.ref a from r); rfl
  | ty n => cases (show u = Value.type n from r); rfl

section
variable {P : Program} {w : World} {H H' : Hp} {h h' : Heap} {a C dx : Addr} {fs fs' : List (Str × V)}
theorem ins_get (hok : HOk P w H h) (e : H a = some (.ins C dx fs)) : ∃ mA, ObjM h a dx C mA ∧ (∀ f, RelO (fs.lookup f) (mA f)) ∧ PySem.Within mA (fs.map (·.1)) ∧ fs.length ≤ 1000 ∧ H dx = some (.own a) := by
  obtain ⟨d, z, ne, ob, mA, n, r, q⟩ := (show ObjOk P w H h a (.ins C dx fs) from hok a _ e)
  exact ⟨mA, ⟨ob, n, ne⟩, r, q, z, d⟩
end

/-! ### what of the text a class must have -/
structure Cls (K : PySem.W.Frag) (C : Addr) : Prop where
  pg : PySem.W.plainGet K C Str.empty = true
  hd : PySem.W.hasDictIn K C = true
  po : PySem.W.plainOver K C = true
  sa : PySem.W.findIn K (.ref C) "__setattr__" = some (some (.builtin "object.__setattr__"))
theorem Cls.get {K : PySem.W.Frag} {C : Addr} (c : Cls K C) (f : Str) : PySem.W.plainGet K C f = true := c.pg
/-- no class of it has the name -/
def NoAttr (K : PySem.W.Frag) (C : Addr) (f : Str) : Prop := PySem.W.findIn K (.ref C) f = some none
theorem NoAttr.taker {K : PySem.W.Frag} {C : Addr} {f : Str} (n : NoAttr K C f) : PySem.W.takerIn K C f = some none := by
  unfold PySem.W.takerIn
  rw [show PySem.W.findIn K (.ref C) f = some none from n]
  rfl
/-- a constant of the class -/
structure Con (K : PySem.W.Frag) (C : Addr) (f : Str) (v : V) (u : Value) : Prop where
  at_ : PySem.W.findIn K (.ref C) f = some (some u)
  rel : RelV v u
  get : PySem.W.specialIn K u "__get__" = some none
  cp : PySem.W.copiedNames.contains f = false
/-- a method: a plain def of the class or of one above it -/
structure Meth (K : PySem.W.Frag) (C : Addr) (m : Str) (f : Addr) : Prop where
  at_ : PySem.W.findIn K (.ref C) m = some (some (.ref f))
  fn : PySem.W.isFn K (.ref f) = true
  kp : PySem.W.keepIn K (.ref f) = true

section
variable {X : Cx} {pins : List (Addr × Obj)} {σ : St} {H : Hp} {s : Shared} {a C dx : Addr} {fs : List (Str × V)} {f : Str} {v : V} {A : Around} {E : Value → Shared → Prop}

theorem getattr_ok {b : Bool} {Q : Value → Shared → Prop} (I : Inv X pins σ H s) (e : H a = some (.ins C dx fs)) (c : Cls X.K C) (n : NoAttr X.K C f) (l : fs.lookup f = some v)
    (h : ∀ u s', Inv X pins σ H s' → RelV v u → Q u s') : wpAny (model X.prog X.w) A (getAttr (.ref a) f b) Q E s := by
  obtain ⟨mA, O, r, _, _, _⟩ := ins_get I.hok e
  obtain ⟨u, hu, ru⟩ := RelO.some_of (v := v) (o := mA f) (by rw [← l]; exact r f)
  exact get_map I.kIn O (c.get f) c.hd n hu (handed_of ru) (h u _ (I.tok _) ru)

theorem getcon_ok {b : Bool} {u : Value} {Q : Value → Shared → Prop} (I : Inv X pins σ H s) (e : H a = some (.ins C dx fs)) (c : Cls X.K C) (k : Con X.K C f v u) (l : fs.lookup f = none)
    (h : ∀ s', Inv X pins σ H s' → Q u s') : wpAny (model X.prog X.w) A (getAttr (.ref a) f b) Q E s := by
  obtain ⟨mA, O, r, _, _, _⟩ := ins_get I.hok e
  have hn : mA f = none := RelO.none_of (by rw [← l]; exact r f)
  exact get_const I.kIn O (c.get f) c.hd k.at_ k.get k.cp hn (handed_of k.rel) (h _ (I.tok _))

theorem getmeth_ok {m : Str} {g : Addr} {pl : Sem Bool} {Q : Value × List Value → Shared → Prop} (I : Inv X pins σ H s) (e : H a = some (.ins C dx fs)) (c : Cls X.K C) (k : Meth X.K C m g) (l : fs.lookup m = none)
    (h : Q (.ref g, [.ref a]) s) : wpAny (model X.prog X.w) A (getMethod (.ref a) m pl) Q E s := by
  obtain ⟨mA, O, r, _, _, _⟩ := ins_get I.hok e
  have hn : mA m = none := RelO.none_of (by rw [← l]; exact r m)
  exact get_meth I.kIn O (c.get m) k.at_ k.fn hn h

theorem setattr_ok {y : V} {u : Value} {Q : Unit → Shared → Prop} (I : Inv X pins σ H s) (e : H a = some (.ins C dx fs)) (c : Cls X.K C) (n : NoAttr X.K C f) (hl : fs.length < 1000) (ry : RelV y u)
    (h : ∀ s', Inv X pins σ (upd H a (.ins C dx (putF f y fs))) s' → Q () s') : wpAny (model X.prog X.w) A (setAttr (.ref a) f u) Q E s := by
  obtain ⟨mA, O, r, wi, _, ho⟩ := ins_get I.hok e
  have hz : (fs.map (·.1)).length ≤ sizeLine := by rw [List.length_map, sizeLine_eq]; omega
  refine set_map I.kIn O c.sa c.po n.taker c.hd wi hz fun h' O' sb => h _ ?_
  have hd : ∃ o, h'.get? dx = some o := let ⟨o, _, _, e', _⟩ := O'.ns; ⟨o, e'⟩
  refine I.write (x := a) (e := dx) (by rw [e]; exact True.intro) (.inr ho) (fun b q hb z => (sb.2 b hb).trans z) hd ?_
  refine ⟨by rw [upd_ne O.ne]; exact ho, ?_, O.ne, O'.obj, _, O'.ns, fun g => ?_, fun g hg => ?_⟩
  · have := length_putF f y fs; omega
  · show RelO ((putF f y fs).lookup g) (if g = f then some u else mA g)
    rw [lookup_putF]
    by_cases q : g = f
    · rw [if_pos q, if_pos q]; exact ry
    · rw [if_neg q, if_neg q]; exact r g
  · by_cases q : g = f
    · rw [q]; exact (keys_putF f y fs).1
    · refine (keys_putF f y fs).2 g (wi g fun z => hg ?_)
      show (if g = f then some u else mA g) = none
      rw [if_neg q]; exact z

/-- a new instance, tracked, without attributes -/
theorem Inv.made (I : Inv X pins σ H s) : Inv X pins σ (upd (upd H s.heap.objs.size (.own (s.heap.objs.size + 1))) (s.heap.objs.size + 1) (.ins C s.heap.objs.size []))
    { s with heap := (s.heap.push PySem.W.emptyDict).push (PySem.W.instObj C s.heap.objs.size) } := by
  have e1 : (s.heap.push PySem.W.emptyDict).get? s.heap.objs.size = some PySem.W.emptyDict := Heap.get?_push_size s.heap rfl
  have e2 : ((s.heap.push PySem.W.emptyDict).push (PySem.W.instObj C s.heap.objs.size)).get? (s.heap.objs.size + 1) = some (PySem.W.instObj C s.heap.objs.size) := by
    have := Heap.get?_push_size (s.heap.push PySem.W.emptyDict) (o := PySem.W.instObj C s.heap.objs.size) rfl
    rwa [Heap.size_push] at this
  have e3 : (s.heap.push PySem.W.emptyDict).Ns s.heap.objs.size (fun _ => none) := ⟨PySem.W.emptyDict, #[], _, e1, rfl, (fun e he => absurd he (by simp)), fun _ => rfl⟩
  have I1 := I.laid (a := s.heap.objs.size) (o := .own (s.heap.objs.size + 1)) (h' := s.heap.push PySem.W.emptyDict) (t' := s.toks) (fun b u q => Heap.get?_push_of_some _ q) (Nat.le_refl _) ⟨_, e1⟩
  refine I1.laid (a := s.heap.objs.size + 1) (o := .ins C s.heap.objs.size []) (t' := s.toks) (fun b u q => Heap.get?_push_of_some _ q) (Nat.le_of_eq (Heap.size_push _ _)) ?_
  have ne : s.heap.objs.size ≠ s.heap.objs.size + 1 := Nat.ne_of_lt (Nat.lt_succ_self _)
  refine ⟨by rw [upd_ne ne, upd_same], Nat.zero_le _, ne, e2, fun _ => none, (Heap.Ns1.of_empty e3).at fun o q => Heap.get?_push_of_some _ q, fun _ => True.intro, fun y hy => absurd rfl hy⟩

/-- e.f where nothing but the object is asked: through attributeBase (super) and the last hold -/
theorem attr_of {prog : Program} {w : World} {env : Env} {e : Expr} {f : Str} {pos : Pos} {s : Shared} {Q : Value → Shared → Prop} (hb : attributeBase e f env (eval e env) = eval e env)
    (h : wpAny (model prog w) A (eval e env) (fun o s₁ => wpAny (model prog w) A (getAttr o f true) Q E s₁) E s) : wpAny (model prog w) A (eval (.Attribute e f pos) env) Q E s :=
  Attribute_any_ h (by rw [arm_eval_Attribute, hb])
end

/-! ### readings and rules -/
/-- e.f, an attribute of the instance -/
def tFld (K : PySem.W.Frag) (ta : TE) (f : Str) : TE := fun σ H Q => ta σ H fun x H1 => ∃ a C dx fs v, x = .ref a ∧ H1 a = some (.ins C dx fs) ∧ Cls K C ∧ NoAttr K C f ∧ fs.lookup f = some v ∧ Q v H1
/-- e.f, a constant of the class -/
def tCon (K : PySem.W.Frag) (ta : TE) (f : Str) : TE := fun σ H Q => ta σ H fun x H1 => ∃ a C dx fs v u, x = .ref a ∧ H1 a = some (.ins C dx fs) ∧ Cls K C ∧ Con K C f v u ∧ fs.lookup f = none ∧ Q v H1
/-- e.f = value -/
def sFld (K : PySem.W.Frag) (ta tv : TE) (f : Str) : TS := fun D σ H => tv σ H fun y H1 => ta σ H1 fun x H2 => ∃ a C dx fs, x = .ref a ∧ H2 a = some (.ins C dx fs) ∧ Cls K C ∧ NoAttr K C f ∧ fs.length < 1000 ∧
  D.nx σ (upd H2 a (.ins C dx (putF f y fs)))
/-- an augmented operator on two values -/
def InOp (X : Cx) (op : Operator) (rd : V → V → Hp → VK → Prop) : Prop :=
  ∀ (pins : List (Addr × Obj)) (s : Shared) (σ : St) (H : Hp) (x y : V) (u v : Value) (Q : VK), Inv X pins σ H s → RelV x u → RelV y v → rd x y H Q → wpAny (model X.prog X.w) X.A (inplaceOp op u v) (EP X pins σ Q) X.xe s
/-- e.f op= value -/
def sFldAug (K : PySem.W.Frag) (ta tv : TE) (rd : V → V → Hp → VK → Prop) (f : Str) : TS := fun D σ H => ta σ H fun x H1 => ∃ a C dx fs v, x = .ref a ∧ H1 a = some (.ins C dx fs) ∧ Cls K C ∧ NoAttr K C f ∧ fs.lookup f = some v ∧
  tv σ H1 fun y H2 => rd v y H2 fun z H3 => ∃ dx' fs', H3 a = some (.ins C dx' fs') ∧ fs'.length < 1000 ∧ D.nx σ (upd H3 a (.ins C dx' (putF f z fs')))

section
variable {X : Cx} {o e value : Expr} {f : Str} {pos pos' tpos : Pos} {ta tv : TE}
theorem pe_fld (he : PE X e ta) (hb : attributeBase e f X.env (eval e X.env) = eval e X.env) : PE X (.Attribute e f pos) (tFld X.K ta f) := by
  intro pins s σ H Q I h
  refine attr_of hb (thn (he pins s σ H _ I h) fun u s1 ⟨x, H1, I1, rx, a, C, dx, fs, v, ex, ea, c, n, l, q⟩ => ?_)
  subst ex
  obtain rfl : u = Value.ref a := rx
  exact getattr_ok I1 ea c n l fun u' s2 I2 ru => ⟨v, H1, I2, ru, q⟩
theorem pe_con (he : PE X e ta) (hb : attributeBase e f X.env (eval e X.env) = eval e X.env) : PE X (.Attribute e f pos) (tCon X.K ta f) := by
  intro pins s σ H Q I h
  refine attr_of hb (thn (he pins s σ H _ I h) fun u s1 ⟨x, H1, I1, rx, a, C, dx, fs, v, u0, ex, ea, c, k, l, q⟩ => ?_)
  subst ex
  obtain rfl : u = Value.ref a := rx
  exact getcon_ok I1 ea c k l fun s2 I2 => ⟨v, H1, I2, k.rel, q⟩
theorem ps_fld (ha : PE X o ta) (hv : PE X value tv) (hs : swapsWith value (some (.Attribute o f pos')) pos.line X.env = pure false) : PS X (.Assign [.Attribute o f pos'] value pos) (sFld X.K ta tv f) := by
  intro pins s σ H D I h
  refine plainObj_wpAny_Assign_Attribute (thn (hv pins s σ H _ I h) fun u s1 ⟨y, H1, I1, ry, q⟩ => thn (ha pins s1 σ H1 _ I1 q) fun ov s2 ⟨x, H2, I2, rx, a, C, dx, fs, ex, ea, c, n, l, q2⟩ => ?_) hs
  subst ex
  obtain rfl : ov = Value.ref a := rx
  exact setattr_ok I2 ea c n l ry fun s3 I3 => ⟨σ, _, I3, q2⟩
theorem ps_fldaug {op : Operator} {rd : V → V → Hp → VK → Prop} (ha : PE X o ta) (hv : PE X value tv) (hop : InOp X op rd) : PS X (.AugAssign (.Attribute o f tpos) op value pos) (sFldAug X.K ta tv rd f) := by
  intro pins s σ H D I h
  refine wpAny_AugAssign_AttributeAny (thn (ha pins s σ H _ I h) fun ov s1 ⟨x, H1, I1, rx, a, C, dx, fs, v, ex, ea, c, n, l, q⟩ => ?_)
  subst ex
  obtain rfl : ov = Value.ref a := rx
  refine getattr_ok I1 ea c n l fun u s2 I2 ru => thn (hv pins s2 σ H1 _ I2 q) fun w3 s3 ⟨y, H2, I3, ry, q3⟩ => thn (hop pins s3 σ H2 v y u w3 _ I3 ru ry q3) fun w4 s4 ⟨z, H3, I4, rz, dx', fs', ea', l', q4⟩ => ?_
  exact setattr_ok I4 ea' c n l' rz fun s5 I5 => ⟨σ, _, I5, q4⟩
def rAdd : V → V → Hp → VK → Prop := fun x y H Q => ∃ i j, x = .int i ∧ y = .int j ∧ Q (.int (i + j)) H
def rSub : V → V → Hp → VK → Prop := fun x y H Q => ∃ i j, x = .int i ∧ y = .int j ∧ Q (.int (i - j)) H
theorem in_add : InOp X .Add rAdd := by
  rintro pins s σ H x y u v Q I rx ry ⟨i, j, rfl, rfl, q⟩
  obtain ⟨t, rfl⟩ := (show ∃ t, u = Value.int i t from rx)
  obtain ⟨t', rfl⟩ := (show ∃ t', v = Value.int j t' from ry)
  exact PyProof.Rows.iadd_int ⟨.int (i + j), H, I.tok _, ⟨_, rfl⟩, q⟩
theorem in_sub : InOp X .Sub rSub := by
  rintro pins s σ H x y u v Q I rx ry ⟨i, j, rfl, rfl, q⟩
  obtain ⟨t, rfl⟩ := (show ∃ t, u = Value.int i t from rx)
  obtain ⟨t', rfl⟩ := (show ∃ t', v = Value.int j t' from ry)
  exact PyProof.Rows.isub_int ⟨.int (i - j), H, I.tok _, ⟨_, rfl⟩, q⟩

/-- what is between an instance and its method: the tree of a method call -/
theorem methcall_of {pl : Sem Bool} {m : Str} {apos : Pos} {args : List Expr} {pins : List (Addr × Obj)} {s : Shared} {σ : St} {H : Hp} {Q : Value → Shared → Prop} {te : TE} (he : PE X e te) (I : Inv X pins σ H s)
    (h : te σ H fun x H1 => ∃ a C dx fs g, x = .ref a ∧ H1 a = some (.ins C dx fs) ∧ Cls X.K C ∧ Meth X.K C m g ∧ fs.lookup m = none ∧
      ∀ s1, Inv X pins σ H1 s1 → wpAny (model X.prog X.w) X.A (callWith pos (.ref g) [.ref a] (backTo pos (starEach args X.env)) (backToKw pos (keywordEach [] X.env))) Q X.xe s1)
    (ht : eval (.Call (.Attribute e m apos) args [] pos) X.env = (do
      let ov ← eval e X.env
      standAt apos.atName
      let (f, first) ← holding [ov] (getMethod ov m pl)
      callWith pos f first (backTo pos (starEach args X.env)) (backToKw pos (keywordEach [] X.env)))) :
    wpAny (model X.prog X.w) X.A (eval (.Call (.Attribute e m apos) args [] pos) X.env) Q X.xe s := by
  refine PySem.W.methodCall_KW (pl := pl) (thn (he pins s σ H _ I h) fun u s1 ⟨x, H1, I1, rx, a, C, dx, fs, g, ex, ea, c, k, l, q⟩ => ?_) ht
  subst ex
  obtain rfl : u = Value.ref a := rx
  exact getmeth_ok I1 ea c k l (q s1 I1)
end

/-! ### isinstance -/
section
variable {X : Cx} {pins : List (Addr × Obj)} {σ : St} {H : Hp} {s : Shared} {A : Around} {E : Value → Shared → Prop} {Q : Value → Shared → Prop} {c : Value} {b : Bool}
/-- the type of a value, as the fragment's deciders take it; for an instance its class -/
inductive TyOf (K : PySem.W.Frag) (H : Hp) : V → Value → Prop where
  | non : TyOf K H .non (.type "NoneType")
  | bl (x : Bool) : TyOf K H (.bl x) (.type "bool")
  | int (i : Int) : TyOf K H (.int i) (.type "int")
  | str (x : Str) : TyOf K H (.str x) (.type "str")
  | flt (x : UInt64) : TyOf K H (.flt x) (.type "float")
  | lst {a : Addr} {xs : List V} (e : H a = some (.lst xs)) : TyOf K H (.ref a) (.type "list")
  | frz {a : Addr} {o : Obj} {xs : List V} (e : H a = some (.frz o (.lst xs))) : TyOf K H (.ref a) (.type "list")
  | tup {a : Addr} {xs : List V} (e : H a = some (.tup xs)) : TyOf K H (.ref a) (.type "tuple")
  | dK {a : Addr} {kvs : List (Key × V)} (e : H a = some (.dK kvs)) : TyOf K H (.ref a) (.type "dict")
  | dT {a : Addr} {kvs : List (List Key × V)} (e : H a = some (.dT kvs)) : TyOf K H (.ref a) (.type "dict")
  | ins {a C dx : Addr} {fs : List (Str × V)} (e : H a = some (.ins C dx fs)) (cl : Cls K C) (ha : PySem.W.findIn K (.ref C) "__class__" = some (some (.builtin "object.__class__")))
      (hn : PySem.W.specialIn K (.builtin "object.__class__") "__get__" = some (some (.builtin "getset_descriptor.__get__"))) (htk : PySem.W.takesIn K (.builtin "object.__class__") = some true)
      (hm : PySem.W.mroIn K C (.type "object") = some true) : TyOf K H (.ref a) (.ref C)
/-- isinstance(x, c) for one class c, a built-in or an own one: kitOne's answer -/
theorem isinst_ok {x : V} {u t : Value} (I : Inv X pins σ H s) (rx : RelV x u) (ty : TyOf X.K H x t) (e : PySem.W.kitOne X.K t c = some b) (h : ∀ tk, Q (.bool b) { s with toks := tk }) :
    wpAny (model X.prog X.w) A (call (.builtin "isinstance") [u, c]) Q E s := by
  cases ty with
  | non => cases (show u = Value.none from rx); exact PySem.W.kia_one PySem.W.kitx_none I.kIn True.intro e (fun z => nomatch z) h
  | bl y => cases (show u = Value.bool y from rx); exact PySem.W.kia_one PySem.W.kitx_bool I.kIn True.intro e (fun z => nomatch z) h
  | int i => obtain ⟨t, q⟩ := (show ∃ t, u = Value.int i t from rx); cases q; exact PySem.W.kia_one PySem.W.kitx_int I.kIn True.intro e (fun z => nomatch z) h
  | str y => obtain ⟨t, q⟩ := (show ∃ t, u = Value.str y t from rx); cases q; exact PySem.W.kia_one PySem.W.kitx_str I.kIn True.intro e (fun z => nomatch z) h
  | flt y => obtain ⟨t, q⟩ := (show ∃ t, u = Value.float y t from rx); cases q; exact PySem.W.kia_one PySem.W.kitx_float I.kIn True.intro e (fun z => nomatch z) h
  | @lst a xs ea =>
    cases (show u = Value.ref a from rx)
    obtain ⟨_, _, n, _, h1⟩ := (show ObjOk X.prog X.w H s.heap a (.lst xs) from I.hok a _ ea)
    exact PySem.W.kia_one PySem.W.kitx_list I.kIn ⟨_, h1, rfl⟩ e (fun z => nomatch z) h
  | @frz a ob xs ea =>
    cases (show u = Value.ref a from rx)
    obtain ⟨_, _, _, n, _, h1⟩ := (show ObjOk X.prog X.w H s.heap a (.frz ob (.lst xs)) from I.hok a _ ea)
    exact PySem.W.kia_one PySem.W.kitx_list I.kIn ⟨_, h1, rfl⟩ e (fun z => nomatch z) h
  | @tup a xs ea =>
    cases (show u = Value.ref a from rx)
    obtain ⟨_, _, _, p⟩ := (show ObjOk X.prog X.w H s.heap a (.tup xs) from I.hok a _ ea)
    obtain ⟨o, h1, h2, _⟩ := p
    exact PySem.W.kia_one PySem.W.kitx_tuple I.kIn ⟨o, h1, h2⟩ e (fun z => nomatch z) h
  | @dK a kvs ea =>
    cases (show u = Value.ref a from rx)
    obtain ⟨_, _, vs, _, p⟩ := (show ObjOk X.prog X.w H s.heap a (.dK kvs) from I.hok a _ ea)
    obtain ⟨o, es, ep, h1, h2, _⟩ := p
    exact PySem.W.kia_one PySem.W.kitx_dict I.kIn ⟨o, h1, h2.1⟩ e (fun z => nomatch z) h
  | @dT a kvs ea =>
    cases (show u = Value.ref a from rx)
    obtain ⟨_, _, xs, _, o, es, ep, h1, h2, _⟩ := (show ObjOk X.prog X.w H s.heap a (.dT kvs) from I.hok a _ ea)
    exact PySem.W.kia_one PySem.W.kitx_dict I.kIn ⟨o, h1, h2.1⟩ e (fun z => nomatch z) h
  | @ins a C dx fs ea cl ha hn htk hm =>
    cases (show u = Value.ref a from rx)
    obtain ⟨mA, O, _⟩ := ins_get I.hok ea
    obtain ⟨od, J, _⟩ := O.look
    exact PySem.W.kia_one (PySem.W.kitx_own (cl.get _) cl.hd ha hn htk hm) I.kIn J e (fun z => nomatch z) h
end
end L2

namespace L2
open PySem PySem.Spec PyProof.Rows

/-! ### room -/
structure Room (k : Nat) (A : Around) : Prop where
  hd : A.handled = none
  dp : A.depth + 3 * k + 5 < recursionLimit
  un : A.units + 16 * k + 200 < cLine
theorem Room.mono {j k : Nat} {A : Around} (r : Room k A) (h : j ≤ k) : Room j A := ⟨r.hd, by have := r.dp; omega, by have := r.un; omega⟩
theorem Room.deeper {k : Nat} {A : Around} (r : Room (k + 1) A) (env : Env) : Room k (A.deeper env) :=
  ⟨r.hd, by have := r.dp; show A.depth + 1 + 3 * k + 5 < _; omega, by have := r.un; show A.units + 3 + 16 * k + 200 < _; omega⟩
theorem Room.in1 {k : Nat} {A : Around} (r : Room (k + 1) A) : Room k A.in1 :=
  ⟨r.hd, by have := r.dp; show A.depth + 3 * k + 5 < _; omega, by have := r.un; show A.units + 1 + 16 * k + 200 < _; omega⟩
theorem make_depth {A : Around} {C : Addr} {us : List Value} {kw : List (Str × Value)} : (A.under (.builtin "type.__call__" ⟨.ref C :: us, kw⟩)).depth = A.depth + 1 := by
  first | rfl | simp [Around.under, Code.weight, Code.isCreation, Code.isGuard, Code.isCaller, Code.frames, Code.isFrame, guardIds]
theorem make_units {A : Around} {C : Addr} {us : List Value} {kw : List (Str × Value)} : (A.under (.builtin "type.__call__" ⟨.ref C :: us, kw⟩)).units = A.units + 1 := by
  first | rfl | simp [Around.under, Code.cUnits, Code.frames, Code.isFrame]
theorem Room.make {k : Nat} {A : Around} (r : Room (k + 1) A) (C : Addr) (us : List Value) (kw : List (Str × Value)) : Room k (A.under (.builtin "type.__call__" ⟨.ref C :: us, kw⟩)) :=
  ⟨r.hd, by have := r.dp; rw [make_depth]; omega, by have := r.un; rw [make_units]; omega⟩
theorem Room.depth {k : Nat} {A : Around} (r : Room k A) : A.depth < recursionLimit := by have := r.dp; omega
theorem Room.units {k : Nat} {A : Around} (r : Room k A) : A.units + 64 < cLine := by have := r.un; omega
theorem Room.units0 {k : Nat} {A : Around} (r : Room k A) : A.units < cLine := by have := r.un; omega

/-! ### argument lists and displays -/
def tNil : TA := fun _ H Q => Q [] H
def tCons (ta : TE) (tr : TA) : TA := fun σ H Q => ta σ H fun x H1 => tr σ H1 fun xs H2 => Q (x :: xs) H2
section
variable {X : Cx} {e : Expr} {es : List Expr} {te : TE} {t : TA} {pos : Pos}
theorem pa_nil : PA X [] tNil := fun _ _ _ _ H Q I h => Calls.spliced_nil ⟨[], H, I, .nil, h⟩
theorem pa_cons (ha : PE X e te) (hr : PA X es t) (hs : starEach (e :: es) X.env = (false, eval e X.env) :: starEach es X.env := by rfl) : PA X (e :: es) (tCons te t) := by
  intro pos pins s σ H Q I h
  rw [hs]
  show wpAny _ _ (spliced ((false, eval e X.env) :: backTo pos (starEach es X.env))) _ _ s
  refine Calls.spliced_cons (thn (ha pins s σ H _ I h) fun u s1 ⟨x, H1, I1, r1, q1⟩ => ?_)
  exact thn (hr pos pins s1 σ H1 _ I1 q1) fun us s2 ⟨xs, H2, I2, r2, q2⟩ => ⟨x :: xs, H2, I2, .cons r1 r2, q2⟩

/-- a tuple, a list of written items -/
def tTup (t : TA) : TE := fun σ H Q => t σ H fun xs H1 => xs.length ≤ sizeLine ∧ ∀ p, H1 p = none → Q (.ref p) (upd H1 p (.tup xs))
def tLst (t : TA) : TE := fun σ H Q => t σ H fun xs H1 => xs.length ≤ sizeLine ∧ ∀ p, H1 p = none → Q (.ref p) (upd H1 p (.lst xs))
theorem pe_tup {x1} (h : PA X es t) : PE X (.Tuple es x1 pos) (tTup t) := by
  intro pins s σ H Q I hq
  refine wpAny_Tuple_spliced (thn (h pos pins s σ H _ I hq) fun us s1 ⟨xs, H1, I1, r, z, q⟩ => ⟨by rw [← r.length]; exact z, ?_⟩)
  have hf : H1 s1.heap.objs.size = none := I1.hok.fresh (Nat.le_refl _)
  refine ⟨.ref s1.heap.objs.size, upd H1 s1.heap.objs.size (.tup xs), I1.laid (t' := s1.toks) (fun b u e => Heap.get?_push_of_some _ e) (Nat.le_refl _) ?_, rfl, q _ hf⟩
  exact ⟨z, us, r, ⟨_, Heap.get?_push_size _ rfl, rfl, _, rfl⟩⟩
theorem pe_lst (h : PA X es t) : PE X (.List es pos) (tLst t) := by
  intro pins s σ H Q I hq
  refine wpAny_List_spliced (thn (h pos pins s σ H _ I hq) fun us s1 ⟨xs, H1, I1, r, z, q⟩ => ⟨by rw [← r.length]; exact z, ?_⟩)
  have hf : H1 s1.heap.objs.size = none := I1.hok.fresh (Nat.le_refl _)
  refine ⟨.ref s1.heap.objs.size, upd H1 s1.heap.objs.size (.lst xs), I1.laid (t' := s1.toks) (fun b u e => Heap.get?_push_of_some _ e) (Nat.le_refl _) ?_, rfl, q _ hf⟩
  exact ⟨z, us, 0, r, Heap.get?_push_size _ rfl⟩
end

/-! ### what a def promises -/
/-- a def's promise: the bound arguments in the parameters' order, the heap, the wanted end, the wanted exception -/
abbrev Sp := List V → Hp → VK → XK → Prop
/-- how an exception lies behind a call (file 08 gives it): the callers' frames, abstract heap and state ahead of the call, the wish, the exception, the state -/
abbrev CXT := List Env → Hp → Shared → XK → Value → Shared → Prop

/-- the state at a call -/
structure Env0 (P : Program) (w : World) (K : PySem.W.Frag) (mg : Str → Option Value) (base : Heap) (A : Around) (outer : List Env) (s : Shared) (H : Hp) : Prop where
  frames : A.frames = some outer
  mod : Mod K mg base
  bs : ∀ b o, base.get? b = some o → s.heap.get? b = some o ∧ H b = none
  bsz : base.objs.size ≤ s.heap.objs.size
  funs : s.heap.FunFrames base outer
  frf : ∀ b ∈ frs outer, H b = none
  hok : HOk P w H s.heap
  bare : AllBare s.gens
/-- a call's end -/
def CE (outer : List Env) (P : Program) (w : World) (H : Hp) (s : Shared) (Q : VK) (u : Value) (s' : Shared) : Prop :=
  ∃ v H', s'.os = s.os ∧ AllBare s'.gens ∧ Un (frs outer) [] H H' s.heap s'.heap ∧ HOk P w H' s'.heap ∧ RelV v u ∧ Q v H'
def CR (CX : CXT) (outer : List Env) (P : Program) (w : World) (H : Hp) (s : Shared) (Q : VK) (E : XK) (r : Result) (s' : Shared) : Prop :=
  match r with
  | .ok (.ret u) => CE outer P w H s Q u s'
  | .ok _ => False
  | .error e => CX outer H s E e s'
structure FnOk (P : Program) (w : World) (K : PySem.W.Frag) (mg : Str → Option Value) (base : Heap) (CX : CXT) (k : Nat) (f : Addr) (fd : FuncData) (ps : List Str) (sp : Sp) : Prop where
  len : ∀ vs H Q E, sp vs H Q E → vs.length = ps.length
  run : ∀ (A : Around) (outer : List Env) (s : Shared) (H : Hp) (args : Args) (us : List Value) (vs : List V) (Q : VK) (E : XK), Room k A → Env0 P w K mg base A outer s H → BindsTo s fd args (ps.zip us) → Vals vs us → sp vs H Q E →
    codeAny (model P w) A (.call (.ref f) args) (CR CX outer P w H s Q E) s
theorem FnOk.mono {P : Program} {w : World} {K : PySem.W.Frag} {mg : Str → Option Value} {base : Heap} {CX : CXT} {j k : Nat} {f : Addr} {fd : FuncData} {ps : List Str} {sp : Sp} (F : FnOk P w K mg base CX j f fd ps sp) (h : j ≤ k) :
    FnOk P w K mg base CX k f fd ps sp := ⟨F.len, fun A outer s H args us vs Q E hr => F.run A outer s H args us vs Q E (hr.mono h)⟩
/-- a weaker promise -/
theorem FnOk.imp {P : Program} {w : World} {K : PySem.W.Frag} {mg : Str → Option Value} {base : Heap} {CX : CXT} {k : Nat} {f : Addr} {fd : FuncData} {ps : List Str} {sp sp' : Sp} (F : FnOk P w K mg base CX k f fd ps sp)
    (h : ∀ vs H Q E, sp' vs H Q E → sp vs H Q E) : FnOk P w K mg base CX k f fd ps sp' :=
  ⟨fun vs H Q E q => F.len vs H Q E (h _ _ _ _ q), fun A outer s H args us vs Q E hr he hb hv hs => F.run A outer s H args us vs Q E hr he hb hv (h _ _ _ _ hs)⟩

theorem Env0.make {P : Program} {w : World} {K : PySem.W.Frag} {mg : Str → Option Value} {base : Heap} {A : Around} {outer : List Env} {s : Shared} {H : Hp} (e : Env0 P w K mg base A outer s H) (C : Addr) (us : List Value) (kw : List (Str × Value)) :
    Env0 P w K mg base (A.under (.builtin "type.__call__" ⟨.ref C :: us, kw⟩)) outer s H := ⟨by first | exact e.frames | (simpa [Around.under, Code.envs, Code.isFrame, pushEnvs] using e.frames), e.mod, e.bs, e.bsz, e.funs, e.frf, e.hok, e.bare⟩
theorem Env0.in1 {P : Program} {w : World} {K : PySem.W.Frag} {mg : Str → Option Value} {base : Heap} {A : Around} {outer : List Env} {s : Shared} {H : Hp} (e : Env0 P w K mg base A outer s H) :
    Env0 P w K mg base A.in1 outer s H := ⟨e.frames, e.mod, e.bs, e.bsz, e.funs, e.frf, e.hok, e.bare⟩

section
variable {X : Cx} {pins : List (Addr × Obj)} {σ : St} {H : Hp} {s s' : Shared}
/-- from a body: what a callee wants -/
theorem Inv.env0 (I : Inv X pins σ H s) : Env0 X.prog X.w X.K X.mg X.base X.A X.stack s H :=
  ⟨I.ok.frames, I.ok.mod, I.bs, Nat.le_trans I.ok.bsz I.sz, I.stack, I.stkFree, I.hok, I.bare⟩
/-- behind a call -/
theorem Inv.after {Q : VK} {u : Value} (I : Inv X pins σ H s) (h : CE X.stack X.prog X.w H s Q u s') : EP X pins σ Q u s' := by
  obtain ⟨v, H', os, bare, un, hok, r, q⟩ := h
  obtain ⟨hh, g, d, t, os'⟩ := s'
  obtain rfl : os' = s.os := os
  exact ⟨v, H', I.call (h' := hh) (g' := g) (d' := d) (t' := t) (ch := []) un hok bare (fun b z => absurd z (by simp)), r, q⟩
end

/-! ### calls -/
/-- f(..): the written arguments, then the defaults dvs; E: what is wanted of an exception -/
def tCall (sp : Sp) (dvs : List V) (E : XK) (t : TA) : TE := fun σ H Q => t σ H fun vs H1 => sp (vs ++ dvs) H1 Q E
/-- o.m(..) of an instance of the class at C -/
def tMeth (C : Addr) (m : Str) (sp : Sp) (dvs : List V) (E : XK) (ta : TE) (t : TA) : TE := fun σ H Q => ta σ H fun x H1 => ∃ a dx fs, x = .ref a ∧ H1 a = some (.ins C dx fs) ∧ fs.lookup m = none ∧
  t σ H1 fun vs H2 => sp (x :: (vs ++ dvs)) H2 Q E
/-- C(..): a new instance and its dict, then __init__ -/
def tMake (C : Addr) (sp : Sp) (dvs : List V) (E : XK) (t : TA) : TE := fun σ H Q => t σ H fun vs H1 => ∀ x dx, H1 x = none → H1 dx = none → dx ≠ x →
  sp (.ref x :: (vs ++ dvs)) (upd (upd H1 dx (.own x)) x (.ins C dx [])) (fun v H2 => v = .non ∧ Q (.ref x) H2) E

/-- how the parameters are bound: us the positional arguments, kw the keywords' values by name, ds the defaults that fill up -/
def Binds (K : PySem.W.Frag) (fd : FuncData) (ps : List Str) (ds : List Value) : Prop :=
  ∀ (s : Shared) (us : List Value), K.In s.heap → (us ++ ds).length = ps.length → BindsTo s fd ⟨us, []⟩ (ps.zip (us ++ ds))
/-- every parameter is given -/
theorem Binds.all {K : PySem.W.Frag} {fd : FuncData} {ps : List Str} (h : ∀ us : List Value, us.length = ps.length → bindArgs fd ⟨us, []⟩ = pure (ps.zip us)) : Binds K fd ps [] := fun s us _ hl => by
  rw [List.append_nil] at hl ⊢
  exact .of_eq (h us hl)

/-- an exception of a callee reaches what this body wants of exceptions -/
def Passes (CX : CXT) (X : Cx) (E : XK) : Prop := ∀ (pins : List (Addr × Obj)) (σ : St) (H : Hp) (s : Shared) (e : Value) (s' : Shared), Inv X pins σ H s → CX X.stack H s E e s' → X.xe e s'

section
variable {X : Cx} {CX : CXT} {k : Nat} {f C : Addr} {fd : FuncData} {ps : List Str} {sp : Sp} {dvs : List V} {ds : List Value} {E : XK} {x m : Str} {p pos apos : Pos} {e o : Expr} {es : List Expr} {ta : TE} {t : TA}

/-- the callee runs -/
theorem run_fn {pins : List (Addr × Obj)} {σ : St} {H : Hp} {s : Shared} {Q : VK} {us : List Value} {vs : List V} (F : FnOk X.prog X.w X.K X.mg X.base CX k f fd ps sp) (hr : Room k X.A) (hb : Binds X.K fd ps ds) (hd : Vals dvs ds) (hx : Passes CX X E)
    (I : Inv X pins σ H s) (r : Vals vs us) (h : sp (vs ++ dvs) H Q E) : wpAny (model X.prog X.w) X.A (call (.ref f) us) (EP X pins σ Q) X.xe s := by
  have r2 : Vals (vs ++ dvs) (us ++ ds) := r.append hd
  have hl : (us ++ ds).length = ps.length := by rw [← r2.length]; exact F.len _ _ _ _ h
  refine wpAny_call (codeAny_mono (F.run X.A X.stack s H ⟨us, []⟩ (us ++ ds) (vs ++ dvs) Q E hr I.env0 (hb s us I.kIn hl) r2 h) fun r s' hq => ?_)
  cases r with
  | error e => exact hx pins σ H s e s' I hq
  | ok fl =>
    cases fl with
    | ret u => exact I.after hq
    | next => exact False.elim hq
    | brk => exact False.elim hq
    | cont => exact False.elim hq

theorem pe_call (F : FnOk X.prog X.w X.K X.mg X.base CX k f fd ps sp) (hr : Room k X.A) (hg : Gl X x) (hm : X.mg x = some (.ref f)) (hk : PySem.W.keepIn X.K (.ref f) = true) (hb : Binds X.K fd ps ds) (hd : Vals dvs ds) (hx : Passes CX X E)
    (ha : PA X (e :: es) t) (hdb : (x == ("__debug__" : Str)) = false := by decide) (he : starEach (e :: es) X.env = (false, eval e X.env) :: starEach es X.env := by rfl) (hpl : (backTo pos (starEach es X.env)).any (·.1) = false := by rfl) :
    PE X (.Call (.Name x p) (e :: es) [] pos) (tCall sp dvs E t) := by
  intro pins s σ H Q I h
  refine wpAny_Call_Name_kw (ld_glob I hg hm ?_ hdb)
  refine PySem.W.callWith_K (h₀ := X.base) I.ok.mod.kin hk (thn (ha pos pins s σ H _ I h) fun us s1 ⟨vs, H1, I1, r, q⟩ => ⟨I1.kIn, ?_⟩) he hpl
  exact run_fn F hr hb hd hx I1 r q
theorem pe_call0 (F : FnOk X.prog X.w X.K X.mg X.base CX k f fd ps sp) (hr : Room k X.A) (hg : Gl X x) (hm : X.mg x = some (.ref f)) (hk : PySem.W.keepIn X.K (.ref f) = true) (hb : Binds X.K fd ps ds) (hd : Vals dvs ds) (hx : Passes CX X E)
    (hdb : (x == ("__debug__" : Str)) = false := by decide) : PE X (.Call (.Name x p) [] [] pos) (tCall sp dvs E tNil) := by
  intro pins s σ H Q I h
  refine wpAny_Call_Name_kw (ld_glob I hg hm ?_ hdb)
  exact PySem.W.callWith_K0 I.kIn hk (run_fn (us := []) F hr hb hd hx I .nil h)

/-- o.m(e, ..) -/
theorem pe_meth {pl : Sem Bool} (he : PE X o ta) (c : Cls X.K C) (hm : Meth X.K C m f) (F : FnOk X.prog X.w X.K X.mg X.base CX k f fd ps sp) (hr : Room k X.A) (hb : Binds X.K fd ps ds) (hd : Vals dvs ds) (hx : Passes CX X E) (ha : PA X (e :: es) t)
    (hst : starEach (e :: es) X.env = (false, eval e X.env) :: starEach es X.env := by rfl) (hpl : (backTo pos (starEach es X.env)).any (·.1) = false := by rfl)
    (ht : eval (.Call (.Attribute o m apos) (e :: es) [] pos) X.env = (do
      let ov ← eval o X.env
      standAt apos.atName
      let (f, first) ← holding [ov] (getMethod ov m pl)
      callWith pos f first (backTo pos (starEach (e :: es) X.env)) (backToKw pos (keywordEach [] X.env))) := by rfl) :
    PE X (.Call (.Attribute o m apos) (e :: es) [] pos) (tMeth C m sp dvs E ta t) := by
  intro pins s σ H Q I h
  refine PySem.W.methodCall_KW (pl := pl) (thn (he pins s σ H _ I h) fun u s1 ⟨x, H1, I1, rx, a, dx, fs, ex, ea, l, q⟩ => ?_) ht
  subst ex
  obtain rfl : u = Value.ref a := rx
  refine getmeth_ok I1 ea c hm l ?_
  refine PySem.W.callWith_K (first := [.ref a]) (h₀ := X.base) I.ok.mod.kin hm.kp (thn (ha pos pins s1 σ H1 _ I1 q) fun us s2 ⟨vs, H2, I2, r, q2⟩ => ⟨I2.kIn, ?_⟩) hst hpl
  exact run_fn (us := .ref a :: us) (vs := .ref a :: vs) F hr hb hd hx I2 (.cons rfl r) q2
/-- o.m() -/
theorem pe_meth0 {pl : Sem Bool} (he : PE X o ta) (c : Cls X.K C) (hm : Meth X.K C m f) (F : FnOk X.prog X.w X.K X.mg X.base CX k f fd ps sp) (hr : Room k X.A) (hb : Binds X.K fd ps ds) (hd : Vals dvs ds) (hx : Passes CX X E)
    (ht : eval (.Call (.Attribute o m apos) [] [] pos) X.env = (do
      let ov ← eval o X.env
      standAt apos.atName
      let (f, first) ← holding [ov] (getMethod ov m pl)
      callWith pos f first (backTo pos (starEach [] X.env)) (backToKw pos (keywordEach [] X.env))) := by rfl) :
    PE X (.Call (.Attribute o m apos) [] [] pos) (tMeth C m sp dvs E ta tNil) := by
  intro pins s σ H Q I h
  refine PySem.W.methodCall_KW (pl := pl) (thn (he pins s σ H _ I h) fun u s1 ⟨x, H1, I1, rx, a, dx, fs, ex, ea, l, q⟩ => ?_) ht
  subst ex
  obtain rfl : u = Value.ref a := rx
  refine getmeth_ok I1 ea c hm l ?_
  exact PySem.W.callWith_K0 (first := [.ref a]) I1.kIn hm.kp (run_fn (us := [.ref a]) (vs := [.ref a]) F hr hb hd hx I1 (.cons rfl .nil) q)

/-- what a class must have to be made -/
structure Mk (K : PySem.W.Frag) (C f : Addr) : Prop where
  makes : PySem.W.makesIn K C = true
  init : PySem.W.findIn K (.ref C) "__init__" = some (some (.ref f))
  fn : PySem.W.isFn K (.ref f) = true
  kp : PySem.W.keepIn K (.ref C) = true

theorem run_make {pins : List (Addr × Obj)} {σ : St} {H : Hp} {s : Shared} {Q : VK} {us : List Value} {vs : List V} (M : Mk X.K C f) (F : FnOk X.prog X.w X.K X.mg X.base CX k f fd ps sp) (hr : Room (k + 1) X.A) (hb : Binds X.K fd ps ds) (hd : Vals dvs ds)
    (hx : Passes CX X E) (I : Inv X pins σ H s) (r : Vals vs us)
    (h : ∀ x dx, H x = none → H dx = none → dx ≠ x → sp (.ref x :: (vs ++ dvs)) (upd (upd H dx (.own x)) x (.ins C dx [])) (fun v H2 => v = .non ∧ Q (.ref x) H2) E) :
    wpAny (model X.prog X.w) X.A (call (.ref C) us) (EP X pins σ Q) X.xe s := by
  have hq := h (s.heap.objs.size + 1) s.heap.objs.size (I.hok.fresh (Nat.le_succ _)) (I.hok.fresh (Nat.le_refl _)) (Nat.ne_of_lt (Nat.lt_succ_self _))
  have I2 := Inv.made (C := C) I
  have r2 : Vals (V.ref (s.heap.objs.size + 1) :: (vs ++ dvs)) (Value.ref (s.heap.objs.size + 1) :: (us ++ ds)) := .cons rfl (r.append hd)
  have hl : (Value.ref (s.heap.objs.size + 1) :: us ++ ds).length = ps.length := by
    have e := r2.length
    rw [F.len _ _ _ _ hq] at e
    exact e.symm
  refine wpAny_call (make_map (f := f) I.kIn M.makes M.init (beq_iff_eq.mp M.fn) (codeAny_mono (F.run _ X.stack _ _ ⟨Value.ref (s.heap.objs.size + 1) :: us, []⟩ (Value.ref (s.heap.objs.size + 1) :: (us ++ ds)) _ _ E (hr.make C us [])
    (I2.env0.make C us []) (hb _ (Value.ref (s.heap.objs.size + 1) :: us) I2.kIn hl) r2 hq) fun r s' hq' => ?_))
  cases r with
  | error e => exact hx pins σ _ _ e s' I2 hq'
  | ok fl =>
    cases fl with
    | ret u =>
      obtain ⟨v, H', I3, rv, ev, q3⟩ := I2.after hq'
      subst ev
      exact ⟨rv, ⟨V.ref (s.heap.objs.size + 1), H', I3, rfl, q3⟩⟩
    | next => exact False.elim hq'
    | brk => exact False.elim hq'
    | cont => exact False.elim hq'
theorem pe_make (M : Mk X.K C f) (F : FnOk X.prog X.w X.K X.mg X.base CX k f fd ps sp) (hr : Room (k + 1) X.A) (hg : Gl X x) (hm : X.mg x = some (.ref C)) (hb : Binds X.K fd ps ds) (hd : Vals dvs ds) (hx : Passes CX X E)
    (ha : PA X (e :: es) t) (hdb : (x == ("__debug__" : Str)) = false := by decide) (he : starEach (e :: es) X.env = (false, eval e X.env) :: starEach es X.env := by rfl) (hpl : (backTo pos (starEach es X.env)).any (·.1) = false := by rfl) :
    PE X (.Call (.Name x p) (e :: es) [] pos) (tMake C sp dvs E t) := by
  intro pins s σ H Q I h
  refine wpAny_Call_Name_kw (ld_glob I hg hm ?_ hdb)
  refine PySem.W.callWith_K (h₀ := X.base) I.ok.mod.kin M.kp (thn (ha pos pins s σ H _ I h) fun us s1 ⟨vs, H1, I1, r, q⟩ => ⟨I1.kIn, ?_⟩) he hpl
  exact run_make M F hr hb hd hx I1 r q
theorem pe_make0 (M : Mk X.K C f) (F : FnOk X.prog X.w X.K X.mg X.base CX k f fd ps sp) (hr : Room (k + 1) X.A) (hg : Gl X x) (hm : X.mg x = some (.ref C)) (hb : Binds X.K fd ps ds) (hd : Vals dvs ds) (hx : Passes CX X E)
    (hdb : (x == ("__debug__" : Str)) = false := by decide) : PE X (.Call (.Name x p) [] [] pos) (tMake C sp dvs E tNil) := by
  intro pins s σ H Q I h
  refine wpAny_Call_Name_kw (ld_glob I hg hm ?_ hdb)
  exact PySem.W.callWith_K0 I.kIn M.kp (run_make (us := []) M F hr hb hd hx I .nil h)
end

/-! ### keywords -/
/-- the values of the keywords, from the left -/
def PK (X : Cx) (kws : List Keyword) (t : TA) : Prop :=
  ∀ (pos : Pos) (pins : List (Addr × Obj)) (s : Shared) (σ : St) (H : Hp) (Q : List V → Hp → Prop), Inv X pins σ H s → t σ H Q → wpAny (model X.prog X.w) X.A (evalAll ((backToKw pos (keywordEach kws X.env)).map (·.2))) (AP X pins σ Q) X.xe s
section
variable {X : Cx} {CX : CXT} {k : Nat} {f C : Addr} {fd : FuncData} {ps ks : List Str} {sp : Sp} {E : XK} {x m : Str} {p pos apos kpos : Pos} {e o : Expr} {es : List Expr} {kws : List Keyword} {te ta : TE} {t tk : TA} {nm : Option Str}
theorem pk_nil : PK X [] tNil := fun _ _ _ _ H Q I h => wpAny_evalAll_nil ⟨[], H, I, .nil, h⟩
theorem pk_cons (ha : PE X e te) (hr : PK X kws t) : PK X (⟨nm, e, kpos⟩ :: kws) (tCons te t) := by
  intro pos pins s σ H Q I h
  show wpAny _ _ (evalAll ((do let v ← eval e X.env; standAt pos; pure v) :: (backToKw pos (keywordEach kws X.env)).map (·.2))) _ _ s
  refine wpAny_evalAll_cons (wpAny_bind (thn (ha pins s σ H _ I h) fun u s1 ⟨x, H1, I1, r1, q1⟩ => wpAny_bind (wpAny_standAt (wpAny_pure ?_))))
  exact thn (hr pos pins s1 σ H1 _ I1 q1) fun us s2 ⟨xs, H2, I2, r2, q2⟩ => ⟨x :: xs, H2, I2, .cons r1 r2, q2⟩

/-- how a call with keywords binds: g puts the positional values us and the keywords' values ws (names ks) in the parameters' order, defaults among them -/
structure KBinds (K : PySem.W.Frag) (fd : FuncData) (ps ks : List Str) (g : List Value → List Value → List Value) (gV : List V → List V → List V) : Prop where
  to : ∀ (s : Shared) (us ws : List Value), K.In s.heap → (g us ws).length = ps.length → BindsTo s fd ⟨us, ks.zip ws⟩ (ps.zip (g us ws))
  rel : ∀ {vs : List V} {us : List Value} {zs : List V} {ws : List Value}, Vals vs us → Vals zs ws → Vals (gV vs zs) (g us ws)
def tCallK (sp : Sp) (gV : List V → List V → List V) (E : XK) (t tk : TA) : TE := fun σ H Q => t σ H fun vs H1 => tk σ H1 fun zs H2 => sp (gV vs zs) H2 Q E
variable {g : List Value → List Value → List Value} {gV : List V → List V → List V}
theorem run_fnk {pins : List (Addr × Obj)} {σ : St} {H : Hp} {s : Shared} {Q : VK} {us ws : List Value} {vs zs : List V} (F : FnOk X.prog X.w X.K X.mg X.base CX k f fd ps sp) (hr : Room k X.A) (hb : KBinds X.K fd ps ks g gV) (hx : Passes CX X E)
    (I : Inv X pins σ H s) (r : Vals vs us) (rz : Vals zs ws) (h : sp (gV vs zs) H Q E) : wpAny (model X.prog X.w) X.A (call (.ref f) us (ks.zip ws)) (EP X pins σ Q) X.xe s := by
  have r2 := hb.rel r rz
  have hl : (g us ws).length = ps.length := by rw [← r2.length]; exact F.len _ _ _ _ h
  refine wpAny_call (codeAny_mono (F.run X.A X.stack s H ⟨us, ks.zip ws⟩ (g us ws) (gV vs zs) Q E hr I.env0 (hb.to s us ws I.kIn hl) r2 h) fun r s' hq => ?_)
  cases r with
  | error e => exact hx pins σ H s e s' I hq
  | ok fl =>
    cases fl with
    | ret u => exact I.after hq
    | next => exact False.elim hq
    | brk => exact False.elim hq
    | cont => exact False.elim hq
/-- f(e, .., k = v, ..) -/
theorem pe_callK (F : FnOk X.prog X.w X.K X.mg X.base CX k f fd ps sp) (hr : Room k X.A) (hg : Gl X x) (hm : X.mg x = some (.ref f)) (hk : PySem.W.keepIn X.K (.ref f) = true) (hb : KBinds X.K fd ps ks g gV) (hx : Passes CX X E)
    (ha : PA X (e :: es) t) (hkw : PK X kws tk) (hall : (backToKw pos (keywordEach kws X.env)).all (·.1.isSome) = true := by rfl) (hks : (backToKw pos (keywordEach kws X.env)).filterMap (·.1) = ks := by rfl)
    (hdb : (x == ("__debug__" : Str)) = false := by decide) (he : starEach (e :: es) X.env = (false, eval e X.env) :: starEach es X.env := by rfl)
    (hpl : ((backTo pos (starEach (e :: es) X.env)).any (·.1) || (backToKw pos (keywordEach kws X.env)).any (·.1.isNone)) = false := by rfl) :
    PE X (.Call (.Name x p) (e :: es) kws pos) (tCallK sp gV E t tk) := by
  intro pins s σ H Q I h
  refine wpAny_Call_Name_kw (ld_glob I hg hm ?_ hdb)
  refine PySem.W.callWith_KW (h₀ := X.base) I.ok.mod.kin hk hall (thn (ha pos pins s σ H _ I h) fun us s1 ⟨vs, H1, I1, r, q⟩ => ?_) hpl he
  refine thn (hkw pos pins s1 σ H1 _ I1 q) fun ws s2 ⟨zs, H2, I2, rz, q2⟩ => ⟨I2.kIn, ?_⟩
  rw [hks]
  exact run_fnk F hr hb hx I2 r rz q2
end

/-! ### a def's body keeps its promise -/
/-- names: the parameters first -/
structure FnScope (N P : List Str) (sc : Scope) : Prop where
  kind : sc.kind = .function
  co : sc.isCoroutine = false
  gen : sc.isGenerator = false
  nd : N.Nodup
  pre : N.take P.length = P
  par : ∀ x ∈ P, sc.names.lookup x = some .local ∨ sc.names.lookup x = some .cell
  nofree : ∀ y ∈ sc.names, y.2 ≠ .free

theorem bindL_out {kindOf : Str → Option NameKind} {x : Str} : ∀ {binds : List (Str × Value)} {m : Str → Option Value}, (∀ v, (x, v) ∉ binds) → bindL kindOf binds m x = m x
  | [], _, _ => rfl
  | (n, v) :: r, m, h => by
    unfold bindL
    rw [bindL_out fun w hw => h w (List.mem_cons_of_mem _ hw)]
    split
    · have : x ≠ n := by rintro rfl; exact h v List.mem_cons_self
      simp [this]
    · rfl
theorem bindC_out {kindOf : Str → Option NameKind} {x : Str} : ∀ {binds : List (Str × Value)} {m : Str → Option Value}, (∀ v, (x, v) ∉ binds) → bindC kindOf binds m x = m x
  | [], _, _ => rfl
  | (n, v) :: r, m, h => by
    unfold bindC
    rw [bindC_out fun w hw => h w (List.mem_cons_of_mem _ hw)]
    split
    · rfl
    · have : x ≠ n := by rintro rfl; exact h v List.mem_cons_self
      simp [this]
theorem bindL_get {kindOf : Str → Option NameKind} {x : Str} {v : Value} : ∀ {P : List Str} {vs : List Value} {i : Nat} {m : Str → Option Value}, P.Nodup → P[i]? = some x → vs[i]? = some v → kindOf x = some .local →
    bindL kindOf (P.zip vs) m x = some v
  | [], _, _, _, _, h, _, _ => by simp at h
  | _ :: _, [], _, _, _, _, h, _ => by simp at h
  | p :: P, w :: vs, 0, m, nd, h1, h2, hk => by
    simp at h1 h2; subst h1; subst h2
    show bindL kindOf ((p, w) :: P.zip vs) m p = _
    unfold bindL
    rw [bindL_out fun v hv => (List.nodup_cons.mp nd).1 (List.of_mem_zip hv).1, if_pos hk]
    simp
  | p :: P, w :: vs, i + 1, m, nd, h1, h2, hk => by
    show bindL kindOf ((p, w) :: P.zip vs) m x = _
    unfold bindL
    exact bindL_get (i := i) (List.nodup_cons.mp nd).2 (by simpa using h1) (by simpa using h2) hk
theorem bindC_get {kindOf : Str → Option NameKind} {x : Str} {v : Value} : ∀ {P : List Str} {vs : List Value} {i : Nat} {m : Str → Option Value}, P.Nodup → P[i]? = some x → vs[i]? = some v → kindOf x ≠ some .local →
    bindC kindOf (P.zip vs) m x = some v
  | [], _, _, _, _, h, _, _ => by simp at h
  | _ :: _, [], _, _, _, _, h, _ => by simp at h
  | p :: P, w :: vs, 0, m, nd, h1, h2, hk => by
    simp at h1 h2; subst h1; subst h2
    show bindC kindOf ((p, w) :: P.zip vs) m p = _
    unfold bindC
    rw [bindC_out fun v hv => (List.nodup_cons.mp nd).1 (List.of_mem_zip hv).1, if_neg hk]
    simp
  | p :: P, w :: vs, i + 1, m, nd, h1, h2, hk => by
    show bindC kindOf ((p, w) :: P.zip vs) m x = _
    unfold bindC
    exact bindC_get (i := i) (List.nodup_cons.mp nd).2 (by simpa using h1) (by simpa using h2) hk

/-- the names' values at the entry -/
def start (N : List Str) (vs : List V) : St := vs.map some ++ List.replicate (N.length - vs.length) none

/-- the context of a def's body, at its entry; an exception leaves the frame, then lies as CX says -/
def cxOf (CX : CXT) (P : Program) (w : World) (K : PySem.W.Frag) (mg : Str → Option Value) (base : Heap) (N : List Str) (qual : Str) (scope : Scope) (f : Addr) (cd : Value) (A : Around) (outer : List Env) (s : Shared) (H : Hp) (E : XK) : Cx where
  prog := P
  w := w
  K := K
  mg := mg
  base := base
  A := A.deeper (envOfC qual scope s.heap.objs.size f cd)
  N := N
  s₀ := s
  H₀ := H
  env := envOfC qual scope s.heap.objs.size f cd
  outer := outer
  stack := envOfC qual scope s.heap.objs.size f cd :: outer
  ex := []
  calm := true
  fn := fun _ => true
  pn := []
  xe := fun e s' => wpAny (model P w) (A.deeper (envOfC qual scope s.heap.objs.size f cd)) (leaving (envOfC qual scope s.heap.objs.size f cd) e) (fun _ s'' => CX outer H s E e s'') (fun e' s'' => CX outer H s E e' s'') s'

theorem cell_has {sc : Scope} {n : Nat} {x : Str} (h : sc.names.lookup x = some .cell) : ∃ c, (cellsFrom n sc.names []).lookup x = some c := by
  have q := PySem.W.cellsFrom_some sc.names n [] (.inl h)
  exact Option.isSome_iff_exists.mp q

theorem inv_start {CX : CXT} {P : Program} {w : World} {K : PySem.W.Frag} {mg : Str → Option Value} {base : Heap} {N ps : List Str} {qual : Str} {scope : Scope} {f : Addr} {cd : Value} {A : Around} {outer : List Env} {s s1 : Shared} {H : Hp} {E : XK} {us : List Value} {vs : List V}
    (S : FnScope N ps scope) (hd : A.handled = none) (e0 : Env0 P w K mg base A outer s H) (hl : vs.length = ps.length) (r : Vals vs us)
    (x : InCallC s s.heap.objs.size (bindL (envOfC qual scope s.heap.objs.size f cd).kindOf (ps.zip us) fun _ => none) (cellsFrom (s.heap.objs.size + 1) scope.names []) (bindC (envOfC qual scope s.heap.objs.size f cd).kindOf (ps.zip us) fun _ => none) s1) :
    Inv (cxOf CX P w K mg base N qual scope f cd A outer s H E) [] (start N vs) H s1 := by
  have hpl : ps.length ≤ N.length := by have := congrArg List.length S.pre; rw [List.length_take] at this; omega
  obtain ⟨h1, tk, rfl, hk⟩ := x.done
  have noA : ∀ b : Addr, b ∉ (cxOf CX P w K mg base N qual scope f cd A outer s H E).ex := fun b z => absurd (show b ∈ ([] : List Addr) from z) (by simp)
  refine ⟨⟨e0.mod, S.kind, rfl, rfl, Nat.le_refl _, fun y z c h1 h2 => ?_, fun y hy => ?_, fun y c _ h => ?_, fun _ => hd, Around.frames_deeper e0.frames, .inr ⟨rfl, rfl⟩, fun b z => absurd z (noA b), e0.bs, e0.bsz, fun b _ _ => noA b, fun b z => absurd z (noA b), e0.funs, e0.frf⟩,
    rfl, e0.bare, Un.kept hk, ⟨_, x.toInCall.ns, fun i y v h1 h2 h3 => ?_⟩, fun y c h => ⟨_, x.cell y c h⟩, e0.hok.fresh (Nat.le_refl _), fun y c h => ?_, fun p hp => absurd (show p ∈ ([] : List (Addr × Obj)) from hp) (by simp), e0.hok.kept hk, ?_⟩
  · exact name_of_addr x.apart (PySem.mem_of_lookup h1) (PySem.mem_of_lookup h2)
  · have hy : scope.names.lookup y = some .cell ∨ scope.names.lookup y = some .free := hy
    rcases hy with hy | hy
    · exact cell_has hy
    · exact absurd rfl (S.nofree _ (PySem.mem_of_lookup hy))
  · exact Nat.le_of_lt (x.above y c (PySem.mem_of_lookup h))
  · have hi : i < vs.length := by
      unfold start at h2
      by_cases hi : i < vs.length
      · exact hi
      · rw [List.getElem?_append_right (by simpa using hi)] at h2
        rw [List.getElem?_replicate] at h2
        split at h2 <;> cases h2
    have ha : vs[i]? = some v := by
      unfold start at h2
      rw [List.getElem?_append_left (by simpa using hi), List.getElem?_map] at h2
      cases e : vs[i]? with
      | none => rw [e] at h2; cases h2
      | some a => rw [e] at h2; cases h2; rfl
    obtain ⟨u, hu, rv⟩ := r.get ha
    have hp : ps[i]? = some y := by
      rw [← S.pre, List.getElem?_take_of_lt (by omega)]; exact h1
    have ndP : ps.Nodup := by rw [← S.pre]; exact S.nd.sublist (List.take_sublist _ _)
    refine ⟨u, rv, ?_⟩
    rcases S.par y (List.mem_of_getElem? hp) with k | k
    · exact .inl ⟨k, bindL_get ndP hp hu k⟩
    · obtain ⟨c, e⟩ := cell_has (n := s.heap.objs.size + 1) k
      refine .inr ⟨.inl k, c, e, ?_⟩
      have q := x.cell y c e
      rw [bindC_get ndP hp hu (by show scope.names.lookup y ≠ _; rw [k]; decide)] at q
      exact q
  · exact e0.hok.fresh (Nat.le_of_lt (x.above y c (PySem.mem_of_lookup h)))
  · unfold start
    show _ = N.length
    rw [List.length_append, List.length_map, List.length_replicate]
    omega

/-- THE RULE: a def (or a method) of the text, by its body. The body's reading t is chosen for each entry; it is run at the parameters' values -/
theorem fn_of {CX : CXT} {P : Program} {w : World} {K : PySem.W.Frag} {mg : Str → Option Value} {base : Heap} {k : Nat} {f : Addr} {name qual : Str} {params : Arguments} {body : List Stmt} {scope : Scope} {dV kV doc pm cdv ct oc : Value} {an od : Option Addr}
    {osl : Array (Option Value)} {N ps : List Str} {sp : Sp} (lk : K.lookup f = some ⟨oc, od, .func (PySem.W.fnOf name qual params body scope dV kV doc pm an cdv ct), osl⟩) (hcd : PySem.W.codeIn K cdv qual = true) (S : FnScope N ps scope)
    (len : ∀ vs H Q E, sp vs H Q E → vs.length = ps.length)
    (hbody : ∀ (A : Around) (outer : List Env) (s : Shared) (H : Hp) (vs : List V) (Q : VK) (E : XK), Room k (A.deeper (envOfC qual scope s.heap.objs.size f cdv)) → sp vs H Q E →
      ∃ t, PSs (cxOf CX P w K mg base N qual scope f cdv A outer s H E) body t ∧ t { nx := fun _ H' => Q .non H', rt := Q } (start N vs) H) :
    FnOk P w K mg base CX (k + 1) f (PySem.W.fnOf name qual params body scope dV kV doc pm an cdv ct) ps sp := by
  refine ⟨len, fun A outer s H args us vs Q E hr e0 hb r hsp => ?_⟩
  have hl := len _ _ _ _ hsp
  have KX : K.In s.heap := e0.mod.kin.keeps fun b o e => (e0.bs b o e).1
  have lim : s.heap.NoLimit := e0.mod.nolimit.keeps fun b o e => (e0.bs b o e).1
  have hkind : ∀ y ∈ ps.zip us, scope.names.lookup y.1 = some .local ∨ (scope.names.lookup y.1 = some .cell ∧ ((cellsFrom (s.heap.objs.size + 1) scope.names []).lookup y.1).isSome = true) := fun ⟨n, v⟩ hy => by
    rcases S.par n (List.of_mem_zip hy).1 with q | q
    · exact .inl q
    · exact .inr ⟨q, PySem.W.cellsFrom_some _ _ _ (.inl q)⟩
  refine codeAny_call_function hr.depth (KX _ _ lk) rfl S.co S.gen rfl (PySem.W.codeRec_of KX hcd) (hb _ _ _ _ ?_)
  refine wpAny_newFunctionEnv_cells S.kind hkind fun env he s1 x => ?_
  subst he
  refine ⟨lim.keeps x.toInCall.keep, codeAny_func ?_⟩
  obtain ⟨t, ht, hq⟩ := hbody A outer s H vs Q E (hr.deeper _) hsp
  have I : Inv (cxOf CX P w K mg base N qual scope f cdv A outer s H E) [] (start N vs) H s1 := inv_start S hr.hd e0 hl r x
  refine wpAny_mono (ht [] s1 (start N vs) H _ I hq) (fun fl s' hs => ?_) fun e s' hs => hs
  have fin : ∀ {σ' : St} {H' : Hp} {v : V} {u : Value}, Inv (cxOf CX P w K mg base N qual scope f cdv A outer s H E) [] σ' H' s' → RelV v u → Q v H' → CE outer P w H s Q u s' :=
    fun {σ' H' v u} J rv q => ⟨v, H', J.os, J.bare, J.base, J.hok, rv, q⟩
  cases fl with
  | ret u =>
    obtain ⟨v, σ', H', J, rv, q⟩ := hs
    exact fin J rv q
  | next =>
    obtain ⟨σ', H', J, q⟩ := hs
    exact fin (v := V.non) (u := Value.none) J rfl q
  | brk =>
    obtain ⟨_, _, _, q⟩ := hs
    exact False.elim q
  | cont =>
    obtain ⟨_, _, _, q⟩ := hs
    exact False.elim q
end L2

namespace L2
open PySem PySem.Spec PyProof.Rows
section
variable {X : Cx} {x : Str} {p pos : Pos} {e : Expr} {es : List Expr} {t : TA} {id T : String} {r : List V → Hp → VK → Prop}

def tCB (r : List V → Hp → VK → Prop) (t : TA) : TE := fun σ H Q => t σ H fun vs H1 => r vs H1 Q
/-- f(e, ..), f a built-in function -/
theorem pe_callB (hc : CallR X (.builtin id) r) (hg : Gl X x) (hm : X.mg x = none) (hv : bootBuiltins x = some (.builtin id)) (ha : PA X (e :: es) t) (hn : x ≠ "__name__" := by decide) (hdb : (x == ("__debug__" : Str)) = false := by decide)
    (he : starEach (e :: es) X.env = (false, eval e X.env) :: starEach es X.env := by rfl) (hpl : (backTo pos (starEach es X.env)).any (·.1) = false := by rfl) : PE X (.Call (.Name x p) (e :: es) [] pos) (tCB r t) := by
  intro pins s σ H Q I h
  refine wpAny_Call_Name_kw (ld_blt I hg hm hv ?_ hn hdb)
  exact PyProof.Rows.callWith_builtin1 (thn (ha pos pins s σ H _ I h) fun us s1 ⟨vs, H1, I1, r1, q1⟩ => hc pins s1 σ H1 vs us Q I1 r1 q1) he hpl
/-- T(e, ..), T a built-in type -/
theorem pe_callTy (hc : CallR X (.type T) r) (hg : Gl X x) (hm : X.mg x = none) (hv : bootBuiltins x = some (.type T)) (ha : PA X (e :: es) t) (hn : x ≠ "__name__" := by decide) (hdb : (x == ("__debug__" : Str)) = false := by decide)
    (he : starEach (e :: es) X.env = (false, eval e X.env) :: starEach es X.env := by rfl) (hpl : (backTo pos (starEach es X.env)).any (·.1) = false := by rfl) : PE X (.Call (.Name x p) (e :: es) [] pos) (tCB r t) := by
  intro pins s σ H Q I h
  refine wpAny_Call_Name_kw (ld_blt I hg hm hv ?_ hn hdb)
  exact PyProof.Rows.callWith_type1 (thn (ha pos pins s σ H _ I h) fun us s1 ⟨vs, H1, I1, r1, q1⟩ => hc pins s1 σ H1 vs us Q I1 r1 q1) he hpl
/-- T() -/
theorem pe_callTy0 (hc : CallR X (.type T) r) (hg : Gl X x) (hm : X.mg x = none) (hv : bootBuiltins x = some (.type T)) (hn : x ≠ "__name__" := by decide) (hdb : (x == ("__debug__" : Str)) = false := by decide) :
    PE X (.Call (.Name x p) [] [] pos) (tCB r tNil) := by
  intro pins s σ H Q I h
  refine wpAny_Call_Name_kw (ld_blt I hg hm hv ?_ hn hdb)
  exact PyProof.Rows.callWith_type0 (hc pins s σ H [] [] Q I .nil h)
end
end L2

namespace HT
open PySem PyProof.Rows

/-- t < u of tuples of ints -/
def lexLt : List Int → List Int → Bool
  | [], [] => false
  | [], _ :: _ => true
  | _ :: _, [] => false
  | x :: xs, y :: ys => if x = y then lexLt xs ys else decide (x < y)
theorem lexLt_cons (x y : Int) (xs ys : List Int) : lexLt (x :: xs) (y :: ys) = if x = y then lexLt xs ys else decide (x < y) := rfl
theorem lexLt_nil_nil : lexLt [] [] = false := rfl
theorem lexLt_nil_cons (y : Int) (ys : List Int) : lexLt [] (y :: ys) = true := rfl
theorem lexLt_cons_nil (x : Int) (xs : List Int) : lexLt (x :: xs) [] = false := rfl

theorem eqAt_int (A : Around) (s : Shared) (a : Int) (t : Tok) (c : Int) (u : Tok) : ∃ e, SeqAt.EqAt A s (.int a t) (.int c u) e ∧ (e = true ↔ a = c) :=
  ⟨(a == c), SeqAt.EqAt.int_int a t c u, by simp⟩
theorem rcLt_int (A : Around) (s : Shared) (a : Int) (t : Tok) (c : Int) (u : Tok) (prog : Program) (w : World) (E : Value → Shared → Prop) (Q : Value → Shared → Prop) (h : Q (.bool (decide (a < c))) s) :
    wpAny (model prog w) A (richCompare .Lt (.int a t) (.int c u)) Q E s :=
  (PyProof.Rows.lt_int h : wpAny (model prog w) A (compareOp .Lt (.int a t) (.int c u)) Q E s)

section
open PySem.SeqAt
open PySem.AutoSeq1 (wpAny_loadPart')
open PySem.MeetsSeq PySem.MeetsSeq2 PySem.MeetsSeq3

theorem tuple_lt_ints (l b : Addr) (items items2 : Array Value) (n n2 : Nat) (dd dd2 : Option Addr) (sl sl2 : Array (Option Value)) (ns ms : List Int) (hi : IntsAre items.toList ns) (hj : IntsAre items2.toList ms) :
    Meets (Builtin.«tuple.__lt__» ⟨[.ref l, .ref b], []⟩)
      (fun _ R s => s.heap.get? l = some { cls := .type "tuple", dict := dd, data := .seq items n, slots := sl } ∧ s.heap.get? b = some { cls := .type "tuple", dict := dd2, data := .seq items2 n2, slots := sl2 } ∧
        R (.ok (.ret (.bool (lexLt ns ms)))) s) :=
  .of_wp fun prog w A R s h => by
    obtain ⟨hp, g, d, tk, os⟩ := s; obtain ⟨hl, hb, h⟩ := h
    have f2 := AutoSeq1.sub_tuple_tuple
    have z1 : items.size = ns.length := by rw [← hi.length]; simp
    have z2 : items2.size = ms.length := by rw [← hj.length]; simp
    wp_walk using wpAny_loadPart' hl, wpAny_loadPart' hb, wpAny_forIn_list _ (fun rest b s' => b.1 = none ∧ s' = ⟨hp, g, d, tk, os⟩ ∧ ∃ (vs ws : List Value) (ns' ms' : List Int), rest = vs.zip ws ∧
      IntsAre vs ns' ∧ IntsAre ws ms' ∧ ns'.length + items2.size = ms'.length + items.size ∧ R (.ok (.ret (.bool (lexLt ns' ms')))) ⟨hp, g, d, tk, os⟩) _
    case turn =>
      rintro ⟨y, x⟩ rest b s' ⟨hb', rfl, vs, ws, ns', ms', hz, hvi, hwi, hlen, hR⟩
      cases hvi with
      | nil => rw [List.zip_nil_left] at hz; cases hz
      | cons a t hvi' =>
        cases hwi with
        | nil => rw [List.zip_nil_right] at hz; cases hz
        | cons c u hwi' =>
          rw [List.zip_cons_cons] at hz
          injection hz with hyx hrest
          injection hyx with hy hx
          subst hy hx
          rw [lexLt_cons] at hR
          simp only [List.length_cons] at hlen
          obtain ⟨e, he, hiff⟩ := eqAt_int A.in1 ⟨hp, g, d, tk, os⟩ a t c u
          refine wpAny_bind (he prog w _ _ ?_)
          cases e with
          | true =>
            rw [if_pos (hiff.mp rfl)] at hR
            wp_walk
            exact ⟨rfl, rfl, _, _, _, _, hrest, hvi', hwi', by omega, hR⟩
          | false =>
            rw [if_neg (fun q => absurd (hiff.mpr q) Bool.false_ne_true)] at hR
            have hri := rcLt_int A.in1 ⟨hp, g, d, tk, os⟩ a t c u prog w
            wp_walk using hri
            exact ⟨_, rfl, by simpa using hR⟩
    case fin =>
      rintro ⟨b1, b2⟩ s' ⟨hb', rfl, vs, ws, ns', ms', hz, hvi, hwi, hlen, hR⟩
      simp only at hb'
      subst hb'
      have hv : lexLt ns' ms' = decide (items.size < items2.size) := by
        cases hvi with
        | nil =>
          cases hwi with
          | nil =>
            simp only [List.length_nil] at hlen
            rw [lexLt_nil_nil]
            exact (decide_eq_false (by omega)).symm
          | cons c u hw =>
            simp only [List.length_nil, List.length_cons] at hlen
            rw [lexLt_nil_cons]
            exact (decide_eq_true (by omega)).symm
        | cons a t hv =>
          cases hwi with
          | nil =>
            simp only [List.length_nil, List.length_cons] at hlen
            rw [lexLt_cons_nil]
            exact (decide_eq_false (by omega)).symm
          | cons c u hw =>
            rw [List.zip_cons_cons] at hz
            cases hz
      rw [hv] at hR
      wp_walk
      exact ⟨_, rfl, by simpa [Builtin.Tuple.tupleCompareSizes] using hR⟩
    case h =>
      exact ⟨rfl, rfl, items.toList, items2.toList, ns, ms, rfl, hi, hj, by omega, h⟩
end

section
variable {prog : Program} {w : World} {A : Around} {E : Value → Shared → Prop} {s : Shared}

theorem lt_tupInts {l b : Addr} {items items2 : Array Value} {ns ms : List Int} {Q : Value → Shared → Prop} (hl : IsTup s.heap l items) (hb : IsTup s.heap b items2) (hi : IntsAre items.toList ns) (hj : IntsAre items2.toList ms)
    (hu : A.units < cLine) (h : Q (.bool (lexLt ns ms)) s) : wpAny (model prog w) A (compareOp .Lt (.ref l) (.ref b)) Q E s := by
  obtain ⟨⟨cls, dd, data, sl⟩, ho, hc, n, hd⟩ := id hl
  obtain ⟨⟨cls2, dd2, data2, sl2⟩, ho2, hc2, n2, hd2⟩ := id hb
  simp only at hc hd hc2 hd2
  subst hc hd hc2 hd2
  exact richCompare_meets_room (op := .Lt) ⟨_, ho, rfl⟩ ⟨_, ho2, rfl⟩ PySem.F.slot_tuple_lt PySem.F.entry_tuple_lt (PySem.F.args_tuple_lt_2 _ _) (tuple_lt_ints l b items items2 n n2 dd dd2 sl sl2 ns ms hi hj)
    ⟨ho, ho2, show Value.bool (lexLt ns ms) ≠ Value.notImplemented ∧ Q (.bool (lexLt ns ms)) s from ⟨(fun x => nomatch x), h⟩⟩ hu

/-- t + u, t not empty -/
theorem cat_tup {t b : Addr} {vs ws : List Value} {Q : Value → Shared → Prop} (ht : IsTup s.heap t vs.toArray) (hb : IsTup s.heap b ws.toArray) (hv : vs ≠ [])
    (h1 : ws = [] → Q (.ref t) s) (h2 : ws ≠ [] → Q (.ref s.heap.objs.size) { s with heap := s.heap.push { cls := .type "tuple", data := .seq (vs ++ ws).toArray } })
    (hsz : vs.length + ws.length ≤ sizeLine) : wpAny (model prog w) A (binaryOp .Add (.ref t) (.ref b)) Q E s := by
  obtain ⟨⟨cls, dd, data, sl⟩, ho, hc, n, hd⟩ := id ht
  obtain ⟨⟨cls2, dd2, data2, sl2⟩, ho2, hc2, n2, hd2⟩ := id hb
  simp only at hc hd hc2 hd2
  subst hc hd hc2 hd2
  have e : vs.toArray ++ ws.toArray = (vs ++ ws).toArray := by simp
  by_cases hw : ws = []
  · exact concat_meets ⟨_, ho, rfl⟩ ⟨_, ho2, rfl⟩ noFill_tuple_add seq_tuple_add PySem.F.slot_tuple_add PySem.F.entry_tuple_add (PySem.F.args_tuple_add_2 _ _)
      (tuple_addW1 t b vs.toArray ws.toArray n n2 dd dd2 sl sl2 (by simpa using hv) (by simp [hw])) ⟨ho, ho2, h1 hw⟩
  · refine concat_meets ⟨_, ho, rfl⟩ ⟨_, ho2, rfl⟩ noFill_tuple_add seq_tuple_add PySem.F.slot_tuple_add PySem.F.entry_tuple_add (PySem.F.args_tuple_add_2 _ _)
      (tuple_addW2 t b vs.toArray ws.toArray n n2 dd dd2 sl sl2 (by simpa using hv) (by simpa using hw) (by rw [List.size_toArray, List.size_toArray]; exact hsz)) ⟨ho, ho2, ?_⟩
    rw [e]
    exact h2 hw

/-! ### t[a:b], not the whole -/
/-- a slice's bound as a place among n (d where it is left out) -/
def sIx (n d : Nat) : Option Int → Nat
  | none => d
  | some v => if v < 0 then (v + (n : Int)).toNat else min v.toNat n
theorem sIx_none (n d : Nat) : sIx n d none = d := rfl
theorem sIx_nat (n d k : Nat) : sIx n d (some (k : Int)) = min k n := by
  show (if (k : Int) < 0 then ((k : Int) + (n : Int)).toNat else min (k : Int).toNat n) = min k n
  rw [if_neg (by omega), Int.toNat_natCast]
theorem sIx_le (n d : Nat) (hd : d ≤ n) (o : Option Int) : sIx n d o ≤ n := by
  cases o with
  | none => exact hd
  | some v =>
    show (if v < 0 then (v + (n : Int)).toNat else min v.toNat n) ≤ n
    by_cases hv : v < 0
    · rw [if_pos hv]; omega
    · rw [if_neg hv]; exact Nat.min_le_right _ _
theorem clip_eq (v : Int) (n d : Nat) : (if v < 0 then max (v + (n : Int)) 0 else min v (n : Int)) = ((sIx n d (some v) : Nat) : Int) := by
  show (if v < 0 then max (v + (n : Int)) 0 else min v (n : Int)) = (((if v < 0 then (v + (n : Int)).toNat else min v.toNat n) : Nat) : Int)
  by_cases hv : v < 0
  · simp only [if_pos hv]; omega
  · simp only [if_neg hv]; omega
theorem adjust_gen (lo hi : Option Int) (n : Nat) : Builtin.Slice.sliceAdjust lo hi 1 (n : Int) = (((sIx n 0 lo : Nat) : Int), ((sIx n n hi : Nat) : Int)) := by
  have h1 : ¬ ((1 : Int) < 0) := by omega
  unfold Builtin.Slice.sliceAdjust
  simp only [h1, if_false]
  refine Prod.ext ?_ ?_
  · cases lo with
    | none => rfl
    | some v => exact clip_eq v n 0
  · cases hi with
    | none => rfl
    | some v => exact clip_eq v n n
theorem places_gen (i j : Nat) : Builtin.Slice.slicePlaces (i : Int) (j : Int) 1 = j - i := by
  unfold Builtin.Slice.slicePlaces
  have h1 : (1 : Int) > 0 := by omega
  simp only [h1, if_true, Int.ediv_one]
  split <;> omega
theorem slicePart_ {v : Value} {o : Option Int} {Q : Option Int → Shared → Prop} (p : IsPart v o) (h : Q o s) : wpAny (model prog w) A (Builtin.Slice.slicePartIndex v) Q E s := by
  cases p with
  | none => exact slicePart_none h
  | int i t => exact slicePart_int h
theorem sliceApplied_gen {sl : Addr} {vl vu : Value} {lo hi : Option Int} {n : Nat} {Q : Int × Int × Nat → Shared → Prop} (hs : s.heap.IsSliceOf sl vl vu .none) (pl : IsPart vl lo) (pu : IsPart vu hi)
    (h : Q (((sIx n 0 lo : Nat) : Int), 1, sIx n n hi - sIx n 0 lo) s) : wpAny (model prog w) A (Builtin.Slice.sliceApplied (.ref sl) (pure (n : Int))) Q E s := by
  obtain ⟨os, hos, hcs, hds⟩ := id hs
  unfold Builtin.Slice.sliceApplied Builtin.Slice.sliceFields
  refine wpAny_bind (wpAny_bind (wpAny_field hos hds (x := vl) rfl (wpAny_bind (wpAny_field hos hds (x := vu) rfl (wpAny_bind (wpAny_field hos hds (x := .none) rfl (wpAny_pure ?_)))))))
  refine wpAny_bind (slicePart_none ?_)
  show wpAny _ _ (if ((1 : Int) == 0) = true then _ else _) _ _ s
  rw [if_neg (by decide)]
  refine wpAny_bind (slicePart_ pl (wpAny_bind (slicePart_ pu (wpAny_bind (wpAny_pure ?_)))))
  show wpAny _ _ (match Builtin.Slice.sliceAdjust lo hi 1 (n : Int) with | (lo, hi) => pure (lo, (1 : Int), Builtin.Slice.slicePlaces lo hi 1)) _ _ s
  rw [adjust_gen lo hi n]
  show wpAny _ _ (pure (((sIx n 0 lo : Nat) : Int), (1 : Int), Builtin.Slice.slicePlaces ((sIx n 0 lo : Nat) : Int) ((sIx n n hi : Nat) : Int) 1)) _ _ s
  rw [places_gen]
  exact wpAny_pure h
theorem pick_gen (xs : Array Value) (i k : Nat) : ((List.range k).filterMap fun (m : Nat) => xs[((i : Int) + (m : Int) * 1).toNat]?).toArray = ((xs.toList.drop i).take k).toArray := by
  have e : (fun (m : Nat) => xs[((i : Int) + (m : Int) * 1).toNat]?) = fun m => xs[i + m]? := by
    funext m
    have : ((i : Int) + (m : Int) * 1).toNat = i + m := by omega
    rw [this]
  rw [e]
  have := pick_run xs i k
  rw [List.filterMap_map] at this
  have e2 : ((fun x => xs[x]?) ∘ fun x => i + x) = fun m => xs[i + m]? := rfl
  rw [e2] at this
  rw [this]

theorem getItem_tuple_cut {t sl : Addr} {items : Array Value} {vl vu : Value} {lo hi : Option Int} {Q : Value → Shared → Prop} (ht : IsTup s.heap t items) (hs : s.heap.IsSliceOf sl vl vu .none) (pl : IsPart vl lo) (pu : IsPart vu hi)
    (hw : ¬ (sIx items.size 0 lo = 0 ∧ sIx items.size items.size hi = items.size))
    (h : Q (.ref s.heap.objs.size) { s with heap := s.heap.push { cls := .type "tuple", data := .seq ((items.toList.drop (sIx items.size 0 lo)).take (sIx items.size items.size hi - sIx items.size 0 lo)).toArray } })
    (hsz : items.size ≤ sizeLine) : wpAny (model prog w) A (getItem (.ref t) (.ref sl)) Q E s := by
  have htake : sizeOk (.seq ((items.toList.drop (sIx items.size 0 lo)).take (sIx items.size items.size hi - sIx items.size 0 lo)).toArray) := by
    show ((items.toList.drop (sIx items.size 0 lo)).take (sIx items.size items.size hi - sIx items.size 0 lo)).toArray.size ≤ sizeLine
    rw [List.size_toArray, List.length_take, List.length_drop, Array.length_toList]
    omega
  have hj : sIx items.size items.size hi ≤ items.size := sIx_le _ _ (Nat.le_refl _) hi
  obtain ⟨os, hos, hcs, hds⟩ := id hs
  have hTs : s.TypeIs (.ref sl) "slice" := ⟨os, hos, hcs⟩
  unfold getItem
  try with_reducible refine wpAny_holding ?_
  first | refine wpAny_bind (wpAny_pure ?_) | skip
  refine wpAny_bind (wpAny_sequenceKey ht.typeIs (by decide) ?_)
  refine wpAny_bind (wpAny_callSpecial?_slot (name := Str.ofString "__getitem__") ht.typeIs PyProof.Rows.slot_tuple_getitem
    (wpAny_call_entry PyProof.Rows.slot_tuple_getitem ht.typeIs entry_tuple_getitem ?_ (args_tuple_getitem _ _)))
  show wpAny _ _ (Builtin.Tuple.tupleItemsOf (.ref t) >>= _) _ _ s
  refine wpAny_bind (tupleItemsOf_ ht ?_)
  refine wpAny_bind (wpAny_typeOf hTs ?_)
  rw [if_pos (by decide)]
  refine wpAny_bind (sliceApplied_gen hs pl pu ?_)
  have hno : ¬ ((((sIx items.size 0 lo : Nat) : Int) == 0 && (1 : Int) == 1 && (sIx items.size items.size hi - sIx items.size 0 lo) == items.size) = true) := by
    intro q
    rw [Bool.and_eq_true, Bool.and_eq_true] at q
    have q1 : ((sIx items.size 0 lo : Nat) : Int) = 0 := eq_of_beq q.1.1
    have q2 : sIx items.size items.size hi - sIx items.size 0 lo = items.size := eq_of_beq q.2
    exact hw ⟨by omega, by omega⟩
  show wpAny _ _ (if (((sIx items.size 0 lo : Nat) : Int) == 0 && (1 : Int) == 1 && (sIx items.size items.size hi - sIx items.size 0 lo) == items.size) = true then _ else _) _ _ s
  rw [if_neg hno, pick_gen]
  first
    | exact wpAny_bind (m := Builtin.Tuple.tupleExact _) (wpAny_newObj_type (wpAny_pure ⟨_, rfl, wpAny_pure h⟩) htake)
    | exact wpAny_bind (m := Builtin.Tuple.tupleExact _) (wpAny_newObj_type (wpAny_bind (wpAny_pure (wpAny_pure ⟨_, rfl, wpAny_pure h⟩))) htake)
    | exact wpAny_bind (wpAny_bind (m := Builtin.Tuple.tupleExact _) (wpAny_newObj_type (wpAny_pure (wpAny_pure ⟨_, rfl, wpAny_pure h⟩)) htake))
    | exact wpAny_bind (wpAny_bind (m := Builtin.Tuple.tupleExact _) (wpAny_newObj_type (wpAny_pure ⟨_, rfl, wpAny_pure h⟩) htake))
end
end HT

namespace L2
open PySem PySem.Spec PyProof.Rows

/-! ### the parts of a slice -/
abbrev TO := St → Hp → (Option Int → Hp → Prop) → Prop
/-- a slice's part (left out, or an int) -/
def PO (X : Cx) (e : Option Expr) (t : TO) : Prop :=
  ∀ (pins : List (Addr × Obj)) (s : Shared) (σ : St) (H : Hp) (Q : Option Int → Hp → Prop), Inv X pins σ H s → t σ H Q →
    wpAny (model X.prog X.w) X.A (evalPart e X.env) (fun u s' => ∃ o H', Inv X pins σ H' s' ∧ IsPart u o ∧ Q o H') X.xe s
def tNoPart : TO := fun _ H Q => Q none H
def tPart (t : TE) : TO := fun σ H Q => t σ H fun x H1 => ∃ i, x = .int i ∧ Q (some i) H1

theorem intsAre_of {ns : List Int} : ∀ {us : List Value}, Vals (ns.map V.int) us → IntsAre us ns := by
  induction ns with
  | nil => intro us r; rw [List.map_nil] at r; cases r; exact .nil
  | cons n ns ih =>
    intro us r
    rw [List.map_cons] at r
    cases r with
    | cons r1 r2 =>
      obtain ⟨t, e⟩ := r1
      subst e
      exact .cons n t (ih r2)

section
variable {X : Cx} {e : Expr} {te : TE} {lo hi : Option Expr} {tl th : TO} {pos p2 : Pos}

theorem po_none : PO X none tNoPart := by
  intro pins s σ H Q I h
  rw [evalPart_none]
  exact wpAny_pure ⟨none, H, I, .none, h⟩
theorem po_some (h : PE X e te) : PO X (some e) (tPart te) := by
  intro pins s σ H Q I hw
  rw [evalPart_some]
  refine thn (h pins s σ H _ I hw) fun u s1 ⟨x, H1, I1, r1, q1⟩ => ?_
  obtain ⟨i, rfl, q⟩ := q1
  obtain ⟨t, rfl⟩ := r1
  exact ⟨some i, H1, I1, .int i t, q⟩

/-- what a slice of a value is, by values: the slice object stands at sl -/
def SlR (X : Cx) (r : V → Option Int → Option Int → Hp → VK → Prop) : Prop :=
  ∀ (pins : List (Addr × Obj)) (s : Shared) (σ : St) (H : Hp) (x : V) (v vl vu : Value) (lo hi : Option Int) (sl : Addr) (Q : VK), Inv X pins σ H s → RelV x v → s.heap.IsSliceOf sl vl vu .none → IsPart vl lo → IsPart vu hi → r x lo hi H Q →
    ∃ T id, typeLookup (.type T) "__getitem__" = pure (some (.builtin id)) ∧ s.TypeIs v T ∧ wpAny (model X.prog X.w) X.A (getItem v (.ref sl)) (EP X pins σ Q) X.xe s
theorem SlR.or {r r' : V → Option Int → Option Int → Hp → VK → Prop} (h : SlR X r) (h' : SlR X r') : SlR X (fun x lo hi H Q => r x lo hi H Q ∨ r' x lo hi H Q) := by
  intro pins s σ H x v vl vu lo hi sl Q I rx hs pl pu q
  rcases q with q | q
  · exact h pins s σ H x v vl vu lo hi sl Q I rx hs pl pu q
  · exact h' pins s σ H x v vl vu lo hi sl Q I rx hs pl pu q
def tSl (r : V → Option Int → Option Int → Hp → VK → Prop) (te : TE) (tl th : TO) : TE := fun σ H Q => te σ H fun x H1 => tl σ H1 fun l H2 => th σ H2 fun u H3 => r x l u H3 Q
/-- a[lo:hi], any a -/
theorem pe_slice {r : V → Option Int → Option Int → Hp → VK → Prop} (hr : SlR X r) (he : PE X e te) (hl : PO X lo tl) (hu : PO X hi th) : PE X (.Subscript e (.Slice lo hi none p2) pos) (tSl r te tl th) := by
  intro pins s σ H Q I h
  refine Subscript_ (thn (he pins s σ H _ I h) fun v s1 ⟨x, H1, I1, r1, q1⟩ => ?_)
  refine wpAny_Slice (thn (hl pins s1 σ H1 _ I1 q1) fun vl s2 ⟨l, H2, I2, pl, q2⟩ => thn (hu pins s2 σ H2 _ I2 q2) fun vu s3 ⟨u, H3, I3, pu, q3⟩ => ?_)
  rw [evalPart_none]
  refine wpAny_pure ?_
  have I4 : Inv X pins σ H3 { s3 with heap := s3.heap.push { cls := .type "slice", data := .fields #[vl, vu, .none] } } := I3.kept (t' := s3.toks) fun b ob q => Heap.get?_push_of_some _ q
  obtain ⟨T, id, hT, ht, hg⟩ := hr pins { s3 with heap := s3.heap.push { cls := .type "slice", data := .fields #[vl, vu, .none] } } σ H3 x v vl vu l u s3.heap.objs.size Q I4 r1 (Heap.IsSliceOf.new ..) pl pu q3
  show wpAny (model X.prog X.w) X.A (subscriptTail e (.Slice lo hi none p2) v (.ref s3.heap.objs.size)) (EP X pins σ Q) X.xe { s3 with heap := s3.heap.push { cls := .type "slice", data := .fields #[vl, vu, .none] } }
  exact tail_any (ops := [.ref s3.heap.objs.size, v]) ht hT hg (by with_unfolding_all rfl)

/-- the items of xs[lo:hi] -/
def cutV (xs : List V) (lo hi : Option Int) : List V := (xs.drop (HT.sIx xs.length 0 lo)).take (HT.sIx xs.length xs.length hi - HT.sIx xs.length 0 lo)
theorem cutV_length (xs : List V) (lo hi : Option Int) : (cutV xs lo hi).length ≤ xs.length := by
  unfold cutV
  rw [List.length_take, List.length_drop]
  omega
/-- t[lo:hi], not the whole of it (the whole would be t itself) -/
def rSlT (K : PySem.W.Frag) : V → Option Int → Option Int → Hp → VK → Prop := fun x lo hi H Q => ∃ a xs, x = .ref a ∧ SqT K H a xs ∧
  ¬ (HT.sIx xs.length 0 lo = 0 ∧ HT.sIx xs.length xs.length hi = xs.length) ∧ ∀ p, H p = none → Q (.ref p) (upd H p (.tup (cutV xs lo hi)))
theorem sl_tup : SlR X (rSlT X.K) := by
  intro pins s σ H x v vl vu lo hi sl Q I rx hs pl pu h
  obtain ⟨a, xs, rfl, hx, hw, q⟩ := h
  cases rx
  obtain ⟨its, r, ht, hz⟩ := I.tuple hx
  have hlen : its.toArray.size = xs.length := by rw [List.size_toArray]; exact r.length.symm
  refine ⟨"tuple", _, PyProof.Rows.slot_tuple_getitem.lookup, ht.typeIs, ?_⟩
  refine HT.getItem_tuple_cut ht hs pl pu (by rw [hlen]; exact hw) ?_ (by rw [hlen]; exact hz)
  rw [hlen]
  refine ⟨.ref s.heap.objs.size, _, I.laid (t' := s.toks) (o := .tup (cutV xs lo hi)) (fun b ob q => Heap.get?_push_of_some _ q) (Nat.le_refl _) ?_, rfl, q _ (I.hok.fresh (Nat.le_refl _))⟩
  exact ⟨Nat.le_trans (cutV_length xs lo hi) hz, _, (r.drop (HT.sIx xs.length 0 lo)).take (HT.sIx xs.length xs.length hi - HT.sIx xs.length 0 lo), IsTup.new _ _⟩

/-! ### t < u, t + u -/
def rLtT (K : PySem.W.Frag) : R2 := fun x y H Q => ∃ a b ns ms, x = .ref a ∧ y = .ref b ∧ SqT K H a (ns.map V.int) ∧ SqT K H b (ms.map V.int) ∧ Q (.bl (HT.lexLt ns ms)) H
theorem op_ltT (hu : X.A.units < cLine) : OpR X (compareOp .Lt) (rLtT X.K) := by
  intro pins s σ H x y v u Q I rx ry h
  obtain ⟨a, b, ns, ms, rfl, rfl, ha, hb, q⟩ := h
  cases rx
  cases ry
  obtain ⟨its, r1, p1, _⟩ := I.tuple ha
  obtain ⟨its2, r2, p2, _⟩ := I.tuple hb
  have i1 : IntsAre its.toArray.toList ns := intsAre_of r1
  have i2 : IntsAre its2.toArray.toList ms := intsAre_of r2
  exact HT.lt_tupInts p1 p2 i1 i2 hu ⟨.bl (HT.lexLt ns ms), H, I, rfl, q⟩
/-- t + u, t not empty: u empty gives t itself -/
def rCatT (K : PySem.W.Frag) : R2 := fun x y H Q => ∃ a b xs ys, x = .ref a ∧ y = .ref b ∧ SqT K H a xs ∧ SqT K H b ys ∧ xs ≠ [] ∧ xs.length + ys.length ≤ sizeLine ∧
  (ys = [] → Q (.ref a) H) ∧ (ys ≠ [] → ∀ p, H p = none → Q (.ref p) (upd H p (.tup (xs ++ ys))))
theorem Vals.nil_iff {xs : List V} {us : List Value} (r : Vals xs us) : us = [] ↔ xs = [] := by
  cases r with
  | nil => simp
  | cons _ _ => simp
theorem op_catT : OpR X (binaryOp .Add) (rCatT X.K) := by
  intro pins s σ H x y v u Q I rx ry h
  obtain ⟨a, b, xs, ys, rfl, rfl, ha, hb, hx, hz, q1, q2⟩ := h
  cases rx
  cases ry
  obtain ⟨its, r1, p1, _⟩ := I.tuple ha
  obtain ⟨its2, r2, p2, _⟩ := I.tuple hb
  refine HT.cat_tup p1 p2 (fun z => hx (r1.nil_iff.mp z)) (fun z => ⟨.ref a, H, I, rfl, q1 (r2.nil_iff.mp z)⟩) (fun z => ?_) (by rw [← r1.length, ← r2.length]; exact hz)
  refine ⟨.ref s.heap.objs.size, _, I.laid (t' := s.toks) (o := .tup (xs ++ ys)) (fun b ob q => Heap.get?_push_of_some _ q) (Nat.le_refl _) ?_, rfl, q2 (fun w => z (r2.nil_iff.mpr w)) _ (I.hok.fresh (Nat.le_refl _))⟩
  exact ⟨by rw [List.length_append]; exact hz, _, r1.append r2, IsTup.new _ _⟩
/-- tuple(t) -/
theorem call_tupleT : CallR X (.type "tuple") (fun xs H Q => ∃ a ys, xs = [.ref a] ∧ SqT X.K H a ys ∧ Q (.ref a) H) := by
  intro pins s σ H xs us Q I r h
  obtain ⟨a, ys, rfl, ha, q⟩ := h
  obtain ⟨u, rfl, ru⟩ := vals1 r
  cases ru
  obtain ⟨its, _, p1, _⟩ := I.tuple ha
  exact call_tuple_same (items := its.toArray) p1 ⟨.ref a, H, I, rfl, q⟩
end
end L2

namespace L2
open PySem PySem.Spec PyProof.Rows

/-! ### places -/
/-- the place that an index of any sign means -/
def ixN (n : Nat) (i : Int) : Option Nat := if 0 ≤ i then (if i < n then some i.toNat else none) else if -(n : Int) ≤ i then some (i + n).toNat else none
def atI {α : Type} (xs : List α) (i : Int) : Option α := (ixN xs.length i).bind fun j => xs[j]?
theorem ixN_seq {n : Nat} {i : Int} {j : Nat} (h : ixN n i = some j) : seqIndex? i n = some j ∧ j < n ∧ -(n : Int) ≤ i ∧ i < n := by
  unfold ixN at h
  by_cases h0 : 0 ≤ i
  · rw [if_pos h0] at h
    by_cases h1 : i < n
    · rw [if_pos h1] at h
      have e : i.toNat = j := Option.some.inj h
      exact ⟨by rw [seqIndex_of h0 h1, e], by omega, by omega, h1⟩
    · rw [if_neg h1] at h; cases h
  · rw [if_neg h0] at h
    by_cases h1 : -(n : Int) ≤ i
    · rw [if_pos h1] at h
      have e : (i + n).toNat = j := Option.some.inj h
      exact ⟨by rw [seqIndex_neg (by omega) h1, e], by omega, h1, by omega⟩
    · rw [if_neg h1] at h; cases h
theorem atI_get {α : Type} {xs : List α} {i : Int} {v : α} (h : atI xs i = some v) : ∃ j, seqIndex? i xs.length = some j ∧ xs[j]? = some v ∧ j < xs.length ∧ -(xs.length : Int) ≤ i ∧ i < xs.length := by
  unfold atI at h
  cases e : ixN xs.length i with
  | none => rw [e] at h; cases h
  | some j =>
    rw [e] at h
    obtain ⟨h1, h2, h3, h4⟩ := ixN_seq e
    exact ⟨j, h1, h, h2, h3, h4⟩
theorem atI_nat {α : Type} {xs : List α} {j : Nat} {v : α} (h : xs[j]? = some v) : atI xs (j : Int) = some v := by
  have hj : j < xs.length := (List.getElem?_eq_some_iff.mp h).1
  have e : ixN xs.length (j : Int) = some j := by
    unfold ixN
    rw [if_pos (by omega), if_pos (by omega)]; simp
  unfold atI; rw [e]; exact h
theorem atI_last {α : Type} (xs : List α) (v : α) : atI (xs ++ [v]) (-1) = some v := by
  have hl : (xs ++ [v]).length = xs.length + 1 := by simp
  have e : ixN (xs ++ [v]).length (-1) = some xs.length := by
    unfold ixN
    rw [hl, if_neg (by decide), if_pos (by omega)]
    congr 1
    omega
  unfold atI
  rw [e]
  show (xs ++ [v])[xs.length]? = some v
  simp

/-! ### what may be subscripted -/
/-- what stands as an index of a plain subscript -/
def PlainIx (b : Expr) : Prop := ∀ o i, subscripted b false o i = operate [o, i] (getItem o i)
/-- a subscript by values -/
def IxR (X : Cx) (r : R2) : Prop :=
  ∀ (value slice : Expr) (pins : List (Addr × Obj)) (s : Shared) (σ : St) (H : Hp) (x y : V) (v u : Value) (Q : VK), Inv X pins σ H s → RelV x v → RelV y u → r x y H Q →
    subscripted slice false v u = operate [v, u] (getItem v u) → wpAny (model X.prog X.w) X.A (subscriptTail value slice v u) (EP X pins σ Q) X.xe s
/-- a call of a builtin's method by values: the receiver, the arguments -/
def MtR (X : Cx) (id : String) (r : V → List V → Hp → VK → Prop) : Prop :=
  ∀ (pins : List (Addr × Obj)) (s : Shared) (σ : St) (H : Hp) (x : V) (xs : List V) (v : Value) (us : List Value) (Q : VK), Inv X pins σ H s → RelV x v → Vals xs us → r x xs H Q →
    wpAny (model X.prog X.w) X.A (call (.builtin id) (v :: us)) (EP X pins σ Q) X.xe s
section
variable {X : Cx} {a b : Expr} {ta tb : TE} {pos : Pos}
theorem IxR.or {r r' : R2} (h : IxR X r) (h' : IxR X r') : IxR X (fun x y H Q => r x y H Q ∨ r' x y H Q) := by
  intro value slice pins s σ H x y v u Q I rx ry q hs
  rcases q with q | q
  · exact h value slice pins s σ H x y v u Q I rx ry q hs
  · exact h' value slice pins s σ H x y v u Q I rx ry q hs
theorem MtR.or {id : String} {r r' : V → List V → Hp → VK → Prop} (h : MtR X id r) (h' : MtR X id r') : MtR X id (fun x xs H Q => r x xs H Q ∨ r' x xs H Q) := by
  intro pins s σ H x xs v us Q I rx rs q
  rcases q with q | q
  · exact h pins s σ H x xs v us Q I rx rs q
  · exact h' pins s σ H x xs v us Q I rx rs q
/-- a[b] -/
theorem pe_ix {r : R2} (hr : IxR X r) (ha : PE X a ta) (hb : PE X b tb) (hs : PlainIx b) : PE X (.Subscript a b pos) (tOp r ta tb) := by
  intro pins s σ H Q I h
  exact Subscript_ (binT ha hb I h fun v u s2 x y H2 I2 rx ry q => hr a b pins s2 σ H2 x y v u Q I2 rx ry q (hs _ _))

def rIxL (K : PySem.W.Frag) : R2 := fun x y H Q => ∃ p xs i v, x = .ref p ∧ y = .int i ∧ SqL K H p xs ∧ atI xs i = some v ∧ Q v H
def rIxT (K : PySem.W.Frag) : R2 := fun x y H Q => ∃ p xs i v, x = .ref p ∧ y = .int i ∧ SqT K H p xs ∧ atI xs i = some v ∧ Q v H
def rIxS : R2 := fun x y H Q => ∃ z i c, x = .str z ∧ y = .int i ∧ z.length ≤ sizeLine ∧ atI z.cps.toList i = some c ∧ Q (.str ⟨#[c]⟩) H
theorem ix_list : IxR X (rIxL X.K) := by
  intro value slice pins s σ H x y v u Q I rx ry h hs
  obtain ⟨p, xs, i, z, rfl, rfl, hq, he, q⟩ := h
  cases rx
  obtain ⟨t, rfl⟩ := ry
  obtain ⟨its, r, pl, hz⟩ := I.list hq
  obtain ⟨j, h1, h2, h3, h4, h5⟩ := atI_get he
  obtain ⟨w, ew, rw'⟩ := r.get h2
  have hl := r.length
  have hn := line63
  have fin : EP X pins σ Q w s := ⟨z, H, I, rw', q⟩
  by_cases h0 : 0 ≤ i
  · have hj : i.toNat = j := by
      rw [seqIndex_of h0 h5] at h1
      exact Option.some.inj h1
    exact item_listR pl.isList h0 (by omega) (by rw [hj]; simpa using ew) fin hs
  · have hj : (i + (its.toArray.size : Int)).toNat = j := by
      rw [seqIndex_neg (by omega) h4] at h1
      rw [List.size_toArray, ← hl]
      exact Option.some.inj h1
    exact subscriptTail_builtinR (x := w) pl.isList.typeIs slot_list_getitem.lookup
      (wpAny_getItem_list_neg (Q := fun r s' => r = w ∧ EP X pins σ Q r s') pl.isList (by omega) (by rw [List.size_toArray] <;> omega) (by omega) (by rw [hj]; simpa using ew) ⟨rfl, fin⟩) hs
theorem ix_tup : IxR X (rIxT X.K) := by
  intro value slice pins s σ H x y v u Q I rx ry h hs
  obtain ⟨p, xs, i, z, rfl, rfl, hq, he, q⟩ := h
  cases rx
  obtain ⟨t, rfl⟩ := ry
  obtain ⟨its, r, pl, hz⟩ := I.tuple hq
  obtain ⟨j, h1, h2, h3, h4, h5⟩ := atI_get he
  obtain ⟨w, ew, rw'⟩ := r.get h2
  have hl := r.length
  have hn := line63
  have fin : EP X pins σ Q w s := ⟨z, H, I, rw', q⟩
  exact subscriptTail_builtinR (x := w) pl.typeIs slot_tuple_getitem.lookup
    (getItem_tuple (j := j) (Q := fun r s' => r = w ∧ EP X pins σ Q r s') pl (by omega) (by omega) (by rw [List.size_toArray, ← hl]; exact h1) (by simpa using ew) ⟨rfl, fin⟩) hs
theorem ix_str : IxR X rIxS := by
  intro value slice pins s σ H x y v u Q I rx ry h hs
  obtain ⟨z, i, c, rfl, rfl, hz, he, q⟩ := h
  obtain ⟨t, rfl⟩ := rx
  obtain ⟨t', rfl⟩ := ry
  obtain ⟨j, h1, h2, h3, h4, h5⟩ := atI_get he
  have hl : z.cps.toList.length = z.length := by simp [Str.length]
  rw [hl] at h1 h4 h5
  have hn := line63
  exact tail_any (typeIs_str s z t) slot_str_getitem.lookup (getItem_str (c := c) (by
    have e1 : decide (i < -(2 ^ 63 : Int)) = false := decide_eq_false (by omega)
    have e2 : decide (i ≥ 2 ^ 63) = false := decide_eq_false (by omega)
    rw [e1, e2, Bool.or_false]) (by rw [h1]; simpa using h2) ⟨.str ⟨#[c]⟩, H, I.tok _, ⟨_, rfl⟩, q⟩) hs
/-- list, tuple or str -/
def rIx (K : PySem.W.Frag) : R2 := fun x y H Q => rIxL K x y H Q ∨ rIxT K x y H Q ∨ rIxS x y H Q
theorem ix_seq : IxR X (rIx X.K) := ix_list.or (ix_tup.or ix_str)

/-! ### xs[i] = v, any sign -/
/-- the list's object behind a store -/
theorem mapSeq_set (its : List Value) (n j : Nat) (u : Value) : Obj.mapSeq (·.setIfInBounds j u) { cls := .type "list", data := .seq its.toArray n } = { cls := .type "list", data := .seq (its.set j u).toArray n } := by
  simp [Obj.mapSeq]
theorem Inv.lst {pins : List (Addr × Obj)} {σ : St} {H : Hp} {s : Shared} {p : Addr} {xs : List V} (I : Inv X pins σ H s) (h : H p = some (.lst xs)) :
    ∃ (its : List Value) (n : Nat), Vals xs its ∧ s.heap.get? p = some { cls := .type "list", data := .seq its.toArray n } ∧ xs.length ≤ sizeLine := by
  obtain ⟨z, its, n, r, e⟩ := I.hok p _ h
  exact ⟨its, n, r, e, z⟩
/-- the list at p is written by an update of its object -/
theorem Inv.lstUpd {pins : List (Addr × Obj)} {σ : St} {H : Hp} {s : Shared} {p : Addr} {xs ys : List V} {its its' : List Value} {n n' : Nat} {f : Obj → Obj} (I : Inv X pins σ H s) (h : H p = some (.lst xs))
    (ho : s.heap.get? p = some { cls := .type "list", data := .seq its.toArray n }) (hf : f { cls := .type "list", data := .seq its.toArray n } = { cls := .type "list", data := .seq its'.toArray n' }) (r : Vals ys its') (hz : ys.length ≤ sizeLine) (t : Nat) :
    Inv X pins σ (upd H p (.lst ys)) { s with heap := s.heap.update p f, toks := t } := by
  have e : (s.heap.update p f).get? p = some { cls := .type "list", data := .seq its'.toArray n' } := by
    rw [Heap.get?_update_self f ho (by rw [hf] <;> rfl), hf]
  refine I.write (x := p) (e := p) (by rw [h]; trivial) (.inl rfl) (fun b u hb q => (Heap.get?_update_other _ _ (Ne.symm hb)).trans q) ⟨_, e⟩ ?_
  exact ⟨hz, its', n', r, e⟩
def rSetL : V → V → V → Hp → (Hp → Prop) → Prop := fun o i v H Q => ∃ p xs k j, o = .ref p ∧ i = .int k ∧ H p = some (.lst xs) ∧ ixN xs.length k = some j ∧ Q (upd H p (.lst (xs.set j v)))
theorem set_list : PSet X rSetL := by
  intro pins s σ H o i v ov iv u Q I ro ri rv h
  obtain ⟨p, xs, k, j, rfl, rfl, hp, hj, q⟩ := h
  cases ro
  obtain ⟨t, rfl⟩ := ri
  obtain ⟨its, n, r, ho, hz⟩ := I.lst hp
  obtain ⟨h1, h2, h3, h4⟩ := ixN_seq hj
  have hl := r.length
  have hn := line63
  have I' : Inv X pins σ (upd H p (.lst (xs.set j v))) { s with heap := s.heap.update p (Obj.mapSeq (·.setIfInBounds j u)) } :=
    I.lstUpd hp ho (mapSeq_set its n j u) (r.set rv j) (by rw [List.length_set]; exact hz) s.toks
  by_cases h0 : 0 ≤ k
  · have hk : k.toNat = j := by
      rw [seqIndex_of h0 h4] at h1
      exact Option.some.inj h1
    exact PySem.W.ki_setAt ho h0 (by omega) (by rw [List.size_toArray, ← hl]; exact h4) (by rw [hk]; exact ⟨_, I', q⟩)
  · have hk : (k + (its.toArray.size : Int)).toNat = j := by
      rw [seqIndex_neg (by omega) h3] at h1
      rw [List.size_toArray, ← hl]
      exact Option.some.inj h1
    exact PySem.W.ki_setBack ho (by omega) (by rw [List.size_toArray, ← hl]; exact h3) (by omega) (by rw [hk]; exact ⟨_, I', q⟩)

/-! ### slices -/
theorem slice_bounds (lo hi : Option Int) (n : Nat) : (sliceBounds lo hi none n).1 = ((HT.sIx n 0 lo : Nat) : Int) ∧ (sliceBounds lo hi none n).2.1 = ((HT.sIx n n hi : Nat) : Int) ∧ (sliceBounds lo hi none n).2.2 = 1 := by
  refine ⟨?_, ?_, rfl⟩
  · cases lo with
    | none => simp [sliceBounds, HT.sIx]
    | some i =>
      simp only [sliceBounds, HT.sIx, Option.getD_none, show (1 : Int) > 0 by decide, if_true]
      by_cases h : i < 0
      · simp only [h, if_true] <;> omega
      · simp only [h, if_false] <;> omega
  · cases hi with
    | none => simp [sliceBounds, HT.sIx]
    | some i =>
      simp only [sliceBounds, HT.sIx, Option.getD_none, show (1 : Int) > 0 by decide, if_true]
      by_cases h : i < 0
      · simp only [h, if_true] <;> omega
      · simp only [h, if_false] <;> omega
theorem slicePick_cut (its : List Value) (lo hi : Option Int) : slicePick its.toArray lo hi none = ((its.drop (HT.sIx its.length 0 lo)).take (HT.sIx its.length its.length hi - HT.sIx its.length 0 lo)).toArray := by
  obtain ⟨h1, h2, h3⟩ := slice_bounds lo hi its.toArray.size
  unfold slicePick
  rw [h1, h2, h3]
  simp only [sliceRange_one, pick_run, List.size_toArray] <;> rfl
/-- xs[lo:hi] of a list: a new list -/
def rSlL (K : PySem.W.Frag) : V → Option Int → Option Int → Hp → VK → Prop := fun x lo hi H Q => ∃ a xs, x = .ref a ∧ SqL K H a xs ∧ ∀ p, H p = none → Q (.ref p) (upd H p (.lst (cutV xs lo hi)))
theorem sl_list : SlR X (rSlL X.K) := by
  intro pins s σ H x v vl vu lo hi sl Q I rx hs pl pu h
  obtain ⟨a, xs, rfl, hx, q⟩ := h
  cases rx
  obtain ⟨its, r, ht, hz⟩ := I.list hx
  have hlen := r.length
  refine ⟨"list", _, slot_list_getitem.lookup, ht.isList.typeIs, ?_⟩
  refine wpAny_getItem_list_slice ht.isList hs pl pu .none (by simp) ?_ (by rw [List.size_toArray] <;> omega)
  rw [slicePick_cut, ← hlen]
  refine ⟨.ref s.heap.objs.size, _, I.laid (t' := s.toks) (o := .lst (cutV xs lo hi)) (fun b ob q => Heap.get?_push_of_some _ q) (Nat.le_refl _) ?_, rfl, q _ (I.hok.fresh (Nat.le_refl _))⟩
  exact ⟨Nat.le_trans (cutV_length xs lo hi) hz, _, 0, (r.drop (HT.sIx xs.length 0 lo)).take (HT.sIx xs.length xs.length hi - HT.sIx xs.length 0 lo), Heap.get?_push_size _ rfl⟩

/-! ### in, not in: flat items -/
def flatV : V → Bool
  | .non => true
  | .bl _ => true
  | .int _ => true
  | .str _ => true
  | _ => false
/-- == of flat values -/
def eqV : V → V → Bool
  | .non, .non => true
  | .bl a, .bl b => a == b
  | .bl a, .int b => (if a then 1 else 0) == b
  | .int a, .bl b => a == (if b then 1 else 0)
  | .int a, .int b => a == b
  | .str a, .str b => a == b
  | _, _ => false
theorem eqAt_V {A : Around} {s : Shared} {y x : V} {u v : Value} (ry : RelV y u) (rx : RelV x v) (fy : flatV y = true) (fx : flatV x = true) : SeqAt.EqAt A s u v (eqV y x) := by
  cases y with
  | non =>
    cases ry
    cases x with
    | non => cases rx; exact SeqAt.EqAt.same _
    | bl b => cases rx; exact SeqAt.EqAt.none_bool b
    | int b => obtain ⟨t, rfl⟩ := rx; exact SeqAt.EqAt.none_int b t
    | str b => obtain ⟨t, rfl⟩ := rx; exact SeqAt.EqAt.none_str b t
    | _ => exact absurd (show false = true from fx) Bool.false_ne_true
  | bl a =>
    cases ry
    cases x with
    | non => cases rx; exact SeqAt.EqAt.bool_none a
    | bl b => cases rx; exact SeqAt.EqAt.bool_bool a b
    | int b => obtain ⟨t, rfl⟩ := rx; exact SeqAt.EqAt.bool_int a b t
    | str b => obtain ⟨t, rfl⟩ := rx; exact SeqAt.EqAt.bool_str a b t
    | _ => exact absurd (show false = true from fx) Bool.false_ne_true
  | int a =>
    obtain ⟨t', rfl⟩ := ry
    cases x with
    | non => cases rx; exact SeqAt.EqAt.int_none a t'
    | bl b => cases rx; exact SeqAt.EqAt.int_bool a t' b
    | int b => obtain ⟨t, rfl⟩ := rx; exact SeqAt.EqAt.int_int a t' b t
    | str b => obtain ⟨t, rfl⟩ := rx; exact SeqAt.EqAt.int_str a t' b t
    | _ => exact absurd (show false = true from fx) Bool.false_ne_true
  | str a =>
    obtain ⟨t', rfl⟩ := ry
    cases x with
    | non => cases rx; exact SeqAt.EqAt.str_none a t'
    | bl b => cases rx; exact SeqAt.EqAt.str_bool a t' b
    | int b => obtain ⟨t, rfl⟩ := rx; exact SeqAt.EqAt.str_int a t' b t
    | str b => obtain ⟨t, rfl⟩ := rx; exact SeqAt.EqAt.str_str a t' b t
    | _ => exact absurd (show false = true from fx) Bool.false_ne_true
  | _ => exact absurd (show false = true from fy) Bool.false_ne_true
/-- the items' answers, read off the values (a value's own answer does not lean on its token) -/
def eqU (x : V) (u : Value) : Bool := match u with
  | .none => eqV .non x
  | .bool b => eqV (.bl b) x
  | .int i _ => eqV (.int i) x
  | .str z _ => eqV (.str z) x
  | _ => false
theorem eqU_of {x y : V} {u : Value} (r : RelV y u) (f : flatV y = true) : eqU x u = eqV y x := by
  cases y with
  | non => cases r; rfl
  | bl b => cases r; rfl
  | int i => obtain ⟨t, rfl⟩ := r; rfl
  | str z => obtain ⟨t, rfl⟩ := r; rfl
  | _ => exact absurd (show false = true from f) Bool.false_ne_true
theorem any_eqU {x : V} : ∀ {xs : List V} {us : List Value}, Vals xs us → xs.all flatV = true → us.any (eqU x) = xs.any fun y => eqV y x
  | _, _, .nil, _ => rfl
  | y :: xs, u :: us, .cons r t, f => by
    rw [List.all_cons, Bool.and_eq_true] at f
    rw [List.any_cons, List.any_cons, eqU_of r f.1, any_eqU t f.2]
theorem mem_eqAt {A : Around} {s : Shared} {x : V} {v : Value} (rx : RelV x v) (fx : flatV x = true) : ∀ {xs : List V} {us : List Value}, Vals xs us → xs.all flatV = true → ∀ u ∈ us, SeqAt.EqAt A s u v (eqU x u)
  | _, _, .nil, _ => fun u hu => by cases hu
  | y :: xs, u :: us, .cons r t, f => fun u' hu => by
    rw [List.all_cons, Bool.and_eq_true] at f
    rcases List.mem_cons.mp hu with rfl | hu
    · rw [eqU_of r f.1]; exact eqAt_V r rx f.1 fx
    · exact mem_eqAt rx fx t f.2 u' hu
def inV (x : V) (xs : List V) : Bool := xs.any fun y => eqV y x
/-- x in a list or tuple of flat items -/
def rIn (K : PySem.W.Frag) (neg : Bool) : R2 := fun x y H Q => ∃ p xs, y = .ref p ∧ (SqL K H p xs ∨ SqT K H p xs) ∧ flatV x = true ∧ xs.all flatV = true ∧ Q (.bl (if neg then !inV x xs else inV x xs)) H
theorem op_in_seq : OpR X (compareOp .In) (rIn X.K false) := by
  intro pins s σ H x y v u Q I rx ry h
  obtain ⟨p, xs, rfl, hq, fx, fs, q⟩ := h
  cases ry
  rcases hq with hq | hq
  · obtain ⟨its, r, pl, hz⟩ := I.list hq
    refine SeqAt.in_listAt (eqU x) pl.isList (fun w hw => mem_eqAt rx fx r fs w (by simpa using hw)) ⟨.bl _, H, I, rfl, ?_⟩
    rw [show its.toArray.any (eqU x) = its.any (eqU x) by simp, any_eqU r fs]
    exact q
  · obtain ⟨its, r, pl, hz⟩ := I.tuple hq
    refine SeqAt.in_tupleAt (eqU x) pl (fun w hw => mem_eqAt rx fx r fs w (by simpa using hw)) ⟨.bl _, H, I, rfl, ?_⟩
    rw [show its.toArray.any (eqU x) = its.any (eqU x) by simp, any_eqU r fs]
    exact q
theorem op_notIn_seq : OpR X (compareOp .NotIn) (rIn X.K true) := by
  intro pins s σ H x y v u Q I rx ry h
  obtain ⟨p, xs, rfl, hq, fx, fs, q⟩ := h
  cases ry
  rcases hq with hq | hq
  · obtain ⟨its, r, pl, hz⟩ := I.list hq
    refine SeqAt.notIn_listAt (eqU x) pl.isList (fun w hw => mem_eqAt rx fx r fs w (by simpa using hw)) ⟨.bl _, H, I, rfl, ?_⟩
    rw [show its.toArray.any (eqU x) = its.any (eqU x) by simp, any_eqU r fs]
    exact q
  · obtain ⟨its, r, pl, hz⟩ := I.tuple hq
    refine SeqAt.notIn_tupleAt (eqU x) pl (fun w hw => mem_eqAt rx fx r fs w (by simpa using hw)) ⟨.bl _, H, I, rfl, ?_⟩
    rw [show its.toArray.any (eqU x) = its.any (eqU x) by simp, any_eqU r fs]
    exact q
theorem op_notIn_str : OpR X (compareOp .NotIn) (fun x y H Q => ∃ i j, x = .str i ∧ y = .str j ∧ Q (.bl (!(!(Builtin.Str.occurrences j i 0 j.length 1).isEmpty))) H) := by
  intro pins s σ H x y v u Q I rx ry h
  obtain ⟨i, j, rfl, rfl, q⟩ := h
  obtain ⟨t, rfl⟩ := rx
  obtain ⟨t', rfl⟩ := ry
  exact notIn_str ⟨.bl _, H, I, rfl, q⟩

/-! ### len, list(x), tuple(x) of any list or tuple that is read -/
theorem call_len_seq : CallR X (.builtin "len") (fun xs H Q => ∃ p ys, xs = [.ref p] ∧ (SqL X.K H p ys ∨ SqT X.K H p ys) ∧ Q (.int ys.length) H) := by
  intro pins s σ H xs us Q I r h
  obtain ⟨p, ys, rfl, hq, q⟩ := h
  obtain ⟨u, rfl, rx⟩ := vals1 r
  cases rx
  have hn := line63
  rcases hq with hq | hq
  · obtain ⟨its, r', pl, hz⟩ := I.list hq
    have hlen := r'.length
    exact Calls.call_len_list pl.isList (by simp only [List.size_toArray] <;> omega) ⟨.int ys.length, H, I.tok _, ⟨s.toks + 1, by rw [List.size_toArray, hlen]⟩, q⟩
  · obtain ⟨its, r', pl, hz⟩ := I.tuple hq
    have hlen := r'.length
    exact len_tuple pl (by simp only [List.size_toArray] <;> omega) ⟨.int ys.length, H, I.tok _, ⟨s.toks + 1, by rw [List.size_toArray, hlen]⟩, q⟩
theorem call_len_str : CallR X (.builtin "len") (fun xs H Q => ∃ z, xs = [.str z] ∧ z.length ≤ sizeLine ∧ Q (.int z.length) H) := by
  intro pins s σ H xs us Q I r h
  obtain ⟨z, rfl, hz, q⟩ := h
  obtain ⟨u, rfl, t, rfl⟩ := vals1 r
  have hn := line63
  exact len_str (by omega) ⟨.int z.length, H, I.tok _, ⟨_, rfl⟩, q⟩
theorem CallR.or {f : Value} {r r' : List V → Hp → VK → Prop} (h : CallR X f r) (h' : CallR X f r') : CallR X f (fun xs H Q => r xs H Q ∨ r' xs H Q) := by
  intro pins s σ H xs us Q I rs q
  rcases q with q | q
  · exact h pins s σ H xs us Q I rs q
  · exact h' pins s σ H xs us Q I rs q
theorem call_list_of : CallR X (.type "list") (fun xs H Q => ∃ p ys, xs = [.ref p] ∧ (SqL X.K H p ys ∨ SqT X.K H p ys) ∧ ∀ l, H l = none → Q (.ref l) (upd H l (.lst ys))) := by
  intro pins s σ H xs us Q I r h
  obtain ⟨p, ys, rfl, hq, q⟩ := h
  obtain ⟨u, rfl, rx⟩ := vals1 r
  cases rx
  have fin : ∀ (its : List Value), Vals ys its → ys.length ≤ sizeLine → ∀ (h' : Heap) (c' : Nat), (∀ b o', s.heap.get? b = some o' → h'.get? b = some o') →
      h'.get? s.heap.objs.size = some { cls := .type "list", dict := none, data := .seq its.toArray c', slots := #[] } → EP X pins σ Q (.ref s.heap.objs.size) { s with heap := h' } := fun its r' hz h' c' kp e =>
    ⟨.ref s.heap.objs.size, _, I.laid (t' := s.toks) kp (Nat.le_refl _) (show ObjOk X.prog X.w _ h' _ (.lst ys) from ⟨hz, its, c', r', e⟩), rfl, q _ (I.hok.fresh (Nat.le_refl _))⟩
  rcases hq with hq | hq
  · obtain ⟨its, r', pl, hz⟩ := I.list hq
    have hlen := r'.length
    obtain ⟨o, ho, hc, n, hd⟩ := pl.isList
    exact call_list_seq p (.inl rfl) ho hc hd (fun h' c' kp e => fin its r' hz h' c' kp e) (by simp only [List.size_toArray] <;> omega)
  · obtain ⟨its, r', pl, hz⟩ := I.tuple hq
    have hlen := r'.length
    obtain ⟨o, ho, hc, n, hd⟩ := pl
    exact call_list_seq p (.inr rfl) ho hc hd (fun h' c' kp e => fin its r' hz h' c' kp e) (by simp only [List.size_toArray] <;> omega)
theorem call_tuple_of : CallR X (.type "tuple") (fun xs H Q => ∃ p ys, xs = [.ref p] ∧ ((SqL X.K H p ys ∧ ∀ l, H l = none → Q (.ref l) (upd H l (.tup ys))) ∨ (SqT X.K H p ys ∧ Q (.ref p) H))) := by
  intro pins s σ H xs us Q I r h
  obtain ⟨p, ys, rfl, h⟩ := h
  obtain ⟨u, rfl, rx⟩ := vals1 r
  cases rx
  rcases h with ⟨hq, q⟩ | ⟨hq, q⟩
  · obtain ⟨its, r', pl, hz⟩ := I.list hq
    have hlen := r'.length
    refine call_tuple_list pl.isList (fun h' kp => ?_) (by simp only [List.size_toArray] <;> omega)
    have I1 : Inv X pins σ H { s with heap := h' } := I.kept (t' := s.toks) kp
    have I2 : Inv X pins σ (upd H h'.objs.size (.tup ys)) { s with heap := h'.push { cls := .type "tuple", data := .seq its.toArray } } :=
      I1.laid (t' := s.toks) (fun b o e => Heap.get?_push_of_some _ e) (Nat.le_refl _) (show ObjOk X.prog X.w _ _ _ (.tup ys) from ⟨hz, its, r', IsTup.new _ _⟩)
    exact ⟨.ref h'.objs.size, _, I2, rfl, q _ (I1.hok.fresh (Nat.le_refl _))⟩
  · obtain ⟨its, r', pl, hz⟩ := I.tuple hq
    exact call_tuple_same pl ⟨.ref p, H, I, rfl, q⟩

/-! ### the call of a builtin's method: o.m(..) -/
/-- the value is of that builtin type -/
def tyV (K : PySem.W.Frag) (T : String) (x : V) (H : Hp) : Prop := match x with
  | .str _ => T = "str"
  | .int _ => T = "int"
  | .ref p => (T = "list" ∧ ∃ xs, SqL K H p xs) ∨ (T = "tuple" ∧ ∃ o, K.lookup p = some o ∧ o.cls = .type "tuple" ∧ o.dict = none) ∨
      (T = "dict" ∧ ((∃ kvs, H p = some (.dK kvs)) ∨ ∃ kvs, H p = some (.dT kvs))) ∨ (T = "set" ∧ ∃ S n, H p = some (.set S n))
  | _ => False
theorem tyV_is {pins : List (Addr × Obj)} {σ : St} {H : Hp} {s : Shared} {T : String} {x : V} {v : Value} (I : Inv X pins σ H s) (r : RelV x v) (ty : tyV X.K T x H) :
    s.TypeIs v T ∧ ∀ a, v = .ref a → ∃ ob, s.heap.get? a = some ob ∧ ob.dict = none := by
  cases x with
  | str z =>
    obtain ⟨t, rfl⟩ := r
    cases (show T = "str" from ty)
    exact ⟨typeIs_str s z t, fun _ e => nomatch e⟩
  | int i =>
    obtain ⟨t, rfl⟩ := r
    cases (show T = "int" from ty)
    exact ⟨typeIs_int s i t, fun _ e => nomatch e⟩
  | ref p =>
    cases r
    rcases ty with ⟨rfl, xs, hq⟩ | ⟨rfl, o, hk, hc, hd⟩ | ⟨rfl, hk⟩ | ⟨rfl, S, n, hk⟩
    · obtain ⟨its, _, pl, _⟩ := I.list hq
      refine ⟨pl.isList.typeIs, fun a e => ?_⟩
      cases e
      obtain ⟨o, n, e, c, hd, _⟩ := pl
      exact ⟨o, e, hd⟩
    · refine ⟨⟨o, I.kIn p o hk, hc⟩, fun a e => ?_⟩
      cases e
      exact ⟨o, I.kIn _ o hk, hd⟩
    · have z : ∃ o, s.heap.get? p = some o ∧ o.ExactDict := by
        rcases hk with ⟨kvs, hk⟩ | ⟨kvs, hk⟩
        · obtain ⟨_, _, _, _, o, _, _, e, ex, _⟩ := I.hok p _ hk
          exact ⟨o, e, ex⟩
        · obtain ⟨_, _, _, _, o, _, _, e, ex, _⟩ := I.hok p _ hk
          exact ⟨o, e, ex⟩
      obtain ⟨o, e, ex⟩ := z
      refine ⟨⟨o, e, ex.1⟩, fun a e2 => ?_⟩
      cases e2
      exact ⟨o, e, ex.2.1⟩
    · obtain ⟨o, _, _, _, e, ex, _⟩ := I.hok p _ hk
      refine ⟨⟨o, e, ex.1⟩, fun a e2 => ?_⟩
      cases e2
      exact ⟨o, e, ex.2.1⟩
  | _ => exact False.elim ty
def tBM0 (K : PySem.W.Frag) (T : String) (r : V → List V → Hp → VK → Prop) (to : TE) : TE := fun σ H Q => to σ H fun x H1 => tyV K T x H1 ∧ r x [] H1 Q
def tBM (K : PySem.W.Frag) (T : String) (r : V → List V → Hp → VK → Prop) (to : TE) (t : TA) : TE := fun σ H Q => to σ H fun x H1 => tyV K T x H1 ∧ t σ H1 fun xs H2 => r x xs H2 Q
variable {o e : Expr} {es : List Expr} {to : TE} {t : TA} {name : Str} {apos cpos : Pos} {T id : String} {r : V → List V → Hp → VK → Prop}
theorem pe_bm0 (pa : PlainAttrs T) (slot : Slot T name id) (hty : typeOf (.builtin id) = pure (.type "method_descriptor")) (hm : MtR X id r) (ho : PE X o to)
    (hbase : attributeBase o name X.env (eval o X.env) = eval o X.env := by rfl) (hline : (apos.endLine == cpos.line) = true := by rfl) : PE X (.Call (.Attribute o name apos) [] [] cpos) (tBM0 X.K T r to) := by
  intro pins s σ H Q I h
  refine wpAny_Call_method0_late hbase hline (thn (ho pins s σ H _ I h) fun v s1 ⟨x, H1, I1, r1, ty, q1⟩ => ?_)
  obtain ⟨h1, h2⟩ := tyV_is I1 r1 ty
  exact ⟨T, id, pa, slot, hty, h1, h2, Calls.callWith_builtin rfl (PySem.evalArgs_none (hm pins s1 σ H1 x [] v [] Q I1 r1 .nil q1))⟩
theorem pe_bm (pa : PlainAttrs T) (slot : Slot T name id) (hty : typeOf (.builtin id) = pure (.type "method_descriptor")) (hm : MtR X id r) (ho : PE X o to) (ha : PA X (e :: es) t)
    (hbase : attributeBase o name X.env (eval o X.env) = eval o X.env := by rfl)
    (hfew : ((backTo cpos (starEach (e :: es) X.env)).all (fun x => !x.1) && (backToKw cpos (keywordEach [] X.env)).all (fun x => x.1.isSome)
      && decide ((e :: es).length + ([] : List Keyword).length + (if ([] : List Keyword).isEmpty then 0 else 1) < 30)) = true := by rfl)
    (hline : (apos.endLine == cpos.line) = true := by rfl) (hs : starEach (e :: es) X.env = (false, eval e X.env) :: starEach es X.env := by rfl) (hplain : (backTo cpos (starEach es X.env)).any (·.1) = false := by rfl) :
    PE X (.Call (.Attribute o name apos) (e :: es) [] cpos) (tBM X.K T r to t) := by
  intro pins s σ H Q I h
  refine wpAny_Call_method_late hbase hfew hline rfl (thn (ho pins s σ H _ I h) fun v s1 ⟨x, H1, I1, r1, ty, q1⟩ => ?_)
  obtain ⟨h1, h2⟩ := tyV_is I1 r1 ty
  refine ⟨T, id, pa, slot, hty, h1, h2, ?_⟩
  have hA := ha cpos pins s1 σ H1 _ I1 q1
  rw [hs] at hA ⊢
  refine Calls.callWith_builtin (by show (false || (backTo cpos (starEach es X.env)).any (·.1)) = false; rw [hplain] <;> rfl) (Calls.evalArgs_plain ?_)
  exact thn hA fun us s2 ⟨vs, H2, I2, r2, q2⟩ => hm pins s2 σ H2 x vs v us Q I2 r1 r2 q2
/- xs.append(e), list.index on a module's tuple .. are MtR facts of 06m -/
end
end L2

namespace L2
open PySem PySem.Spec PyProof.Rows

def MtM (X : Cx) (id : String) (r : V → List V → Hp → VK → Prop) : Prop :=
  ∀ (pins : List (Addr × Obj)) (s : Shared) (σ : St) (H : Hp) (x : V) (xs : List V) (v : Value) (us : List Value) (Q : VK), Inv X pins σ H s → RelV x v → Vals xs us → r x xs H Q →
    wpAny (model X.prog X.w) X.A (call (.builtin id) (v :: us)) (EP X pins σ Q) X.xe s

/-! ### lists of values -/
theorem Vals.one : ∀ {x : V} {us : List Value}, Vals [x] us → ∃ u, us = [u] ∧ RelV x u
  | _, _, .cons r .nil => ⟨_, rfl, r⟩
theorem Vals.two : ∀ {x y : V} {us : List Value}, Vals [x, y] us → ∃ u v, us = [u, v] ∧ RelV x u ∧ RelV y v
  | _, _, _, .cons r (.cons q .nil) => ⟨_, _, rfl, r, q⟩
theorem Vals.zero : ∀ {us : List Value}, Vals [] us → us = []
  | _, .nil => rfl
theorem Vals.dropLast {xs : List V} {us : List Value} (h : Vals xs us) : Vals xs.dropLast us.dropLast := by
  induction h with
  | nil => exact .nil
  | cons r t ih =>
    cases t with
    | nil => exact .nil
    | cons q t' => exact .cons r ih
theorem Vals.eraseIdx : ∀ {xs : List V} {us : List Value} (i : Nat), Vals xs us → Vals (xs.eraseIdx i) (us.eraseIdx i)
  | _, _, _, .nil => .nil
  | _, _, 0, .cons _ t => t
  | _, _, i + 1, .cons r t => .cons r (Vals.eraseIdx i t)
theorem Vals.reverse {xs : List V} {us : List Value} (h : Vals xs us) : Vals xs.reverse us.reverse := by
  induction h with
  | nil => exact .nil
  | cons r t ih => rw [List.reverse_cons, List.reverse_cons]; exact Vals.append ih (.cons r .nil)
theorem Vals.rep {xs : List V} {us : List Value} (h : Vals xs us) : ∀ k : Nat, Vals (List.replicate k xs).flatten (List.replicate k us).flatten
  | 0 => .nil
  | k + 1 => by
    rw [List.replicate_succ, List.replicate_succ, List.flatten_cons, List.flatten_cons]
    exact Vals.append h (Vals.rep h k)
theorem erase_last {α : Type} (l : List α) : l.eraseIdx (l.length - 1) = l.dropLast := by
  induction l with
  | nil => rfl
  | cons a r ih =>
    cases r with
    | nil => rfl
    | cons b r =>
      have e : (a :: b :: r).length - 1 = ((b :: r).length - 1) + 1 := by
        have h1 : (a :: b :: r).length = r.length + 2 := rfl
        have h2 : (b :: r).length = r.length + 1 := rfl
        omega
      rw [e, List.eraseIdx_cons_succ, ih]
      all_goals rfl
theorem len_erase {α : Type} : ∀ (l : List α) (i : Nat), (l.eraseIdx i).length ≤ l.length
  | [], _ => Nat.le_refl _
  | _ :: _, 0 => Nat.le_succ _
  | _ :: r, i + 1 => Nat.succ_le_succ (len_erase r i)
theorem foldl_rep (its : List Value) : ∀ (k : Nat) (acc : List Value),
    List.foldl (fun x1 x2 => x1 ++ x2) acc.toArray (List.replicate k its.toArray) = (acc ++ (List.replicate k its).flatten).toArray
  | 0, acc => by simp
  | k + 1, acc => by
    have e : acc.toArray ++ its.toArray = (acc ++ its).toArray := by simp
    have e2 : (acc ++ its) ++ (List.replicate k its).flatten = acc ++ (List.replicate (k + 1) its).flatten := by
      rw [List.replicate_succ, List.flatten_cons, List.append_assoc]
    rw [← e2, ← foldl_rep its k (acc ++ its), ← e, List.replicate_succ, List.foldl_cons]

section
variable {X : Cx} {pins : List (Addr × Obj)} {σ : St} {H : Hp} {s : Shared} {l b : Addr} {xs ys zs : List V}

/-! ### the two steps: a tracked list is rewritten, a new list is laid -/
theorem Inv.lset {its its' : List Value} {n : Nat} {f : Array Value → Array Value} {t' : Nat} (I : Inv X pins σ H s) (hH : H l = some (.lst xs))
    (e : s.heap.get? l = some { cls := .type "list", data := .seq its.toArray n }) (hf : f its.toArray = its'.toArray) (hv : Vals ys its') (hz : ys.length ≤ sizeLine) :
    Inv X pins σ (upd H l (.lst ys)) { s with heap := s.heap.update l (Obj.mapSeq f), toks := t' } := by
  have q := PySem.IsL.update e f
  rw [hf] at q
  refine I.write (x := l) (e := l) (by rw [hH]; exact trivial) (.inl rfl) (fun b' u hb hu => (Heap.get?_update_other s.heap (Obj.mapSeq f) (Ne.symm hb)).trans hu) ⟨_, q⟩ ?_
  exact ⟨hz, its', _, hv, q⟩
theorem Inv.lnew {its : List Value} {t' : Nat} (I : Inv X pins σ H s) (hv : Vals ys its) (hz : ys.length ≤ sizeLine) :
    Inv X pins σ (upd H s.heap.objs.size (.lst ys)) { s with heap := s.heap.push { cls := .type "list", data := .seq its.toArray }, toks := t' } :=
  I.laid (fun _ _ q => Heap.get?_push_of_some _ q) (Nat.le_refl _) ⟨hz, its, 0, hv, Heap.get?_push_size _ rfl⟩
theorem Inv.fresh (I : Inv X pins σ H s) : H s.heap.objs.size = none := I.hok.fresh (Nat.le_refl _)
theorem Inv.lstM (I : Inv X pins σ H s) (hH : H l = some (.lst xs)) : xs.length ≤ sizeLine ∧ ∃ (its : List Value) (n : Nat), Vals xs its ∧ xs.length = its.length ∧ s.heap.get? l = some { cls := .type "list", data := .seq its.toArray n } := by
  obtain ⟨z, its, n, r, e⟩ := I.hok l _ hH
  exact ⟨z, its, n, r, r.length, e⟩

theorem notLongL {n : Nat} (h : n ≤ sizeLine) : Builtin.List.listTooLong n = false := by
  unfold Builtin.List.listTooLong
  exact decide_eq_false (by omega)
end

section
variable {X : Cx}

/-! ### methods -/
def rAppend : V → List V → Hp → VK → Prop := fun x vs H Q => ∃ l xs y, x = .ref l ∧ vs = [y] ∧ H l = some (.lst xs) ∧ xs.length < sizeLine ∧ Q .non (upd H l (.lst (xs ++ [y])))
theorem mt_append : MtM X "list.append" rAppend := by
  intro pins s σ H x vs v us Q I rx rv h
  obtain ⟨l, xs, y, rfl, rfl, hH, hz, q⟩ := h
  cases rx
  obtain ⟨u, rfl, ru⟩ := rv.one
  obtain ⟨z, its, n, r, hl, e⟩ := I.lstM hH
  refine call_meets F.slot_list_append ⟨_, e, rfl⟩ F.entry_list_append (F.args_list_append_2 _ _) (PySem.list_append l its.toArray n u (by rw [List.size_toArray]; omega)) ⟨e, ?_⟩
  refine ⟨.non, _, I.lset (its' := its ++ [u]) hH e (by simp) (r.append (.cons ru .nil)) ?_, rfl, q⟩
  rw [List.length_append, List.length_singleton]
  omega

def rExtend : V → List V → Hp → VK → Prop := fun x vs H Q => ∃ l b xs zs, x = .ref l ∧ vs = [.ref b] ∧ H l = some (.lst xs) ∧ H b = some (.lst zs) ∧ xs.length + zs.length ≤ sizeLine ∧ Q .non (upd H l (.lst (xs ++ zs)))
theorem mt_extend : MtM X "list.extend" rExtend := by
  intro pins s σ H x vs v us Q I rx rv h
  obtain ⟨l, b, xs, zs, rfl, rfl, hH, hB, hz, q⟩ := h
  cases rx
  obtain ⟨u, rfl, ru⟩ := rv.one
  cases ru
  obtain ⟨z, its, n, r, hl, e⟩ := I.lstM hH
  obtain ⟨z2, its2, n2, r2, hl2, e2⟩ := I.lstM hB
  have hsz : its.toArray.size + its2.toArray.size ≤ sizeLine := by rw [List.size_toArray, List.size_toArray]; omega
  have hlong : ¬ (!its.toArray.isEmpty && Builtin.List.listTooLong (its.toArray.size + its2.toArray.size)) = true := by
    rw [notLongL hsz, Bool.and_false]
    exact Bool.false_ne_true
  refine call_meets F.slot_list_extend ⟨_, e, rfl⟩ F.entry_list_extend (F.args_list_extend_2 _ _)
    (AutoSeq1.list_extend_list_list_0 l its.toArray n b its2.toArray n2 hlong (by rw [List.size_toArray]; omega) (by omega)) ⟨e, e2, ?_⟩
  refine ⟨.non, _, I.lset (its' := its ++ its2) hH e (by simp) (r.append r2) ?_, rfl, q⟩
  rw [List.length_append]
  omega

def rPop : V → List V → Hp → VK → Prop := fun x vs H Q => ∃ l xs y, x = .ref l ∧ vs = [] ∧ H l = some (.lst xs) ∧ xs[xs.length - 1]? = some y ∧ Q y (upd H l (.lst xs.dropLast))
theorem mt_pop : MtM X "list.pop" rPop := by
  intro pins s σ H x vs v us Q I rx rv h
  obtain ⟨l, xs, y, rfl, rfl, hH, hy, q⟩ := h
  cases rx
  have hus := rv.zero
  subst hus
  obtain ⟨z, its, n, r, hl, e⟩ := I.lstM hH
  obtain ⟨u, hu, ru⟩ := r.get hy
  have hy' : its.toArray[its.toArray.size - 1]? = some u := by
    show its.toArray[its.length - 1]? = some u
    rw [← Array.getElem?_toList, ← hl]
    exact hu
  refine call_meets F.slot_list_pop ⟨_, e, rfl⟩ F.entry_list_pop (F.args_list_pop_1 _) (MeetsSeq.list_pop_last l its.toArray n u hy' (by rw [List.size_toArray]; omega)) ⟨e, ?_⟩
  refine ⟨y, _, I.lset (its' := its.dropLast) hH e ?_ r.dropLast ?_, ru, q⟩
  · show its.toArray.eraseIdxIfInBounds (its.toArray.size - 1) = its.dropLast.toArray
    rw [List.size_toArray, List.eraseIdxIfInBounds_toArray, erase_last]
  · rw [List.length_dropLast]
    omega

def rPopAt : V → List V → Hp → VK → Prop := fun x vs H Q => ∃ l xs i k y, x = .ref l ∧ vs = [.int i] ∧ H l = some (.lst xs) ∧ -(2 ^ 63) ≤ i ∧ i < 2 ^ 63 ∧ seqIndex? i xs.length = some k ∧ xs[k]? = some y ∧ Q y (upd H l (.lst (xs.eraseIdx k)))
theorem mt_popAt : MtM X "list.pop" rPopAt := by
  intro pins s σ H x vs v us Q I rx rv h
  obtain ⟨l, xs, i, k, y, rfl, rfl, hH, h1, h2, hk, hy, q⟩ := h
  cases rx
  obtain ⟨u, rfl, ru⟩ := rv.one
  obtain ⟨t, rfl⟩ := ru
  obtain ⟨z, its, n, r, hl, e⟩ := I.lstM hH
  obtain ⟨w, hw, rw'⟩ := r.get hy
  refine call_meets F.slot_list_pop ⟨_, e, rfl⟩ F.entry_list_pop (F.args_list_pop_2 _ _)
    (MeetsSeq.list_pop_at l its.toArray n i t k w (fitsIndex_both h1 h2) (by rw [List.size_toArray, ← hl]; exact hk) (by rw [← Array.getElem?_toList]; exact hw) (by rw [List.size_toArray]; omega)) ⟨e, ?_⟩
  refine ⟨y, _, I.lset (its' := its.eraseIdx k) hH e ?_ (r.eraseIdx k) ?_, rw', q⟩
  · show its.toArray.eraseIdxIfInBounds k = (its.eraseIdx k).toArray
    rw [List.eraseIdxIfInBounds_toArray]
  · have := len_erase xs k
    omega

def rReverse : V → List V → Hp → VK → Prop := fun x vs H Q => ∃ l xs, x = .ref l ∧ vs = [] ∧ H l = some (.lst xs) ∧ Q .non (upd H l (.lst xs.reverse))
theorem mt_reverse : MtM X "list.reverse" rReverse := by
  intro pins s σ H x vs v us Q I rx rv h
  obtain ⟨l, xs, rfl, rfl, hH, q⟩ := h
  cases rx
  have hus := rv.zero
  subst hus
  obtain ⟨z, its, n, r, hl, e⟩ := I.lstM hH
  refine call_meets F.slot_list_reverse ⟨_, e, rfl⟩ F.entry_list_reverse (F.args_list_reverse_1 _) (AutoSeq1.list_reverse_list_0 l its.toArray n (by rw [List.size_toArray]; omega)) ⟨e, ?_⟩
  refine ⟨.non, _, I.lset (its' := its.reverse) hH e (by simp) r.reverse ?_, rfl, q⟩
  rw [List.length_reverse]
  omega

def rClear : V → List V → Hp → VK → Prop := fun x vs H Q => ∃ l xs, x = .ref l ∧ vs = [] ∧ H l = some (.lst xs) ∧ Q .non (upd H l (.lst []))
theorem mt_clear : MtM X "list.clear" rClear := by
  intro pins s σ H x vs v us Q I rx rv h
  obtain ⟨l, xs, rfl, rfl, hH, q⟩ := h
  cases rx
  have hus := rv.zero
  subst hus
  obtain ⟨z, its, n, r, hl, e⟩ := I.lstM hH
  refine call_meets F.slot_list_clear ⟨_, e, rfl⟩ F.entry_list_clear (F.args_list_clear_1 _) (AutoSeq1.list_clear_list_0 l its.toArray n (by rw [List.size_toArray]; omega)) ⟨e, ?_⟩
  exact ⟨.non, _, I.lset (its' := []) (ys := []) hH e rfl .nil (Nat.zero_le _), rfl, q⟩

/-! ### list + list, list += list, list * int -/
def rCat : R2 := fun x y H Q => ∃ l b xs zs, x = .ref l ∧ y = .ref b ∧ H l = some (.lst xs) ∧ H b = some (.lst zs) ∧ xs.length + zs.length ≤ sizeLine ∧ ∀ p, H p = none → Q (.ref p) (upd H p (.lst (xs ++ zs)))
theorem op_cat : OpR X (binaryOp .Add) rCat := by
  intro pins s σ H x y v u Q I rx ry h
  obtain ⟨l, b, xs, zs, rfl, rfl, hH, hB, hz, q⟩ := h
  cases rx
  cases ry
  obtain ⟨z, its, n, r, hl, e⟩ := I.lstM hH
  obtain ⟨z2, its2, n2, r2, hl2, e2⟩ := I.lstM hB
  refine PySem.P.add_list e e2 ?_ (by rw [List.size_toArray, List.size_toArray]; omega)
  have ea : its.toArray ++ its2.toArray = (its ++ its2).toArray := by simp
  rw [ea]
  exact ⟨.ref _, _, I.lnew (t' := s.toks) (r.append r2) (by rw [List.length_append]; omega), rfl, q _ I.fresh⟩
/-- a list times an int (a negative one is nothing) -/
def rRep : R2 := fun x y H Q => ∃ l k xs, x = .ref l ∧ y = .int k ∧ H l = some (.lst xs) ∧ -(2 ^ 63) ≤ k ∧ k < 2 ^ 63 ∧ xs.length * k.toNat ≤ sizeLine ∧
  ∀ p, H p = none → Q (.ref p) (upd H p (.lst (List.replicate k.toNat xs).flatten))
theorem len_rep {α : Type} (xs : List α) (k : Nat) : (List.replicate k xs).flatten.length = k * xs.length := by
  induction k with
  | zero => simp
  | succ k ih => rw [List.replicate_succ, List.flatten_cons, List.length_append, ih, Nat.succ_mul, Nat.add_comm]
theorem op_rep : OpR X (binaryOp .Mult) rRep := by
  intro pins s σ H x y v u Q I rx ry h
  obtain ⟨l, k, xs, rfl, rfl, hH, h1, h2, hz, q⟩ := h
  cases rx
  obtain ⟨t, rfl⟩ := ry
  obtain ⟨z, its, n, r, hl, e⟩ := I.lstM hH
  have hlen : its.toArray.size * k.toNat ≤ sizeLine := by rw [List.size_toArray, ← hl]; exact hz
  have hcap : ¬ its.toArray.size * k.toNat > (2 ^ 63 - 1) / 8 := by
    have : (sizeLine : Nat) ≤ (2 ^ 63 - 1) / 8 := by decide
    omega
  have hfit : ¬ (!Builtin.List.listFitsIndex k) = true := by
    rw [fitsIndex_both h1 h2]
    exact Bool.false_ne_true
  have hlong : ¬ Builtin.List.listTooLong (its.toArray.size * k.toNat) = true := by
    rw [notLongL hlen]
    exact Bool.false_ne_true
  have hnew : List.foldl (fun x1 x2 => x1 ++ x2) #[] (List.replicate (if its.toArray.isEmpty = true then 0 else k.toNat) its.toArray) = (List.replicate k.toNat its).flatten.toArray := by
    have f0 : ∀ m : Nat, List.foldl (fun x1 x2 => x1 ++ x2) #[] (List.replicate m its.toArray) = (List.replicate m its).flatten.toArray := fun m => by
      have := foldl_rep its m []
      rw [List.nil_append] at this
      exact this
    rw [f0]
    cases its with
    | nil => simp
    | cons a r' => rw [if_neg (by simp)]
  refine wpAny_binaryOp_repeat_ref (T := "list") (U := "int") (by decide) ⟨_, e, rfl⟩ (fun s' => typeIs_int s' k t) noFill_list_mul F.fills_int_mul F.slot_int_rmul repeat_list F.slot_int_index.lookup
    (call_meets F.slot_int_rmul (typeIs_int s k t) F.entry_int_rmul (F.args_int_rmul_2 _ _) (int___rmul___int_list k t l its.toArray n)
      ⟨e, rfl, ⟨_, e, rfl⟩, call_meets F.slot_list_mul ⟨_, e, rfl⟩ F.entry_list_mul (F.args_list_mul_2 _ _) (AutoListH.list___mul___list_int_3 l its.toArray n k t hfit hcap hlong) ⟨e, ?_⟩⟩)
  rw [hnew]
  exact ⟨.ref _, _, I.lnew (t' := s.toks) (r.rep k.toNat) (by rw [len_rep, Nat.mul_comm]; exact hz), rfl, q _ I.fresh⟩

/-! ### del xs[i] -/
theorem del_list {pins : List (Addr × Obj)} {s : Shared} {σ : St} {H : Hp} {l : Addr} {xs : List V} {i : Int} {t : Tok} {k : Nat} {Q : Unit → Shared → Prop} (I : Inv X pins σ H s) (hH : H l = some (.lst xs))
    (h1 : -(2 ^ 63) ≤ i) (h2 : i < 2 ^ 63) (hk : seqIndex? i xs.length = some k) (h : ∀ s', Inv X pins σ (upd H l (.lst (xs.eraseIdx k))) s' → Q () s') :
    wpAny (model X.prog X.w) X.A (delItem (.ref l) (.int i t)) Q X.xe s := by
  obtain ⟨z, its, n, r, hl, e⟩ := I.lstM hH
  refine PySem.P.delItem_list (k := k) e (fitsIndex_both h1 h2) (by rw [List.size_toArray, ← hl]; exact hk) (h _ ?_) (by rw [List.size_toArray]; omega)
  refine I.lset (its' := its.eraseIdx k) (t' := s.toks) hH e ?_ (r.eraseIdx k) ?_
  · show its.toArray.eraseIdxIfInBounds k = (its.eraseIdx k).toArray
    rw [List.eraseIdxIfInBounds_toArray]
  · have := len_erase xs k
    omega
end

/-! ### xs[a:b] = ys -/
section
variable {prog : Program} {w : World} {A : Around} {E : Value → Shared → Prop} {s : Shared}
theorem splice_eq (its its2 : List Value) (a c : Nat) : its.toArray.extract 0 a ++ its2.toArray ++ its.toArray.extract c its.toArray.size = (its.take a ++ its2 ++ its.drop c).toArray := by
  apply Array.toList_inj.mp
  first
    | (simp
       exact List.take_of_length_le (by simp))
    | simp [List.take_of_length_le]
    | simp
theorem bounds_run {a c n : Nat} (hac : a ≤ c) (hc : c ≤ n) : sliceBounds (some (a : Int)) (some (c : Int)) none n = ((a : Int), (c : Int), 1) := by
  simp only [sliceBounds, Option.getD_none]
  have h1 : ¬ ((a : Int) < 0) := by omega
  have h2 : ¬ ((c : Int) < 0) := by omega
  simp only [h1, h2, if_false, show (1 : Int) > 0 by decide, if_true]
  congr 1
  · omega
  · congr 1; omega
set_option maxRecDepth 100000 in
/-- list.__setitem__ with a slice of step one and another list -/
theorem setItem_slice {l b sl : Addr} {items new : Array Value} {n n2 : Nat} {vl vu : Value} {a c : Nat} {Q : Unit → Shared → Prop}
    (e : s.heap.get? l = some { cls := .type "list", data := .seq items n }) (e2 : s.heap.get? b = some { cls := .type "list", data := .seq new n2 }) (hne : l ≠ b)
    (hs : s.heap.IsSliceOf sl vl vu .none) (pl : IsPart vl (some (a : Int))) (pu : IsPart vu (some (c : Int))) (hac : a ≤ c) (hc : c ≤ items.size)
    (hsz : items.size + new.size ≤ sizeLine) (h : Q () { s with heap := s.heap.update l (Obj.mapSeq fun xs => xs.extract 0 a ++ new ++ xs.extract c xs.size) }) :
    wpAny (model prog w) A (setItem (.ref l) (.ref sl) (.ref b)) Q E s := by
  have hl : s.heap.IsList l items := PySem.IsL.isList e
  have hb : s.heap.IsList b new := PySem.IsL.isList e2
  obtain ⟨os, hos, hcs, hds⟩ := id hs
  have hTs : s.TypeIs (.ref sl) "slice" := ⟨os, hos, hcs⟩
  have hstep : ¬ ((rawPart none == rawInt 0) = true) := Bool.false_ne_true
  have hsame : Builtin.List.listSameRef (.ref l) (.ref b) = false := by
    unfold Builtin.List.listSameRef
    exact beq_eq_false_iff_ne.mpr hne
  have hmax : (max (a : Int) (c : Int)).toNat = c := by omega
  have hz' : ((fun xs : Array Value => xs.extract 0 a ++ new ++ xs.extract c xs.size) items).size ≤ sizeLine + 1 := by
    simp only [Array.size_append, Array.size_extract]
    omega
  unfold setItem
  try with_reducible refine wpAny_holding ?_
  first | refine wpAny_bind (wpAny_pure ?_) | skip
  refine wpAny_bind (wpAny_sequenceKey hl.typeIs (by decide) ?_)
  refine wpAny_bind (wpAny_callSpecial?_slot (name := Str.ofString "__setitem__") hl.typeIs slot_list_setitem
    (wpAny_call_entry slot_list_setitem hl.typeIs entry_list_setitem ?_ (args_list_setitem _ _ _)))
  show wpAny _ _ (Builtin.List.listSubscript? (.ref sl) >>= _) _ _ s
  refine wpAny_bind ?_
  unfold Builtin.List.listSubscript?
  refine wpAny_bind (wpAny_specialOf hTs slice_no_index ?_)
  simp only [Option.isNone_none, if_true]
  refine wpAny_pure ?_
  show wpAny _ _ (typeOf (.ref sl) >>= _) _ _ s
  refine wpAny_bind (wpAny_typeOf hTs ?_)
  first
    | rw [if_neg (by decide)]
    | refine PySem.W.KFB.if_not (by decide) ?_
  rw [listSliceParts_eq]
  refine wpAny_bind (wpAny_bind (wpAny_field hos hds (x := .none) rfl (wpAny_bind (wpAny_listPart .none ?_))))
  rw [if_neg hstep]
  refine wpAny_bind (wpAny_field hos hds (x := vl) rfl (wpAny_bind (wpAny_listPart pl ?_)))
  refine wpAny_bind (wpAny_field hos hds (x := vu) rfl (wpAny_bind (wpAny_listPart pu (wpAny_pure ?_))))
  first
    | simp only [hsame, Bool.false_eq_true, if_false]
    | refine PySem.W.KFB.if_not hsame ?_
    | (dsimp only
       rw [if_neg (by rw [hsame]; exact Bool.false_ne_true)])
  refine wpAny_bind (m := Builtin.List.listAllItems (.ref b) "must assign iterable to extended slice") ?_
  unfold Builtin.List.listAllItems
  refine wpAny_bind (wpAny_typeOf hb.typeIs ?_)
  first
    | refine PySem.W.KFB.if_so (by decide) ?_
    | rw [if_pos (by decide)]
    | simp only [beq_self_eq_true, Bool.true_or, if_true]
  unfold Builtin.List.listItems
  refine wpAny_bind (wpAny_seqItems e2 rfl (wpAny_pure ?_))
  refine wpAny_bind (wpAny_bind (wpAny_seqItems e rfl (wpAny_pure ?_)))
  refine wpAny_bind (wpAny_of_eq ((sliceIndices_raw (some (a : Int)) (some (c : Int)) none items.size (by simp)).trans (congrArg (pure : Int × Int × Int → Sem (Int × Int × Int)) (bounds_run hac hc))) ?_)
  show wpAny _ _ (if ((1 : Int) == 1) = true then _ else _) _ _ s
  rw [if_pos (by decide)]
  refine wpAny_bind (wpAny_rule ?_)
  first
    | simp only [notLongL hsz, Bool.false_eq_true, if_false]
    | refine PySem.W.KFB.if_not (notLongL hsz) ?_
  first | refine wpAny_bind (wpAny_pure ?_) | skip
  show wpAny _ _ (updateSeq l (fun xs => xs.extract 0 ((a : Int)).toNat ++ new ++ xs.extract (max (a : Int) (c : Int)).toNat xs.size) >>= _) _ _ s
  rw [hmax, Int.toNat_natCast]
  refine wpAny_bind (wpAny_updateSeq (hz := Nat.le_trans (Nat.le_add_right _ _) hsz) (_hz' := hz') e rfl ?_)
  refine wpAny_bind (wpAny_letGo ?_)
  first
    | exact wpAny_bind (wpAny_pure (wpAny_pure ⟨.none, rfl, wpAny_pure h⟩))
    | exact wpAny_pure ⟨.none, rfl, wpAny_pure h⟩
end

section
variable {X : Cx}
/-- xs[a:c] = ys of another list, at the value level: sl is the slice object that was just made -/
theorem set_slice {pins : List (Addr × Obj)} {s : Shared} {σ : St} {H : Hp} {l b sl : Addr} {xs ys : List V} {a c : Int} {vl vu : Value} {Q : Unit → Shared → Prop} (I : Inv X pins σ H s)
    (hH : H l = some (.lst xs)) (hB : H b = some (.lst ys)) (hne : l ≠ b) (hs : s.heap.IsSliceOf sl vl vu .none) (ra : RelV (.int a) vl) (rc : RelV (.int c) vu) (h0 : 0 ≤ a) (hac : a ≤ c) (hc : c ≤ xs.length)
    (hz : xs.length + ys.length ≤ sizeLine) (h : ∀ s', Inv X pins σ (upd H l (.lst (xs.take a.toNat ++ ys ++ xs.drop c.toNat))) s' → Q () s') :
    wpAny (model X.prog X.w) X.A (setItem (.ref l) (.ref sl) (.ref b)) Q X.xe s := by
  obtain ⟨ta, rfl⟩ := ra
  obtain ⟨tc, rfl⟩ := rc
  obtain ⟨z, its, n, r, hl, e⟩ := I.lstM hH
  obtain ⟨z2, its2, n2, r2, hl2, e2⟩ := I.lstM hB
  obtain ⟨a', rfl⟩ := Int.eq_ofNat_of_zero_le h0
  obtain ⟨c', rfl⟩ := Int.eq_ofNat_of_zero_le (Int.le_trans h0 hac)
  simp only [Int.toNat_natCast] at h
  refine setItem_slice (a := a') (c := c') e e2 hne hs (.int _ _) (.int _ _) (by omega) (by rw [List.size_toArray]; omega) (by rw [List.size_toArray, List.size_toArray]; omega) (h _ ?_)
  refine I.lset (its' := its.take a' ++ its2 ++ its.drop c') (t' := s.toks) hH e ?_ (Vals.append (Vals.append (r.take _) r2) (r.drop _)) ?_
  · exact splice_eq its its2 a' c'
  · rw [List.length_append, List.length_append, List.length_take, List.length_drop]
    omega
end
end L2

namespace Att
open PySem PySem.W PySem.Calls PyProof.Rows

/-! ### the script -/
theorem ints_of_wellAll {P : Params} {h : Heap} : ∀ (ns : List Int) (vs : List Value), WellAll P h vs (ns.map WData.int) → IntsAre vs ns := by
  intro ns
  induction ns with
  | nil =>
    intro vs w
    rw [List.map_nil] at w
    cases w
    exact .nil
  | cons n ns ih =>
    intro vs w
    rw [List.map_cons] at w
    cases w with
    | cons a b =>
      cases a
      exact .cons _ _ (ih _ b)

theorem script_of {l : OpenLaw} {n : Nat} (hn : l.most = some n) {P : Params} {h : Heap} {args : List WData} {vals : List Value}
    (hpre : l.row.toRowW.claim.pre args = true) (hwl : WellAll P h vals args) :
    ∃ a vs ns, vals = [Value.ref a] ∧ args = [WData.list (ns.map WData.int)] ∧ h.get? a = some { cls := .type "list", data := .seq vs.toArray } ∧ IntsAre vs ns ∧ ns.length ≤ n := by
  have hsh : WShape.hasAll [] args [.list .int] = true := (pre_splitW hpre).1
  have hc : l.pre.holds [] { args := args } = true := (pre_splitW hpre).2
  obtain ⟨d, r, rfl, h1, h2⟩ := hasAllW_cons hsh
  obtain rfl := hasAllW_nil h2
  obtain ⟨xs, rfl, h3⟩ := hasW_list h1
  obtain ⟨ns, rfl⟩ := items_int h3
  have hlen : ns.length ≤ n := by
    unfold OpenLaw.pre at hc
    have h4 : (WTm.not (.lt (.lit (.int (n : Int))) (.len (.arg 0)))).holds [] { args := [.list (ns.map .int)] } = true := by
      have h4 := (holds_andW hc).1
      rw [hn] at h4
      exact h4
    have h5 := condW_of h4 (w_not (w_lt w_lit (w_len_list (w_arg rfl))))
    rw [List.length_map] at h5
    refine Nat.le_of_not_lt fun q => ?_
    have q' : (n : Int) < ((ns.length : Nat) : Int) := by omega
    first
      | (rw [decide_eq_true q'] at h5; exact absurd h5 (by decide))
      | (simp at h5; omega)
  cases hwl with
  | cons w1 w2 =>
    cases w2
    cases w1 with
    | list ho hall => exact ⟨_, _, ns, rfl, rfl, ho, ints_of_wellAll ns _ hall, hlen⟩

theorem post_true (l : OpenLaw) (args : List WData) : l.row.toRowW.claim.post args (.bool true) args = true :=
  postW_of (r := l.row.toRowW) (X := (true == true))
    (show WShape.has [] (.bool true) .bool = true by first | rfl | decide | simp [WShape.has, WShape.arms, WShape.armsAll])
    (show (WTm.eq .res (.lit (.bool true))).value [] { args := args, res := some (.bool true), after := args } = some (.bool (true == true)) from w_eq_bool (w_res rfl) w_lit) rfl

/-! ### the attachment: holds_open's last premise (the goal 'hc' behind k_head) from a wpAny of the law's body -/
theorem attach {l : OpenLaw} {n : Nat} {q : Program} {loose : List Str} {XP : (Str → Option Value) → Heap → Prop} {YP : World → Heap → Prop} {d : DefRec} {x : Str}
    (hn : l.most = some n) (hdf : d.params.defaults = [])
    (hbind : ∀ pm cd doc v : Value, bindArgs (docDef d.name d.params d.body d.scope pm cd doc) ⟨[v], []⟩ = pure [(x, v)])
    (hx : d.scope.names.lookup x = some .local ∨ d.scope.names.lookup x = some .cell)
    (hk : d.scope.kind = .function) (hco : d.scope.isCoroutine = false) (hgen : d.scope.isGenerator = false)
    (body : ∀ (w : World) (s₀ s₁ s : Shared) (mg mb : Str → Option Value) (fa : Addr) (o : Obj) (pm cd doc : Value) (a : Addr) (vs : List Value) (ns : List Int),
      Ground q loose [] XP w s₀ mg mb s₁.heap → YP w s₁.heap →
      s₁.heap.get? fa = some o → o.data = .func (docDef d.name d.params d.body d.scope pm cd doc) → s₁.heap.CodeRec cd d.name → mg d.name = some (.ref fa) →
      s₁.heap.get? a = some { cls := .type "list", data := .seq vs.toArray } → IntsAre vs ns → ns.length ≤ n →
      s.gens = #[] → s.os = s₁.os →
      Fr s₁.heap s₁.heap.objs.size s.heap (bindL (envOfC d.name d.scope s₁.heap.objs.size fa cd).kindOf [(x, .ref a)] fun _ => none) →
      Cl s₁.heap.objs.size (cellsFrom (s₁.heap.objs.size + 1) d.scope.names []) s.heap (bindC (envOfC d.name d.scope s₁.heap.objs.size fa cd).kindOf [(x, .ref a)] fun _ => none) →
      wpAny (model l.prog w) (callerA.deeper (envOfC d.name d.scope s₁.heap.objs.size fa cd)) (execs d.body (envOfC d.name d.scope s₁.heap.objs.size fa cd))
        (fun f s' => f = .ret (.bool true) ∧ OldK s₁.heap s'.heap ∧ s'.os = s₁.os ∧ AllBare s'.gens) (fun _ _ => False) s) :
    WalkO q loose XP YP l.row.toRowW d [] (fun f vs => PySem.call f vs) := by
  intro w s₀ s₁ mg mb G Y fa o pm cd doc dV kV ho hd hcd hD hmg hg args vals as hpre hlay hrd hwl hlo
  obtain rfl : dV = .none := Dflts.none hD hdf
  obtain rfl : kV = .none := Dflts.noKw hD
  obtain ⟨a, vs, ns, rfl, rfl, hobj, hints, hlen⟩ := script_of hn hpre hwl
  refine enter_call ?_
  refine call_cells_ret (o := o) (by rw [depth_caller]; decide) ho (fd_plain hd) G.T.nolimit hcd (hbind pm cd doc (.ref a)) (fun y hy => ?_) (fun h₁ tk F X => ?_) hco hgen hk
  · obtain rfl : y = (x, Value.ref a) := List.mem_singleton.mp hy
    rcases hx with e | e
    · exact .inl e
    · exact .inr ⟨e, cellsFrom_some _ _ _ (.inl e)⟩
  · refine wpAny_mono (body w s₀ s₁ { s₁ with heap := h₁, toks := tk } mg mb fa o pm cd doc a vs ns G Y ho (fd_plain hd) hcd hmg hobj hints hlen hg rfl F X) (fun f s' hq => ?_) (fun _ _ hq => hq)
    obtain ⟨rfl, h2, h3, h4⟩ := hq
    exact ⟨.inl ⟨.bool true, .bool true, [], rfl, fun _ => rfl, .bool true, post_true l _, fun _ => ⟨List.Pairwise.nil, fun _ hm => (nomatch hm)⟩⟩, h2, h3, h4⟩

/-- the same from a codeAny of the CALL (for a layer whose function contracts speak of calls) -/
theorem attach_call {l : OpenLaw} {n : Nat} {q : Program} {loose : List Str} {XP : (Str → Option Value) → Heap → Prop} {YP : World → Heap → Prop} {d : DefRec}
    (hn : l.most = some n) (hdf : d.params.defaults = [])
    (call : ∀ (w : World) (s₀ s₁ : Shared) (mg mb : Str → Option Value) (fa : Addr) (o : Obj) (pm cd doc : Value) (a : Addr) (vs : List Value) (ns : List Int),
      Ground q loose [] XP w s₀ mg mb s₁.heap → YP w s₁.heap →
      s₁.heap.get? fa = some o → o.data = .func (docDef d.name d.params d.body d.scope pm cd doc) → s₁.heap.CodeRec cd d.name → mg d.name = some (.ref fa) →
      s₁.heap.get? a = some { cls := .type "list", data := .seq vs.toArray } → IntsAre vs ns → ns.length ≤ n → s₁.gens = #[] →
      codeAny (model l.prog w) callerA (.call (.ref fa) ⟨[.ref a], []⟩) (fun r s' => r = .ok (.ret (.bool true)) ∧ OldK s₁.heap s'.heap ∧ s'.os = s₁.os ∧ AllBare s'.gens) s₁) :
    WalkO q loose XP YP l.row.toRowW d [] (fun f vs => PySem.call f vs) := by
  intro w s₀ s₁ mg mb G Y fa o pm cd doc dV kV ho hd hcd hD hmg hg args vals as hpre hlay hrd hwl hlo
  obtain rfl : dV = .none := Dflts.none hD hdf
  obtain rfl : kV = .none := Dflts.noKw hD
  obtain ⟨a, vs, ns, rfl, rfl, hobj, hints, hlen⟩ := script_of hn hpre hwl
  refine enter_call (codeAny_mono (call w s₀ s₁ mg mb fa o pm cd doc a vs ns G Y ho (fd_plain hd) hcd hmg hobj hints hlen hg) fun r s' hq => ?_)
  obtain ⟨rfl, h2, h3, h4⟩ := hq
  exact ⟨.inl ⟨.bool true, .bool true, [], rfl, fun _ => rfl, .bool true, post_true l _, fun _ => ⟨List.Pairwise.nil, fun _ hm => (nomatch hm)⟩⟩, h2, h3, h4⟩

/-- the same where the top left finished generators (o_head chose holds_openN): nothing may have changed at all and no generator may be left -/
theorem attachN {l : OpenLaw} {n : Nat} {q : Program} {loose : List Str} {XP : (Str → Option Value) → Heap → Prop} {YP : World → Heap → Prop} {d : DefRec} {x : Str}
    (hn : l.most = some n) (hdf : d.params.defaults = [])
    (hbind : ∀ pm cd doc v : Value, bindArgs (docDef d.name d.params d.body d.scope pm cd doc) ⟨[v], []⟩ = pure [(x, v)])
    (hx : d.scope.names.lookup x = some .local ∨ d.scope.names.lookup x = some .cell)
    (hk : d.scope.kind = .function) (hco : d.scope.isCoroutine = false) (hgen : d.scope.isGenerator = false)
    (body : ∀ (w : World) (s₀ s₁ s : Shared) (mg mb : Str → Option Value) (fa : Addr) (o : Obj) (pm cd doc : Value) (a : Addr) (vs : List Value) (ns : List Int),
      Ground q loose [] XP w s₀ mg mb s₁.heap → YP w s₁.heap →
      s₁.heap.get? fa = some o → o.data = .func (docDef d.name d.params d.body d.scope pm cd doc) → s₁.heap.CodeRec cd d.name → mg d.name = some (.ref fa) →
      s₁.heap.get? a = some { cls := .type "list", data := .seq vs.toArray } → IntsAre vs ns → ns.length ≤ n →
      s.gens = #[] → s.os = s₁.os →
      Fr s₁.heap s₁.heap.objs.size s.heap (bindL (envOfC d.name d.scope s₁.heap.objs.size fa cd).kindOf [(x, .ref a)] fun _ => none) →
      Cl s₁.heap.objs.size (cellsFrom (s₁.heap.objs.size + 1) d.scope.names []) s.heap (bindC (envOfC d.name d.scope s₁.heap.objs.size fa cd).kindOf [(x, .ref a)] fun _ => none) →
      wpAny (model l.prog w) (callerA.deeper (envOfC d.name d.scope s₁.heap.objs.size fa cd)) (execs d.body (envOfC d.name d.scope s₁.heap.objs.size fa cd))
        (fun f s' => f = .ret (.bool true) ∧ (∀ b o, s₁.heap.get? b = some o → s'.heap.get? b = some o) ∧ s'.os = s₁.os ∧ s'.gens = #[]) (fun _ _ => False) s) :
    WalkN q loose XP YP l.row.toRowW d [] (fun f vs => PySem.call f vs) := by
  intro w s₀ s₁ mg mb G Y fa o pm cd doc dV kV ho hd hcd hD hmg hg args vals as hpre hlay hrd hwl hlo
  obtain rfl : dV = .none := Dflts.none hD hdf
  obtain rfl : kV = .none := Dflts.noKw hD
  obtain ⟨a, vs, ns, rfl, rfl, hobj, hints, hlen⟩ := script_of hn hpre hwl
  refine enter_callW ?_
  refine call_cells_ret (o := o) (by rw [depth_caller]; decide) ho (fd_plain hd) G.T.nolimit hcd (hbind pm cd doc (.ref a)) (fun y hy => ?_) (fun h₁ tk F X => ?_) hco hgen hk
  · obtain rfl : y = (x, Value.ref a) := List.mem_singleton.mp hy
    rcases hx with e | e
    · exact .inl e
    · exact .inr ⟨e, cellsFrom_some _ _ _ (.inl e)⟩
  · refine wpAny_mono (body w s₀ s₁ { s₁ with heap := h₁, toks := tk } mg mb fa o pm cd doc a vs ns G Y ho (fd_plain hd) hcd hmg hobj hints hlen hg rfl F X) (fun f s' hq => ?_) (fun _ _ hq => hq)
    obtain ⟨rfl, h2, h3, h4⟩ := hq
    exact ⟨.inl ⟨.bool true, .bool true, [], rfl, fun _ => rfl, .bool true, post_true l _, fun _ => ⟨List.Pairwise.nil, fun _ hm => (nomatch hm)⟩⟩, h2, h3, h4⟩

/-! ### rules over ANY heap (no ledger) from facts about the written part K: the library's own take a ledger (News) for what they write -/
section
variable {prog : Program} {w : World} {A : Around} {E : Value → Shared → Prop} {s : Shared} {K : Frag}

/-- a def of the module, or a method (qual 'C.m'), entered: the frame is the next address; cells behind it -/
theorem call_fn {R : Result → Shared → Prop} {name qual : Str} {params : Arguments} {body : List Stmt} {scope : Scope} {dV kV doc pm cdv ct oc : Value} {an od : Option Addr} {osl : Array (Option Value)} {f : Addr} {args : Args} {binds : List (Str × Value)}
    (X : K.In s.heap) (hlim : s.heap.NoLimit) (ho : K.lookup f = some ⟨oc, od, .func (fnOf name qual params body scope dV kV doc pm an cdv ct), osl⟩) (hcd : codeIn K cdv qual = true) (hroom : A.depth < recursionLimit)
    (hbind : BindsTo s (fnOf name qual params body scope dV kV doc pm an cdv ct) args binds)
    (hkind : (binds.all fun y => scope.names.lookup y.1 == some .local || scope.names.lookup y.1 == some .cell) = true)
    (h : ∀ s₁, InCallC s s.heap.objs.size (bindL (envOfC qual scope s.heap.objs.size f cdv).kindOf binds fun _ => none) (cellsFrom (s.heap.objs.size + 1) scope.names [])
        (bindC (envOfC qual scope s.heap.objs.size f cdv).kindOf binds fun _ => none) s₁ →
      wpAny (model prog w) (A.deeper (envOfC qual scope s.heap.objs.size f cdv)) (execs body (envOfC qual scope s.heap.objs.size f cdv))
        (fun fl s' => R (.ok (.ret (match fl with | .ret v => v | _ => .none))) s')
        (fun e s' => wpAny (model prog w) (A.deeper (envOfC qual scope s.heap.objs.size f cdv)) (leaving (envOfC qual scope s.heap.objs.size f cdv) e) (fun _ s'' => R (.error e) s'') (fun e' s'' => R (.error e') s'') s') s₁)
    (hco : scope.isCoroutine = false) (hgen : scope.isGenerator = false) (hk : scope.kind = .function) : codeAny (model prog w) A (.call (.ref f) args) R s := by
  refine codeAny_call_function hroom (X _ _ ho) rfl hco hgen rfl (codeRec_of X hcd) (hbind _ _ _ _ ?_)
  refine wpAny_newFunctionEnv_cells hk (kindsX hkind _) fun env he s₁ x => ?_
  subst he
  exact ⟨hlim.keeps x.toInCall.keep, codeAny_func (h s₁ x)⟩

/-- C(..): dict at size, instance at size + 1, then __init__ -/
theorem make_obj {R : Result → Shared → Prop} {C fI : Addr} {rest : List Value} {kw : List (Str × Value)}
    (X : K.In s.heap) (hm : makesIn K C = true) (hi : findIn K (.ref C) "__init__" = some (some (.ref fI))) (hf : isFn K (.ref fI) = true)
    (h : codeAny (model prog w) (A.under (.builtin "type.__call__" ⟨.ref C :: rest, kw⟩)) (.call (.ref fI) ⟨.ref (s.heap.objs.size + 1) :: rest, kw⟩) (InitBack (s.heap.objs.size + 1) R)
      { s with heap := (s.heap.push emptyDict).push (instObj C s.heap.objs.size) }) : codeAny (model prog w) A (.call (.ref C) ⟨rest, kw⟩) R s := by
  obtain ⟨hh, g, d, t, os⟩ := s
  exact make_core (makes_of X hm) (looks_findIn X hi) (fun self => bind_fn X self (beq_iff_eq.mp hf)) (.inl rfl) h

/-- x.name where the instance's dict holds the name and the class does not -/
theorem get_field {x C : Addr} {ox : Obj} {es : List DictEntry} {n : Nat} {name : Str} {expr : Bool} {v : Value} {Q : Value → Shared → Prop}
    (X : K.In s.heap) (I : PySem.W.InstAt s.heap x ox C (some (dictOf es n))) (hg : plainGet K C name = true) (hh : hasDictIn K C = true) (ha : findIn K (.ref C) name = some none)
    (hl : getL name es = some (some v)) (hv : handedIn v = true) (h : Q v { s with toks := s.toks + 1 }) : wpAny (model prog w) A (getAttr (.ref x) name expr) Q E s :=
  get_value X I (plainGet_of hg).1 (findObj_own hh ha rfl hl) hv h

/-- x.m(..): the method found in the class -/
theorem get_method {x C f : Addr} {ox : Obj} {es : List DictEntry} {n : Nat} {name : Str} {pl : Sem Bool} {Q : Value × List Value → Shared → Prop}
    (X : K.In s.heap) (I : PySem.W.InstAt s.heap x ox C (some (dictOf es n))) (hg : plainGet K C name = true) (hf : findIn K (.ref C) name = some (some (.ref f))) (ht : isFn K (.ref f) = true)
    (hl : getL name es = some none) (h : Q (.ref f, [.ref x]) s) : wpAny (model prog w) A (getMethod (.ref x) name pl) Q E s :=
  method_fn X I (plainGet_of hg).1 (plainGet_of hg).2 hf (beq_iff_eq.mp ht) (by show (lookIn name (dictOf es n)).map _ = _; rw [lookIn_dict, hl]; rfl) h

/-! the whole heap as the ledger: makes every rule that writes through a ledger a rule over any heap -/
def noObjs (h : Heap) : Heap := { h with objs := #[] }
theorem noObjs_get (h : Heap) (b : Addr) : (noObjs h).get? b = none := by
  cases e : (noObjs h).get? b with
  | none => rfl
  | some o => exact absurd (Heap.lt_size e) (Nat.not_lt_zero _)
def ledger (h : Heap) (L d : Addr) : List (Addr × Obj) := (List.range h.objs.size).filterMap fun a => if a = L ∨ a = d then none else (h.get? a).map fun o => (a, o)
theorem mem_ledger {h : Heap} {L d a : Addr} {o : Obj} : (a, o) ∈ ledger h L d ↔ a ≠ L ∧ a ≠ d ∧ h.get? a = some o := by
  unfold ledger
  rw [List.mem_filterMap]
  constructor
  · rintro ⟨b, _, e⟩
    split at e
    · cases e
    · rename_i hb
      obtain ⟨o', ho, e'⟩ := Option.map_eq_some_iff.mp e
      cases e'
      exact ⟨fun q => hb (.inl q), fun q => hb (.inr q), ho⟩
  · rintro ⟨n1, n2, ho⟩
    refine ⟨a, List.mem_range.mpr (Heap.lt_size ho), ?_⟩
    rw [if_neg (show ¬ (a = L ∨ a = d) from fun q => q.elim n1 n2), ho] <;> rfl
theorem news_ledger {h : Heap} {L d : Addr} {od : Obj} (hne : d ≠ L) (ho : h.get? d = some od) : News (noObjs h) L h ([] ++ (d, od) :: ledger h L d) := by
  rintro ⟨a, o⟩ hp
  rcases List.mem_cons.mp hp with e | hp
  · cases e
    exact ⟨ho, hne, noObjs_get _ _⟩
  · obtain ⟨n1, n2, e⟩ := mem_ledger.mp hp
    exact ⟨e, n1, noObjs_get _ _⟩
theorem fr_all {h : Heap} {L : Addr} {m : Str → Option Value} (n : h.Ns L m) : Fr (noObjs h) L h m :=
  ⟨n, fun b o e => (by rw [noObjs_get] at e; cases e), Nat.zero_le _⟩
/-- Upd of the head entry (for append_K, setItem_K ..) -/
theorem upd_ledger {h : Heap} {L d : Addr} {o o' : Obj} : Upd d o o' ((d, o) :: ledger h L d) ((d, o') :: ledger h L d) :=
  .head fun ⟨_, _⟩ hp => (mem_ledger.mp hp).2.1

/-- x.name = v over any heap: L is any namespace of the heap (the frame's, say): its map stays, its object is not told; all else but the dict stays -/
theorem set_field {x C dx L : Addr} {ox : Obj} {m : Str → Option Value} {es es' : List DictEntry} {n n' : Nat} {name : Str} {v : Value} {Q : Unit → Shared → Prop}
    (X : K.In s.heap) (I : PySem.W.InstAt s.heap x ox C (some (dictOf es n))) (hd : ox.dict = some dx) (hL : s.heap.Ns L m) (hne : dx ≠ L)
    (hs : findIn K (.ref C) "__setattr__" = some (some (.builtin "object.__setattr__"))) (hp : plainOver K C = true) (ht : takerIn K C name = some none) (hh : hasDictIn K C = true) (hl : (getL name es).isSome = true)
    (e : (putL name (PyData.keyHash w.params name) (.str name (s.toks + 1)) v es, putN name es n) = (es', n')) (hz : es'.length ≤ 1000)
    (h : ∀ h' : Heap, h'.Ns L m → h'.get? dx = some (dictOf es' n') → (∀ b o, b ≠ dx → b ≠ L → s.heap.get? b = some o → h'.get? b = some o) → Q () { s with heap := h', toks := s.toks + 2 }) :
    wpAny (model prog w) A (setAttr (.ref x) name v) Q E s := by
  obtain ⟨e1, e2⟩ := Prod.mk.inj e
  have hdx : s.heap.get? dx = some (dictOf es n) := by
    have := I.dict
    rw [hd] at this
    exact this
  refine set_plain X I hs (osa_dict (s := { s with toks := s.toks + 1 }) (h₀ := noObjs s.heap) (L := L) (m := m) (od := dictOf es n) (od' := dictOf es' n') (es := es') (n := n') (pre := []) (post := ledger s.heap L dx)
    (fr_all hL) (news_ledger hne hdx) X I hd hp ht hh hl (fun _ q => nomatch q) (fun ⟨_, _⟩ q => (mem_ledger.mp q).2.1) (by rw [putName_dict, e1, e2]) rfl hz fun h' F' N' => ?_)
  exact h h' F'.ns (N'.get (List.Mem.head _)) fun b o n1 n2 ho => N'.get (List.Mem.tail _ (mem_ledger.mpr ⟨n2, n1, ho⟩))
end
end Att

namespace L2
open PySem PySem.Spec PyProof.Rows

theorem vals_ints : ∀ {vs : List Value} {ns : List Int}, IntsAre vs ns → Vals (ns.map V.int) vs
  | _, _, .nil => .nil
  | _, _, .cons n t h => .cons ⟨t, rfl⟩ (vals_ints h)

/-- nothing is tracked but the script, known to the object (or it is an object of the module) -/
def Only (H : Hp) : Prop := ∀ b, H b = none ∨ ∃ o xs, H b = some (.frz o (.lst xs))

/-- THE HEAD: the law's promise, at the heap behind the top. F, the promise of the law's def, may use that base is part of the heap (so K.In base, base.Ns mainGlobals mg stand in Mod) -/
theorem law_call {P : Program} {w : World} {K : PySem.W.Frag} {mg mb : Str → Option Value} {CX : CXT} {k : Nat} {fa a : Addr} {fd : FuncData} {x : Str} {sp : Sp} {s₁ : Shared} {vs : List Value} {ns : List Int}
    (KX : K.In s₁.heap) (hns : s₁.heap.Ns mainGlobals mg) (hb : s₁.heap.Ns builtinsNs mb) (hbb : ∀ x : Str, x ≠ "__name__" → mb x = bootBuiltins x) (hlim : s₁.heap.NoLimit) (hg : s₁.gens = #[])
    (ha : s₁.heap.get? a = some { cls := .type "list", data := .seq vs.toArray }) (hi : IntsAre vs ns) (hl : ns.length ≤ sizeLine) (hr : Room k callerA)
    (F : ∀ base : Heap, K.In base → base.Ns mainGlobals mg → FnOk P w K mg base CX k fa fd [x] sp) (hbind : ∀ (s : Shared) (u : Value), BindsTo s fd ⟨[u], []⟩ [(x, u)])
    (hsp : ∀ H : Hp, Only H → SqL K H a (ns.map V.int) → sp [.ref a] H (fun v _ => v = .bl true) fun _ _ _ => False)
    (hCX : ∀ H e s', CX [] H s₁ (fun _ _ _ => False) e s' → False) :
    codeAny (model P w) callerA (.call (.ref fa) ⟨[.ref a], []⟩) (fun r s' => r = .ok (.ret (.bool true)) ∧ OldK s₁.heap s'.heap ∧ s'.os = s₁.os ∧ AllBare s'.gens) s₁ := by
  have rv := vals_ints hi
  have lenV := hi.length
  -- from an abstract heap in which nothing but the script may be tracked
  have core : ∀ H : Hp, Only H → SqL K H a (ns.map V.int) → HOk P w H s₁.heap → (∀ b, H b ≠ none → b = a) → (H a ≠ none → K.lookup a = none) →
      codeAny (model P w) callerA (.call (.ref fa) ⟨[.ref a], []⟩) (fun r s' => r = .ok (.ret (.bool true)) ∧ OldK s₁.heap s'.heap ∧ s'.os = s₁.os ∧ AllBare s'.gens) s₁ := by
    intro H hO hS hok hA hK
    have base_of : ∀ {b : Addr} {o : Obj}, s₁.heap.get? b = some o → H b = none → (hidT s₁.heap H).get? b = some o := fun e n => hidT_get e n
    have noA : ∀ {b : Addr} {o : Obj} {es : Array DictEntry} {ep : Nat}, s₁.heap.get? b = some o → o.data = .dict es ep → H b = none := fun {b o es ep} e d => by
      cases q : H b with
      | none => rfl
      | some u =>
        have e' : b = a := hA b (by rw [q]; simp)
        subst e'
        rw [ha] at e; cases e
        have d' : Data.seq vs.toArray _ = Data.dict es ep := d
        cases d'
    have nsK : ∀ {b : Addr} {m : Str → Option Value}, s₁.heap.Ns b m → (hidT s₁.heap H).Ns b m := fun {b m} ⟨o, es, ep, e, d, r⟩ => ⟨o, es, ep, base_of e (noA e d), d, r⟩
    have hKb : K.In (hidT s₁.heap H) := fun b o e => base_of (KX b o e) (by
      cases q : H b with
      | none => rfl
      | some u =>
        have e' : b = a := hA b (by rw [q]; simp)
        subst e'
        rw [hK (by rw [q]; simp)] at e; cases e)
    have hM : Mod K mg (hidT s₁.heap H) := ⟨hKb, nsK hns, ⟨mb, nsK hb, hbb⟩, let ⟨mc, h1, h2⟩ := hlim; ⟨mc, nsK h1, h2⟩⟩
    have e0 : Env0 P w K mg (hidT s₁.heap H) callerA [] s₁ H := ⟨rfl, hM, fun b o e => of_hidT e, Nat.le_of_eq (hidT_size _ _), trivial, fun b hb => absurd (show b ∈ ([] : List Addr) from hb) (by simp), hok, .of_eq hg⟩
    refine codeAny_mono ((F _ hKb (nsK hns)).run callerA [] s₁ H ⟨[.ref a], []⟩ [.ref a] [.ref a] _ _ hr e0 (hbind s₁ (.ref a)) (.cons rfl .nil) (hsp H hO hS)) fun r s' h => ?_
    cases r with
    | error e => exact (hCX H e s' h).elim
    | ok fl =>
      cases fl with
      | next => exact False.elim h
      | brk => exact False.elim h
      | cont => exact False.elim h
      | ret u =>
        obtain ⟨v, H', os, bare, un, hok', r', q⟩ := h
        have q' : v = .bl true := q
        subst q'
        obtain rfl : u = Value.bool true := r'
        refine ⟨rfl, OldK.of_keep fun b o e => ?_, os, bare⟩
        cases q : H b with
        | none => exact un.keep b o e q (by intro z; exact absurd (show b ∈ ([] : List Addr) from z) (by simp)) (by simp)
        | some u =>
          rcases hO b with z | ⟨ob, xs, z⟩
          · rw [q] at z; cases z
          · have z2 := un.frzs b ob _ z
            obtain ⟨e1, _⟩ := hok b _ z
            obtain ⟨e2, _⟩ := hok' b _ z2
            rw [e] at e1; cases e1
            exact e2
  cases hk : K.lookup a with
  | some o =>
    -- the script is one of the module's own objects
    have e := KX a o hk
    rw [ha] at e
    cases e
    refine core (fun _ => none) (fun _ => .inl rfl) (.inr ⟨_, vs.toArray, _, hk, rfl, rfl, rfl, by rw [List.size_toArray, lenV]; exact hl, by simpa using rv⟩) (fun b u z => by have z' : (none : Option HO) = some u := z; cases z') (fun b z => absurd rfl z) fun z => absurd rfl z
  | none =>
    refine core (fun b => if b = a then some (.frz { cls := .type "list", data := .seq vs.toArray } (.lst (ns.map V.int))) else none) (fun b => ?_) (.inl (.inr ⟨{ cls := .type "list", data := .seq vs.toArray }, if_pos rfl⟩)) (fun b u z => ?_) (fun b z => ?_) fun _ => hk
    · by_cases hb : b = a
      · exact .inr ⟨_, _, if_pos hb⟩
      · exact .inl (if_neg hb)
    · by_cases hb : b = a
      · have z' := (if_pos hb).symm.trans z
        cases z'
        subst hb
        exact ⟨ha, by rw [List.length_map]; exact hl, vs, _, rv, ha⟩
      · have z' := (if_neg hb).symm.trans z
        cases z'
    · by_cases hb : b = a
      · exact hb
      · exact absurd (if_neg hb) z
end L2

namespace L2
open PySem PySem.Spec PyProof.Rows

abbrev KOf {K : PySem.W.Frag} {h : Heap} (_ : K.In h) : PySem.W.Frag := K

/-- the goal that k_head leaves (case hc), from the law's promise. F gives the function object fd (K's own) once, then the promise over every base -/
theorem walk_of {l : PySem.W.OpenLaw} {n k : Nat} {q : Program} {loose : List Str} {XP : (Str → Option Value) → Heap → Prop} {YP : World → Heap → Prop} {d : DefRec} {K : Params → PySem.W.Frag} {CX : World → CXT} {sp : World → Sp} {x : Str}
    (hn : l.most = some n) (hn2 : n ≤ sizeLine) (hdf : d.params.defaults = []) (hr : Room k callerA)
    (hY : ∀ (w : World) (h : Heap), YP w h → (K w.params).In h)
    (F : ∀ (w : World) (mg : Str → Option Value) (fa : Addr) (h : Heap), (K w.params).In h → h.Ns mainGlobals mg → mg d.name = some (.ref fa) →
      ∃ fd : FuncData, (∀ (s : Shared) (u : Value), BindsTo s fd ⟨[u], []⟩ [(x, u)]) ∧
        ∀ base : Heap, (K w.params).In base → base.Ns mainGlobals mg → FnOk l.prog w (K w.params) mg base (CX w) k fa fd [x] (sp w))
    (hsp : ∀ (w : World) (H : Hp) (a : Addr) (ns : List Int), ns.length ≤ n → Only H → SqL (K w.params) H a (ns.map V.int) → sp w [.ref a] H (fun v _ => v = .bl true) fun _ _ _ => False)
    (hCX : ∀ (w : World) (H : Hp) (s : Shared) (e : Value) (s' : Shared), CX w [] H s (fun _ _ _ => False) e s' → False) :
    PySem.W.WalkO q loose XP YP l.row.toRowW d [] (fun f vs => PySem.call f vs) := by
  refine Att.attach_call hn hdf fun w s₀ s₁ mg mb fa o pm cd doc a vs ns G Y ho hd hcd hmg hobj hints hlen hg => ?_
  have KX := hY w _ Y
  obtain ⟨fd, hb, hF⟩ := F w mg fa _ KX G.T.g hmg
  exact law_call KX G.T.g G.T.b G.T.builtins G.T.nolimit hg hobj hints (Nat.le_trans hlen hn2) hr hF hb (fun H hO hS => hsp w H a ns hlen hO hS) fun H e s' => hCX w H s₁ e s'
/-- the same where the promise hangs on the written part alone: (sp := My.sp_law), no hole under a binder -/
theorem walk_ofK {l : PySem.W.OpenLaw} {n k : Nat} {q : Program} {loose : List Str} {XP : (Str → Option Value) → Heap → Prop} {YP : World → Heap → Prop} {d : DefRec} {K : Params → PySem.W.Frag} {CX : CXT} {sp : PySem.W.Frag → Sp} {x : Str}
    (hn : l.most = some n) (hn2 : n ≤ sizeLine) (hdf : d.params.defaults = []) (hr : Room k callerA)
    (hY : ∀ (w : World) (h : Heap), YP w h → (K w.params).In h)
    (F : ∀ (w : World) (mg : Str → Option Value) (fa : Addr) (h : Heap), (K w.params).In h → h.Ns mainGlobals mg → mg d.name = some (.ref fa) →
      ∃ fd : FuncData, (∀ (s : Shared) (u : Value), BindsTo s fd ⟨[u], []⟩ [(x, u)]) ∧
        ∀ base : Heap, (K w.params).In base → base.Ns mainGlobals mg → FnOk l.prog w (K w.params) mg base CX k fa fd [x] (sp (K w.params)))
    (hsp : ∀ (K : PySem.W.Frag) (H : Hp) (a : Addr) (ns : List Int), ns.length ≤ n → Only H → SqL K H a (ns.map V.int) → sp K [.ref a] H (fun v _ => v = .bl true) fun _ _ _ => False)
    (hCX : ∀ (H : Hp) (s : Shared) (e : Value) (s' : Shared), CX [] H s (fun _ _ _ => False) e s' → False) :
    PySem.W.WalkO q loose XP YP l.row.toRowW d [] (fun f vs => PySem.call f vs) :=
  walk_of (K := K) (CX := fun _ => CX) (sp := fun w => sp (K w.params)) hn hn2 hdf hr hY F (fun w H a ns h1 h2 h3 => hsp (K w.params) H a ns h1 h2 h3) fun _ H s e s' => hCX H s e s'
end L2

/- THE LAST THEOREM (shape; LID, My.* are yours):
   My.Adr: a structure of the addresses that your layer names (classes, functions); My.Txt K t: a structure (Prop) of the equations over K;
   My.txt_mk : {K} {implicit addresses ..} (e1 : nsIn K mainGlobals "law" = some (some (.ref f))) (e2 : K.lookup f = some ⟨oc, od, .func (fnOf "law" "law" params body scope dV kV doc pm an cdv ct), sl⟩) (e3 : codeIn K cdv "law" = true) .. : ∃ t, My.Txt K t

set_option maxRecDepth 100000 in
set_option maxHeartbeats 0 in
theorem PySem.Challenge.cw_LID_holds : PySem.Challenge.rw_LID.Holds := by
  w_on; o_law; k_head; (case hw => w_witness2)
  k_fill
  refine L2.walk_of (l := PySem.Challenge.rw_LID) (n := 63) (k := 40) (x := "script") (CX := fun w => ..) (sp := fun _ => My.sp_law) rfl (by decide) rfl ⟨rfl, by decide, by decide⟩ (fun w h Y => PySem.W.kIn_of Y) ?F ?S ?C
  case F =>
    intro w mg fa h KX G hmg
    have T : ∃ t, My.Txt (L2.KOf KX) t := by
      dsimp only [L2.KOf]                          -- K must stand as «<heap const> w.params» for k_is
      refine' My.txt_mk ?e1 ?e2 ?e3 ..
      (case e1 => PySem.W.k_is)                    -- in the order: a name -> its address -> its object -> its parts
      (case e2 => PySem.W.k_is)
      ..
    obtain ⟨t, T⟩ := T
    have e0 := hmg.symm.trans (PySem.W.mg_of KX G T.law)
    cases e0                                       -- fa is the law's own address
    exact ⟨_, fun s u => .of_eq rfl, fun base kb nb => My.law_fn T kb nb⟩     -- if «.of_eq rfl» comes too early: refine' ⟨_, ?b, fun base kb nb => My.law_fn T kb nb⟩; exact fun s u => .of_eq rfl
  case S => exact fun w H a ns hl hO hS => ..
  case C => exact ..
(the tactic k_is has no namespace: write k_is) -/

/-! SHORT WORDS over the layer: a def of the text, its body, what a loop and a test want. -/
namespace L2
open PySem PySem.Spec PyProof.Rows

/-! ### the text by places -/
/-- the j-th statement of a class's body -/
def inClass (s : Stmt) (j : Nat) : Stmt := match s with
  | .ClassDef _ _ _ body _ _ _ _ _ _ _ => body.getD j (.Pass ⟨0, 0, 0, 0⟩)
  | _ => .Pass ⟨0, 0, 0, 0⟩
def defArgs (s : Stmt) : Arguments := match s with
  | .FunctionDef _ a _ _ _ _ _ _ _ _ => a
  | _ => { posonlyargs := [], args := [], vararg := none, kwonlyargs := [], kw_defaults := [], kwarg := none, defaults := [] }
def defBody (s : Stmt) : List Stmt := match s with
  | .FunctionDef _ _ b _ _ _ _ _ _ _ => b
  | _ => []
def defScope (s : Stmt) : Scope := match s with
  | .FunctionDef _ _ _ _ _ _ sc _ _ _ => sc
  | _ => { kind := .function, names := [], isGenerator := false, isCoroutine := false }

/-! ### no exception leaves a def -/
abbrev CX0 : CXT := fun _ _ _ _ _ _ => False
abbrev E0 : XK := fun _ _ _ => False
theorem pass0 {X : Cx} : Passes CX0 X E0 := fun _ _ _ _ _ _ _ h => h.elim

/-! ### a def (or method) of the text as it stands behind the top -/
structure Fun (K : PySem.W.Frag) (x qual : Str) (st : Stmt) (f : Addr) (fd : FuncData) : Prop where
  ex : ∃ (oc : Value) (od : Option Addr) (kV doc pm : Value) (an : Option Addr) (cdv ct : Value) (osl : Array (Option Value)),
    fd = PySem.W.fnOf x qual (defArgs st) (defBody st) (defScope st) .none kV doc pm an cdv ct ∧ K.lookup f = some ⟨oc, od, .func fd, osl⟩ ∧ PySem.W.codeIn K cdv qual = true
  kp : PySem.W.keepIn K (.ref f) = true
section
variable {P : Program} {w : World} {K : PySem.W.Frag} {mg : Str → Option Value} {base : Heap}
/-- THE RULE for a def: its body as a term of rules, and the reading of that term -/
theorem Fun.ok {x qual : Str} {st : Stmt} {f : Addr} {fd : FuncData} {N ps : List Str} {k : Nat} {sp : Sp} (F : Fun K x qual st f fd) (S : FnScope N ps (defScope st)) (len : ∀ vs H Q E, sp vs H Q E → vs.length = ps.length)
    (hbody : ∀ (cdv : Value) (A : Around) (outer : List Env) (s : Shared) (H : Hp) (vs : List V) (Q : VK) (E : XK), Room k (A.deeper (envOfC qual (defScope st) s.heap.objs.size f cdv)) → sp vs H Q E →
      ∃ t, PSs (cxOf CX0 P w K mg base N qual (defScope st) f cdv A outer s H E).nox (defBody st) t ∧ t { nx := fun _ H' => Q .non H', rt := Q } (start N vs) H) : FnOk P w K mg base CX0 (k + 1) f fd ps sp := by
  obtain ⟨oc, od, kV, doc, pm, an, cdv, ct, osl, rfl, lk, hcd⟩ := F.ex
  refine fn_of lk hcd S len fun A outer s H vs Q E hr hsp => ?_
  obtain ⟨t, h, q⟩ := hbody cdv A outer s H vs Q E hr hsp
  exact ⟨t, h.nox, q⟩
/-- how its arguments bind (no defaults): h is «fun _ _ _ _ _ _ us hl => match us, hl with | [_, _], _ => rfl», one _ a parameter -/
theorem Fun.binds {x qual : Str} {st : Stmt} {f : Addr} {fd : FuncData} {ps : List Str} (F : Fun K x qual st f fd)
    (h : ∀ (kV doc pm : Value) (an : Option Addr) (cdv ct : Value) (us : List Value), us.length = ps.length → bindArgs (PySem.W.fnOf x qual (defArgs st) (defBody st) (defScope st) .none kV doc pm an cdv ct) ⟨us, []⟩ = pure (ps.zip us)) : Binds K fd ps [] := by
  obtain ⟨oc, od, kV, doc, pm, an, cdv, ct, osl, rfl, lk, hcd⟩ := F.ex
  exact .all (h kV doc pm an cdv ct)
theorem fun_mk {x qual : Str} {st : Stmt} {f : Addr} {oc : Value} {od an : Option Addr} {osl : Array (Option Value)} {kV doc pm cdv ct : Value} (l : K.lookup f = some ⟨oc, od, .func (PySem.W.fnOf x qual (defArgs st) (defBody st) (defScope st) .none kV doc pm an cdv ct), osl⟩)
    (c : PySem.W.codeIn K cdv qual = true) (k : PySem.W.keepIn K (.ref f) = true) : Fun K x qual st f (PySem.W.fnOf x qual (defArgs st) (defBody st) (defScope st) .none kV doc pm an cdv ct) := ⟨⟨oc, od, kV, doc, pm, an, cdv, ct, osl, rfl, l, c⟩, k⟩
end
theorem hu_of {A : Around} {k : Nat} (hr : Room k A) : A.units + 1 < cLine := Nat.lt_of_le_of_lt (Nat.add_le_add_left (by decide : 1 ≤ 64) _) hr.units
theorem small1000 {n : Nat} (h : n ≤ 1000) : n < sizeLine := Nat.lt_of_le_of_lt h (by decide)

/-! ### expressions in short: the name that stands in the i-th slot -/
section
variable {X : Cx}
theorem pv (i : Nat) {x : Str} {pos : Pos} (hN : X.N[i]? = some x := by rfl) (hv : Vis X.env.scope x := by first | exact Or.inl rfl | exact Or.inr (Or.inl rfl) | exact Or.inr (Or.inr rfl)) (hd : (x == ("__debug__" : Str)) = false := by decide)
    (hcd : (x == ("__classdict__" : Str)) = false := by decide) : PE X (.Name x pos) (tVar i) := pe_var hN hv hd hcd
end

/-! ### tests -/
theorem iteF {A B : Prop} (h : B) : if false = true then A else B := by
  rw [if_neg Bool.false_ne_true]
  exact h
theorem iteT {A B : Prop} (h : A) : if true = true then A else B := by
  rw [if_pos rfl]
  exact h
theorem ite2 {c A B : Prop} [Decidable c] (h1 : c → A) (h2 : ¬ c → B) : if c then A else B := by
  by_cases h : c
  · rw [if_pos h]
    exact h1 h
  · rw [if_neg h]
    exact h2 h
theorem iteNS {c A B : Prop} [Decidable c] (hc : c) (h : B) : if (!decide c) = true then A else B := by
  rw [decide_eq_true hc]
  exact iteF h

/-! ### heaps -/
/-- all that was tracked is as it was -/
def Same (H H' : Hp) : Prop := ∀ b o, H b = some o → H' b = some o
theorem Same.refl (H : Hp) : Same H H := fun _ _ h => h
theorem Same.trans {H H1 H2 : Hp} (a : Same H H1) (b : Same H1 H2) : Same H H2 := fun c o h => b c o (a c o h)
theorem Same.free {H H' : Hp} (e : Same H H') {l : Addr} (h : H' l = Option.none) : H l = Option.none := by
  cases q : H l with
  | none => rfl
  | some o =>
    rw [e l o q] at h
    cases h
theorem Same.seq {K : PySem.W.Frag} {H H' : Hp} {a : Addr} {xs : List V} (e : Same H H') (h : SqL K H a xs) : SqL K H' a xs := by
  rcases h with (h | ⟨o, h⟩) | h
  · exact .inl (.inl (e _ _ h))
  · exact .inl (.inr ⟨o, e _ _ h⟩)
  · exact .inr h

end L2

namespace L2
open PySem PySem.Spec PyProof.Rows

/-! ### lists of pairs as tables -/
section
variable {κ : Type} [DecidableEq κ]
def valV (kvs : List (κ × V)) (k : κ) : Option V := (kvs.find? fun kv => decide (kv.1 = k)).map (·.2)
/-- in its place, or at the end -/
def putK (kvs : List (κ × V)) (k : κ) (v : V) : List (κ × V) :=
  if (kvs.any fun kv => decide (kv.1 = k)) = true then kvs.map (fun kv => if kv.1 = k then (kv.1, v) else kv) else kvs ++ [(k, v)]
def dropK (kvs : List (κ × V)) (k : κ) : List (κ × V) := kvs.filter fun kv => decide (kv.1 ≠ k)

theorem valV_nil {k : κ} : valV ([] : List (κ × V)) k = none := rfl
theorem valV_pos {p : κ × V} {r : List (κ × V)} {k : κ} (e : p.1 = k) : valV (p :: r) k = some p.2 := by simp [valV, List.find?_cons, e]
theorem valV_neg {p : κ × V} {r : List (κ × V)} {k : κ} (e : ¬ p.1 = k) : valV (p :: r) k = valV r k := by simp [valV, List.find?_cons, e]
theorem valV_any (k : κ) : ∀ kvs : List (κ × V), (kvs.any fun kv => decide (kv.1 = k)) = (valV kvs k).isSome
  | [] => rfl
  | p :: r => by
    rw [List.any_cons]
    by_cases e : p.1 = k
    · simp only [valV_pos e, decide_eq_true e, Bool.true_or, Option.isSome_some]
    · rw [valV_neg e, decide_eq_false e, Bool.false_or]; exact valV_any k r
theorem valV_map (k j : κ) (y : V) : ∀ kvs : List (κ × V), valV (kvs.map fun kv => if kv.1 = k then (kv.1, y) else kv) j = (valV kvs j).map fun x => if j = k then y else x
  | [] => rfl
  | p :: r => by
    have ih := valV_map k j y r
    rw [List.map_cons]
    by_cases h : p.1 = k
    · rw [if_pos h]
      by_cases e : p.1 = j
      · rw [valV_pos (p := (p.1, y)) e, valV_pos e, Option.map_some, if_pos (e.symm.trans h)]
      · rw [valV_neg (p := (p.1, y)) e, valV_neg e, ih]
    · rw [if_neg h]
      by_cases e : p.1 = j
      · rw [valV_pos (p := p) e, valV_pos e, Option.map_some, if_neg (fun z => h (e.trans z))]
      · rw [valV_neg (p := p) e, valV_neg e, ih]
theorem valV_snoc (k j : κ) (y : V) : ∀ kvs : List (κ × V), valV kvs k = none → valV (kvs ++ [(k, y)]) j = if j = k then some y else valV kvs j
  | [], _ => by
    by_cases e : k = j
    · rw [if_pos e.symm]; exact valV_pos (p := (k, y)) e
    · rw [if_neg (fun z => e z.symm)]; exact valV_neg (p := (k, y)) e
  | p :: r, hn => by
    rw [List.cons_append]
    have hk : ¬ p.1 = k := fun z => by rw [valV_pos z] at hn; cases hn
    rw [valV_neg hk] at hn
    have ih := valV_snoc k j y r hn
    by_cases e : p.1 = j
    · rw [valV_pos e, valV_pos e, if_neg (fun z => hk (e.trans z))]
    · rw [valV_neg e, valV_neg e, ih]
theorem valV_put (kvs : List (κ × V)) (k j : κ) (y : V) : valV (putK kvs k y) j = if j = k then some y else valV kvs j := by
  unfold putK
  by_cases a : (kvs.any fun kv => decide (kv.1 = k)) = true
  · rw [if_pos a, valV_map]
    rw [valV_any] at a
    by_cases e : j = k
    · obtain ⟨x, hx⟩ := Option.isSome_iff_exists.mp a
      rw [if_pos e, e, hx, Option.map_some, if_pos rfl]
    · rw [if_neg e]
      cases valV kvs j with
      | none => rfl
      | some x => rw [Option.map_some, if_neg e]
  · rw [if_neg a]
    refine valV_snoc k j y kvs ?_
    rw [valV_any] at a
    cases q : valV kvs k with
    | none => rfl
    | some x => rw [q] at a; exact (a rfl).elim
theorem length_putK (kvs : List (κ × V)) (k : κ) (v : V) : (putK kvs k v).length ≤ kvs.length + 1 := by
  unfold putK
  split
  · rw [List.length_map]; omega
  · rw [List.length_append, List.length_cons, List.length_nil]; omega
theorem putK_new {kvs : List (κ × V)} {k : κ} (v : V) (h : valV kvs k = none) : putK kvs k v = kvs ++ [(k, v)] := by
  unfold putK
  rw [valV_any, h]
  exact if_neg (by decide)

theorem RelO.isSome_eq {o : Option V} {u : Option Value} (r : RelO o u) : o.isSome = u.isSome := by
  cases o with
  | none => cases u with
    | none => rfl
    | some _ => exact (show False from r).elim
  | some _ => cases u with
    | none => exact (show False from r).elim
    | some _ => rfl
theorem RelO.getD {o : Option V} {u : Option Value} {d : V} {d' : Value} (r : RelO o u) (rd : RelV d d') : RelV (o.getD d) (u.getD d') := by
  cases o with
  | none => cases u with
    | none => exact rd
    | some _ => exact (show False from r).elim
  | some _ => cases u with
    | none => exact (show False from r).elim
    | some _ => exact r

/-- raw tables of the same keys -/
theorem KV.val {kvs : List (κ × V)} {vs : List (κ × Value)} (r : KV kvs vs) (k : κ) : RelO (valV kvs k) (valueAt vs k) := by
  unfold KV at r
  induction r with
  | nil => exact True.intro
  | @cons p q ps qs h t ih =>
    obtain ⟨h1, h2⟩ := h
    by_cases e : p.1 = k
    · have e' : q.1 = k := h1.symm.trans e
      have b : valueAt (q :: qs) k = some q.2 := by simp [valueAt, List.find?_cons, e']
      rw [valV_pos e, b]; exact h2
    · have e' : ¬ q.1 = k := fun z => e (h1.trans z)
      have b : valueAt (q :: qs) k = valueAt qs k := by simp [valueAt, List.find?_cons, e']
      rw [valV_neg e, b]; exact ih
theorem KV.any {kvs : List (κ × V)} {vs : List (κ × Value)} (r : KV kvs vs) (k : κ) : (kvs.any fun kv => decide (kv.1 = k)) = vs.any fun kv => decide (kv.1 = k) := by
  unfold KV at r
  induction r with
  | nil => rfl
  | cons h t ih => rw [List.any_cons, List.any_cons, ih, h.1]
theorem KV.repl {kvs : List (κ × V)} {vs : List (κ × Value)} (r : KV kvs vs) (k : κ) {y : V} {u : Value} (ry : RelV y u) :
    KV (kvs.map fun kv => if kv.1 = k then (kv.1, y) else kv) (vs.map fun kv => if kv.1 = k then (kv.1, u) else kv) := by
  unfold KV at r ⊢
  induction r with
  | nil => exact .nil
  | @cons p q ps qs h t ih =>
    rw [List.map_cons, List.map_cons]
    refine .cons ?_ ih
    obtain ⟨h1, h2⟩ := h
    by_cases e : p.1 = k
    · rw [if_pos e, if_pos (h1.symm.trans e)]; exact ⟨h1, ry⟩
    · rw [if_neg e, if_neg (fun z => e (h1.trans z))]; exact ⟨h1, h2⟩
theorem KV.put {kvs : List (κ × V)} {vs : List (κ × Value)} (r : KV kvs vs) (k : κ) {y : V} {u : Value} (ry : RelV y u) : KV (putK kvs k y) (stored vs k u) := by
  unfold putK stored
  rw [r.any k]
  by_cases e : (vs.any fun kv => decide (kv.1 = k)) = true
  · rw [if_pos e, if_pos e]; exact r.repl k ry
  · rw [if_neg e, if_neg e]; exact Paired.snoc r ⟨rfl, ry⟩
theorem KV.drop {kvs : List (κ × V)} {vs : List (κ × Value)} (r : KV kvs vs) (k : κ) : KV (dropK kvs k) (without vs k) := by
  unfold KV at r ⊢
  unfold dropK without
  induction r with
  | nil => exact .nil
  | @cons p q ps qs h t ih =>
    obtain ⟨h1, h2⟩ := h
    rw [List.filter_cons, List.filter_cons]
    by_cases e : p.1 = k
    · have a : ¬ decide (p.1 ≠ k) = true := by simp [e]
      have b : ¬ decide (q.1 ≠ k) = true := by simp [h1.symm.trans e]
      rw [if_neg a, if_neg b]; exact ih
    · have e' : ¬ q.1 = k := fun z => e (h1.trans z)
      have a : decide (p.1 ≠ k) = true := by simp [e]
      have b : decide (q.1 ≠ k) = true := by simp [e']
      rw [if_pos a, if_pos b]; exact .cons ⟨h1, h2⟩ ih
theorem KV.keys {kvs : List (κ × V)} {vs : List (κ × Value)} (r : KV kvs vs) : kvs.map (·.1) = vs.map (·.1) := by
  unfold KV at r
  induction r with
  | nil => rfl
  | cons h t ih => rw [List.map_cons, List.map_cons, ih, h.1]
theorem KV.length {kvs : List (κ × V)} {vs : List (κ × Value)} (r : KV kvs vs) : kvs.length = vs.length := Paired.length r
theorem dropK_le (kvs : List (κ × V)) (k : κ) : (dropK kvs k).length ≤ kvs.length := List.length_filter_le _ _
end


/-! ### a tracked dict, its keys ints and texts or tuples of these -/
theorem kV_is {P : Program} {w : World} {k : Key} {u : Value} (r : RelV (kV k) u) : (mixKind P w).is k u = true := by
  cases k with
  | inl i => obtain ⟨t, e⟩ := (show ∃ t, u = Value.int i t from r); subst e; exact mixKind_int P w i t
  | inr x => obtain ⟨t, e⟩ := (show ∃ t, u = Value.str x t from r); subst e; exact mixKind_str P w x t
theorem kV_inj {a b : Key} (e : kV a = kV b) : a = b := by
  cases a with
  | inl i => cases b with
    | inl j => have e' : V.int i = V.int j := e; injection e' with e'; rw [e']
    | inr y => exact nomatch (show V.int i = V.str y from e)
  | inr x => cases b with
    | inl j => exact nomatch (show V.str x = V.int j from e)
    | inr y => have e' : V.str x = V.str y := e; injection e' with e'; rw [e']
theorem kVs_inj : ∀ {a b : List Key}, a.map kV = b.map kV → a = b
  | [], [], _ => rfl
  | [], _ :: _, e => by simp at e
  | _ :: _, [], e => by simp at e
  | x :: xs, y :: ys, e => by
    rw [List.map_cons, List.map_cons] at e
    injection e with e1 e2
    rw [kV_inj e1, kVs_inj e2]
theorem items_are {P : Program} {w : World} : ∀ {ks : List Key} {us : List Value}, Vals (ks.map kV) us → ItemsAre (mixKind P w) ks us
  | [], _, r => by rw [List.map_nil] at r; cases r; exact .nil
  | k :: ks, _, r => by
    rw [List.map_cons] at r
    cases r with
    | cons h t => exact .cons (kV_is h) (items_are t)

/-- raw entries of a dict with tuple keys -/
abbrev KT (H : Hp) : List (List Key × V) → List (List Key × Addr × Value) → Prop := Paired fun p q => p.1 = q.1 ∧ H q.2.1 = some (.tup (p.1.map kV)) ∧ RelV p.2 q.2.2
theorem KT.val {H : Hp} {kvs : List (List Key × V)} {xs : List (List Key × Addr × Value)} (r : KT H kvs xs) (k : List Key) : RelO (valV kvs k) ((atKey xs k).map (·.2)) := by
  induction r with
  | nil => exact True.intro
  | @cons p q ps qs h t ih =>
    obtain ⟨h1, _, h2⟩ := h
    by_cases e : p.1 = k
    · have e' : q.1 = k := h1.symm.trans e
      have b : atKey (q :: qs) k = some q.2 := by simp [atKey, List.find?_cons, e']
      rw [valV_pos e, b]; exact h2
    · have e' : ¬ q.1 = k := fun z => e (h1.trans z)
      have b : atKey (q :: qs) k = atKey qs k := by simp [atKey, List.find?_cons, e']
      rw [valV_neg e, b]; exact ih
theorem KT.repl {H : Hp} {kvs : List (List Key × V)} {xs : List (List Key × Addr × Value)} (r : KT H kvs xs) (k : List Key) {y : V} {u : Value} (ry : RelV y u) :
    KT H (kvs.map fun kv => if kv.1 = k then (kv.1, y) else kv) (xs.map (putAt k u)) := by
  induction r with
  | nil => exact .nil
  | @cons p q ps qs h t ih =>
    rw [List.map_cons, List.map_cons]
    refine .cons ?_ ih
    obtain ⟨h1, h2, h3⟩ := h
    unfold putAt
    by_cases e : p.1 = k
    · rw [if_pos e, if_pos (h1.symm.trans e)]; exact ⟨h1, h2, ry⟩
    · rw [if_neg e, if_neg (fun z => e (h1.trans z))]; exact ⟨h1, h2, h3⟩
theorem KT.put {H : Hp} {kvs : List (List Key × V)} {xs : List (List Key × Addr × Value)} (r : KT H kvs xs) (k : List Key) {b : Addr} {y : V} {u : Value} (hb : H b = some (.tup (k.map kV))) (ry : RelV y u) :
    KT H (putK kvs k y) (storedH xs k b u) := by
  have e : (kvs.any fun kv => decide (kv.1 = k)) = (atKey xs k).isSome := by
    rw [valV_any, (r.val k).isSome_eq, Option.isSome_map]
  unfold putK storedH
  rw [e]
  by_cases q : (atKey xs k).isSome = true
  · rw [if_pos q, if_pos q]; exact r.repl k ry
  · rw [if_neg q, if_neg q]; exact Paired.snoc r ⟨rfl, hb, ry⟩
theorem KT.keeps {H H' : Hp} {kvs : List (List Key × V)} {xs : List (List Key × Addr × Value)} (r : KT H kvs xs) (ht : ∀ b ys, H b = some (.tup ys) → H' b = some (.tup ys)) : KT H' kvs xs :=
  Paired.mapP r fun _ _ z => ⟨z.1, ht _ _ z.2.1, z.2.2⟩

section
variable {P : Program} {w : World} {H : Hp} {h : Heap} {a : Addr}
theorem rd_of {u : HO} (ok : HOk P w H h) (e : Rd H a u) : ObjOk P w H h a u := e.ok ok
theorem dk_rd {kvs : List (Key × V)} (ok : HOk P w H h) (e : Rd H a (.dK kvs)) : kvs.length ≤ sizeLine ∧ (a == sysModules) = false ∧ ∃ vs, KV kvs vs ∧ h.DictOf (mixKind P w) a vs :=
  show ObjOk P w H h a (.dK kvs) from rd_of ok e
theorem dk_of {kvs : List (Key × V)} (ok : HOk P w H h) (e : H a = some (.dK kvs)) : kvs.length ≤ sizeLine ∧ (a == sysModules) = false ∧ ∃ vs, KV kvs vs ∧ h.DictOf (mixKind P w) a vs := dk_rd ok (.inl e)
/-- a tracked tuple of ints and texts is a key -/
theorem key_of {ks : List Key} (ok : HOk P w H h) (e : H a = some (.tup (ks.map kV))) : (tupleKind (mixKind P w)).is h ks a := by
  obtain ⟨_, its, r, o, h1, h2, n, h3⟩ := (show ObjOk P w H h a (.tup (ks.map kV)) from ok a _ e)
  exact ⟨o, its.toArray, n, h1, h2, h3, by simpa using items_are r⟩
theorem dt_rd {kvs : List (List Key × V)} (ok : HOk P w H h) (e : Rd H a (.dT kvs)) : kvs.length ≤ sizeLine ∧ (a == sysModules) = false ∧
    ∃ xs, KT H kvs xs ∧ h.DictOfH (tupleKind (mixKind P w)) a xs := by
  obtain ⟨z, y, xs, r, o, es, ep, h1, h2, h3, h4, h5⟩ := (show ObjOk P w H h a (.dT kvs) from rd_of ok e)
  refine ⟨z, y, xs, r, o, es, ep, h1, h2, h3, h4, fun x hx => ?_, h5⟩
  have all : ∀ {l : List (List Key × V)} {m : List (List Key × Addr × Value)}, KT H l m → ∀ x ∈ m, (tupleKind (mixKind P w)).is h x.1 x.2.1 := by
    intro l m q
    induction q with
    | nil => intro x hx; exact nomatch hx
    | @cons p q ps qs hq t ih =>
      intro x hx
      rcases List.mem_cons.mp hx with e | hx
      · subst e
        exact key_of ok (by rw [← hq.1]; exact hq.2.1)
      · exact ih x hx
  exact all r x hx
theorem dt_of {kvs : List (List Key × V)} (ok : HOk P w H h) (e : H a = some (.dT kvs)) : kvs.length ≤ sizeLine ∧ (a == sysModules) = false ∧
    ∃ xs, KT H kvs xs ∧ h.DictOfH (tupleKind (mixKind P w)) a xs := dt_rd ok (.inl e)
end

/-- what the dict at a holds at the key y -/
def DGet (H : Hp) (a : Addr) (y : V) (r : Option V) : Prop :=
  (∃ kvs k, Rd H a (.dK kvs) ∧ y = kV k ∧ r = valV kvs k) ∨ ∃ kvs k b, Rd H a (.dT kvs) ∧ y = .ref b ∧ H b = some (.tup (k.map kV)) ∧ r = valV kvs k
/-- the heap behind a[y] = v -/
def DPut (H : Hp) (a : Addr) (y v : V) (H' : Hp) : Prop :=
  (∃ kvs k, H a = some (.dK kvs) ∧ y = kV k ∧ kvs.length < sizeLine ∧ H' = upd H a (.dK (putK kvs k v))) ∨
  ∃ kvs k b, H a = some (.dT kvs) ∧ y = .ref b ∧ H b = some (.tup (k.map kV)) ∧ kvs.length < sizeLine ∧ H' = upd H a (.dT (putK kvs k v))
theorem DGet.k {H : Hp} {a : Addr} {kvs : List (Key × V)} {k : Key} (e : H a = some (.dK kvs)) : DGet H a (kV k) (valV kvs k) := .inl ⟨kvs, k, .inl e, rfl, rfl⟩
theorem DGet.t {H : Hp} {a b : Addr} {kvs : List (List Key × V)} {k : List Key} (e : H a = some (.dT kvs)) (eb : H b = some (.tup (k.map kV))) : DGet H a (.ref b) (valV kvs k) := .inr ⟨kvs, k, b, .inl e, rfl, eb, rfl⟩
theorem DPut.k {H : Hp} {a : Addr} {kvs : List (Key × V)} {k : Key} {v : V} (e : H a = some (.dK kvs)) (hl : kvs.length < sizeLine) : DPut H a (kV k) v (upd H a (.dK (putK kvs k v))) := .inl ⟨kvs, k, e, rfl, hl, rfl⟩
theorem DPut.t {H : Hp} {a b : Addr} {kvs : List (List Key × V)} {k : List Key} {v : V} (e : H a = some (.dT kvs)) (eb : H b = some (.tup (k.map kV))) (hl : kvs.length < sizeLine) :
    DPut H a (.ref b) v (upd H a (.dT (putK kvs k v))) := .inr ⟨kvs, k, b, e, rfl, eb, hl, rfl⟩


section
variable {X : Cx} {pins : List (Addr × Obj)} {σ : St} {H : Hp} {s : Shared} {a : Addr} {y v : V} {u r : Value} {o : Option V} {A : Around} {E : Value → Shared → Prop}

theorem Inv.big (I : Inv X pins σ H s) : sysModules < s.heap.objs.size := by
  have h : mainGlobals < s.heap.objs.size := (I.mod.glob.keeps I.bk).lt
  exact Nat.lt_trans (by decide) h

/-- d[y], there -/
theorem d_getItem {Q : Value → Shared → Prop} (hu : A.units + 1 < cLine) (I : Inv X pins σ H s) (g : DGet H a y (some v)) (ry : RelV y u) (h : ∀ w' s', Inv X pins σ H s' → RelV v w' → Q w' s') :
    wpAny (model X.prog X.w) A (getItem (.ref a) u) Q E s := by
  rcases g with ⟨kvs, k, e, ey, l⟩ | ⟨kvs, k, b, e, ey, eb, l⟩
  · subst ey
    obtain ⟨z, hd, vs, rel, dd⟩ := dk_rd I.hok e
    obtain ⟨w', hw, rw'⟩ := RelO.some_of (v := v) (o := valueAt vs k) (by rw [l]; exact rel.val k)
    exact wpAny_getItem_of (kV_is ry) dd.mapOf hw (h w' _ (I.tok _) rw')
  · subst ey
    cases (show u = Value.ref b from ry)
    obtain ⟨z, hd, xs, rel, dd⟩ := dt_rd I.hok e
    obtain ⟨w', hw, rw'⟩ := RelO.some_of (v := v) (o := (atKey xs k).map (·.2)) (by rw [l]; exact rel.val k)
    obtain ⟨p, hp, hp2⟩ := Option.map_eq_some_iff.mp hw
    refine wpAny_getItem_heap (tupleKind_room_in1 hu) (key_of I.hok eb) dd hp ?_
    rw [hp2]
    exact h w' _ (I.tok _) rw'
/-- y in d -/
theorem d_in {Q : Value → Shared → Prop} (hu : A.units + 1 < cLine) (I : Inv X pins σ H s) (g : DGet H a y o) (ry : RelV y u) (h : ∀ s', Inv X pins σ H s' → Q (.bool o.isSome) s') :
    wpAny (model X.prog X.w) A (compareOp .In u (.ref a)) Q E s := by
  rcases g with ⟨kvs, k, e, ey, l⟩ | ⟨kvs, k, b, e, ey, eb, l⟩
  · subst ey
    obtain ⟨z, hd, vs, rel, dd⟩ := dk_rd I.hok e
    refine wpAny_in_of (kV_is ry) hd dd.mapOf ?_
    rw [← (rel.val k).isSome_eq, ← l]
    exact h _ (I.tok _)
  · subst ey
    cases (show u = Value.ref b from ry)
    obtain ⟨z, hd, xs, rel, dd⟩ := dt_rd I.hok e
    refine wpAny_in_heap (tupleKind_room_in1 hu) (key_of I.hok eb) hd dd ?_
    have q := (rel.val k).isSome_eq
    rw [Option.isSome_map] at q
    rw [← q, ← l]
    exact h _ (I.tok _)
theorem d_notIn {Q : Value → Shared → Prop} (hu : A.units + 1 < cLine) (I : Inv X pins σ H s) (g : DGet H a y o) (ry : RelV y u) (h : ∀ s', Inv X pins σ H s' → Q (.bool (!o.isSome)) s') :
    wpAny (model X.prog X.w) A (compareOp .NotIn u (.ref a)) Q E s := by
  rcases g with ⟨kvs, k, e, ey, l⟩ | ⟨kvs, k, b, e, ey, eb, l⟩
  · subst ey
    obtain ⟨z, hd, vs, rel, dd⟩ := dk_rd I.hok e
    refine wpAny_notIn_of (kV_is ry) hd dd.mapOf ?_
    rw [← (rel.val k).isSome_eq, ← l]
    exact h _ (I.tok _)
  · subst ey
    cases (show u = Value.ref b from ry)
    obtain ⟨z, hd, xs, rel, dd⟩ := dt_rd I.hok e
    refine wpAny_notIn_heap (tupleKind_room_in1 hu) (key_of I.hok eb) hd dd ?_
    have q := (rel.val k).isSome_eq
    rw [Option.isSome_map] at q
    rw [← q, ← l]
    exact h _ (I.tok _)
/-- a dict's object is replaced -/
theorem d_write {h' : Heap} {t' : Nat} {ob : HO} (I : Inv X pins σ H s) (mu : Mut (H a)) (hs : Heap.SameBut a s.heap h') (he : ∃ q, h'.get? a = some q) (new : ObjOk X.prog X.w (upd H a ob) h' a ob) :
    Inv X pins σ (upd H a ob) { s with heap := h', toks := t' } :=
  I.write (x := a) (e := a) mu (.inl rfl) (fun b q hb z => (hs.2 b hb).trans z) he new
theorem dk_new {P : Program} {w : World} {H' : Hp} {h' : Heap} {kvs : List (Key × V)} {vs : List (Key × Value)} (z : kvs.length ≤ sizeLine) (hd : (a == sysModules) = false) (rel : KV kvs vs) (dd : h'.DictOf (mixKind P w) a vs) :
    ObjOk P w H' h' a (.dK kvs) := ⟨z, hd, vs, rel, dd⟩
/-- d[y] = v -/
theorem d_setItem {H' : Hp} {Q : Unit → Shared → Prop} (hu : A.units + 1 < cLine) (I : Inv X pins σ H s) (g : DPut H a y v H') (ry : RelV y u) (rv : RelV v r) (h : ∀ s', Inv X pins σ H' s' → Q () s') :
    wpAny (model X.prog X.w) A (setItem (.ref a) u r) Q E s := by
  rcases g with ⟨kvs, k, e, ey, l, eH⟩ | ⟨kvs, k, b, e, ey, eb, l, eH⟩
  · subst ey eH
    obtain ⟨z, hd, vs, rel, dd⟩ := dk_of I.hok e
    have hz : vs.length ≤ sizeLine := by rw [← rel.length]; exact z
    have hl : (putK kvs k v).length ≤ sizeLine := by have := length_putK kvs k v; omega
    refine wpAny_setItem_pairs (hsz := hz) (kV_is ry) dd fun h' dd' hs => h _ ?_
    have he : ∃ q, h'.get? a = some q := let ⟨q, _, _, hq, _⟩ := dd'; ⟨q, hq⟩
    exact d_write I (by rw [e]; exact True.intro) hs he (dk_new hl hd (rel.put k rv) dd')
  · subst ey eH
    cases (show u = Value.ref b from ry)
    obtain ⟨z, hd, xs, rel, dd⟩ := dt_of I.hok e
    have hz : xs.length ≤ sizeLine := by rw [← Paired.length rel]; exact z
    have hl : (putK kvs k v).length ≤ sizeLine := by have := length_putK kvs k v; omega
    refine wpAny_setItem_heap (hsz := hz) (tupleKind_room_in1 hu) (key_of I.hok eb) dd fun h' dd' hs => h _ ?_
    obtain ⟨q, es, ep, hq, h2, h3, h4, _, h5⟩ := dd'
    refine d_write I (by rw [e]; exact True.intro) hs ⟨q, hq⟩ ⟨hl, hd, _, (rel.put k eb rv).keeps fun c ys ec => ?_, q, es, ep, hq, h2, h3, h4, h5⟩
    rw [upd_ne (ne_of ec e (fun z => nomatch z))]
    exact ec
end

section
variable {X : Cx} {pins : List (Addr × Obj)} {σ : St} {H : Hp} {s : Shared} {a : Addr} {kvs : List (Key × V)} {k : Key} {u : Value} {A : Around} {E : Value → Shared → Prop}
/-- del d[k] -/
theorem d_delItem {Q : Unit → Shared → Prop} (I : Inv X pins σ H s) (e : H a = some (.dK kvs)) (ry : RelV (kV k) u) (l : (valV kvs k).isSome = true) (h : ∀ s', Inv X pins σ (upd H a (.dK (dropK kvs k))) s' → Q () s') :
    wpAny (model X.prog X.w) A (delItem (.ref a) u) Q E s := by
  obtain ⟨z, hd, vs, rel, dd⟩ := dk_of I.hok e
  refine wpAny_delItem_slot dd.typeIs (by decide) PySem.F.slot_dict_delitem
    (call_meetsIn PySem.F.slot_dict_delitem dd.typeIs PySem.F.entry_dict_delitem (PySem.F.args_dict_delitem_2 _ _) (meets_dict_delitem_pairs (mixKind X.prog X.w) a (kV_is ry)) ⟨vs, dd, by rw [← rel.length]; exact z, by rw [← (rel.val k).isSome_eq]; exact l, fun h' dd' hs => h _ ?_⟩)
  have he : ∃ q, h'.get? a = some q := let ⟨q, _, _, hq, _⟩ := dd'; ⟨q, hq⟩
  exact d_write I (by rw [e]; exact True.intro) hs he (dk_new (Nat.le_trans (dropK_le kvs k) z) hd (rel.drop k) dd')
/-- d.pop(k[, x]), there -/
theorem d_pop {v : V} {more : List Value} {Q : Value → Shared → Prop} (I : Inv X pins σ H s) (e : H a = some (.dK kvs)) (ry : RelV (kV k) u) (l : valV kvs k = some v) (hm : more = [] ∨ ∃ x, more = [x])
    (h : ∀ w' s', Inv X pins σ (upd H a (.dK (dropK kvs k))) s' → RelV v w' → Q w' s') : wpAny (model X.prog X.w) A (call (.builtin "dict.pop") (.ref a :: u :: more)) Q E s := by
  obtain ⟨z, hd, vs, rel, dd⟩ := dk_of I.hok e
  obtain ⟨w', hw, rw'⟩ := RelO.some_of (v := v) (o := valueAt vs k) (by rw [← l]; exact rel.val k)
  have hp : (keyPart u).isSome = true := by
    cases k with
    | inl i => obtain ⟨t, q⟩ := (show ∃ t, u = Value.int i t from ry); subst q; rfl
    | inr x => obtain ⟨t, q⟩ := (show ∃ t, u = Value.str x t from ry); subst q; rfl
  have ha : argsOk "dict.pop" ⟨.ref a :: u :: more, []⟩ := by
    rcases hm with q | ⟨x, q⟩
    · subst q; exact PySem.F.args_dict_pop_2 _ _
    · subst q; exact PySem.F.args_dict_pop_3 _ _ _
  refine call_meetsIn PySem.F.slot_dict_pop dd.typeIs PySem.F.entry_dict_pop ha (meets_dict_pop_there (mixKind X.prog X.w) a (kV_is ry) more hm hp)
    ⟨vs, w', dd, by rw [← rel.length]; exact z, hw, fun h' dd' hs => h w' _ ?_ rw'⟩
  have he : ∃ q, h'.get? a = some q := let ⟨q, _, _, hq, _⟩ := dd'; ⟨q, hq⟩
  exact d_write I (by rw [e]; exact True.intro) hs he (dk_new (Nat.le_trans (dropK_le kvs k) z) hd (rel.drop k) dd')
/-- d.pop(k, x), not there -/
theorem d_popD {r : Value} {Q : Value → Shared → Prop} (I : Inv X pins σ H s) (e : H a = some (.dK kvs)) (ry : RelV (kV k) u) (l : valV kvs k = none) (h : ∀ s', Inv X pins σ H s' → Q r s') :
    wpAny (model X.prog X.w) A (call (.builtin "dict.pop") [.ref a, u, r]) Q E s := by
  obtain ⟨z, hd, vs, rel, dd⟩ := dk_of I.hok e
  have hn : valueAt vs k = none := RelO.none_of (by rw [← l]; exact rel.val k)
  have hp : (keyPart u).isSome = true := by
    cases k with
    | inl i => obtain ⟨t, q⟩ := (show ∃ t, u = Value.int i t from ry); subst q; rfl
    | inr x => obtain ⟨t, q⟩ := (show ∃ t, u = Value.str x t from ry); subst q; rfl
  exact call_meetsIn PySem.F.slot_dict_pop dd.typeIs PySem.F.entry_dict_pop (PySem.F.args_dict_pop_3 _ _ _) (meets_dict_pop_default (mixKind X.prog X.w) a (kV_is ry) hd hp r) ⟨vs, dd, hn, h _ (I.tok _)⟩
/-- d.clear() -/
theorem d_clear {Q : Value → Shared → Prop} (I : Inv X pins σ H s) (e : H a = some (.dK kvs)) (h : ∀ s', Inv X pins σ (upd H a (.dK [])) s' → Q .none s') : wpAny (model X.prog X.w) A (call (.builtin "dict.clear") [.ref a]) Q E s := by
  obtain ⟨z, hd, vs, rel, dd⟩ := dk_of I.hok e
  refine call_meetsIn PySem.F.slot_dict_clear dd.typeIs PySem.F.entry_dict_clear (PySem.F.args_dict_clear_1 _) (meets_dict_clear (mixKind X.prog X.w) a) ⟨vs, dd, by rw [← rel.length]; exact z, fun h' dd' hs => h _ ?_⟩
  have he : ∃ q, h'.get? a = some q := let ⟨q, _, _, hq, _⟩ := dd'; ⟨q, hq⟩
  exact d_write (t' := s.toks) I (by rw [e]; exact True.intro) hs he (dk_new (Nat.zero_le _) hd .nil dd')
/-- len(d) -/
theorem d_len {Q : Value → Shared → Prop} (I : Inv X pins σ H s) (e : Rd H a (.dK kvs)) (h : ∀ t s', Inv X pins σ H s' → Q (.int kvs.length t) s') : wpAny (model X.prog X.w) A (call (.builtin "len") [.ref a]) Q E s := by
  obtain ⟨z, hd, vs, rel, dd⟩ := dk_rd I.hok e
  refine call_len_dict hd dd (by rw [← rel.length]; rw [sizeLine_eq] at z; omega) ?_
  rw [← rel.length]
  exact h _ _ (I.tok _)
/-- if d -/
theorem d_truth {Q : Bool → Shared → Prop} (I : Inv X pins σ H s) (e : Rd H a (.dK kvs)) (h : ∀ s', Inv X pins σ H s' → Q (!kvs.isEmpty) s') : wpAny (model X.prog X.w) A (truthy (.ref a)) Q E s := by
  obtain ⟨z, hd, vs, rel, dd⟩ := dk_rd I.hok e
  refine wpAny_truthy_dict hd dd (by rw [← rel.length]; rw [sizeLine_eq] at z; omega) ?_
  have q : kvs.isEmpty = vs.isEmpty := by cases rel <;> rfl
  rw [← q]
  exact h _ (I.tok _)
end


/-! ### readings and rules -/
/-- the element of a subscription, not a slice -/
def NoSl (i : Expr) : Prop := ∀ ov iv, subscripted i false ov iv = operate [ov, iv] (getItem ov iv)
theorem subD_of {prog : Program} {w : World} {A : Around} {E : Value → Shared → Prop} {s : Shared} {env : Env} {value slice : Expr} {pos : Pos} {T id : String} {Q : Value → Shared → Prop}
    (hl : typeLookup (.type T) "__getitem__" = pure (some (.builtin id))) (hs : NoSl slice)
    (h : wpAny (model prog w) A (eval value env) (fun o s₁ => wpAny (model prog w) A (eval slice env) (fun i s₂ => s₂.TypeIs o T ∧ wpAny (model prog w) A (getItem o i) Q E s₂) E s₁) E s) :
    wpAny (model prog w) A (eval (.Subscript value slice pos) env) Q E s := by
  refine Subscript_ (wpAny_mono h (fun o s₁ h₁ => wpAny_mono h₁ (fun i s₂ h₂ => ?_) fun _ _ x => x) fun _ _ x => x)
  obtain ⟨hT, h₂⟩ := h₂
  unfold subscriptTail
  refine wpAny_bind ?_
  rw [getitemInPython_of_ne hT.not_modules]
  refine wpAny_bind (wpAny_specialOf hT hl ?_)
  have fin : wpAny (model prog w) A (subscripted slice false o i) (fun r s₃ => wpAny (model prog w) A (letTemporaryGo value o r >>= fun _ => pure r) Q E s₃) E s₂ := by
    rw [hs o i]
    exact wpAny_operating (wpAny_mono h₂ (fun r s₃ h₃ => wpAny_bind (wpAny_letTemporaryGo (wpAny_pure h₃))) fun _ _ x => x)
  first
    | exact wpAny_pure (wpAny_bind fin)
    | exact wpAny_bind (wpAny_pure (wpAny_bind fin))
    | exact wpAny_bind fin

theorem dict_typeIs {X : Cx} {pins : List (Addr × Obj)} {σ : St} {H : Hp} {s : Shared} {a : Addr} {y : V} {o : Option V} (I : Inv X pins σ H s) (g : DGet H a y o) : s.TypeIs (.ref a) "dict" := by
  rcases g with ⟨kvs, k, e, _, _⟩ | ⟨kvs, k, b, e, _, _, _⟩
  · obtain ⟨_, _, vs, _, dd⟩ := dk_rd I.hok e
    exact dd.typeIs
  · obtain ⟨_, _, xs, _, dd⟩ := dt_rd I.hok e
    exact dd.typeIs
theorem dict_noDict {X : Cx} {pins : List (Addr × Obj)} {σ : St} {H : Hp} {s : Shared} {a : Addr} {y : V} {o : Option V} (I : Inv X pins σ H s) (g : DGet H a y o) :
    ∀ b, Value.ref a = .ref b → ∃ ob, s.heap.get? b = some ob ∧ ob.dict = none := fun b q => by
  cases q
  rcases g with ⟨kvs, k, e, _, _⟩ | ⟨kvs, k, b, e, _, _, _⟩
  · obtain ⟨_, _, vs, _, ob, _, _, h1, h2, _⟩ := dk_rd I.hok e
    exact ⟨ob, h1, h2.2.1⟩
  · obtain ⟨_, _, xs, _, ob, _, _, h1, h2, _⟩ := dt_rd I.hok e
    exact ⟨ob, h1, h2.2.1⟩

/-- d[y] -/
def tDGet (td ty : TE) : TE := fun σ H Q => td σ H fun x H1 => ty σ H1 fun y H2 => ∃ a v, x = .ref a ∧ DGet H2 a y (some v) ∧ Q v H2
/-- y in d, y not in d -/
def tDIn (ty td : TE) : TE := fun σ H Q => ty σ H fun y H1 => td σ H1 fun x H2 => ∃ a o, x = .ref a ∧ DGet H2 a y o ∧ Q (.bl o.isSome) H2
def tDNotIn (ty td : TE) : TE := fun σ H Q => ty σ H fun y H1 => td σ H1 fun x H2 => ∃ a o, x = .ref a ∧ DGet H2 a y o ∧ Q (.bl (!o.isSome)) H2
/-- d[y] = v -/
def sDPut (td ty tv : TE) : TS := fun D σ H => tv σ H fun v H1 => td σ H1 fun x H2 => ty σ H2 fun y H3 => ∃ a H4, x = .ref a ∧ DPut H3 a y v H4 ∧ D.nx σ H4
/-- d[y] op= v -/
def sDAug (td ty tv : TE) (rd : V → V → Hp → VK → Prop) : TS := fun D σ H => td σ H fun x H1 => ty σ H1 fun y H2 => ∃ a v, x = .ref a ∧ DGet H2 a y (some v) ∧
  tv σ H2 fun y2 H3 => rd v y2 H3 fun z H4 => ∃ H5, DPut H4 a y z H5 ∧ D.nx σ H5
/-- del d[y] -/
def sDDel (td ty : TE) : TS := fun D σ H => td σ H fun x H1 => ty σ H1 fun y H2 => ∃ a kvs k, x = .ref a ∧ H2 a = some (.dK kvs) ∧ y = kV k ∧ (valV kvs k).isSome = true ∧ D.nx σ (upd H2 a (.dK (dropK kvs k)))

section
variable {X : Cx} {o i e value : Expr} {pos pos' tpos : Pos} {td ty tv : TE}
theorem pe_dget (hu : X.A.units + 1 < cLine) (ho : PE X o td) (hi : PE X i ty) (hs : NoSl i) : PE X (.Subscript o i pos) (tDGet td ty) := by
  intro pins s σ H Q I h
  refine subD_of PySem.F.slot_dict_getitem.lookup hs (thn (ho pins s σ H _ I h) fun u s1 ⟨x, H1, I1, rx, q1⟩ => thn (hi pins s1 σ H1 _ I1 q1) fun iv s2 ⟨y, H2, I2, ry, a, v, ex, g, q2⟩ => ?_)
  subst ex
  obtain rfl : u = Value.ref a := rx
  exact ⟨dict_typeIs I2 g, d_getItem hu I2 g ry fun w' s3 I3 rw' => ⟨v, H2, I3, rw', q2⟩⟩
theorem pc_din (hu : X.A.units + 1 < cLine) (hi : PE X i ty) (ho : PE X o td) : PC X .In i o (tDIn ty td) := by
  intro pins s σ H Q I h
  refine thn (hi pins s σ H _ I h) fun iv s1 ⟨y, H1, I1, ry, q1⟩ => thn (ho pins s1 σ H1 _ I1 q1) fun u s2 ⟨x, H2, I2, rx, a, ov, ex, g, q2⟩ => ?_
  subst ex
  obtain rfl : u = Value.ref a := rx
  exact d_in hu I2 g ry fun s3 I3 => ⟨.bl ov.isSome, H2, I3, rfl, q2⟩
theorem pc_dnotin (hu : X.A.units + 1 < cLine) (hi : PE X i ty) (ho : PE X o td) : PC X .NotIn i o (tDNotIn ty td) := by
  intro pins s σ H Q I h
  refine thn (hi pins s σ H _ I h) fun iv s1 ⟨y, H1, I1, ry, q1⟩ => thn (ho pins s1 σ H1 _ I1 q1) fun u s2 ⟨x, H2, I2, rx, a, ov, ex, g, q2⟩ => ?_
  subst ex
  obtain rfl : u = Value.ref a := rx
  exact d_notIn hu I2 g ry fun s3 I3 => ⟨.bl (!ov.isSome), H2, I3, rfl, q2⟩
theorem ps_dput (hu : X.A.units + 1 < cLine) (ho : PE X o td) (hi : PE X i ty) (hv : PE X value tv) (hs : swapsWith value (some (.Subscript o i pos')) pos.line X.env = pure false) :
    PS X (.Assign [.Subscript o i pos'] value pos) (sDPut td ty tv) := by
  intro pins s σ H D I h
  refine wpAny_Assign_Subscript (thn (hv pins s σ H _ I h) fun r s1 ⟨v, H1, I1, rv, q1⟩ => thn (ho pins s1 σ H1 _ I1 q1) fun u s2 ⟨x, H2, I2, rx, q2⟩ => thn (hi pins s2 σ H2 _ I2 q2) fun iv s3 ⟨y, H3, I3, ry, a, H4, ex, g, q3⟩ => ?_) hs
  subst ex
  obtain rfl : u = Value.ref a := rx
  exact d_setItem hu I3 g ry rv fun s4 I4 => ⟨σ, H4, I4, q3⟩
theorem ps_daug {op : Operator} {rd : V → V → Hp → VK → Prop} (hu : X.A.units + 1 < cLine) (ho : PE X o td) (hi : PE X i ty) (hv : PE X value tv) (hop : InOp X op rd)
    (ha : ∀ ov iv new, augStore i ov iv new = (do holding [new, ov, iv] (setItem ov iv new); release [new, ov, iv] []; pure .next)) : PS X (.AugAssign (.Subscript o i tpos) op value pos) (sDAug td ty tv rd) := by
  intro pins s σ H D I h
  refine wpAny_AugAssign_SubscriptAny (thn (ho pins s σ H _ I h) fun u s1 ⟨x, H1, I1, rx, q1⟩ => thn (hi pins s1 σ H1 _ I1 q1) fun iv s2 ⟨y, H2, I2, ry, a, v, ex, g, q2⟩ => ?_) ha
  subst ex
  obtain rfl : u = Value.ref a := rx
  refine d_getItem hu I2 g ry fun w' s3 I3 rw' => thn (hv pins s3 σ H2 _ I3 q2) fun w2 s4 ⟨y2, H3, I4, ry2, q3⟩ => thn (hop pins s4 σ H3 v y2 w' w2 _ I4 rw' ry2 q3) fun w3 s5 ⟨z, H4, I5, rz, H5, g5, q4⟩ => ?_
  exact d_setItem hu I5 g5 ry rz fun s6 I6 => ⟨σ, H5, I6, q4⟩
theorem ps_ddel (ho : PE X o td) (hi : PE X i ty) : PS X (.Delete [.Subscript o i tpos] pos) (sDDel td ty) := by
  intro pins s σ H D I h
  refine wpAny_Delete (wpAny_deleteEach_cons (wpAny_delete_Subscript (thn (ho pins s σ H _ I h) fun u s1 ⟨x, H1, I1, rx, q1⟩ => thn (hi pins s1 σ H1 _ I1 q1) fun iv s2 ⟨y, H2, I2, ry, a, kvs, k, ex, e, ey, l, q2⟩ => ?_)))
  subst ex ey
  obtain rfl : u = Value.ref a := rx
  exact d_delItem I2 e ry l fun s3 I3 => wpAny_deleteEach_nil ⟨σ, _, I3, q2⟩
end


/-! ### displays -/
theorem dk_empty {P : Program} {w : World} {H : Hp} (h : Heap) (hb : sysModules < h.objs.size) : ObjOk P w H (h.push { cls := .type "dict", data := .dict #[] }) h.objs.size (.dK []) :=
  ⟨Nat.zero_le _, beq_eq_false_iff_ne.mpr (Ne.symm (Nat.ne_of_lt hb)), [], .nil, Heap.DictOf.new h⟩
theorem dt_empty {P : Program} {w : World} {H : Hp} (h : Heap) (hb : sysModules < h.objs.size) : ObjOk P w H (h.push { cls := .type "dict", data := .dict #[] }) h.objs.size (.dT []) :=
  ⟨Nat.zero_le _, beq_eq_false_iff_ne.mpr (Ne.symm (Nat.ne_of_lt hb)), [], .nil, _, #[], 0, Heap.get?_push_size _ rfl, ⟨rfl, rfl, rfl⟩, rfl, rfl, List.nodup_nil⟩
/-- {}, to be a dict of the kind that is wanted -/
def tDNewK : TE := fun _ H Q => ∀ p, H p = none → Q (.ref p) (upd H p (.dK []))
def tDNewT : TE := fun _ H Q => ∀ p, H p = none → Q (.ref p) (upd H p (.dT []))
section
variable {X : Cx} {pos : Pos}
theorem pe_dnewK : PE X (.Dict [] [] pos) tDNewK := fun pins s σ H Q I h =>
  wpAny_Dict_empty ⟨.ref s.heap.objs.size, _, I.laid (a := s.heap.objs.size) (o := .dK []) (t' := s.toks) (fun _ _ q => Heap.get?_push_of_some _ q) (Nat.le_refl _) (dk_empty s.heap I.big), rfl, h _ (I.hok.fresh (Nat.le_refl _))⟩
theorem pe_dnewT : PE X (.Dict [] [] pos) tDNewT := fun pins s σ H Q I h =>
  wpAny_Dict_empty ⟨.ref s.heap.objs.size, _, I.laid (a := s.heap.objs.size) (o := .dT []) (t' := s.toks) (fun _ _ q => Heap.get?_push_of_some _ q) (Nat.le_refl _) (dt_empty s.heap I.big), rfl, h _ (I.hok.fresh (Nat.le_refl _))⟩
end

/-- the pairs of a display, from the left -/
def tPairs : List (TE × TE) → St → Hp → (List (V × V) → Hp → Prop) → Prop
  | [], _, H, Q => Q [] H
  | (tk, tv) :: r, σ, H, Q => tk σ H fun x H1 => tv σ H1 fun y H2 => tPairs r σ H2 fun ps H3 => Q ((x, y) :: ps) H3
abbrev VV : List (V × V) → List (Value × Value) → Prop := Paired fun p q => RelV p.1 q.1 ∧ RelV p.2 q.2
def PPs (X : Cx) (pos : Pos) (keys : List (Option Expr)) (values : List Expr) (trs : List (TE × TE)) : Prop :=
  ∀ (pins : List (Addr × Obj)) (s : Shared) (σ : St) (H : Hp) (Q : List (V × V) → Hp → Prop), Inv X pins σ H s → tPairs trs σ H Q →
    wpAny (model X.prog X.w) X.A (evalPairs (pairTrees keys values X.env pos)) (fun vs s' => ∃ ps H', Inv X pins σ H' s' ∧ VV ps vs ∧ Q ps H') X.xe s
theorem pps_nil {X : Cx} {pos : Pos} : PPs X pos [] [] [] := fun pins s σ H Q I h => pairTrees_nil_walk ⟨[], H, I, .nil, h⟩
theorem pps_cons {X : Cx} {pos : Pos} {k v : Expr} {ks : List (Option Expr)} {vs : List Expr} {tk tv : TE} {trs : List (TE × TE)} (hk : PE X k tk) (hv : PE X v tv) (hr : PPs X pos ks vs trs) :
    PPs X pos (some k :: ks) (v :: vs) ((tk, tv) :: trs) := fun pins s σ H Q I h =>
  pairTrees_cons_walk (thn (hk pins s σ H _ I h) fun u s1 ⟨x, H1, I1, rx, q1⟩ => thn (hv pins s1 σ H1 _ I1 q1) fun w2 s2 ⟨y, H2, I2, ry, q2⟩ =>
    thn (hr pins s2 σ H2 _ I2 q2) fun ws s3 ⟨ps, H3, I3, rel, q3⟩ => ⟨(x, y) :: ps, H3, I3, .cons ⟨rx, ry⟩ rel, q3⟩)

def mergeK (kvs more : List (Key × V)) : List (Key × V) := more.foldl (fun acc kv => putK acc kv.1 kv.2) kvs
theorem KV.merge : ∀ {more : List (Key × V)} {rs : List (Key × Value)} {kvs : List (Key × V)} {vs : List (Key × Value)}, KV more rs → KV kvs vs → KV (mergeK kvs more) (merged vs rs) := by
  intro more rs kvs vs r
  unfold KV at r
  induction r generalizing kvs vs with
  | nil => intro q; exact q
  | @cons p q ps qs h t ih =>
    intro r0
    have e : KV (putK kvs p.1 p.2) (stored vs q.1 q.2) := by
      have := r0.put p.1 h.2
      rw [← h.1]; exact this
    exact ih e
theorem length_mergeK : ∀ (more kvs : List (Key × V)), (mergeK kvs more).length ≤ kvs.length + more.length
  | [], kvs => by show kvs.length ≤ kvs.length + 0; omega
  | p :: r, kvs => by
    have h1 := length_mergeK r (putK kvs p.1 p.2)
    have h2 := length_putK kvs p.1 p.2
    show (mergeK (putK kvs p.1 p.2) r).length ≤ _
    rw [List.length_cons]; omega
theorem carries_of {P : Program} {w : World} : ∀ {kvs : List (Key × V)} {ws : List (Value × Value)}, VV (kvs.map fun kv => (kV kv.1, kv.2)) ws → ∃ rs, Carries (mixKind P w) ws rs ∧ KV kvs rs
  | [], _, r => by rw [List.map_nil] at r; cases r; exact ⟨[], True.intro, .nil⟩
  | p :: kvs, _, r => by
    rw [List.map_cons] at r
    cases r with
    | @cons a b as bs h t =>
      obtain ⟨rs, c, q⟩ := carries_of (P := P) (w := w) t
      obtain ⟨b1, b2⟩ := b
      exact ⟨(p.1, b2) :: rs, ⟨kV_is h.1, rfl, c⟩, .cons ⟨rfl, h.2⟩ q⟩
/-- {k: v, ..} with keys ints and texts; the new dict stands empty while the pairs are made -/
def tDisp (trs : List (TE × TE)) : TE := fun σ H Q => ∀ p, H p = none → tPairs trs σ (upd H p (.dK [])) fun ps H2 => H2 p = some (.dK []) ∧ ∃ kvs : List (Key × V), ps = kvs.map (fun kv => (kV kv.1, kv.2)) ∧ kvs.length ≤ 15 ∧ Q (.ref p) (upd H2 p (.dK (mergeK [] kvs)))
theorem pe_disp {X : Cx} {pos : Pos} {keys : List (Option Expr)} {values : List Expr} {trs : List (TE × TE)} (h : PPs X pos keys values trs) (hall : keys.all (·.isSome) = true) (hl : keys.length = values.length) (h0 : keys ≠ [])
    (h15 : keys.length ≤ 15) : PE X (.Dict keys values pos) (tDisp trs) := by
  intro pins s σ H Q I q
  have hn := I.hok.fresh (Nat.le_refl s.heap.objs.size)
  have I1 := I.laid (a := s.heap.objs.size) (o := .dK []) (h' := s.heap.push { cls := .type "dict", data := .dict #[] }) (t' := s.toks) (fun _ _ q => Heap.get?_push_of_some _ q) (Nat.le_refl _) (dk_empty s.heap I.big)
  refine wpAny_Dict_walk (knd := mixKind X.prog X.w) hall hl h0 h15 (thn (h pins _ σ _ _ I1 (q _ hn)) fun ws s2 ⟨ps, H2, I2, rel, e, kvs, ep, lk, q2⟩ => ?_)
  subst ep
  obtain ⟨rs, c, rk⟩ := carries_of (P := X.prog) (w := X.w) rel
  obtain ⟨z, hd, vs0, r0, dd⟩ := dk_of I2.hok e
  cases r0
  refine ⟨rs, c, dd, fun h' dd' hs => ⟨.ref s.heap.objs.size, _, ?_, rfl, q2⟩⟩
  have hz : (mergeK [] kvs).length ≤ sizeLine := by
    have h1 := length_mergeK kvs []
    rw [List.length_nil] at h1
    rw [sizeLine_eq]; omega
  have he : ∃ q, h'.get? s.heap.objs.size = some q := let ⟨q, _, _, hq, _⟩ := dd'; ⟨q, hq⟩
  exact d_write I2 (by rw [e]; exact True.intro) hs he (dk_new hz hd (rk.merge .nil) dd')


/-! ### methods -/
/-- a method call o.m(e) of a built-in, with one argument: what must be seen of the text -/
structure M1 (X : Cx) (o : Expr) (m : Str) (apos : Pos) (e : Expr) (cpos : Pos) : Prop where
  base : attributeBase o m X.env (eval o X.env) = eval o X.env
  few : ((backTo cpos (starEach [e] X.env)).all (fun x => !x.1) && (backToKw cpos (keywordEach [] X.env)).all (fun x => x.1.isSome)
    && decide (([e] : List Expr).length + ([] : List Keyword).length + (if ([] : List Keyword).isEmpty then 0 else 1) < 30)) = true
  line : (apos.endLine == cpos.line) = true
  trees : backTo cpos (starEach [e] X.env) = [(false, eval e X.env)]
structure M2 (X : Cx) (o : Expr) (m : Str) (apos : Pos) (e f : Expr) (cpos : Pos) : Prop where
  base : attributeBase o m X.env (eval o X.env) = eval o X.env
  few : ((backTo cpos (starEach [e, f] X.env)).all (fun x => !x.1) && (backToKw cpos (keywordEach [] X.env)).all (fun x => x.1.isSome)
    && decide (([e, f] : List Expr).length + ([] : List Keyword).length + (if ([] : List Keyword).isEmpty then 0 else 1) < 30)) = true
  line : (apos.endLine == cpos.line) = true
  trees : backTo cpos (starEach [e, f] X.env) = [(false, eval e X.env), (false, eval f X.env)]

/-- a is a dict, whatever its keys -/
def IsD (H : Hp) (a : Addr) : Prop := (∃ kvs, Rd H a (.dK kvs)) ∨ ∃ kvs, Rd H a (.dT kvs)
theorem isD_at {X : Cx} {pins : List (Addr × Obj)} {σ : St} {H : Hp} {s : Shared} {a : Addr} (I : Inv X pins σ H s) (d : IsD H a) :
    s.TypeIs (.ref a) "dict" ∧ (∀ b, Value.ref a = .ref b → ∃ ob, s.heap.get? b = some ob ∧ ob.dict = none) ∧ (a == sysModules) = false := by
  rcases d with ⟨kvs, e⟩ | ⟨kvs, e⟩
  · obtain ⟨_, hd, vs, _, dd⟩ := dk_rd I.hok e
    refine ⟨dd.typeIs, fun b q => ?_, hd⟩
    cases q
    obtain ⟨ob, _, _, h1, h2, _⟩ := dd
    exact ⟨ob, h1, h2.2.1⟩
  · obtain ⟨_, hd, xs, _, dd⟩ := dt_rd I.hok e
    refine ⟨dd.typeIs, fun b q => ?_, hd⟩
    cases q
    obtain ⟨ob, _, _, h1, h2, _⟩ := dd
    exact ⟨ob, h1, h2.2.1⟩

section
variable {X : Cx} {pins : List (Addr × Obj)} {σ : St} {H : Hp} {s : Shared} {a : Addr} {y d : V} {u r : Value} {o : Option V} {A : Around} {E : Value → Shared → Prop}
/-- d.get(y) -/
theorem d_get1 {Q : Value → Shared → Prop} (hu : A.units + 1 < cLine) (I : Inv X pins σ H s) (g : DGet H a y o) (ry : RelV y u) (h : ∀ w' s', Inv X pins σ H s' → RelV (o.getD .non) w' → Q w' s') :
    wpAny (model X.prog X.w) A (call (.builtin "dict.get") [.ref a, u]) Q E s := by
  rcases g with ⟨kvs, k, e, ey, l⟩ | ⟨kvs, k, b, e, ey, eb, l⟩
  · subst ey
    obtain ⟨z, hd, vs, rel, dd⟩ := dk_rd I.hok e
    refine call_meetsIn PySem.F.slot_dict_get dd.typeIs PySem.F.entry_dict_get (PySem.F.args_dict_get_2 _ _) (meets_dict_get (mixKind X.prog X.w) a (kV_is ry) hd) ⟨_, dd.mapOf, h _ _ (I.tok _) ?_⟩
    rw [l]
    exact (rel.val k).getD rfl
  · subst ey
    cases (show u = Value.ref b from ry)
    obtain ⟨z, hd, xs, rel, dd⟩ := dt_rd I.hok e
    refine call_meetsIn PySem.F.slot_dict_get dd.typeIs PySem.F.entry_dict_get (PySem.F.args_dict_get_2 _ _) (meetsH_dict_get (tupleKind (mixKind X.prog X.w)) a b hd) ⟨tupleKind_room_in1 hu, k, xs, key_of I.hok eb, dd, h _ _ (I.tok _) ?_⟩
    rw [l]
    exact (rel.val k).getD rfl
/-- d.get(y, x) -/
theorem d_get2 {Q : Value → Shared → Prop} (hu : A.units + 1 < cLine) (I : Inv X pins σ H s) (g : DGet H a y o) (ry : RelV y u) (rd : RelV d r) (h : ∀ w' s', Inv X pins σ H s' → RelV (o.getD d) w' → Q w' s') :
    wpAny (model X.prog X.w) A (call (.builtin "dict.get") [.ref a, u, r]) Q E s := by
  rcases g with ⟨kvs, k, e, ey, l⟩ | ⟨kvs, k, b, e, ey, eb, l⟩
  · subst ey
    obtain ⟨z, hd, vs, rel, dd⟩ := dk_rd I.hok e
    refine call_meetsIn PySem.F.slot_dict_get dd.typeIs PySem.F.entry_dict_get (PySem.F.args_dict_get_3 _ _ _) (meets_dict_get_default (mixKind X.prog X.w) a (kV_is ry) hd r) ⟨_, dd.mapOf, h _ _ (I.tok _) ?_⟩
    rw [l]
    exact (rel.val k).getD rd
  · subst ey
    cases (show u = Value.ref b from ry)
    obtain ⟨z, hd, xs, rel, dd⟩ := dt_rd I.hok e
    refine call_meetsIn PySem.F.slot_dict_get dd.typeIs PySem.F.entry_dict_get (PySem.F.args_dict_get_3 _ _ _) (meetsH_dict_get_default (tupleKind (mixKind X.prog X.w)) a b hd r) ⟨tupleKind_room_in1 hu, k, xs, key_of I.hok eb, dd, h _ _ (I.tok _) ?_⟩
    rw [l]
    exact (rel.val k).getD rd
end

def tDGet1 (td ty : TE) : TE := fun σ H Q => td σ H fun x H1 => ∃ a, x = .ref a ∧ IsD H1 a ∧ ty σ H1 fun y H2 => ∃ o, DGet H2 a y o ∧ Q (o.getD .non) H2
def tDGet2 (td ty tx : TE) : TE := fun σ H Q => td σ H fun x H1 => ∃ a, x = .ref a ∧ IsD H1 a ∧ ty σ H1 fun y H2 => tx σ H2 fun z H3 => ∃ o, DGet H3 a y o ∧ Q (o.getD z) H3
/-- d.pop(k): there; d.pop(k, x): there or not -/
def tDPop1 (td ty : TE) : TE := fun σ H Q => td σ H fun x H1 => ∃ a, x = .ref a ∧ IsD H1 a ∧ ty σ H1 fun y H2 => ∃ kvs k v, H2 a = some (.dK kvs) ∧ y = kV k ∧ valV kvs k = some v ∧ Q v (upd H2 a (.dK (dropK kvs k)))
def tDPop2 (td ty tx : TE) : TE := fun σ H Q => td σ H fun x H1 => ∃ a, x = .ref a ∧ IsD H1 a ∧ ty σ H1 fun y H2 => tx σ H2 fun z H3 => ∃ kvs k, H3 a = some (.dK kvs) ∧ y = kV k ∧
  (∀ v, valV kvs k = some v → Q v (upd H3 a (.dK (dropK kvs k)))) ∧ (valV kvs k = none → Q z H3)
section
variable {X : Cx} {o e f : Expr} {apos cpos : Pos} {td ty tx : TE}
theorem pe_dget1 (hu : X.A.units + 1 < cLine) (ho : PE X o td) (he : PE X e ty) (m : M1 X o "get" apos e cpos) : PE X (.Call (.Attribute o "get" apos) [e] [] cpos) (tDGet1 td ty) := by
  intro pins s σ H Q I h
  refine wpAny_Call_method m.base m.few m.line PySem.F.plainAttrs_dict PySem.F.slot_dict_get PySem.F.type_dict_get (thn (ho pins s σ H _ I h) fun u s1 ⟨x, H1, I1, rx, a, ex, d, q1⟩ => ?_)
  subst ex
  obtain rfl : u = Value.ref a := rx
  obtain ⟨t1, t2, _⟩ := isD_at I1 d
  refine ⟨t1, t2, ?_⟩
  rw [m.trees]
  refine Calls.callWith_builtin rfl (Calls.evalArgs_plain (Calls.spliced_cons (thn (he pins s1 σ H1 _ I1 q1) fun iv s2 ⟨y, H2, I2, ry, ov, g, q2⟩ => Calls.spliced_nil ?_)))
  exact d_get1 hu I2 g ry fun w' s3 I3 rw' => ⟨_, H2, I3, rw', q2⟩
theorem pe_dget2 (hu : X.A.units + 1 < cLine) (ho : PE X o td) (he : PE X e ty) (hf : PE X f tx) (m : M2 X o "get" apos e f cpos) : PE X (.Call (.Attribute o "get" apos) [e, f] [] cpos) (tDGet2 td ty tx) := by
  intro pins s σ H Q I h
  refine wpAny_Call_method m.base m.few m.line PySem.F.plainAttrs_dict PySem.F.slot_dict_get PySem.F.type_dict_get (thn (ho pins s σ H _ I h) fun u s1 ⟨x, H1, I1, rx, a, ex, d, q1⟩ => ?_)
  subst ex
  obtain rfl : u = Value.ref a := rx
  obtain ⟨t1, t2, _⟩ := isD_at I1 d
  refine ⟨t1, t2, ?_⟩
  rw [m.trees]
  refine Calls.callWith_builtin rfl (Calls.evalArgs_plain (Calls.spliced_cons (thn (he pins s1 σ H1 _ I1 q1) fun iv s2 ⟨y, H2, I2, ry, q2⟩ =>
    Calls.spliced_cons (thn (hf pins s2 σ H2 _ I2 q2) fun fv s3 ⟨z, H3, I3, rz, ov, g, q3⟩ => Calls.spliced_nil ?_))))
  exact d_get2 hu I3 g ry rz fun w' s4 I4 rw' => ⟨_, H3, I4, rw', q3⟩
theorem pe_dpop1 (ho : PE X o td) (he : PE X e ty) (m : M1 X o "pop" apos e cpos) : PE X (.Call (.Attribute o "pop" apos) [e] [] cpos) (tDPop1 td ty) := by
  intro pins s σ H Q I h
  refine wpAny_Call_method m.base m.few m.line PySem.F.plainAttrs_dict PySem.F.slot_dict_pop PySem.F.type_dict_pop (thn (ho pins s σ H _ I h) fun u s1 ⟨x, H1, I1, rx, a, ex, d, q1⟩ => ?_)
  subst ex
  obtain rfl : u = Value.ref a := rx
  obtain ⟨t1, t2, _⟩ := isD_at I1 d
  refine ⟨t1, t2, ?_⟩
  rw [m.trees]
  refine Calls.callWith_builtin rfl (Calls.evalArgs_plain (Calls.spliced_cons (thn (he pins s1 σ H1 _ I1 q1) fun iv s2 ⟨y, H2, I2, ry, kvs, k, v, ea, ey, l, q2⟩ => Calls.spliced_nil ?_)))
  subst ey
  exact d_pop I2 ea ry l (.inl rfl) fun w' s3 I3 rw' => ⟨v, _, I3, rw', q2⟩
theorem pe_dpop2 (ho : PE X o td) (he : PE X e ty) (hf : PE X f tx) (m : M2 X o "pop" apos e f cpos) : PE X (.Call (.Attribute o "pop" apos) [e, f] [] cpos) (tDPop2 td ty tx) := by
  intro pins s σ H Q I h
  refine wpAny_Call_method m.base m.few m.line PySem.F.plainAttrs_dict PySem.F.slot_dict_pop PySem.F.type_dict_pop (thn (ho pins s σ H _ I h) fun u s1 ⟨x, H1, I1, rx, a, ex, d, q1⟩ => ?_)
  subst ex
  obtain rfl : u = Value.ref a := rx
  obtain ⟨t1, t2, _⟩ := isD_at I1 d
  refine ⟨t1, t2, ?_⟩
  rw [m.trees]
  refine Calls.callWith_builtin rfl (Calls.evalArgs_plain (Calls.spliced_cons (thn (he pins s1 σ H1 _ I1 q1) fun iv s2 ⟨y, H2, I2, ry, q2⟩ =>
    Calls.spliced_cons (thn (hf pins s2 σ H2 _ I2 q2) fun fv s3 ⟨z, H3, I3, rz, kvs, k, ea, ey, q3, q4⟩ => Calls.spliced_nil ?_))))
  subst ey
  cases l : valV kvs k with
  | some v => exact d_pop I3 ea ry l (.inr ⟨fv, rfl⟩) fun w' s4 I4 rw' => ⟨v, _, I4, rw', q3 v l⟩
  | none => exact d_popD I3 ea ry l fun s4 I4 => ⟨z, H3, I4, rz, q4 l⟩
end

/-! ### dict(d): a copy -/
section
variable {X : Cx} {pins : List (Addr × Obj)} {σ : St} {H : Hp} {s : Shared} {a : Addr} {kvs : List (Key × V)} {A : Around} {E : Value → Shared → Prop}
theorem d_copyOf {Q : Value → Shared → Prop} (I : Inv X pins σ H s) (e : Rd H a (.dK kvs)) (h : ∀ p s', H p = none → Inv X pins σ (upd H p (.dK kvs)) s' → Q (.ref p) s') : wpAny (model X.prog X.w) A (call (.type "dict") [.ref a]) Q E s := by
  obtain ⟨z, hd, vs, rel, dd⟩ := dk_rd I.hok e
  refine kt_call_dict hd dd (by rw [← rel.length]; exact z) fun h' dd' hs => ?_
  refine h _ _ (I.hok.fresh (Nat.le_refl _)) (I.laid (a := s.heap.objs.size) (o := .dK kvs) (t' := s.toks) (fun b q hq => ?_) (Nat.le_refl _) (dk_new z (beq_eq_false_iff_ne.mpr (Ne.symm (Nat.ne_of_lt I.big))) rel dd'))
  exact (hs.2 b (Nat.ne_of_lt (Heap.lt_size hq))).trans (Heap.get?_push_of_some _ hq)
end


section
variable {X : Cx} {pins : List (Addr × Obj)} {σ : St} {H : Hp} {s : Shared} {a : Addr} {y : V} {u : Value} {A : Around} {E : Value → Shared → Prop}
/-- d[y], not there: a KeyError -/
theorem d_missing {Q : Value → Shared → Prop} (hu : A.units + 1 < cLine) (hh : A.handled = none) (I : Inv X pins σ H s) (g : DGet H a y none) (ry : RelV y u)
    (h : ∀ h' e t', Heap.NewExc s.heap h' e "KeyError" → E (.ref e) { s with heap := h', toks := t' }) : wpAny (model X.prog X.w) A (getItem (.ref a) u) Q E s := by
  rcases g with ⟨kvs, k, e, ey, l⟩ | ⟨kvs, k, b, e, ey, eb, l⟩
  · subst ey
    obtain ⟨z, hd, vs, rel, dd⟩ := dk_rd I.hok e
    have hn : valueAt vs k = none := RelO.none_of (by rw [l]; exact rel.val k)
    exact wpAny_getItem_missing_of (kV_is ry) hd hh dd.mapOf hn fun h' ex ne => h h' ex _ ne
  · subst ey
    cases (show u = Value.ref b from ry)
    obtain ⟨z, hd, xs, rel, dd⟩ := dt_rd I.hok e
    have hn : (atKey xs k).map (·.2) = none := RelO.none_of (by rw [l]; exact rel.val k)
    exact wpAny_getItem_missing_heap (tupleKind_room_in1 hu) (key_of I.hok eb) hd hh dd (Option.map_eq_none_iff.mp hn) fun h' ex ne => h h' ex _ ne
end
end L2

namespace L2
open PySem PySem.Spec PyProof.Rows
/-! ### a dict's pairs: keys that differ -/
section
variable {κ : Type} [DecidableEq κ]
theorem valV_not {kvs : List (κ × V)} {k : κ} (h : valV kvs k = none) : ¬ k ∈ kvs.map (·.1) := by
  intro m
  obtain ⟨p, hp, e⟩ := List.mem_map.mp m
  have q : (kvs.any fun kv => decide (kv.1 = k)) = true := List.any_eq_true.mpr ⟨p, hp, decide_eq_true e⟩
  rw [valV_any, h] at q
  exact absurd q (by simp)
theorem valV_in {kvs : List (κ × V)} {k : κ} {v : V} (h : valV kvs k = some v) : k ∈ kvs.map (·.1) := by
  have q : (kvs.any fun kv => decide (kv.1 = k)) = true := by
    rw [valV_any, h]
    all_goals rfl
  obtain ⟨p, hp, e⟩ := List.any_eq_true.mp q
  exact List.mem_map.mpr ⟨p, hp, of_decide_eq_true e⟩
theorem nd_snoc : ∀ {l : List κ} {k : κ}, l.Nodup → ¬ k ∈ l → (l ++ [k]).Nodup
  | [], k, _, _ => by simp
  | a :: r, k, h, hk => by
    obtain ⟨h1, h2⟩ := List.nodup_cons.mp h
    show (a :: (r ++ [k])).Nodup
    refine List.nodup_cons.mpr ⟨fun m => ?_, nd_snoc h2 fun m => hk (List.mem_cons.mpr (Or.inr m))⟩
    rcases List.mem_append.mp m with q | q
    · exact h1 q
    · exact hk (List.mem_cons.mpr (Or.inl (List.mem_singleton.mp q).symm))
theorem nd_putK {kvs : List (κ × V)} {k : κ} (v : V) (hn : (kvs.map (·.1)).Nodup) (h : valV kvs k = none) : ((putK kvs k v).map (·.1)).Nodup := by
  rw [putK_new v h, List.map_append]
  exact nd_snoc hn (valV_not h)
theorem dropK_pos {p : κ × V} {r : List (κ × V)} {k : κ} (e : p.1 = k) : dropK (p :: r) k = dropK r k := by
  unfold dropK
  rw [List.filter_cons, if_neg (by simp [e])]
theorem dropK_neg {p : κ × V} {r : List (κ × V)} {k : κ} (e : ¬ p.1 = k) : dropK (p :: r) k = p :: dropK r k := by
  unfold dropK
  rw [List.filter_cons, if_pos (by simp [e])]
theorem dropK_no : ∀ {kvs : List (κ × V)} {k : κ}, ¬ k ∈ kvs.map (·.1) → dropK kvs k = kvs
  | [], _, _ => rfl
  | p :: r, k, h => by
    have h' : ¬ k ∈ r.map (·.1) := fun m => by
      obtain ⟨q, hq, e⟩ := List.mem_map.mp m
      exact h (List.mem_map.mpr ⟨q, List.mem_cons.mpr (Or.inr hq), e⟩)
    rw [dropK_neg fun e => h (List.mem_map.mpr ⟨p, List.mem_cons.mpr (Or.inl rfl), e⟩), dropK_no h']
theorem dropK_mem {kvs : List (κ × V)} {k : κ} {p : κ × V} (h : p ∈ dropK kvs k) : p ∈ kvs := (List.mem_filter.mp h).1
theorem nd_dropK : ∀ {kvs : List (κ × V)} {k : κ}, (kvs.map (·.1)).Nodup → ((dropK kvs k).map (·.1)).Nodup
  | [], _, _ => List.nodup_nil
  | p :: r, k, h => by
    have h : (p.1 :: r.map (·.1)).Nodup := h
    obtain ⟨h1, h2⟩ := List.nodup_cons.mp h
    by_cases e : p.1 = k
    · rw [dropK_pos e]
      exact nd_dropK h2
    · rw [dropK_neg e]
      show (p.1 :: (dropK r k).map (·.1)).Nodup
      refine List.nodup_cons.mpr ⟨fun m => h1 ?_, nd_dropK h2⟩
      obtain ⟨q, hq, eq⟩ := List.mem_map.mp m
      exact List.mem_map.mpr ⟨q, dropK_mem hq, eq⟩
theorem dropK_len : ∀ {kvs : List (κ × V)} {k : κ}, (kvs.map (·.1)).Nodup → k ∈ kvs.map (·.1) → (dropK kvs k).length + 1 = kvs.length
  | [], _, _, m => by simp at m
  | p :: r, k, h, m => by
    have h : (p.1 :: r.map (·.1)).Nodup := h
    have m : k = p.1 ∨ k ∈ r.map (·.1) := List.mem_cons.mp m
    obtain ⟨h1, h2⟩ := List.nodup_cons.mp h
    by_cases e : p.1 = k
    · subst e
      rw [dropK_pos rfl, dropK_no h1]
      all_goals rfl
    · have m' : k ∈ r.map (·.1) := m.resolve_left fun z => e z.symm
      have q := dropK_len h2 m'
      rw [dropK_neg e, List.length_cons, List.length_cons]
      omega
end
end L2
set_option Elab.async false
set_option linter.all false
set_option maxRecDepth 100000
/-! A list comprehension with one clause, as a rule of the layer: the block has its own names, reads the cells of the frame around it, and lays a new list. -/
namespace L2
open PySem PySem.Spec PyProof.Rows

/-! ### what a block closes over -/
theorem closure_go {env : Env} : ∀ (l : List (Str × NameKind)) (cs : List (Str × Addr)), (∀ x ∈ l, x.2 = .free → ∃ c, env.cells.lookup x.1 = some c) →
    ∃ cl, (forIn l cs fun (x : Str × NameKind) (r : List (Str × Addr)) => (match x with
        | (name, kind) => if (kind == NameKind.free) = true then do let a ← cellOf env name; pure (ForInStep.yield ((name, a) :: r)) else pure (ForInStep.yield r) : Sem (ForInStep (List (Str × Addr))))) = pure cl ∧
      (∀ x c, cl.lookup x = some c → env.cells.lookup x = some c ∨ cs.lookup x = some c) ∧ (∀ x, (x, NameKind.free) ∈ l → ∃ c, cl.lookup x = some c) ∧ (∀ x c, cs.lookup x = some c → ∃ c', cl.lookup x = some c')
  | [], cs, _ => ⟨cs, rfl, fun _ _ h => .inr h, fun _ h => by simp at h, fun _ c h => ⟨c, h⟩⟩
  | (n, k) :: l, cs, h => by
    have hl : ∀ x ∈ l, x.2 = .free → ∃ c, env.cells.lookup x.1 = some c := fun x hx => h x (List.mem_cons_of_mem _ hx)
    by_cases hk : k = .free
    · subst hk
      obtain ⟨a, ha⟩ := h (n, .free) List.mem_cons_self rfl
      obtain ⟨cl, e, h1, h2, h3⟩ := closure_go (env := env) l ((n, a) :: cs) hl
      refine ⟨cl, ?_, fun x c q => ?_, fun x q => ?_, fun x c q => ?_⟩
      · rw [List.forIn_cons]
        show (do let r ← (if (NameKind.free == NameKind.free) = true then do let a ← cellOf env n; pure (ForInStep.yield ((n, a) :: cs)) else pure (ForInStep.yield cs)); _) = _
        have ec : cellOf env n = pure a := by unfold cellOf; rw [ha]
        rw [ec, if_pos (by decide)]
        exact e
      · rcases h1 x c q with z | z
        · exact .inl z
        · by_cases hx : x = n
          · subst hx
            rw [List.lookup_cons, beq_self_eq_true] at z
            cases z
            exact .inl ha
          · rw [List.lookup_cons, beq_eq_false_iff_ne.mpr hx] at z
            exact .inr z
      · rcases List.mem_cons.mp q with z | z
        · cases z
          exact h3 n a (by rw [List.lookup_cons, beq_self_eq_true])
        · exact h2 x z
      · by_cases hx : x = n
        · subst hx
          exact h3 x a (by rw [List.lookup_cons, beq_self_eq_true])
        · exact h3 x c (by rw [List.lookup_cons, beq_eq_false_iff_ne.mpr hx]; exact q)
    · obtain ⟨cl, e, h1, h2, h3⟩ := closure_go (env := env) l cs hl
      refine ⟨cl, ?_, h1, fun x q => ?_, h3⟩
      · rw [List.forIn_cons]
        show (do let r ← (if (k == NameKind.free) = true then do let a ← cellOf env n; pure (ForInStep.yield ((n, a) :: cs)) else pure (ForInStep.yield cs)); _) = _
        rw [if_neg (by simpa using hk)]
        exact e
      · rcases List.mem_cons.mp q with z | z
        · cases z
          exact absurd rfl hk
        · exact h2 x z
theorem closure_of {scope : Scope} {env : Env} (h : ∀ x ∈ scope.names, x.2 = .free → ∃ c, env.cells.lookup x.1 = some c) :
    ∃ cl, closureFor scope env = pure cl ∧ (∀ x c, cl.lookup x = some c → env.cells.lookup x = some c) ∧ (∀ x, scope.names.lookup x = some .free → ∃ c, cl.lookup x = some c) := by
  obtain ⟨cl, e, h1, h2, _⟩ := closure_go (env := env) scope.names [] h
  refine ⟨cl, ?_, fun x c q => ?_, fun x q => h2 x (PySem.mem_of_lookup q)⟩
  · unfold closureFor
    exact (congrArg (fun m => m >>= fun r => (pure r : Sem _)) e).trans rfl
  · rcases h1 x c q with z | z
    · exact z
    · simp at z
theorem lookup_relabel_inv {env : Env} : ∀ {names : List (Str × NameKind)} {x : Str} {k : NameKind}, (names.map fun (n, k) => if (k == NameKind.free && env.scope.kind == .function && env.kindOf n == some .cell) then (n, NameKind.cell) else (n, k)).lookup x = some k →
    k = .cell ∨ k = .free → names.lookup x = some .cell ∨ names.lookup x = some .free
  | [], _, _, h, _ => by simp at h
  | (n, k0) :: r, x, k, h, hk => by
    have ih := @lookup_relabel_inv env r x k
    have h' : List.lookup x ((if (k0 == NameKind.free && env.scope.kind == .function && env.kindOf n == some .cell) = true then (n, NameKind.cell) else (n, k0)) :: _) = some k := h
    cases hx : x == n with
    | true =>
      simp only [List.lookup_cons, hx]
      by_cases hc : (k0 == NameKind.free && env.scope.kind == .function && env.kindOf n == some .cell) = true
      · have : k0 = .free := by simp only [Bool.and_eq_true, beq_iff_eq] at hc; exact hc.1.1
        rw [this]; exact .inr rfl
      · rw [if_neg hc] at h'
        simp only [List.lookup_cons, hx] at h'
        cases h'
        rcases hk with e | e
        · rw [e]; exact .inl rfl
        · rw [e]; exact .inr rfl
    | false =>
      simp only [List.lookup_cons, hx]
      by_cases hc : (k0 == NameKind.free && env.scope.kind == .function && env.kindOf n == some .cell) = true
      · rw [if_pos hc] at h'
        simp only [List.lookup_cons, hx] at h'
        exact ih h' hk
      · rw [if_neg hc] at h'
        simp only [List.lookup_cons, hx] at h'
        exact ih h' hk
theorem lookup_relabel_cap {env : Env} (hf : env.scope.kind = .function) : ∀ {names : List (Str × NameKind)} {x : Str}, names.lookup x = some .free → env.kindOf x = some .cell →
    (names.map fun (n, k) => if (k == NameKind.free && env.scope.kind == .function && env.kindOf n == some .cell) then (n, NameKind.cell) else (n, k)).lookup x = some .cell
  | [], _, h, _ => by simp at h
  | (n, k0) :: r, x, h, hx => by
    have ih := @lookup_relabel_cap env hf r x
    show List.lookup x ((if (k0 == NameKind.free && env.scope.kind == .function && env.kindOf n == some .cell) = true then (n, NameKind.cell) else (n, k0)) :: _) = some .cell
    cases e : x == n with
    | true =>
      simp only [List.lookup_cons, e] at h
      cases h
      have en : x = n := by simpa using e
      subst en
      rw [if_pos (by rw [hx, hf]; rfl)]
      simp only [List.lookup_cons, e]
    | false =>
      simp only [List.lookup_cons, e] at h
      by_cases hc : (k0 == NameKind.free && env.scope.kind == .function && env.kindOf n == some .cell) = true
      · rw [if_pos hc]; simp only [List.lookup_cons, e]; exact ih h hx
      · rw [if_neg hc]; simp only [List.lookup_cons, e]; exact ih h hx

/-! ### the block's context -/
def blk (X : Cx) (N : List Str) (scope : Scope) (cl : List (Str × Addr)) (C : Addr) (s : Shared) (H : Hp) (fp : List Addr) : Cx where
  prog := X.prog
  w := X.w
  K := X.K
  mg := X.mg
  base := X.base
  A := X.A
  N := N
  s₀ := s
  H₀ := H
  env := compEnvC scope cl C X.env
  outer := X.stack
  stack := X.stack
  ex := fp
  fn := fun _ => false
  calm := X.calm
  pn := []
  xe := fun _ _ => False

/-- what is asked of the block's written scope -/
structure BlkScope (scope : Scope) : Prop where
  kind : scope.kind = .function
  nocell : ∀ y ∈ scope.names, y.2 ≠ .cell
  names : ∀ y ∈ scope.names, y.2 = .local → scope.names.lookup y.1 = some .local

section
variable {X : Cx} {pins : List (Addr × Obj)} {σ : St} {H : Hp} {s : Shared} {scope : Scope} {cl : List (Str × Addr)} {fp : List Addr} {N : List Str} {C : Addr}

theorem blk_ok (I : Inv X pins σ H s) (S : BlkScope scope) (hf : ∀ b ∈ fp, FpOk X pins H b) (hlt : ∀ b ∈ fp, b < s.heap.objs.size) (hC : s.heap.objs.size ≤ C)
    (sub : ∀ x c, cl.lookup x = some c → X.env.cells.lookup x = some c) (has : ∀ x, scope.names.lookup x = some .free → ∃ c, cl.lookup x = some c) : (blk X N scope cl C s H fp).Ok where
  mod := I.ok.mod
  kind := S.kind
  glob := I.ok.glob
  blt := I.ok.blt
  above := hC
  inj := fun x y c h1 h2 => I.ok.inj x y c (sub x c h1) (sub y c h2)
  has := fun x hx => by
    have q : scope.names.lookup x = some .cell ∨ scope.names.lookup x = some .free := by
      rcases hx with e | e
      · exact lookup_relabel_inv (env := X.env) e (.inl rfl)
      · exact lookup_relabel_inv (env := X.env) e (.inr rfl)
    rcases q with q | q
    · exact absurd rfl (S.nocell _ (PySem.mem_of_lookup q))
    · exact has x q
  cab := fun x c h => nomatch h
  hd := I.ok.hd
  frames := I.ok.frames
  stk := .inl rfl
  exf := fun b hb => ⟨Nat.ne_of_lt (Nat.lt_of_lt_of_le (hlt b hb) hC), fun x c e => (hf b hb).2.2.2.2.1 x c (sub x c e)⟩
  bs := I.bs
  bsz := Nat.le_trans I.ok.bsz I.sz
  noex := fun b o e hb => by
    rcases (hf b hb).2.2.2.1 with z | z
    · exact I.ok.noex b o e z
    · exact absurd (Nat.lt_of_lt_of_le (Heap.lt_size (I.ok.bs b o e).1) z) (Nat.lt_irrefl _)
  exfs := fun b hb z => by
    rcases List.mem_cons.mp (I.stkSub b z) with e | e
    · exact (hf b hb).2.1 e
    · exact (hf b hb).2.2.1 e
  funs := I.stack
  frf := I.stkFree

/-- the names' values at the block's entry: ts its own (none yet), the others those of the frame around -/
structure Caps (X : Cx) (σ : St) (scope : Scope) (N : List Str) (τ : St) : Prop where
  len : τ.length = N.length
  cap : ∀ (i : Nat) (x : Str) (v : V), N[i]? = some x → τ[i]? = some (some v) → ∃ j : Nat, X.N[j]? = some x ∧ σ[j]? = some (some v) ∧ X.env.scope.names.lookup x = some .cell ∧ scope.names.lookup x = some .free

theorem blk_start {τ : St} {h' : Heap} {tk : Nat} {m : Str → Option Value} (I : Inv X pins σ H s) (S : BlkScope scope) (hf : ∀ b ∈ fp, FpOk X pins H b) (hlt : ∀ b ∈ fp, b < s.heap.objs.size)
    (sub : ∀ x c, cl.lookup x = some c → X.env.cells.lookup x = some c) (has : ∀ x, scope.names.lookup x = some .free → ∃ c, cl.lookup x = some c) (cp : Caps X σ scope N τ)
    (hC : s.heap.objs.size ≤ C) (hn : h'.Ns C m) (hk : ∀ b o, s.heap.get? b = some o → h'.get? b = some o) :
    Inv (blk X N scope cl C s H fp) [] τ H { s with heap := h', toks := tk } := by
  have keepC : ∀ {c : Addr} {v : Option Value}, s.heap.IsCell c v → h'.IsCell c v := fun ⟨o, ho, hd⟩ => ⟨o, hk _ o ho, hd⟩
  refine ⟨blk_ok I S hf hlt hC sub has, rfl, I.bare, Un.kept hk, ⟨m, hn, fun i x v e1 e2 _ => ?_⟩, fun x c e => ?_, I.hok.fresh hC, fun x c e => I.freeC x c (sub x c e), fun p hp => absurd (show p ∈ ([] : List (Addr × Obj)) from hp) (by simp), I.hok.kept hk, cp.len⟩
  · obtain ⟨j, q1, q2, q3, q4⟩ := cp.cap i x v e1 e2
    obtain ⟨m0, hn0, hl⟩ := I.loc
    obtain ⟨u, r, l⟩ := hl j x v q1 q2 (.inr (.inl q3))
    refine ⟨u, r, ?_⟩
    rcases l with ⟨k, _⟩ | ⟨_, c, e, z⟩
    · have k' : X.env.scope.names.lookup x = some .local := k
      rw [q3] at k'; cases k'
    · obtain ⟨c', e'⟩ := has x q4
      have e2 := sub x c' e'
      rw [e] at e2; cases e2
      exact .inr ⟨.inl (lookup_relabel_cap I.ok.kind q4 q3), c, e', keepC z⟩
  · obtain ⟨v, z⟩ := I.cell x c (sub x c e)
    exact ⟨v, keepC z⟩
end
end L2

namespace L2
open PySem PySem.Spec PyProof.Rows

/-! ### the tests of a clause -/
def PF (X : Cx) (ifs : List Expr) (t : TT) : Prop :=
  ∀ (pins : List (Addr × Obj)) (s : Shared) (σ : St) (H : Hp) (Q : Bool → Hp → Prop), Inv X pins σ H s → t σ H Q →
    wpAny (model X.prog X.w) X.A (forIn ifs true fun c r => if r = true then do let ok ← isTrue c X.env (eval c X.env); pure (ForInStep.yield ok) else pure (ForInStep.yield r)) (TP X pins σ Q) X.xe s
def tAll : TT := fun _ H Q => Q true H
theorem pf_nil {X : Cx} : PF X [] tAll := fun pins s σ H Q I h => wpAny_tests_nil ⟨H, I, h⟩
theorem pf_one {X : Cx} {c : Expr} {t : TT} (h : PT X c t) : PF X [c] t := fun pins s σ H Q I hw => wpAny_tests_one (h pins s σ H Q I hw)

/-- what the turns of a block want: W, the invariant by the turn and a measure; l, the new list -/
def BlkRun (J : It) (g : TG) (tc : TT) (te : TE) (τ : St) (H1 : Hp) (Q : VK) : Prop :=
  ∀ l, H1 l = none → ∃ W : Nat → Nat → St → Hp → Prop, (∃ m, W 0 m τ (upd H1 l (.lst []))) ∧ ∀ i m σ2 H2, W i m σ2 H2 →
    (J.stop i H2 ∧ Q (.ref l) H2) ∨ (J.go i H2 ∧ ∃ M : St → Hp → Prop, (∀ σ' H', M σ' H' → ∃ m', m' < m ∧ W (i + 1) m' σ' H') ∧ ∀ x H3, J.yld i H2 x H3 → g x σ2 H3 fun σ4 H4 => tc σ4 H4 fun b H5 =>
      if b = true then te σ4 H5 fun y H6 => ∃ ys, H6 l = some (.lst ys) ∧ ys.length < sizeLine ∧ M σ4 (upd H6 l (.lst (ys ++ [y])))
      else M σ4 H5)
def tComp (wi : TI) (τ : St → St) (g : TG) (tc : TT) (te : TE) : TE := fun σ H Q => wi σ H fun J H1 => BlkRun J g tc te (τ σ) H1 Q

/-- the parts of a block, at whatever addresses -/
structure BlkParts (X : Cx) (N : List Str) (scope : Scope) (tg elt : Expr) (ifs : List Expr) (g : TG) (tc : TT) (te : TE) : Prop where
  tgt : ∀ cl C s H fp, PG (blk X N scope cl C s H fp) tg g
  tst : ∀ cl C s H fp, PF (blk X N scope cl C s H fp) ifs tc
  elt : ∀ cl C s H fp, PE (blk X N scope cl C s H fp) elt te

section
variable {X : Cx} {pins : List (Addr × Obj)} {σ : St} {scope : Scope} {N : List Str} {tg elt iter : Expr} {ifs : List Expr} {g : TG} {tc : TT} {te : TE} {pos : Pos}

theorem run_blk {s2 : Shared} {H2 : Hp} {J : It} {fp : List Addr} {it : Addr} {tn : Nat → Heap → Prop} {cl : List (Str × Addr)} {τ : St} {Q : VK} {E : Value → Shared → Prop} {RR : Value → Addr → Result → Shared → Prop}
    (I2 : Inv X pins σ H2 s2) (T : Turn X.prog X.w X.K tg J fp it tn) (st : tn 0 s2.heap) (f2 : ∀ b ∈ fp, FpOk X pins H2 b) (hc : X.calm = true) (S : BlkScope scope) (cp : Caps X σ scope N τ)
    (P : BlkParts X N scope tg elt ifs g tc te) (sub : ∀ x c, cl.lookup x = some c → X.env.cells.lookup x = some c) (has : ∀ x, scope.names.lookup x = some .free → ∃ c, cl.lookup x = some c)
    (hW : BlkRun J g tc te τ H2 Q)
    (fin : ∀ l C s' H' m, s'.heap.Ns C m → Inv X pins σ H' s' → FpOk X pins H' C → Q (.ref l) H' → RR (.ref l) C (.ok .next) s') :
    wpAny (model X.prog X.w) X.A (newList []) (fun acc s₃ => wpAny (model X.prog X.w) X.A (newFunctionEnv scope X.env.globals cl [] X.env.qual none .none (some X.env)) (fun cenv s₄ =>
      codeAny (model X.prog X.w) X.A (.compStart (.ListComp elt [⟨tg, iter, ifs, 0⟩] scope pos) 0 (.ref it) acc { cenv with scope := relabel scope X.env }) (RR acc cenv.locals) s₄) E s₃) E s2 := by
  refine wpAny_newObj_type (wpAny_newFunctionEnv S.nocell (by intro y hy; simp at hy) (fun h₁ hns₁ hsb₁ => ?_) S.kind)
  dsimp only at hns₁ hsb₁ ⊢
  obtain ⟨W, ⟨m0, w0⟩, turn⟩ := hW s2.heap.objs.size I2.fresh
  have lt2 : ∀ b ∈ fp, b < s2.heap.objs.size := fun b hb => by
    obtain ⟨o, e, _⟩ := T.obj _ _ st b hb
    exact Heap.lt_size e
  have I3 : Inv X pins σ (upd H2 s2.heap.objs.size (.lst [])) { s2 with heap := s2.heap.push { cls := .type "list", dict := none, data := .seq ([] : List Value).toArray } } := I2.lnew (t' := s2.toks) (its := []) (ys := []) .nil (Nat.zero_le _)
  have f3 : ∀ b ∈ fp, FpOk X pins (upd H2 s2.heap.objs.size (.lst [])) b := fun b hb => ⟨by rw [upd_ne (Nat.ne_of_lt (lt2 b hb))]; exact (f2 b hb).1, (f2 b hb).2⟩
  generalize hH3 : s2.heap.push { cls := .type "list", dict := none, data := .seq ([] : List Value).toArray } = h3 at hns₁ hsb₁ I3 ⊢
  have sz3 : h3.objs.size = s2.heap.objs.size + 1 := by rw [← hH3, Heap.size_push]
  have lt3 : ∀ b ∈ fp, b < h3.objs.size := fun b hb => by rw [sz3]; exact Nat.lt_succ_of_lt (lt2 b hb)
  have old : ∀ b o, h3.get? b = some o → h₁.get? b = some o := fun b o e => hsb₁.extBut b o (Nat.ne_of_lt (Heap.lt_size e)) (Heap.get?_push_of_some _ e)
  have st1 : tn 0 h₁ := T.keep _ _ _ st fun b _ o e => old b o (hH3 ▸ Heap.get?_push_of_some _ e)
  generalize hacc : s2.heap.objs.size = l at *
  have B0 := fun tk => blk_start (tk := tk) (N := N) I3 S f3 lt3 sub has cp (Nat.le_refl _) hns₁ old
  have stat : ∀ {H' : Hp}, (∀ b ∈ fp, H' b = none) → ∀ b ∈ fp, FpOk (blk X N scope cl h3.objs.size { s2 with heap := h3 } (upd H2 l (.lst [])) fp) [] H' b := fun hn b hb =>
    ⟨hn b hb, ((B0 0).ok.exf b hb).1, (B0 0).ok.exfs b hb, .inl hb, ((B0 0).ok.exf b hb).2, fun p hp => absurd (show p ∈ ([] : List (Addr × Obj)) from hp) (by simp)⟩
  have loop : ∀ s₃ : Shared, (∃ tk, s₃ = { s2 with heap := h₁, toks := tk }) →
      codeAny (model X.prog X.w) X.A (.compLoop (.ListComp elt [⟨tg, iter, ifs, 0⟩] scope pos) 0 (.ref it) (.ref l) (compEnvC scope cl h3.objs.size X.env)) (RR (.ref l) h3.objs.size) s₃ := by
    rintro s₃ ⟨tk, rfl⟩
    refine codeAny_loop rfl (fun n s' => ∃ i σ' H', Inv (blk X N scope cl h3.objs.size { s2 with heap := h3 } (upd H2 l (.lst [])) fp) [] σ' H' s' ∧ tn i s'.heap ∧ (∀ b ∈ fp, H' b = none) ∧ W i n σ' H') ?_ m0
      ⟨0, τ, _, B0 tk, st1, fun b hb => (f3 b hb).1, w0⟩
    rintro n s4 ⟨i, σ4, H4, J4, st4, fr4, w4⟩
    show wpAny _ X.A ((compTurn (.ListComp elt [⟨tg, iter, ifs, 0⟩] scope pos) 0 (.ref it) (.ref l) (compEnvC scope cl h3.objs.size X.env)).onRaise (fun x => do noteFrame x (compEnvC scope cl h3.objs.size X.env); theTreesLotGoes x)) _ _ s4
    refine wpAny_noted ?_
    rw [compTurn_list]
    refine wpAny_bind (wpAny_standAt (wpAny_bind ?_))
    rcases turn i n σ4 H4 w4 with ⟨stop, q⟩ | ⟨go, M, hM, step⟩
    · refine thn (T.done (blk X N scope cl h3.objs.size { s2 with heap := h3 } (upd H2 l (.lst [])) fp) rfl rfl rfl hc i [] s4 σ4 H4 _ J4 (stat fr4) st4 stop) fun r s5 ⟨hr, J5⟩ => ?_
      subst hr
      obtain ⟨m, hn, _⟩ := J5.loc
      have I5 : Inv X pins σ H4 s5 := I3.call' (ch := fp) J5.os J5.base J5.hok J5.bare fun b hb => ⟨(f3 b hb).2.2.2.1, (f3 b hb).2.1, (f3 b hb).2.2.2.2.1, (f3 b hb).2.2.2.2.2⟩
      exact wpAny_pure (fin l h3.objs.size s5 H4 m hn I5 (I3.fpOk (Nat.le_refl _) J5.free) q)
    · refine thn (T.item (blk X N scope cl h3.objs.size { s2 with heap := h3 } (upd H2 l (.lst [])) fp) rfl rfl rfl hc i [] s4 σ4 H4 _ J4 (stat fr4) st4 go) fun r s5 ⟨u, hr, h5⟩ => ?_
      subst hr
      refine wpAny_bind (thn h5 fun _ s6 ⟨x, H6, J6, r6, y6, st6, fr6⟩ => ?_)
      have J6' := J6.pinned (stat fr6) (T.obj _ _ st6)
      refine wpAny_bind (wpAny_mono (P.tgt cl _ _ _ fp _ s6 σ4 H6 x u _ J6' r6 (step x H6 y6)) (fun _ s7 ⟨σ7, H7, J7, q7⟩ => ?_) fun _ _ z => z.elim)
      refine wpAny_bind (wpAny_mono (P.tst cl _ _ _ fp _ s7 σ7 H7 _ J7 q7) (fun ok s8 ⟨H8, J8, q8⟩ => ?_) fun _ _ z => z.elim)
      have again : ∀ {σ9 : St} {H9 : Hp} {s9 : Shared}, Inv (blk X N scope cl h3.objs.size { s2 with heap := h3 } (upd H2 l (.lst [])) fp) ([] ++ pinsAt fp s6.heap) σ9 H9 s9 → (∃ m', m' < n ∧ W (i + 1) m' σ9 H9) →
          ∃ m', m' < n ∧ ∃ i σ' H', Inv (blk X N scope cl h3.objs.size { s2 with heap := h3 } (upd H2 l (.lst [])) fp) [] σ' H' s9 ∧ tn i s9.heap ∧ (∀ b ∈ fp, H' b = none) ∧ W i m' σ' H' := fun {σ9 H9 s9} J9 ⟨m', hm, w9⟩ => by
        refine ⟨m', hm, i + 1, σ9, H9, J9.unpinned, T.keep _ _ _ st6 fun b hb o e => (J9.pin (b, o) (List.mem_append_right _ (List.mem_append_right _ (mem_pinsAt hb e)))).1, fun b hb => ?_, w9⟩
        obtain ⟨o, e, d⟩ := T.obj _ _ st6 b hb
        exact (J9.pin (b, o) (List.mem_append_right _ (List.mem_append_right _ (mem_pinsAt hb e)))).2.1
      cases ok with
      | false => exact wpAny_pure ⟨rfl, again J8 (hM _ _ (by rw [if_neg Bool.false_ne_true] at q8; exact q8))⟩
      | true =>
        rw [if_pos rfl] at q8
        refine wpAny_bind (wpAny_bind (wpAny_mono (P.elt cl _ _ _ fp _ s8 σ7 H8 _ J8 q8) (fun yv s9 ⟨y, H9, J9, r9, ys, e9, z9, q9⟩ => ?_) fun _ _ z => z.elim))
        refine wpAny_bind (wpAny_mono (mt_append (X := blk X N scope cl h3.objs.size { s2 with heap := h3 } (upd H2 l (.lst [])) fp) _ s9 σ7 H9 (.ref l) [y] (.ref l) [yv] (fun _ H10 => ∃ m', m' < n ∧ W (i + 1) m' σ7 H10) J9 rfl (.cons r9 .nil) ⟨l, ys, y, rfl, rfl, e9, z9, hM _ _ q9⟩) (fun _ s10 ⟨_, H10, J10, _, q10⟩ => wpAny_pure (wpAny_pure ⟨rfl, again J10 q10⟩)) fun _ _ z => z.elim)
  exact codeAny_compStart_list (loop _ ⟨_, rfl⟩) (T.self _ 0 _ _ _ st1 (loop _ ⟨_, rfl⟩))

/-- [elt for tg in iter if ..] -/
theorem pe_comp {wi : TI} {τ : St → St} (hc : X.calm = true) (hi : PI X tg iter wi) (S : BlkScope scope) (hfree : ∀ x ∈ scope.names, x.2 = .free → X.env.scope.names.lookup x.1 = some .cell)
    (cap : ∀ σ : St, σ.length = X.N.length → Caps X σ scope N (τ σ)) (P : BlkParts X N scope tg elt ifs g tc te) (hs : ∀ x, foldedSetIterable iter X.env x = pure x := by intro _; rfl) :
    PE X (.ListComp elt [⟨tg, iter, ifs, 0⟩] scope pos) (tComp wi τ g tc te) := by
  intro pins s σ H Q I h
  obtain ⟨cl, ecl, sub, has⟩ := closure_of (scope := scope) (env := X.env) fun x hx hf => I.ok.has x.1 (.inl (hfree x hx hf))
  rw [eval_ListComp]
  refine wpAny_comprehension_free (use := none) rfl hs ecl S.kind S.names (thn (hi pins s σ H _ I h) fun v s1 h1 => thn h1 fun itv s2 h2 => ?_)
  obtain ⟨it, fp, tn, J, H2, e, I2, T, st2, f2, hW⟩ := h2
  subst e
  refine run_blk (RR := fun acc C => compPost (model X.prog X.w) X.A X.xe none (EP X pins σ Q) acc C) I2 T st2 f2 hc S (cap σ I.len) P sub has hW ?_
  intro l C s' H' m hn I' fC q
  exact ⟨m, hn, fun h' hs' => ⟨.ref l, H', I'.turned (t' := s'.toks) (fun b o hb e => (hs'.2 b hb).trans e) fC.1 fC.2.1 fC.2.2.2.1 fC.2.2.2.2.1 fC.2.2.2.2.2, rfl, q⟩⟩

/-- name = [elt for tg in iter if ..], in one row: the name is stored ahead of the block's end -/
theorem ps_setC {wi : TI} {τ : St → St} {i : Nat} {x : Str} {pos' spos : Pos} (hc : X.calm = true) (hN : X.N.Nodup) (hi' : X.N[i]? = some x) (hx : Loc X.env.scope x)
    (hi : PI X tg iter wi) (S : BlkScope scope) (hfree : ∀ x ∈ scope.names, x.2 = .free → X.env.scope.names.lookup x.1 = some .cell)
    (cap : ∀ σ : St, σ.length = X.N.length → Caps X σ scope N (τ σ)) (P : BlkParts X N scope tg elt ifs g tc te) (hs : ∀ x, foldedSetIterable iter X.env x = pure x := by intro _; rfl)
    (hsw : swapsWith (.ListComp elt [⟨tg, iter, ifs, 0⟩] scope pos) (some (.Name x pos')) spos.line X.env = pure true := by rfl)
    (hf : X.fn x = true ∨ X.env.scope.names.lookup x = some .local := by first | exact .inl rfl | exact .inr rfl | assumption) :
    PS X (.Assign [.Name x pos'] (.ListComp elt [⟨tg, iter, ifs, 0⟩] scope pos) spos) (tAsg (tComp wi τ g tc te) (gName i)) := by
  intro pins s σ H D I h
  obtain ⟨cl, ecl, sub, has⟩ := closure_of (scope := scope) (env := X.env) fun x hx hf => I.ok.has x.1 (.inl (hfree x hx hf))
  rw [exec_Assign_Name_used _ _ _ _ hsw]
  refine wpAny_bind (wpAny_standAt (wpAny_bind ?_))
  show wpAny _ X.A (do let _ ← comprehension (.ListComp elt [⟨tg, iter, ifs, 0⟩] scope pos) scope X.env _ (newList []) false (eval iter X.env) (some (assign (.Name x pos') X.env))) _ _ s
  refine wpAny_bind (wpAny_mono (wpAny_comprehension_free (use := some (assign (.Name x pos') X.env)) (Q := fun _ s' => SP X pins D .next s') rfl hs ecl S.kind S.names
    (thn (hi pins s σ H _ I h) fun v s1 h1 => thn h1 fun itv s2 h2 => ?_)) (fun _ s' hq => wpAny_pure (wpAny_pure hq)) fun _ _ e => e)
  obtain ⟨it, fp, tn, J, H2, e, I2, T, st2, f2, hW⟩ := h2
  subst e
  refine run_blk (RR := fun acc C => compPost (model X.prog X.w) X.A X.xe (some (assign (.Name x pos') X.env)) (fun _ s' => SP X pins D .next s') acc C) I2 T st2 f2 hc S (cap σ I.len) P sub has hW ?_
  intro l C s' H' m hn I' fC q
  show wpAny _ X.A (assign (.Name x pos') X.env (.ref l)) _ _ _
  refine wpAny_assign_Name (store_ok2 (v := .ref l) I' hN hi' hx rfl (fun s'' I'' ⟨a, sb, ha⟩ => ?_) hf)
  have nC : C ≠ a := by
    rcases ha with z | z
    · rw [z]; exact fC.2.1
    · exact Ne.symm (fC.2.2.2.2.1 x a z)
  refine ⟨m, hn.sameBut sb nC, fun h' hs' => ?_⟩
  exact ⟨σ.set i (some (.ref l)), H', I''.turned (t' := s''.toks) (fun b o hb e => (hs'.2 b hb).trans e) fC.1 fC.2.1 fC.2.2.2.1 fC.2.2.2.2.1 fC.2.2.2.2.2, q⟩
end

/-! ### the forms one uses -/
theorem comp_list {K : PySem.W.Frag} {a : Addr} {xs : List V} {g : TG} {tc : TT} {te : TE} {τ : St} {H1 : Hp} {Q : VK} (Pv : Addr → Nat → St → Hp → Prop) (h0 : ∀ l, H1 l = none → Pv l 0 τ (upd H1 l (.lst [])))
    (hl : ∀ l i σ H, i ≤ xs.length → Pv l i σ H → SqL K H a xs)
    (hs : ∀ l i x σ H, xs[i]? = some x → Pv l i σ H → g x σ H fun σ4 H4 => tc σ4 H4 fun b H5 =>
      if b = true then te σ4 H5 fun y H6 => ∃ ys, H6 l = some (.lst ys) ∧ ys.length < sizeLine ∧ Pv l (i + 1) σ4 (upd H6 l (.lst (ys ++ [y]))) else Pv l (i + 1) σ4 H5)
    (hd : ∀ l σ H, Pv l xs.length σ H → Q (.ref l) H) : BlkRun (Itl K a) g tc te τ H1 Q := by
  intro l hl0
  refine ⟨fun i m σ H => m = xs.length - i ∧ i ≤ xs.length ∧ Pv l i σ H, ⟨xs.length, by simp, Nat.zero_le _, h0 l hl0⟩, ?_⟩
  rintro i m σ H ⟨rfl, hi, p⟩
  have q := hl l i σ H hi p
  by_cases hlt : i < xs.length
  · refine .inr ⟨⟨xs, xs[i], q, by simp [hlt]⟩, Pv l (i + 1), fun σ' H' p' => ⟨xs.length - (i + 1), by omega, rfl, hlt, p'⟩, fun x H' y => ?_⟩
    obtain ⟨e, y⟩ := y
    subst e
    exact hs l i x σ _ (y xs q) p
  · have e : i = xs.length := by omega
    subst e
    exact .inl ⟨⟨xs, q, Nat.le_refl _⟩, hd l σ H p⟩
theorem comp_range {lo : Int} {n : Nat} {g : TG} {tc : TT} {te : TE} {τ : St} {H1 : Hp} {Q : VK} (Pv : Addr → Nat → St → Hp → Prop) (h0 : ∀ l, H1 l = none → Pv l 0 τ (upd H1 l (.lst [])))
    (hs : ∀ l i σ H, i < n → Pv l i σ H → g (.int (lo + i)) σ H fun σ4 H4 => tc σ4 H4 fun b H5 =>
      if b = true then te σ4 H5 fun y H6 => ∃ ys, H6 l = some (.lst ys) ∧ ys.length < sizeLine ∧ Pv l (i + 1) σ4 (upd H6 l (.lst (ys ++ [y]))) else Pv l (i + 1) σ4 H5)
    (hd : ∀ l σ H, Pv l n σ H → Q (.ref l) H) : BlkRun (Itr lo n) g tc te τ H1 Q := by
  intro l hl0
  refine ⟨fun i m σ H => m = n - i ∧ i ≤ n ∧ Pv l i σ H, ⟨n, by simp, Nat.zero_le _, h0 l hl0⟩, ?_⟩
  rintro i m σ H ⟨rfl, hi, p⟩
  by_cases hlt : i < n
  · refine .inr ⟨hlt, Pv l (i + 1), fun σ' H' p' => ⟨n - (i + 1), by omega, rfl, hlt, p'⟩, fun x H' y => ?_⟩
    obtain ⟨e, y⟩ := y
    subst e y
    exact hs l i σ _ hlt p
  · have e : i = n := by omega
    subst e
    exact .inl ⟨Nat.le_refl _, hd l σ H p⟩

/-- no name of the frame around is read -/
theorem caps_none {X : Cx} {σ : St} {scope : Scope} {N : List Str} : Caps X σ scope N (List.replicate N.length none) :=
  ⟨by simp, fun i x v _ h => by
    rw [List.getElem?_replicate] at h
    split at h <;> cases h⟩
/-- the own names first (n of them), then those of the frame around, by their slots js there -/
def capσ (n : Nat) (js : List Nat) (σ : St) : St := List.replicate n none ++ js.map fun j => (σ[j]?).join
theorem caps_of {X : Cx} {σ : St} {scope : Scope} {N : List Str} {n : Nat} {js : List Nat} (hl : N.length = n + js.length)
    (h : ∀ k j x, js[k]? = some j → N[n + k]? = some x → X.N[j]? = some x ∧ X.env.scope.names.lookup x = some .cell ∧ scope.names.lookup x = some .free) : Caps X σ scope N (capσ n js σ) :=
  ⟨by unfold capσ; rw [List.length_append, List.length_replicate, List.length_map, hl], fun i x v e1 e2 => by
    unfold capσ at e2
    by_cases hi : i < n
    · rw [List.getElem?_append_left (by simpa using hi), List.getElem?_replicate] at e2
      split at e2 <;> cases e2
    · rw [List.getElem?_append_right (by simpa using hi), List.length_replicate, List.getElem?_map] at e2
      cases ej : js[i - n]? with
      | none => rw [ej] at e2; cases e2
      | some j =>
        rw [ej] at e2
        have e3 : (σ[j]?).join = some v := Option.some.inj e2
        have ei : n + (i - n) = i := by omega
        obtain ⟨q1, q2, q3⟩ := h (i - n) j x ej (by rw [ei]; exact e1)
        refine ⟨j, q1, ?_, q2, q3⟩
        cases es : σ[j]? with
        | none => rw [es] at e3; cases e3
        | some z => rw [es] at e3; have e4 : z = some v := e3; rw [e4]⟩
end L2
namespace L2
open PySem PySem.Spec PyProof.Rows
section
variable {X : Cx} {N : List Str} {scope : Scope} {cl : List (Str × Addr)} {C : Addr} {s : Shared} {H : Hp} {fp : List Addr}
/-- a block's own name as a target -/
theorem pg_nameB (i : Nat) {x : Str} {pos : Pos} (hN : N.Nodup) (hi : N[i]? = some x) (hx : scope.names.lookup x = some .local) : PG (blk X N scope cl C s H fp) (.Name x pos) (gName i) :=
  pg_name hN hi (.inl (lookup_relabel_local hx)) (.inr (lookup_relabel_local hx))
/-- a block's own name read -/
theorem pvB (i : Nat) {x : Str} {pos : Pos} (hi : N[i]? = some x) (hx : scope.names.lookup x = some .local) (hd : (x == ("__debug__" : Str)) = false := by decide) (hcd : (x == ("__classdict__" : Str)) = false := by decide) :
    PE (blk X N scope cl C s H fp) (.Name x pos) (tVar i) := pe_var hi (.inl (lookup_relabel_local hx)) hd hcd
/-- a name of the frame around, read in the block -/
theorem pvC (i : Nat) {x : Str} {pos : Pos} (hf : X.env.scope.kind = .function) (hi : N[i]? = some x) (hx : scope.names.lookup x = some .free) (hk : X.env.scope.names.lookup x = some .cell) (hd : (x == ("__debug__" : Str)) = false := by decide) (hcd : (x == ("__classdict__" : Str)) = false := by decide) :
    PE (blk X N scope cl C s H fp) (.Name x pos) (tVar i) := pe_var hi (.inr (.inl (lookup_relabel_cap hf hx hk))) hd hcd
/-- the rules that name the text's own objects, said of a block -/
theorem pg_tupB {es : List Expr} {k : Nat} {t : TGs} {pos : Pos} (n : Nat) (hc : X.calm = true) (h : PGs (blk X N scope cl C s H fp) es t)
    (hn : (assignEach es (blk X N scope cl C s H fp).env).length = n := by rfl) (hst : (assignEach es (blk X N scope cl C s H fp).env).findIdx? (·.1) = none := by rfl) : PG (blk X N scope cl C s H fp) (.Tuple es k pos) (gTup X.K n t) := pg_tup hc h hn hst
theorem ix_listB : IxR (blk X N scope cl C s H fp) (rIxL X.K) := ix_list
theorem ix_tupB : IxR (blk X N scope cl C s H fp) (rIxT X.K) := ix_tup
end
end L2

set_option Elab.async false
set_option linter.all false
set_option maxRecDepth 100000
/-! More operations as rules of the layer: isinstance, == and != of tuples of flat values, != of a list and an empty one, index. -/
namespace L2
open PySem PySem.Spec PyProof.Rows
section
variable {X : Cx}

/-! ### isinstance(x, T), T a built-in's name -/
def rIsi (K : PySem.W.Frag) : List V → Hp → VK → Prop := fun xs H Q => ∃ x t T b, xs = [x, .ty T] ∧ TyOf K H x t ∧ PySem.W.kitOne K t (.type T) = some b ∧ Q (.bl b) H
theorem call_isi : CallR X (.builtin "isinstance") (rIsi X.K) := by
  intro pins s σ H xs us Q I r h
  obtain ⟨x, t, T, b, rfl, ty, e, q⟩ := h
  obtain ⟨u, w', rfl, rx, rt⟩ := vals2 r
  obtain rfl : w' = .type T := rt
  exact isinst_ok I rx ty e fun tk => ⟨.bl b, H, I.tok tk, rfl, q⟩

/-! ### == and != of two tuples of flat values -/
def eqL (xs ys : List V) : Bool := (List.range (min xs.length ys.length)).all (fun j => eqV (xs.getD j .non) (ys.getD j .non)) && xs.length == ys.length
theorem flat_at {xs : List V} {its : List Value} {j : Nat} (r : Vals xs its) (f : xs.all flatV = true) (h : j < its.toArray.size) : RelV (xs.getD j .non) its.toArray[j] ∧ flatV (xs.getD j .non) = true := by
  have hl := r.length
  have hj : j < xs.length := by rw [List.size_toArray] at h; omega
  have e : xs[j]? = some (xs.getD j .non) := by simp [List.getD, hj]
  obtain ⟨u, hu, ru⟩ := r.get e
  refine ⟨?_, List.all_eq_true.mp f _ (List.mem_of_getElem? e)⟩
  have : its.toArray[j] = u := by
    have h2 : its.toArray[j]? = some u := by rw [List.getElem?_toArray]; exact hu
    rw [Array.getElem?_eq_getElem h] at h2
    exact Option.some.inj h2
  rw [this]
  exact ru
theorem op_eqT (hu : X.A.units < cLine) : OpR X (compareOp .Eq) (fun x y H Q => ∃ a b xs ys, x = .ref a ∧ y = .ref b ∧ SqT X.K H a xs ∧ SqT X.K H b ys ∧ xs.all flatV = true ∧ ys.all flatV = true ∧ Q (.bl (eqL xs ys)) H) := by
  intro pins s σ H x y v u Q I rx ry h
  obtain ⟨a, b, xs, ys, rfl, rfl, h1, h2, f1, f2, q⟩ := h
  cases rx
  cases ry
  obtain ⟨its, r, p, hz⟩ := I.tuple h1
  obtain ⟨its2, r2, p2, hz2⟩ := I.tuple h2
  refine SeqAt.eq_tupleAt (e := fun j => eqV (xs.getD j .non) (ys.getD j .non)) p p2 hu (fun j j1 j2 => ?_) ?_
  · exact eqAt_V (flat_at r f1 j1).1 (flat_at r2 f2 j2).1 (flat_at r f1 j1).2 (flat_at r2 f2 j2).2
  · refine ⟨.bl (eqL xs ys), H, I, ?_, q⟩
    show Value.bool _ = Value.bool _
    rw [List.size_toArray, List.size_toArray, ← r.length, ← r2.length]
    rfl
theorem op_neT (hu : X.A.units < cLine) : OpR X (compareOp .NotEq) (fun x y H Q => ∃ a b xs ys, x = .ref a ∧ y = .ref b ∧ SqT X.K H a xs ∧ SqT X.K H b ys ∧ xs.all flatV = true ∧ ys.all flatV = true ∧ Q (.bl (!eqL xs ys)) H) := by
  intro pins s σ H x y v u Q I rx ry h
  obtain ⟨a, b, xs, ys, rfl, rfl, h1, h2, f1, f2, q⟩ := h
  cases rx
  cases ry
  obtain ⟨its, r, p, hz⟩ := I.tuple h1
  obtain ⟨its2, r2, p2, hz2⟩ := I.tuple h2
  refine SeqAt.RcNeAt.tuples (e := fun j => eqV (xs.getD j .non) (ys.getD j .non)) p p2 hu (fun j j1 j2 => ?_) _ _ _ _ ?_
  · exact eqAt_V (flat_at r f1 j1).1 (flat_at r2 f2 j2).1 (flat_at r f1 j1).2 (flat_at r2 f2 j2).2
  · refine ⟨.bl (!eqL xs ys), H, I, ?_, q⟩
    show Value.bool _ = Value.bool _
    rw [List.size_toArray, List.size_toArray, ← r.length, ← r2.length]
    rfl
theorem eqL_pair (a b c d : Int) : eqL [.int a, .int b] [.int c, .int d] = decide (a = c ∧ b = d) := by
  unfold eqL
  rw [Bool.eq_iff_iff]
  simp [List.range_succ, eqV, List.range, List.range.loop]

/-! ### a list != [] -/
theorem op_neNil (hu : X.A.units < cLine) : OpR X (compareOp .NotEq) (fun x y H Q => ∃ a b xs, x = .ref a ∧ y = .ref b ∧ SqL X.K H a xs ∧ SqL X.K H b [] ∧ Q (.bl (!xs.isEmpty)) H) := by
  intro pins s σ H x y v u Q I rx ry h
  obtain ⟨a, b, xs, rfl, rfl, h1, h2, q⟩ := h
  cases rx
  cases ry
  obtain ⟨its, r, p, hz⟩ := I.list h1
  obtain ⟨its2, r2, p2, hz2⟩ := I.list h2
  have e2 : its2 = [] := by cases r2; rfl
  subst e2
  cases r with
  | nil => exact SeqAt.RcNeAt.lists (e := fun _ => true) p.isList p2.isList rfl hu (fun j j1 _ => absurd j1 (by simp)) _ _ _ _ ⟨.bl false, H, I, by show Value.bool _ = Value.bool _; simp, q⟩
  | cons r1 rr => exact SeqAt.RcNeAt.lists_lengths p.isList p2.isList (by simp) hu _ _ _ _ ⟨.bl true, H, I, rfl, q⟩

/-! ### xs.index(y) of flat values, where it is found -/
def rIndex (K : PySem.W.Frag) : V → List V → Hp → VK → Prop := fun x vs H Q => ∃ l xs y j, x = .ref l ∧ vs = [y] ∧ SqL K H l xs ∧ flatV y = true ∧ xs.all flatV = true ∧ j < xs.length ∧
  eqV (xs.getD j .non) y = true ∧ (∀ m, m < j → eqV (xs.getD m .non) y = false) ∧ Q (.int (j : Nat)) H
theorem eqU_at {xs : List V} {its : List Value} {j : Nat} {y : V} (r : Vals xs its) (f : xs.all flatV = true) (h : j < its.toArray.size) : eqU y its.toArray[j] = eqV (xs.getD j .non) y :=
  eqU_of (flat_at r f h).1 (flat_at r f h).2
theorem mt_index : MtM X "list.index" (rIndex X.K) := by
  intro pins s σ H x vs v us Q I rx rv h
  obtain ⟨l, xs, y, j, rfl, rfl, hq, fy, fs, hj, hit, hno, q⟩ := h
  cases rx
  obtain ⟨u, rfl, ru⟩ := rv.one
  obtain ⟨its, r, ⟨⟨cls, dd, data, sl⟩, n, e, hc, hd, hs⟩, hz⟩ := I.list hq
  simp only at hc hd hs
  subst hc hd hs
  have hl := r.length
  have h1 : j < its.toArray.size := by rw [List.size_toArray]; omega
  have hs1 : sizeLine = 16777216 := sizeLine_eq
  refine call_meets F.slot_list_index ⟨_, e, rfl⟩ F.entry_list_index (F.args_list_index_2 _ _)
    (SeqAt.list_indexAt l its.toArray n none sl u (eqU y) j h1 (by omega) (by rw [eqU_at r fs h1]; exact hit) fun m hm h2 => by rw [eqU_at r fs hm]; exact hno m h2)
    ⟨e, fun w hw => mem_eqAt ru fy r fs w (by simpa using hw), ?_⟩
  exact ⟨.int (j : Nat), H, I.tok _, ⟨_, rfl⟩, q⟩
end
end L2

set_option Elab.async false
set_option linter.all false
set_option maxRecDepth 100000
/-! list(reversed(xs)) -/
namespace Bw
open PySem PySem.Spec PyProof.Rows
theorem nolen_lri : typeLookup (.type "list_reverseiterator") "__len__" = pure none := by rw [typeLookup_type, builtinLookup_eq_fast]; kernel_rfl
theorem hint_lri : typeLookup (.type "list_reverseiterator") "__length_hint__" = pure (some (.builtin "list_reverseiterator.__length_hint__")) := by rw [typeLookup_type, builtinLookup_eq_fast]; kernel_rfl
section
variable {prog : Program} {w : World} {A : Around} {E : Value → Shared → Prop} {s : Shared} {I : Addr} {fp wr : List Addr} {G : Array GenState → Array GenState → Prop} {n : Nat} {P : Nat → Value → Prop} {St : Nat → Shared → Prop} {R : Result → Shared → Prop}
theorem extend_rev (W : WalksS prog w A.in1 I fp wr G n P St) (hT : ∀ i s, St i s → s.TypeIs (.ref I) "list_reverseiterator") (S : Addr) (res : Value) (c₀ : Nat) (hst : St 0 s) (hSf : S ∉ fp) (hI : I ∈ fp)
    (hS : s.heap.get? S = some { cls := .type "list", data := .seq #[] c₀ })
    (hR : ∀ s' acc' c', Moved (S :: wr) G s s' → s'.heap.get? S = some { cls := .type "list", dict := none, data := .seq acc' c', slots := #[] } → ItemsOf P acc' n → R (.ok (.ret res)) s') (hn : n ≤ sizeLine) :
    wpAny (model prog w) A.in1 (Builtin.List.listExtendWith (.ref S) (.ref I) res)
      (fun fin s' => match fin with | .done f => R (.ok f) s' | .again c' => c'.quiet = true ∧ codeAny (model prog w) A c' R s') (fun e s' => R (.error e) s') s := by
  have hSI : S ≠ I := fun e => hSf (e ▸ hI)
  have h1 : Builtin.List.listSameRef (.ref S) (.ref I) = false := by simp [Builtin.List.listSameRef, hSI]
  unfold Builtin.List.listExtendWith
  refine wpAny_bind (wpAny_typeOf (hT 0 _ hst) ?_)
  rw [if_neg (by rw [h1]; decide)]
  refine wpAny_bind (W.self 0 _ _ _ hst ?_)
  refine wpAny_bind (wpAny_holding ?_)
  unfold Builtin.List.listLengthHint
  refine wpAny_bind (wpAny_specialOf (hT 0 _ hst) nolen_lri ?_)
  show wpAny _ A.in1 (specialOf (Value.ref I) (Str.ofString "__length_hint__") >>= _) _ _ _
  refine wpAny_bind (wpAny_specialOf (hT 0 _ hst) hint_lri ?_)
  (generalize hid : ("list_reverseiterator.__length_hint__" : String) = id0; (fail_if_success (clear hid id0)); wp_delta; rw [show splitId id0 = some ("list_reverseiterator", "__length_hint__") from by subst hid; decide +kernel]; subst hid)
  refine wpAny_bind (wpAny_isInstance (b := true) (hT 0 _ hst) (by rw [isSubtype_type]; kernel_rfl) ?_)
  refine wpAny_pure ?_
  rw [if_neg (by decide)]
  exact wpAny_pure ⟨plainId_quiet F.plain_extend_loop _, codeAny_extend_loopS W hn _ hSf _ n 0 _ _ _ rfl (Nat.zero_le _) hst hS (ItemsOf.nil P) fun s' acc' c' hm hS' hacc => hR s' acc' c' hm hS' hacc⟩
theorem init_rev (W : WalksS prog w A.in1 I fp wr G n P St) (hT : ∀ i s, St i s → s.TypeIs (.ref I) "list_reverseiterator") (S : Addr) (hst : St 0 s) (hSf : S ∉ fp) (hI : I ∈ fp)
    (hS : s.heap.get? S = some { cls := .type "list", data := .seq #[] })
    (hR : ∀ s' acc' c', Moved (S :: wr) G s s' → s'.heap.get? S = some { cls := .type "list", dict := none, data := .seq acc' c', slots := #[] } → ItemsOf P acc' n → R (.ok (.ret .none)) s') (hn : n ≤ sizeLine) :
    wpAny (model prog w) A.in1 (Builtin.«list.__init__» ⟨[.ref S, .ref I], []⟩)
      (fun fin s' => match fin with | .done f => R (.ok f) s' | .again c' => c'.quiet = true ∧ codeAny (model prog w) A c' R s') (fun e s' => R (.error e) s') s := by
  show wpAny _ A.in1 (do let old ← Builtin.List.listItems (.ref S); Builtin.List.listUpdate (.ref S) (fun _ => #[]); letGo old.toList.reverse; Builtin.List.listExtendWith (.ref S) (.ref I) .none) _ _ s
  refine wpAny_bind ?_
  unfold Builtin.List.listItems
  refine wpAny_bind (wpAny_seqItems hS rfl (wpAny_pure ?_))
  show wpAny _ A.in1 (updateSeq S (fun _ => #[]) >>= fun _ => letGo (#[] : Array Value).toList.reverse >>= fun _ => Builtin.List.listExtendWith (.ref S) (.ref I) .none) _ _ s
  refine wpAny_bind (wpAny_updateSeq hS rfl ?_)
  have hS₂ := Heap.get?_update_self (Obj.mapSeq (fun _ => (#[] : Array Value))) hS rfl
  have oth : ∀ b o, b ≠ S → s.heap.get? b = some o → (s.heap.update S (Obj.mapSeq (fun _ => (#[] : Array Value)))).get? b = some o :=
    fun b o hb e => (Heap.get?_update_other _ _ (Ne.symm hb)).trans e
  refine wpAny_bind (wpAny_letGo ?_)
  refine extend_rev (hn := hn) W hT S .none _ (W.frame 0 s _ s.toks hst (Nat.le_refl _) fun b hb o e => oth b o (fun h => hSf (h ▸ hb)) e) hSf hI hS₂ fun s' acc' c' hm hS' hacc => ?_
  exact hR s' acc' c' (Moved.trans W.gtrans ((Moved.refl W.grefl).then_heap (Nat.le_refl _) fun b o hb e => oth b o (fun h => hb (h ▸ List.mem_cons_self)) e) hm) hS' hacc
end
section
variable {prog : Program} {w : World} {A : Around} {E : Value → Shared → Prop} {s : Shared} {I : Addr} {fp wr : List Addr} {G : Array GenState → Array GenState → Prop} {n : Nat} {P : Nat → Value → Prop} {St : Nat → Shared → Prop}
theorem list_rev {Q : Value → Shared → Prop} (W : WalksS prog w A.in1.in1 I fp wr G n P St) (hT : ∀ i s, St i s → s.TypeIs (.ref I) "list_reverseiterator") (hst : St 0 s) (hfp : ∀ b ∈ fp, b < s.heap.objs.size) (hI : I ∈ fp)
    (hQ : ∀ s' acc' c', Moved (s.heap.objs.size :: wr) G { s with heap := s.heap.push { cls := .type "list", data := .seq #[] } } s' →
      s'.heap.get? s.heap.objs.size = some { cls := .type "list", dict := none, data := .seq acc' c', slots := #[] } → ItemsOf P acc' n → Q (.ref s.heap.objs.size) s') (hn : n ≤ sizeLine) :
    wpAny (model prog w) A (call (.type "list") [.ref I]) Q E s := by
  have hSf : s.heap.objs.size ∉ fp := fun hm => Nat.lt_irrefl _ (hfp _ hm)
  refine callType_codes (Q₁ := fun obj s₁ => obj = .ref s.heap.objs.size ∧ s₁ = { s with heap := s.heap.push { cls := .type "list", data := .seq #[] } }) F.called_list (F.typeCall_list_1 _) F.entry_list_init
    (code_list_new _ ⟨rfl, rfl⟩) fun obj s₁ h₁ => ?_
  obtain ⟨rfl, rfl⟩ := h₁
  have hS : (s.heap.push { cls := .type "list", data := .seq #[] }).get? s.heap.objs.size = some { cls := .type "list", data := .seq #[] } := Heap.get?_push_size _ rfl
  refine ⟨⟨_, hS, rfl⟩, F.args_list_init_2 _ _, init_rev (hn := hn) W hT _ (W.frame 0 s _ s.toks hst (Nat.le_refl _) fun b _ o e => Heap.get?_push_of_some _ e) hSf hI hS fun s' acc' c' hm hS' hacc => ?_⟩
  exact ⟨rfl, hQ s' acc' c' hm hS' hacc⟩
end
end Bw
namespace L2
open PySem PySem.Spec PyProof.Rows
section
variable {X : Cx} {e : Expr} {te : TE} {p1 p2 pos1 pos2 : Pos}
def tListRev (K : PySem.W.Frag) (te : TE) : TE := fun σ H Q => te σ H fun x H1 => ∃ p ys, x = .ref p ∧ SqL K H1 p ys ∧ ∀ l, H1 l = none → Q (.ref l) (upd H1 l (.lst ys.reverse))
theorem pe_listrev (hc : X.calm = true) (hgL : Gl X "list") (hmL : X.mg "list" = none) (hgR : Gl X "reversed") (hmR : X.mg "reversed" = none) (he : PE X e te)
    (hs1 : starEach [e] X.env = [(false, eval e X.env)] := by rfl)
    (hs2 : starEach [.Call (.Name "reversed" p2) [e] [] pos2] X.env = [(false, eval (.Call (.Name "reversed" p2) [e] [] pos2) X.env)] := by rfl) :
    PE X (.Call (.Name "list" p1) [.Call (.Name "reversed" p2) [e] [] pos2] [] pos1) (tListRev X.K te) := by
  intro pins s σ H Q I h
  refine wpAny_Call_Name_kw (ld_blt I hgL hmL boot_list ?_)
  refine PyProof.Rows.callWith_type1 ?_ (by rw [hs2]; rfl) rfl
  rw [hs2]
  show wpAny _ _ (spliced ((false, eval (.Call (.Name "reversed" p2) [e] [] pos2) X.env) :: backTo pos1 (starEach [] X.env))) _ _ s
  refine Calls.spliced_cons ?_
  refine wpAny_Call_Name_kw (ld_blt I hgR hmR boot_reversed ?_)
  refine PyProof.Rows.callWith_type1 ?_ (by rw [hs1]; rfl) rfl
  rw [hs1]
  show wpAny _ _ (spliced ((false, eval e X.env) :: backTo pos2 (starEach [] X.env))) _ _ s
  refine Calls.spliced_cons (thn (he pins s σ H _ I h) fun u s1 ⟨x, H1, I1, r1, q1⟩ => ?_)
  obtain ⟨p, ys, rfl, hq, q⟩ := q1
  cases r1
  refine Calls.spliced_nil ?_
  obtain ⟨its, r, pl, hz⟩ := I1.list hq
  have hlen := r.length
  refine call_reversed_list pl.isList ?_
  refine Calls.spliced_nil ?_
  have hsz : its.toArray.size = its.length := by simp
  have hlt : p < s1.heap.objs.size := by obtain ⟨o, ho, _⟩ := pl.isList; exact Heap.lt_size ho
  have W := (Walks.listRev (prog := X.prog) (w := X.w) (A := X.A.in1.in1) (I1.ok.hd hc) s1.heap.objs.size p (Nat.ne_of_lt hlt) its.toArray).toS
  have hst : (0 : Nat) ≤ its.toArray.size ∧ (s1.heap.push (revObj p ((its.toArray.size : Int) - 1))).IsRevIter s1.heap.objs.size p ((its.toArray.size : Int) - 1 - ((0 : Nat) : Int)) ∧ (s1.heap.push (revObj p ((its.toArray.size : Int) - 1))).IsList p its.toArray := by
    refine ⟨Nat.zero_le _, ⟨_, Heap.get?_push_size _ rfl, rfl, by simp [revObj]⟩, ?_⟩
    obtain ⟨o, ho, rr⟩ := pl.isList
    exact ⟨o, Heap.get?_push_of_some _ ho, rr⟩
  refine Bw.list_rev (s := { s1 with heap := s1.heap.push (revObj p ((its.toArray.size : Int) - 1)) }) W (fun i s' st => st.2.1.typeIs) hst (fun b hb => ?_) (by simp) (fun s' acc' c' hm hS' hacc => ?_) (by rw [hsz, ← hlen]; exact hz)
  · show b < (s1.heap.push _).objs.size
    rw [Heap.size_push]
    rcases List.mem_cons.mp hb with rfl | hb
    · exact Nat.lt_succ_self _
    · rw [List.mem_singleton.mp hb]; exact Nat.lt_succ_of_lt hlt
  · have eS : (s1.heap.push (revObj p ((its.toArray.size : Int) - 1))).objs.size = s1.heap.objs.size + 1 := Heap.size_push _ _
    have kp : ∀ b o, s1.heap.get? b = some o → s'.heap.get? b = some o := fun b o eb => by
      have hb := Heap.lt_size eb
      refine hm.heap b o (fun z => ?_) (Heap.get?_push_of_some _ (Heap.get?_push_of_some _ eb))
      rcases List.mem_cons.mp z with z | z
      · rw [z] at hb
        have : s1.heap.objs.size + 1 < s1.heap.objs.size := by rw [← eS]; exact hb
        omega
      · rw [List.mem_singleton.mp z] at hb; exact absurd hb (Nat.lt_irrefl _)
    have vs : Vals ys.reverse acc'.toList := by
      have e1 : acc'.toList = its.reverse := by
        apply List.ext_getElem?
        intro j
        obtain ⟨a1, a2⟩ := hacc
        by_cases hj : j < its.length
        · have hj2 : j < acc'.size := by omega
          have e3 : acc'[j]? = some acc'[j] := by simp [hj2]
          have e4 : its.toArray[its.toArray.size - 1 - j]? = some acc'[j] := a2 j _ e3
          have e5 : its.toArray[its.toArray.size - 1 - j]? = its[its.length - 1 - j]? := by simp
          rw [e5] at e4
          rw [List.getElem?_reverse hj, e4, ← e3]
          simp
        · rw [List.getElem?_eq_none (by simp; omega), List.getElem?_eq_none (by simp; omega)]
      rw [e1]
      exact r.reverse
    refine ⟨.ref (s1.heap.push (revObj p ((its.toArray.size : Int) - 1))).objs.size, upd H1 (s1.heap.push (revObj p ((its.toArray.size : Int) - 1))).objs.size (.lst ys.reverse), ?_, rfl, q _ (I1.hok.fresh (by rw [eS]; exact Nat.le_succ _))⟩
    have es0 := Moved.eq_with hm
    have es : s' = { s1 with heap := s'.heap, toks := s'.toks } := es0
    rw [es]
    refine I1.laid (t' := s'.toks) kp (by rw [eS]; exact Nat.le_succ _) ?_
    exact ⟨by rw [List.length_reverse]; exact hz, acc'.toList, c', vs, by simpa using hS'⟩
end
end L2

set_option Elab.async false
set_option linter.all false
set_option maxRecDepth 100000
/-! Lists of pairs of ints on the abstract heap, and small helps. -/
namespace Bw
open PySem L2
/-- a pair of ints stands at r -/
def TupP (H : Hp) (r : Addr) (p : Int × Int) : Prop := H r = some (.tup [.int p.1, .int p.2])
abbrev TupsP (H : Hp) : List Addr → List (Int × Int) → Prop := Paired (TupP H)
theorem TupsP.same {H H' : Hp} (s : Same H H') {rs : List Addr} {ps : List (Int × Int)} (h : TupsP H rs ps) : TupsP H' rs ps := L2.Paired.mapP h fun a b e => s a _ e
theorem TupsP.tups {H H' : Hp} (s : ∀ r xs, H r = some (.tup xs) → H' r = some (.tup xs)) {rs : List Addr} {ps : List (Int × Int)} (h : TupsP H rs ps) : TupsP H' rs ps := L2.Paired.mapP h fun a b e => s a _ e
theorem Paired_get {α β : Type} {F : α → β → Prop} : ∀ {l : List α} {k : List β} {i : Nat} {a : α}, Paired F l k → l[i]? = some a → ∃ b, k[i]? = some b ∧ F a b
  | _, _, _, _, .nil, e => by simp at e
  | _, _, 0, _, .cons r _, e => by simp at e; subst e; exact ⟨_, rfl, r⟩
  | _, _, i + 1, a, .cons _ t, e => by
    obtain ⟨b, h1, h2⟩ := Paired_get (i := i) (a := a) t (by simpa using e)
    exact ⟨b, by simpa using h1, h2⟩
theorem TupsP.get {H : Hp} {rs : List Addr} {ps : List (Int × Int)} {i : Nat} {x : V} (h : TupsP H rs ps) (e : (rs.map V.ref)[i]? = some x) : ∃ r p, x = .ref r ∧ ps[i]? = some p ∧ rs[i]? = some r ∧ TupP H r p := by
  rw [List.getElem?_map] at e
  cases er : rs[i]? with
  | none => rw [er] at e; cases e
  | some r =>
    rw [er] at e
    obtain ⟨p, e1, e2⟩ := Paired_get h er
    exact ⟨r, p, (Option.some.inj e).symm, e1, rfl, e2⟩
theorem TupsP.at {H : Hp} {rs : List Addr} {ps : List (Int × Int)} {i : Nat} (h : TupsP H rs ps) (hi : i < ps.length) : ∃ r p, (rs.map V.ref)[i]? = some (.ref r) ∧ ps[i]? = some p ∧ TupP H r p := by
  have hl := h.length
  have hr : i < (rs.map V.ref).length := by rw [List.length_map]; omega
  have e0 : (rs.map V.ref)[i]? = some (rs.map V.ref)[i] := List.getElem?_eq_getElem hr
  obtain ⟨r, p, e1, e2, _, e4⟩ := h.get e0
  refine ⟨r, p, ?_, e2, e4⟩
  rw [← e1]
  exact e0
theorem same_upd {H : Hp} {l : Addr} {o : HO} (h : H l = none) : Same H (upd H l o) := fun b u e => by
  rw [upd_ne (ne_of_none e h)]
  exact e
theorem same_updN {H H1 : Hp} {l : Addr} {o : HO} (s : Same H H1) (h : H l = none) : Same H (upd H1 l o) := fun b u e => by
  rw [upd_ne (ne_of_none e h)]
  exact s b u e
theorem take_snoc {α : Type} {l : List α} {i : Nat} {a : α} (h : l[i]? = some a) : l.take (i + 1) = l.take i ++ [a] := by
  rw [List.take_add_one, h]
  rfl
theorem small_of {n m : Nat} (h : n ≤ m) (hm : m ≤ 100000) : n < sizeLine := by
  have : sizeLine = 16777216 := sizeLine_eq
  omega
theorem atI_nat' {xs : List V} {i : Nat} {x : V} (h : xs[i]? = some x) : atI xs (i : Int) = some x := by
  have hi := (List.getElem?_eq_some_iff.mp h).1
  unfold atI ixN
  rw [if_pos (by omega), if_pos (by omega)]
  simpa using h
theorem nofreeX {X : Cx} {sc : Scope} (h : ∀ y ∈ sc.names, y.2 ≠ .free) : ∀ x ∈ sc.names, x.2 = .free → X.env.scope.names.lookup x.1 = some .cell := fun x hx hf => absurd hf (h x hx)
/-! ### isinstance's answers -/
section
variable {K : PySem.W.Frag}
theorem kit_same {T : String} : PySem.W.kitOne K (.type T) (.type T) = some true := by
  unfold PySem.W.kitOne
  rw [if_pos (beq_self_eq_true _)]
theorem kit_int_bool : PySem.W.kitOne K (.type "int") (.type "bool") = some false := by
  unfold PySem.W.kitOne
  rw [if_neg (by decide)]
  show (if PySem.W.kitMeta "bool" = true then (fastBuiltinMro "int").map (·.contains (.type "bool")) else none) = some false
  decide +kernel
end
/-! ### what a tick does to a slot's pairs -/
def ring (ps : List (Int × Int)) : List V := (ps.filter fun p => decide (p.2 = 0)).map fun p => .int p.1
def wait (ps : List (Int × Int)) : List (Int × Int) := (ps.filter fun p => !decide (p.2 = 0)).map fun p => (p.1, p.2 - 1)
theorem ring_in {ps : List (Int × Int)} {p : Int × Int} (h : p.2 = 0) : ring (ps ++ [p]) = ring ps ++ [.int p.1] := by
  unfold ring; simp [List.filter_append, h]
theorem ring_out {ps : List (Int × Int)} {p : Int × Int} (h : ¬ p.2 = 0) : ring (ps ++ [p]) = ring ps := by
  unfold ring; simp [List.filter_append, h]
theorem wait_in {ps : List (Int × Int)} {p : Int × Int} (h : ¬ p.2 = 0) : wait (ps ++ [p]) = wait ps ++ [(p.1, p.2 - 1)] := by
  unfold wait; simp [List.filter_append, h]
theorem wait_out {ps : List (Int × Int)} {p : Int × Int} (h : p.2 = 0) : wait (ps ++ [p]) = wait ps := by
  unfold wait; simp [List.filter_append, h]
theorem ring_len (ps : List (Int × Int)) : (ring ps).length ≤ ps.length := by
  unfold ring; rw [List.length_map]; exact List.length_filter_le _ _
theorem wait_len (ps : List (Int × Int)) : (wait ps).length ≤ ps.length := by
  unfold wait; rw [List.length_map]; exact List.length_filter_le _ _
/-- ticked's promise: a slot is handed in; the pair of the numbers that ring and of the slot behind -/
def spTicked (K : PySem.W.Frag) : Sp := fun vs H Q _ => ∃ (a : Addr) (rs : List Addr) (ps : List (Int × Int)), vs = [.ref a] ∧ SqL K H a (rs.map V.ref) ∧ TupsP H rs ps ∧ ps.length ≤ 1000 ∧
  ∀ (r l1 l2 : Addr) (qs : List Addr) (H' : Hp), Same H H' → H r = none → H l1 = none → H l2 = none → l1 ≠ l2 → H' r = some (.tup [.ref l1, .ref l2]) → H' l1 = some (.lst (ring ps)) → H' l2 = some (.lst (qs.map V.ref)) →
    TupsP H' qs (wait ps) → Q (.ref r) H'
end Bw

/-! The plain list of times and the slots of a wheel: mathematics alone. ws: the bells that wait, (number, the tick at which it rings), in the order of being set or last put off. -/
namespace BwM
theorem count_hit {z m : Int} (hz : 0 < z) (h : m % z = 0) : (m - 1) / z = m / z - 1 := by
  have e : m - 1 = (z - 1) + z * (m / z - 1) := by
    have := Int.mul_ediv_add_emod m z
    rw [Int.mul_sub]; omega
  rw [e, Int.add_mul_ediv_left _ _ (by omega), Int.ediv_eq_zero_of_lt (by omega) (by omega)]; omega
theorem count_miss {z m : Int} (hz : 0 < z) (h : ¬ m % z = 0) : (m - 1) / z = m / z := by
  have a := Int.emod_nonneg m (show z ≠ 0 by omega)
  have b := Int.emod_lt_of_pos m hz
  have e : m - 1 = (m % z - 1) + z * (m / z) := by
    have := Int.mul_ediv_add_emod m z
    omega
  rw [e, Int.add_mul_ediv_left _ _ (by omega), Int.ediv_eq_zero_of_lt (by omega) (by omega)]; omega
theorem same_rest {z x y : Int} : x % z = y % z ↔ (x - y) % z = 0 := by
  rw [Int.emod_eq_emod_iff_emod_sub_eq_zero]
abbrev W := List (Int × Int)
/-- what slot j holds behind the tick now -/
def slot (z now j : Int) (ws : W) : List (Int × Int) := (ws.filter fun p => decide (p.2 % z = j)).map fun p => (p.1, (p.2 - now - 1) / z)
/-- the bells of the tick t, in order -/
def due (t : Int) (ws : W) : List Int := (ws.filter fun p => decide (p.2 = t)).map (·.1)
def rest (t : Int) (ws : W) : W := ws.filter fun p => !decide (p.2 = t)
def ringN (ps : List (Int × Int)) : List Int := (ps.filter fun p => decide (p.2 = 0)).map (·.1)
def waitN (ps : List (Int × Int)) : List (Int × Int) := (ps.filter fun p => !decide (p.2 = 0)).map fun p => (p.1, p.2 - 1)
/-- a bell of the slot that is looked at next: no turns just where it rings then -/
theorem turn_zero {z now m : Int} (hz : 0 < z) (h : now < m) (e : m % z = (now + 1) % z) : (m - now - 1) / z = 0 ↔ m = now + 1 := by
  have d : (m - (now + 1)) % z = 0 := same_rest.mp e
  have d' : (m - now - 1) % z = 0 := by rw [show m - now - 1 = m - (now + 1) by omega]; exact d
  constructor
  · intro q
    have := Int.mul_ediv_add_emod (m - now - 1) z
    rw [q, d', Int.mul_zero] at this
    omega
  · intro q
    rw [q, show now + 1 - now - 1 = 0 by omega, Int.zero_ediv]
theorem turn_less {z now m : Int} (hz : 0 < z) (e : m % z = (now + 1) % z) : (m - (now + 1) - 1) / z = (m - now - 1) / z - 1 := by
  have d : (m - (now + 1)) % z = 0 := same_rest.mp e
  have := count_hit hz d
  rw [this, show m - (now + 1) = m - now - 1 by omega]
theorem turn_same {z now m : Int} (hz : 0 < z) (e : ¬ m % z = (now + 1) % z) : (m - (now + 1) - 1) / z = (m - now - 1) / z := by
  have d : ¬ (m - (now + 1)) % z = 0 := fun q => e (same_rest.mpr q)
  have := count_miss hz d
  rw [this, show m - (now + 1) = m - now - 1 by omega]
theorem ring_slot {z now : Int} (hz : 0 < z) : ∀ (ws : W), (∀ p ∈ ws, now < p.2) → ringN (slot z now ((now + 1) % z) ws) = due (now + 1) ws
  | [], _ => rfl
  | p :: ws, h => by
    have ih := ring_slot hz ws fun q hq => h q (List.mem_cons_of_mem _ hq)
    have hp := h p List.mem_cons_self
    unfold ringN slot due at ih ⊢
    by_cases e : p.2 % z = (now + 1) % z
    · rw [List.filter_cons_of_pos (by simpa using e), List.map_cons]
      have tz := turn_zero hz hp e
      by_cases q : p.2 = now + 1
      · rw [List.filter_cons_of_pos (by simpa using tz.mpr q), List.filter_cons_of_pos (by simpa using q), List.map_cons, List.map_cons, ih]
      · rw [List.filter_cons_of_neg (by simpa using fun y => q (tz.mp y)), List.filter_cons_of_neg (by simpa using q), ih]
    · have q : ¬ p.2 = now + 1 := fun y => e (by rw [y])
      rw [List.filter_cons_of_neg (by simpa using e), List.filter_cons_of_neg (by simpa using q), ih]
theorem wait_slot {z now : Int} (hz : 0 < z) : ∀ (ws : W), (∀ p ∈ ws, now < p.2) → waitN (slot z now ((now + 1) % z) ws) = slot z (now + 1) ((now + 1) % z) (rest (now + 1) ws)
  | [], _ => rfl
  | p :: ws, h => by
    have ih := wait_slot hz ws fun q hq => h q (List.mem_cons_of_mem _ hq)
    have hp := h p List.mem_cons_self
    unfold waitN slot rest at ih ⊢
    by_cases e : p.2 % z = (now + 1) % z
    · rw [List.filter_cons_of_pos (by simpa using e), List.map_cons]
      have tz := turn_zero hz hp e
      by_cases q : p.2 = now + 1
      · rw [List.filter_cons_of_neg (by simpa using tz.mpr q), List.filter_cons_of_neg (p := fun p : Int × Int => !decide (p.2 = now + 1)) (by simpa using q), ih]
      · rw [List.filter_cons_of_pos (by simpa using fun y => q (tz.mp y)), List.filter_cons_of_pos (p := fun p : Int × Int => !decide (p.2 = now + 1)) (by simpa using q), List.filter_cons_of_pos (by simpa using e), List.map_cons, List.map_cons, ih, turn_less hz e]
    · have q : ¬ p.2 = now + 1 := fun y => e (by rw [y])
      rw [List.filter_cons_of_neg (by simpa using e), List.filter_cons_of_pos (p := fun p : Int × Int => !decide (p.2 = now + 1)) (by simpa using q), List.filter_cons_of_neg (by simpa using e), ih]
theorem other_slot {z now j : Int} (hz : 0 < z) (hj : j ≠ (now + 1) % z) : ∀ (ws : W), slot z (now + 1) j (rest (now + 1) ws) = slot z now j ws
  | [] => rfl
  | p :: ws => by
    have ih := other_slot hz hj ws
    unfold slot rest at ih ⊢
    by_cases q : p.2 = now + 1
    · have e : ¬ p.2 % z = j := fun y => hj (by rw [← y, q])
      rw [List.filter_cons_of_neg (p := fun p : Int × Int => !decide (p.2 = now + 1)) (by simpa using q), ih, List.filter_cons_of_neg (by simpa using e)]
    · rw [List.filter_cons_of_pos (p := fun p : Int × Int => !decide (p.2 = now + 1)) (by simpa using q)]
      by_cases e : p.2 % z = j
      · have e2 : ¬ p.2 % z = (now + 1) % z := fun y => hj (by rw [← e, y])
        rw [List.filter_cons_of_pos (by simpa using e), List.filter_cons_of_pos (by simpa using e), List.map_cons, List.map_cons, ih, turn_same hz e2]
      · rw [List.filter_cons_of_neg (by simpa using e), List.filter_cons_of_neg (by simpa using e), ih]
/-- a bell more -/
theorem slot_snoc_in {z now j : Int} {ws : W} {p : Int × Int} (h : p.2 % z = j) : slot z now j (ws ++ [p]) = slot z now j ws ++ [(p.1, (p.2 - now - 1) / z)] := by
  unfold slot; simp [List.filter_append, h]
theorem slot_snoc_out {z now j : Int} {ws : W} {p : Int × Int} (h : ¬ p.2 % z = j) : slot z now j (ws ++ [p]) = slot z now j ws := by
  unfold slot; simp [List.filter_append, h]
/-- a bell off -/
def drop (n : Int) (ws : W) : W := ws.filter fun p => !decide (p.1 = n)
theorem slot_drop (z now j n : Int) (ws : W) : slot z now j (drop n ws) = (slot z now j ws).filter fun p => !decide (p.1 = n) := by
  unfold slot drop
  rw [List.filter_filter, List.filter_map, List.filter_filter]
  congr 1
  apply List.filter_congr
  intro p _
  simp [Bool.and_comm]
/-- the first place of a number among the bells: taken off there, as with all of it, the numbers standing once -/
theorem erase_drop {n : Int} : ∀ (ws : W) (i : Nat) (p : Int × Int), (ws.map (·.1)).Nodup → ws[i]? = some p → p.1 = n → ws.eraseIdx i = drop n ws
  | [], i, p, _, h, _ => by simp at h
  | q :: ws, 0, p, nd, h, e => by
    simp at h; subst h
    rw [List.map_cons, List.nodup_cons] at nd
    unfold drop
    rw [List.eraseIdx_zero, List.tail_cons, List.filter_cons_of_neg (by simpa using e)]
    refine (List.filter_eq_self.mpr fun r hr => ?_).symm
    have : r.1 ≠ q.1 := fun y => nd.1 (by rw [← y]; exact List.mem_map_of_mem hr)
    simp only [Bool.not_eq_true', decide_eq_false_iff_not]
    rw [← e]; exact this
  | q :: ws, i + 1, p, nd, h, e => by
    rw [List.map_cons, List.nodup_cons] at nd
    have h' : ws[i]? = some p := by simpa using h
    have ih := erase_drop (n := n) ws i p nd.2 h' e
    have hq : q.1 ≠ n := fun y => nd.1 (by rw [y, ← e]; exact List.mem_map_of_mem (List.mem_of_getElem? h'))
    unfold drop at ih ⊢
    rw [List.eraseIdx_cons_succ, ih, List.filter_cons_of_pos (by simpa using hq)]
end BwM

namespace BwM
theorem fold_drop : ∀ (ns : List Int) (ws : W), ns.foldl (fun w n => drop n w) ws = ws.filter fun p => !ns.contains p.1
  | [], ws => (List.filter_eq_self.mpr fun p _ => by simp).symm
  | n :: ns, ws => by
    rw [List.foldl_cons, fold_drop ns]
    unfold drop
    rw [List.filter_filter]
    apply List.filter_congr
    intro p _
    by_cases h : p.1 = n <;> simp [h]
theorem mem_due {t n : Int} {ws : W} : n ∈ due t ws ↔ ∃ p ∈ ws, p.2 = t ∧ p.1 = n := by
  unfold due
  rw [List.mem_map]
  constructor
  · rintro ⟨p, hp, e⟩
    have h := List.mem_filter.mp hp
    exact ⟨p, h.1, of_decide_eq_true h.2, e⟩
  · rintro ⟨p, hp, h, e⟩
    exact ⟨p, List.mem_filter.mpr ⟨hp, decide_eq_true h⟩, e⟩
theorem once {ws : W} (nd : (ws.map (·.1)).Nodup) {p q : Int × Int} (hp : p ∈ ws) (hq : q ∈ ws) (e : p.1 = q.1) : p = q := by
  induction ws with
  | nil => cases hp
  | cons r ws ih =>
    rw [List.map_cons, List.nodup_cons] at nd
    rcases List.mem_cons.mp hp with h1 | h1
    · rcases List.mem_cons.mp hq with h2 | h2
      · rw [h1, h2]
      · exact absurd (by rw [← h1, e]; exact List.mem_map_of_mem h2) nd.1
    · rcases List.mem_cons.mp hq with h2 | h2
      · exact absurd (by rw [← h2, ← e]; exact List.mem_map_of_mem h1) nd.1
      · exact ih nd.2 h1 h2
/-- the bells of a tick taken off one by one: the others stay -/
theorem fold_due {t : Int} {ws : W} (nd : (ws.map (·.1)).Nodup) : (due t ws).foldl (fun w n => drop n w) ws = rest t ws := by
  rw [fold_drop]
  unfold rest
  apply List.filter_congr
  intro p hp
  by_cases h : p.2 = t
  · have : p.1 ∈ due t ws := mem_due.mpr ⟨p, hp, h, rfl⟩
    simp [h, this]
  · have : p.1 ∉ due t ws := fun y => by
      obtain ⟨q, hq, e1, e2⟩ := mem_due.mp y
      have := once nd hp hq e2.symm
      subst this
      exact h e1
    simp [h, this]
theorem nodup_filter {ws : W} {f : Int × Int → Bool} (nd : (ws.map (·.1)).Nodup) : ((ws.filter f).map (·.1)).Nodup := nd.sublist (List.Sublist.map _ List.filter_sublist)
theorem nodup_drop {n : Int} {ws : W} (nd : (ws.map (·.1)).Nodup) : ((drop n ws).map (·.1)).Nodup := nodup_filter nd
theorem nodup_rest {t : Int} {ws : W} (nd : (ws.map (·.1)).Nodup) : ((rest t ws).map (·.1)).Nodup := nodup_filter nd
theorem nodup_snoc {ws : W} {p : Int × Int} (nd : (ws.map (·.1)).Nodup) (h : p.1 ∉ ws.map (·.1)) : ((ws ++ [p]).map (·.1)).Nodup := by
  rw [List.map_append, List.nodup_append]
  refine ⟨nd, by simp, fun a ha b hb e => ?_⟩
  simp at hb
  subst hb; subst e
  exact h ha
theorem not_in_drop {n : Int} {ws : W} : n ∉ (drop n ws).map (·.1) := fun h => by
  obtain ⟨p, hp, e⟩ := List.mem_map.mp h
  have := (List.mem_filter.mp hp).2
  simp [e] at this
end BwM

/-! A day by the plain list of times. -/
namespace BwM
inductive Deed where
  | set (after : Int)
  | off (number after : Int)
  | strike (number : Int)
  | tick (many : Int)
inductive Ans where
  | num (n : Int)
  | yes
  | noBell
  | noTicks
  | rings (ps : List (Int × Int))
structure Day where
  ws : W
  now : Int
  came : Int
/-- one tick: what rings, with the tick -/
def tick1 (s : Day) : Day := { s with ws := rest (s.now + 1) s.ws, now := s.now + 1 }
def rung1 (s : Day) : List (Int × Int) := (due (s.now + 1) s.ws).map fun n => (s.now + 1, n)
def ticks : Nat → Day → Day
  | 0, s => s
  | k + 1, s => ticks k (tick1 s)
def rungs : Nat → Day → List (Int × Int)
  | 0, _ => []
  | k + 1, s => rung1 s ++ rungs k (tick1 s)
theorem ticks_succ (k : Nat) : ∀ s : Day, ticks (k + 1) s = tick1 (ticks k s) := by
  induction k with
  | zero => intro s; rfl
  | succ k ih => intro s; rw [ticks, ih]; rfl
theorem rungs_succ (k : Nat) : ∀ s : Day, rungs (k + 1) s = rungs k s ++ rung1 (ticks k s) := by
  induction k with
  | zero => intro s; simp [rungs, ticks]
  | succ k ih => intro s; rw [rungs, ih, rungs, List.append_assoc]; rfl
def waits (s : Day) (n : Int) : Prop := n ∈ s.ws.map (·.1)
instance (s : Day) (n : Int) : Decidable (waits s n) := by unfold waits; infer_instance
def next (s : Day) : Deed → Day
  | .set a => if a < 1 then s else { s with ws := s.ws ++ [(s.came, s.now + a)], came := s.came + 1 }
  | .off n a => if ¬ waits s n then s else if a < 1 then s else { s with ws := drop n s.ws ++ [(n, s.now + a)] }
  | .strike n => if ¬ waits s n then s else { s with ws := drop n s.ws }
  | .tick m => ticks m.toNat s
def told (s : Day) : Deed → Ans
  | .set a => if a < 1 then .noTicks else .num s.came
  | .off n a => if ¬ waits s n then .noBell else if a < 1 then .noTicks else .yes
  | .strike n => if ¬ waits s n then .noBell else .yes
  | .tick m => .rings (rungs m.toNat s)
theorem next_set (s : Day) (a : Int) : next s (.set a) = if a < 1 then s else { s with ws := s.ws ++ [(s.came, s.now + a)], came := s.came + 1 } := rfl
theorem next_off (s : Day) (n a : Int) : next s (.off n a) = if ¬ waits s n then s else if a < 1 then s else { s with ws := drop n s.ws ++ [(n, s.now + a)] } := rfl
theorem next_strike (s : Day) (n : Int) : next s (.strike n) = if ¬ waits s n then s else { s with ws := drop n s.ws } := rfl
def day0 : Day := ⟨[], 0, 0⟩
def days (ds : List Deed) (s : Day) : Day := ds.foldl next s
def tolds : List Deed → Day → List Ans
  | [], _ => []
  | d :: ds, s => told s d :: tolds ds (next s d)
theorem days_snoc (ds : List Deed) (d : Deed) (s : Day) : days (ds ++ [d]) s = next (days ds s) d := by unfold days; rw [List.foldl_append]; rfl
theorem tolds_snoc (d : Deed) : ∀ (ds : List Deed) (s : Day), tolds (ds ++ [d]) s = tolds ds s ++ [told (days ds s) d]
  | [], s => rfl
  | e :: ds, s => by
    show told s e :: tolds (ds ++ [d]) (next s e) = told s e :: (tolds ds (next s e) ++ [told (days (e :: ds) s) d])
    rw [tolds_snoc d ds]
    rfl
theorem tolds_len : ∀ (ds : List Deed) (s : Day), (tolds ds s).length = ds.length
  | [], _ => rfl
  | _ :: ds, s => congrArg (· + 1) (tolds_len ds _)
/-- what holds of a day between two deeds -/
structure Good (s : Day) : Prop where
  nd : (s.ws.map (·.1)).Nodup
  later : ∀ p ∈ s.ws, s.now < p.2
  nums : ∀ p ∈ s.ws, 0 ≤ p.1 ∧ p.1 < s.came
  came : 0 ≤ s.came
theorem good0 : Good day0 := ⟨List.nodup_nil, (fun _ h => nomatch h), (fun _ h => nomatch h), Int.le_refl 0⟩
theorem Good.tick1 {s : Day} (g : Good s) : Good (tick1 s) := by
  refine ⟨nodup_rest g.nd, fun p hp => ?_, fun p hp => g.nums p (List.mem_filter.mp hp).1, g.came⟩
  have h := List.mem_filter.mp hp
  have h1 := g.later p h.1
  have h2 : ¬ p.2 = s.now + 1 := by simpa using h.2
  show s.now + 1 < p.2
  omega
theorem Good.ticks : ∀ (k : Nat) {s : Day}, Good s → Good (ticks k s)
  | 0, _, g => g
  | k + 1, _, g => Good.ticks k g.tick1
theorem Good.next {s : Day} (g : Good s) : ∀ d : Deed, Good (next s d)
  | .set a => by
    rw [next_set]
    by_cases h : a < 1
    · rw [if_pos h]; exact g
    · rw [if_neg h]
      refine ⟨nodup_snoc g.nd fun hm => ?_, fun p hp => ?_, fun p hp => ?_, by have := g.came; show 0 ≤ s.came + 1; omega⟩
      · obtain ⟨p, hp, e⟩ := List.mem_map.mp hm
        have := g.nums p hp
        have e' : p.1 = s.came := e
        omega
      · rcases List.mem_append.mp hp with hp | hp
        · exact g.later p hp
        · rw [List.mem_singleton.mp hp]; show s.now < s.now + a; omega
      · have := g.came
        rcases List.mem_append.mp hp with hp | hp
        · have := g.nums p hp; show 0 ≤ p.1 ∧ p.1 < s.came + 1; omega
        · rw [List.mem_singleton.mp hp]; show 0 ≤ s.came ∧ s.came < s.came + 1; omega
  | .off n a => by
    rw [next_off]
    by_cases hw : waits s n
    · rw [if_neg (show ¬ ¬ waits s n from fun y => y hw)]
      by_cases h : a < 1
      · rw [if_pos h]; exact g
      · rw [if_neg h]
        refine ⟨nodup_snoc (nodup_drop g.nd) not_in_drop, fun p hp => ?_, fun p hp => ?_, g.came⟩
        · rcases List.mem_append.mp hp with hp | hp
          · exact g.later p (List.mem_filter.mp hp).1
          · rw [List.mem_singleton.mp hp]; show s.now < s.now + a; omega
        · rcases List.mem_append.mp hp with hp | hp
          · exact g.nums p (List.mem_filter.mp hp).1
          · obtain ⟨q, hq, e⟩ := List.mem_map.mp hw
            have := g.nums q hq
            rw [List.mem_singleton.mp hp]; show 0 ≤ n ∧ n < s.came
            have e' : q.1 = n := e
            omega
    · rw [if_pos hw]; exact g
  | .strike n => by
    rw [next_strike]
    by_cases hw : waits s n
    · rw [if_neg (show ¬ ¬ waits s n from fun y => y hw)]
      exact ⟨nodup_drop g.nd, fun p hp => g.later p (List.mem_filter.mp hp).1, fun p hp => g.nums p (List.mem_filter.mp hp).1, g.came⟩
    · rw [if_pos hw]; exact g
  | .tick m => Good.ticks _ g
theorem Good.days : ∀ (ds : List Deed) {s : Day}, Good s → Good (days ds s)
  | [], _, g => g
  | d :: ds, _, g => Good.days ds (g.next d)
end BwM
namespace BwM
theorem not_in_take {α : Type} : ∀ {l : List α} {i : Nat} {a : α}, l.Nodup → l[i]? = some a → a ∉ l.take i
  | [], _, _, _, h => by simp at h
  | b :: l, 0, a, _, _ => by simp
  | b :: l, i + 1, a, nd, h => by
    rw [List.nodup_cons] at nd
    have h' : l[i]? = some a := by simpa using h
    rw [List.take_succ_cons, List.mem_cons]
    rintro (e | e)
    · exact nd.1 (by rw [← e]; exact List.mem_of_getElem? h')
    · exact not_in_take nd.2 h' e
theorem due_nodup {t : Int} {ws : W} (nd : (ws.map (·.1)).Nodup) : (due t ws).Nodup := nodup_filter nd
/-- a bell of the tick that is not taken off yet -/
theorem due_still {t n : Int} {ws : W} {i : Nat} (nd : (ws.map (·.1)).Nodup) (h : (due t ws)[i]? = some n) : n ∈ (((due t ws).take i).foldl (fun w n => drop n w) ws).map (·.1) := by
  have hn := not_in_take (due_nodup (t := t) nd) h
  obtain ⟨p, hp, _, e⟩ := mem_due.mp (List.mem_of_getElem? h)
  rw [fold_drop]
  refine List.mem_map.mpr ⟨p, List.mem_filter.mpr ⟨hp, ?_⟩, e⟩
  simp only [Bool.not_eq_true', List.contains_eq_mem, decide_eq_false_iff_not]
  rw [e]
  exact hn
theorem nodup_fold {ws : W} (ns : List Int) (nd : (ws.map (·.1)).Nodup) : ((ns.foldl (fun w n => drop n w) ws).map (·.1)).Nodup := by
  rw [fold_drop]
  exact nodup_filter nd
theorem len_fold (ws : W) (ns : List Int) : (ns.foldl (fun w n => drop n w) ws).length ≤ ws.length := by
  rw [fold_drop]
  exact List.length_filter_le _ _
theorem due_len (t : Int) (ws : W) : (due t ws).length ≤ ws.length := by
  unfold due; rw [List.length_map]; exact List.length_filter_le _ _
theorem due_in {t : Int} {ws : W} {p : Int × Int} (h : p.2 = t) : due t (ws ++ [p]) = due t ws ++ [p.1] := by
  unfold due; simp [List.filter_append, h]
theorem due_out {t : Int} {ws : W} {p : Int × Int} (h : ¬ p.2 = t) : due t (ws ++ [p]) = due t ws := by
  unfold due; simp [List.filter_append, h]
end BwM

set_option Elab.async false
set_option linter.all false
set_option maxRecDepth 100000
/-! Deeds, answers and the law's plain list of times on the abstract heap; what the law's own defs promise. -/
namespace Bw
open PySem L2 BwM
/-- a deed stands at r -/
def DeedP (H : Hp) (r : Addr) : Deed → Prop
  | .set a => H r = some (.tup [.str "set", .int a])
  | .off n a => H r = some (.tup [.str "off", .int n, .int a])
  | .strike n => H r = some (.tup [.str "strike", .int n])
  | .tick m => H r = some (.tup [.str "tick", .int m])
theorem DeedP.same {H H' : Hp} {r : Addr} (s : ∀ xs, H r = some (.tup xs) → H' r = some (.tup xs)) : ∀ {d : Deed}, DeedP H r d → DeedP H' r d
  | .set _, h => s _ h
  | .off _ _, h => s _ h
  | .strike _, h => s _ h
  | .tick _, h => s _ h
theorem DeedP.tup {H : Hp} {r : Addr} : ∀ {d : Deed}, DeedP H r d → ∃ xs, H r = some (.tup xs)
  | .set _, h => ⟨_, h⟩
  | .off _ _, h => ⟨_, h⟩
  | .strike _, h => ⟨_, h⟩
  | .tick _, h => ⟨_, h⟩
abbrev DeedsP (H : Hp) : List Addr → List Deed → Prop := Paired (DeedP H)
/-- a bell that waits stands at r: a list of its number and its tick -/
def BellP (H : Hp) (r : Addr) (p : Int × Int) : Prop := H r = some (.lst [.int p.1, .int p.2])
abbrev BellsP (H : Hp) : List Addr → List (Int × Int) → Prop := Paired (BellP H)
/-- all but a stands as it stood -/
def Keep (a : Addr) (H H' : Hp) : Prop := ∀ b o, H b = some o → b ≠ a → H' b = some o
theorem Keep.refl (a : Addr) (H : Hp) : Keep a H H := fun _ _ h _ => h
theorem Keep.trans {a : Addr} {H H1 H2 : Hp} (h : Keep a H H1) (k : Keep a H1 H2) : Keep a H H2 := fun b o e n => k b o (h b o e n) n
theorem Keep.of {a : Addr} {H H' : Hp} (h : Same H H') : Keep a H H' := fun b o e _ => h b o e
theorem Keep.upd {a : Addr} {H : Hp} {o : HO} : Keep a H (upd H a o) := fun b u e n => by rw [upd_ne n]; exact e
theorem Keep.free {a l : Addr} {H H' : Hp} (k : Keep a H H') (h : H' l = none) (n : l ≠ a) : H l = none := by
  cases q : H l with
  | none => rfl
  | some o => rw [k l o q n] at h; cases h
theorem ref_ne_int {rs : List Addr} {a b : Int} : HO.lst (rs.map V.ref) ≠ HO.lst [V.int a, V.int b] := fun z => by
  have e : rs.map V.ref = [V.int a, V.int b] := HO.lst.inj z
  cases rs with
  | nil => cases e
  | cons r rs => rw [List.map_cons] at e; cases e
theorem BellsP.ne {H : Hp} {a : Addr} {qs : List Addr} (ha : H a = some (.lst (qs.map V.ref))) {r : Addr} {p : Int × Int} (h : BellP H r p) : r ≠ a := fun z => by
  subst z
  unfold BellP at h
  rw [ha] at h
  exact ref_ne_int (Option.some.inj h)
theorem BellsP.keep {H H' : Hp} {a : Addr} {qs : List Addr} (ha : H a = some (.lst (qs.map V.ref))) (k : Keep a H H') {rs : List Addr} {ps : List (Int × Int)} (h : BellsP H rs ps) : BellsP H' rs ps :=
  L2.Paired.mapP h fun r p e => k r _ e (BellsP.ne ha e)
theorem BellsP.get {H : Hp} {rs : List Addr} {ps : List (Int × Int)} {i : Nat} {x : V} (h : BellsP H rs ps) (e : (rs.map V.ref)[i]? = some x) : ∃ r p, x = .ref r ∧ ps[i]? = some p ∧ rs[i]? = some r ∧ BellP H r p := by
  rw [List.getElem?_map] at e
  cases er : rs[i]? with
  | none => rw [er] at e; cases e
  | some r =>
    rw [er] at e
    obtain ⟨p, e1, e2⟩ := Paired_get h er
    exact ⟨r, p, (Option.some.inj e).symm, e1, rfl, e2⟩
theorem Paired_erase {α β : Type} {F : α → β → Prop} : ∀ {l : List α} {k : List β} (i : Nat), Paired F l k → Paired F (l.eraseIdx i) (k.eraseIdx i)
  | _, _, _, .nil => .nil
  | _, _, 0, .cons _ t => t
  | _, _, i + 1, .cons r t => .cons r (Paired_erase i t)
theorem map_erase {α β : Type} (f : α → β) : ∀ (l : List α) (i : Nat), (l.map f).eraseIdx i = (l.eraseIdx i).map f
  | [], _ => rfl
  | _ :: _, 0 => rfl
  | a :: l, i + 1 => by rw [List.map_cons, List.eraseIdx_cons_succ, List.eraseIdx_cons_succ, List.map_cons, map_erase f l i]
/-- an answer that is no list, as a value -/
def flatAns : Ans → V
  | .num n => .int n
  | .yes => .bl true
  | .noBell => .str "no bell"
  | .noTicks => .str "no ticks"
  | .rings _ => .non
/-- an answer stands for v -/
def AnsP (H : Hp) (v : V) : Ans → Prop
  | .num n => v = .int n
  | .yes => v = .bl true
  | .noBell => v = .str "no bell"
  | .noTicks => v = .str "no ticks"
  | .rings ps => ∃ l rs, v = .ref l ∧ H l = some (.lst (rs.map V.ref)) ∧ TupsP H rs ps
/-! ### the law's own defs -/
def spPlain : Sp := fun vs H Q _ => ∃ (a r : Addr) (rs : List Addr) (s : Day) (d : Deed), vs = [.ref a, .int s.now, .int s.came, .ref r] ∧ H a = some (.lst (rs.map V.ref)) ∧ BellsP H rs s.ws ∧ DeedP H r d ∧ (∀ m, d ≠ .tick m) ∧ Good s ∧ s.ws.length ≤ 1000 ∧
  ∀ (H' : Hp) (rs' : List Addr), Keep a H H' → H' a = some (.lst (rs'.map V.ref)) → BellsP H' rs' (next s d).ws → (∀ q ∈ rs', q ∈ rs ∨ H q = none) → Q (flatAns (told s d)) H'
def spTickL : Sp := fun vs H Q _ => ∃ (a : Addr) (rs : List Addr) (ws : W) (t : Int), vs = [.ref a, .int t] ∧ H a = some (.lst (rs.map V.ref)) ∧ BellsP H rs ws ∧ (ws.map (·.1)).Nodup ∧ ws.length ≤ 1000 ∧
  ∀ (l : Addr) (H' : Hp) (rs' : List Addr), Keep a H H' → H l = none → l ≠ a → H' l = some (.lst ((due t ws).map V.int)) → H' a = some (.lst (rs'.map V.ref)) → BellsP H' rs' (rest t ws) → (∀ q ∈ rs', q ∈ rs) → Q (.ref l) H'
/-- the numbers of the bells -/
def nums (ws : W) : List V := ws.map fun p => .int p.1
theorem nums_snoc (ws : W) (p : Int × Int) : nums (ws ++ [p]) = nums ws ++ [.int p.1] := by unfold nums; rw [List.map_append]; rfl
theorem nums_flat (ws : W) : (nums ws).all flatV = true := by unfold nums; simp [flatV]
theorem nums_in (ws : W) (n : Int) : inV (.int n) (nums ws) = decide (n ∈ ws.map (·.1)) := by
  unfold inV nums
  rw [Bool.eq_iff_iff, List.any_map]
  simp [eqV]
theorem find_num {ws : W} {n : Int} (nd : (ws.map (·.1)).Nodup) (h : n ∈ ws.map (·.1)) : ∃ (j : Nat) (p : Int × Int), j < (nums ws).length ∧ ws[j]? = some p ∧ p.1 = n ∧ eqV ((nums ws).getD j .non) (.int n) = true ∧ (∀ m, m < j → eqV ((nums ws).getD m .non) (.int n) = false) := by
  induction ws with
  | nil => cases h
  | cons q ws ih =>
    rw [List.map_cons, List.nodup_cons] at nd
    by_cases e : q.1 = n
    · exact ⟨0, q, by simp [nums], rfl, e, by simp [nums, eqV, e], fun m hm => absurd hm (Nat.not_lt_zero _)⟩
    · have h' : n ∈ ws.map (·.1) := by
        rcases List.mem_cons.mp h with z | z
        · exact absurd z.symm e
        · exact z
      obtain ⟨j, p, h1, h2, h3, h4, h5⟩ := ih nd.2 h'
      have e1 : nums (q :: ws) = .int q.1 :: nums ws := rfl
      refine ⟨j + 1, p, by rw [e1, List.length_cons]; omega, by simpa using h2, h3, by rw [e1, List.getD_cons_succ]; exact h4, fun m hm => ?_⟩
      cases m with
      | zero => rw [e1, List.getD_cons_zero]; simp [eqV, e]
      | succ m => rw [e1, List.getD_cons_succ]; exact h5 m (by omega)
end Bw

set_option Elab.async false
set_option linter.all false
set_option maxRecDepth 100000
set_option maxHeartbeats 4000000
namespace BwL
open PySem L2 Bw BwM PyProof.Rows
/-! ### the text by places -/
def top (i : Nat) : Stmt := PySem.Challenge.pw_bellwheel_k04_whole_any_size.main.body.getD i (.Pass ⟨0, 0, 0, 0⟩)
abbrev sAnswers : Stmt := top 8
abbrev sBehind : Stmt := top 9
abbrev sWhole : Stmt := top 16
abbrev sAt : Stmt := top 17
abbrev sDeeds : Stmt := top 18
abbrev sPairs : Stmt := top 19
abbrev sAns : Stmt := top 20
abbrev sPlain : Stmt := top 21
abbrev sTickL : Stmt := top 22
abbrev sDue : Stmt := top 23
abbrev sMixed : Stmt := top 24
abbrev sLaw : Stmt := top 25
/-- the built-in names are not bound by the text -/
structure TxtB (mg : Str → Option Value) : Prop where
  isi : mg "isinstance" = none
  int : mg "int" = none
  bool : mg "bool" = none
  list : mg "list" = none
  tuple : mg "tuple" = none
  str : mg "str" = none
  len : mg "len" = none
  range : mg "range" = none
  sorted : mg "sorted" = none
end BwL

set_option Elab.async false
set_option linter.all false
set_option maxRecDepth 100000
set_option maxHeartbeats 4000000
namespace BwL
open PySem L2 Bw BwM PyProof.Rows
def compOf (e : Expr) : Scope := match e with
  | .ListComp _ _ sc _ => sc
  | _ => { kind := .function, names := [], isGenerator := false, isCoroutine := false }
def compAt (st : Stmt) : Scope := match st with
  | .Assign _ e _ => compOf e
  | .Return (some e) _ => compOf e
  | _ => { kind := .function, names := [], isGenerator := false, isCoroutine := false }
def stAt (l : List Stmt) (i : Nat) : Stmt := l.getD i (.Pass ⟨0, 0, 0, 0⟩)
abbrev scP1 : Scope := compAt (stAt (defBody sPlain) 0)
theorem bsP1 : BlkScope scP1 := ⟨rfl, by decide +kernel, by decide +kernel⟩
theorem nfP1 : ∀ y ∈ scP1.names, y.2 ≠ .free := by decide +kernel
theorem nd1 : (["_law_pair"] : List Str).Nodup := by decide +kernel
theorem ne_off_set : ¬ V.str "off" = V.str "set" := by decide +kernel
theorem ne_strike_set : ¬ V.str "strike" = V.str "set" := by decide +kernel
theorem ne_set_strike : ¬ V.str "set" = V.str "strike" := by decide +kernel
theorem ne_off_strike : ¬ V.str "off" = V.str "strike" := by decide +kernel
theorem ne_strike_off : ¬ V.str "strike" = V.str "off" := by decide +kernel
/-- a test that is not met: != of two that differ -/
theorem iteND {c A B : Prop} [Decidable c] (hc : ¬ c) (h : A) : if (!decide c) = true then A else B := by
  rw [decide_eq_false hc]
  exact iteT h
theorem iteD {c A B : Prop} [Decidable c] (hc : c) (h : A) : if decide c = true then A else B := by
  rw [decide_eq_true hc]
  exact iteT h
theorem iteDN {c A B : Prop} [Decidable c] (hc : ¬ c) (h : B) : if decide c = true then A else B := by
  rw [decide_eq_false hc]
  exact iteF h
section
variable {P : Program} {w : World} {K : PySem.W.Frag} {mg : Str → Option Value} {base : Heap}
abbrev NP : List Str := ["_law_waits", "_law_now", "_law_came", "_law_deed", "_law_numbers"]
theorem scP : FnScope NP ["_law_waits", "_law_now", "_law_came", "_law_deed"] (defScope sPlain) := ⟨rfl, rfl, rfl, by decide +kernel, rfl, by decide +kernel, by decide +kernel⟩
theorem ok_plain {f : Addr} {fd : FuncData} (F : Fun K "_law_plain" "_law_plain" sPlain f fd) : FnOk P w K mg base CX0 1 f fd ["_law_waits", "_law_now", "_law_came", "_law_deed"] spPlain := by
  refine F.ok scP (fun vs H Q E h => ?_) (fun cdv A outer s H vs Q E hr h => ?_)
  · obtain ⟨a, r, rs, s, d, rfl, _⟩ := h
    rfl
  · obtain ⟨a, r, rs, y, d, rfl, ha, hb, hd, nt, g, hl, k⟩ := h
    have hbl := hb.length
    refine ⟨_, pss_cons (ps_setC (i := 4) (N := ["_law_pair"]) (τ := fun _ => [none]) rfl scP.nd rfl (Or.inl rfl) (pi_list (pv 0)) bsP1 (nofreeX nfP1) (fun σ _ => caps_none)
        ⟨fun _ _ _ _ _ => pg_nameB 0 nd1 rfl rfl, fun _ _ _ _ _ => pf_nil, fun _ _ _ _ _ => pe_ix ix_listB (pvB 0 rfl rfl) pe_int fun _ _ => rfl⟩)
      (pss_cons (ps_if (pw_and (pt_cmpR op_ne (pe_ix ix_tup (pv 3) pe_int fun _ _ => rfl) pe_str (nomark _)) (pw_and1 (pt_cmpR op_notIn_seq (pe_ix ix_tup (pv 3) pe_int fun _ _ => rfl) (pv 4) (by with_unfolding_all rfl)))).pt (pss_one (ps_ret pe_str)) pss_nil)
      (pss_cons (ps_if (pw_and (pt_cmpR op_ne (pe_ix ix_tup (pv 3) pe_int fun _ _ => rfl) pe_str (nomark _)) (pw_and1 (pt_cmpR op_lt (pe_ix ix_tup (pv 3) (pe_un un_neg pe_int) fun _ _ => rfl) pe_int (nomark _)))).pt (pss_one (ps_ret pe_str)) pss_nil)
      (pss_cons (ps_if (pt_cmpR op_eq (pe_ix ix_tup (pv 3) pe_int fun _ _ => rfl) pe_str (nomark _))
        (pss_cons (ps_expr (pe_bm PySem.F.plainAttrs_list PySem.F.slot_list_append PySem.F.type_list_append mt_append (pv 0) (pa_cons (pe_lst (pa_cons (pv 2) (pa_cons (pe_op op_add (pv 1) (pe_ix ix_tup (pv 3) pe_int fun _ _ => rfl)) pa_nil))) pa_nil)))
          (pss_one (ps_ret (pv 2)))) pss_nil)
      (pss_cons (ps_expr (pe_bm PySem.F.plainAttrs_list PySem.F.slot_list_pop PySem.F.type_list_pop mt_popAt (pv 0) (pa_cons (pe_bm PySem.F.plainAttrs_list PySem.F.slot_list_index PySem.F.type_list_index mt_index (pv 4) (pa_cons (pe_ix ix_tup (pv 3) pe_int fun _ _ => rfl) pa_nil)) pa_nil)))
      (pss_cons (ps_if (pt_cmpR op_eq (pe_ix ix_tup (pv 3) pe_int fun _ _ => rfl) pe_str (nomark _))
        (pss_one (ps_expr (pe_bm PySem.F.plainAttrs_list PySem.F.slot_list_append PySem.F.type_list_append mt_append (pv 0) (pa_cons (pe_lst (pa_cons (pe_ix ix_tup (pv 3) pe_int fun _ _ => rfl) (pa_cons (pe_op op_add (pv 1) (pe_ix ix_tup (pv 3) pe_int fun _ _ => rfl)) pa_nil))) pa_nil)))) pss_nil)
      (pss_one (ps_ret pe_bl))))))), ?_⟩
    refine ⟨_, rfl, a, rfl, ⟨_, SqL.of ha⟩, comp_list (K := K) (a := a) (xs := rs.map V.ref) (fun l i σ1 H1 => (∃ u, σ1 = [u]) ∧ H l = none ∧ H1 = upd H l (.lst (nums (y.ws.take i)))) ?_ ?_ ?_ ?_⟩
    · intro l hl0
      exact ⟨⟨none, rfl⟩, hl0, by simp [nums]⟩
    · rintro l i σ1 H1 _ ⟨_, hl0, rfl⟩
      exact SqL.of (same_upd hl0 _ _ ha)
    · rintro l i x σ1 H1 hx ⟨⟨u, rfl⟩, hl0, rfl⟩
      obtain ⟨q, p, rfl, hpi, hri, tp⟩ := hb.get hx
      have hi := (List.getElem?_eq_some_iff.mp hpi).1
      refine ⟨_, rfl, q, _, _, _, rfl, rfl, SqL.of (same_upd hl0 _ _ tp), rfl, _, upd_same, small_of (m := y.ws.length) ?_ (by omega), ⟨_, rfl⟩, hl0, ?_⟩
      · unfold nums; rw [List.length_map]; exact Nat.le_trans (List.length_take_le _ _) (by omega)
      · rw [upd_upd, take_snoc hpi, nums_snoc]
    · rintro l σ1 H1 ⟨_, hl0, rfl⟩
      rw [show (rs.map V.ref).length = y.ws.length by rw [List.length_map]; exact hbl, List.take_length]
      have nla : l ≠ a := fun z => by subst z; rw [ha] at hl0; cases hl0
      have s1 : Same H (upd H l (.lst (nums y.ws))) := same_upd hl0
      have el : upd H l (.lst (nums y.ws)) l = some (.lst (nums y.ws)) := upd_same
      have ea := s1 _ _ ha
      have hb1 : BellsP (upd H l (.lst (nums y.ws))) rs y.ws := L2.Paired.mapP hb fun r p e => s1 r _ e
      generalize upd H l (.lst (nums y.ws)) = H1 at s1 el ea hb1 ⊢
      have small : (rs.map V.ref).length < sizeLine := small_of (m := 1000) (by rw [List.length_map]; omega) (by omega)
      cases d with
      | tick m => exact absurd rfl (nt m)
      | set n =>
        have hr1 : H1 r = some (.tup [.str "set", .int n]) := s1 _ _ hd
        refine ⟨_, rfl, r, _, _, _, rfl, rfl, SqT.of hr1, rfl, rfl, _, rfl, iteNS rfl (iteF ?_)⟩
        refine ⟨_, rfl, r, _, _, _, rfl, rfl, SqT.of hr1, rfl, rfl, _, rfl, iteND ne_set_strike ?_⟩
        refine ⟨_, rfl, _, rfl, r, _, _, _, rfl, rfl, SqT.of hr1, rfl, _, _, rfl, rfl, _, rfl, ?_⟩
        by_cases hn : n < 1
        · refine iteD hn ?_
          have e1 : told y (.set n) = .noTicks := if_pos hn
          have e2 : next y (.set n) = y := if_pos hn
          have := k H1 rs (.of s1) ea (by rw [e2]; exact hb1) (fun _ hq => .inl hq)
          rw [e1] at this
          exact this
        · refine iteDN hn ?_
          refine ⟨_, rfl, r, _, _, _, rfl, rfl, SqT.of hr1, rfl, rfl, _, rfl, iteD rfl ?_⟩
          refine ⟨_, rfl, .inl ⟨rfl, _, SqL.of ea⟩, _, rfl, _, rfl, _, rfl, r, _, _, _, rfl, rfl, SqT.of hr1, rfl, _, _, rfl, rfl, (by show 2 ≤ sizeLine; decide), fun q hq => ?_⟩
          have nq : q ≠ a := Ne.symm (ne_of_none ea hq)
          refine ⟨a, _, _, rfl, rfl, by rw [upd_ne (Ne.symm nq)]; exact ea, small, ?_⟩
          have e1 : told y (.set n) = .num y.came := if_neg hn
          have e2 : next y (.set n) = { y with ws := y.ws ++ [(y.came, y.now + n)], came := y.came + 1 } := if_neg hn
          have s2 : Same H1 (upd H1 q (.lst [.int y.came, .int (y.now + n)])) := same_upd hq
          have := k (upd (upd H1 q (.lst [.int y.came, .int (y.now + n)])) a (.lst (rs.map V.ref ++ [.ref q]))) (rs ++ [q]) ((Keep.of (s1.trans s2)).trans .upd) (by rw [upd_same, List.map_append]; rfl) (by
            rw [e2]
            refine Paired.snoc (BellsP.keep (s2 _ _ ea) .upd (L2.Paired.mapP hb1 fun r p e => s2 r _ e)) ?_
            show upd _ a _ q = _
            rw [upd_ne nq, upd_same]) (fun c hc => by
            rcases List.mem_append.mp hc with hc | hc
            · exact .inl hc
            · rw [List.mem_singleton.mp hc]; exact .inr (s1.free hq))
          rw [e1] at this
          exact ⟨_, rfl, this⟩
      | off n m =>
        have hr1 : H1 r = some (.tup [.str "off", .int n, .int m]) := s1 _ _ hd
        refine ⟨_, rfl, r, _, _, _, rfl, rfl, SqT.of hr1, rfl, rfl, _, rfl, iteND ne_off_set ?_⟩
        refine ⟨_, rfl, r, _, _, _, rfl, rfl, SqT.of hr1, rfl, _, rfl, l, _, rfl, .inl (SqL.of el), rfl, nums_flat _, _, rfl, ?_⟩
        show if (!inV (.int n) (nums y.ws)) = true then _ else _
        rw [nums_in]
        by_cases hw : waits y n
        · refine iteNS hw ?_
          refine ⟨_, rfl, r, _, _, _, rfl, rfl, SqT.of hr1, rfl, rfl, _, rfl, iteND ne_off_strike ?_⟩
          refine ⟨_, rfl, _, rfl, r, _, _, _, rfl, rfl, SqT.of hr1, rfl, _, _, rfl, rfl, _, rfl, ?_⟩
          by_cases hn : m < 1
          · refine iteD hn ?_
            have e1 : told y (.off n m) = .noTicks := (if_neg (fun z => z hw)).trans (if_pos hn)
            have e2 : next y (.off n m) = y := (if_neg (fun z => z hw)).trans (if_pos hn)
            have := k H1 rs (.of s1) ea (by rw [e2]; exact hb1) (fun _ hq => .inl hq)
            rw [e1] at this
            exact this
          · refine iteDN hn ?_
            refine ⟨_, rfl, r, _, _, _, rfl, rfl, SqT.of hr1, rfl, rfl, _, rfl, iteDN ne_off_set ?_⟩
            obtain ⟨j, p, j1, j2, j3, j4, j5⟩ := find_num g.nd hw
            have jr : j < rs.length := by rw [hbl]; exact (List.getElem?_eq_some_iff.mp j2).1
            have jx : (rs.map V.ref)[j]? = some (.ref rs[j]) := by simp [jr]
            refine ⟨_, rfl, .inl ⟨rfl, _, SqL.of ea⟩, _, rfl, .inl ⟨rfl, _, SqL.of el⟩, _, rfl, r, _, _, _, rfl, rfl, SqT.of hr1, rfl, l, _, _, j, rfl, rfl, SqL.of el, rfl, nums_flat _, j1, j4, j5, ?_⟩
            refine ⟨a, _, _, j, _, rfl, rfl, ea, by omega, by omega, seqIndex_of (by omega) (by rw [List.length_map]; omega), jx, ?_⟩
            have ea2 : upd H1 a (.lst ((rs.map V.ref).eraseIdx j)) a = some (.lst ((rs.eraseIdx j).map V.ref)) := by rw [upd_same, map_erase]
            have hb2 : BellsP (upd H1 a (.lst ((rs.map V.ref).eraseIdx j))) (rs.eraseIdx j) (drop n y.ws) := by
              rw [← erase_drop y.ws j p g.nd j2 j3]
              exact Paired_erase j (BellsP.keep ea .upd hb1)
            have hr2 : upd H1 a (.lst ((rs.map V.ref).eraseIdx j)) r = some (.tup [.str "off", .int n, .int m]) := Keep.upd _ _ hr1 (ne_of hr1 ea (by intro z; cases z))
            have k2 : Keep a H (upd H1 a (.lst ((rs.map V.ref).eraseIdx j))) := (Keep.of s1).trans .upd
            generalize upd H1 a (.lst ((rs.map V.ref).eraseIdx j)) = H2 at ea2 hb2 hr2 k2 ⊢
            refine ⟨_, rfl, r, _, _, _, rfl, rfl, SqT.of hr2, rfl, rfl, _, rfl, iteD rfl ?_⟩
            refine ⟨_, rfl, .inl ⟨rfl, _, SqL.of ea2⟩, _, rfl, r, _, _, _, rfl, rfl, SqT.of hr2, rfl, _, rfl, _, rfl, r, _, _, _, rfl, rfl, SqT.of hr2, rfl, _, _, rfl, rfl, (by show 2 ≤ sizeLine; decide), fun q hq => ?_⟩
            have nq : q ≠ a := Ne.symm (ne_of_none ea2 hq)
            refine ⟨a, _, _, rfl, rfl, by rw [upd_ne (Ne.symm nq)]; exact ea2, small_of (m := 1000) (by rw [List.length_map]; exact Nat.le_trans (len_erase _ _) (by omega)) (by omega), ?_⟩
            have e1 : told y (.off n m) = .yes := (if_neg (fun z => z hw)).trans (if_neg hn)
            have e2 : next y (.off n m) = { y with ws := drop n y.ws ++ [(n, y.now + m)] } := (if_neg (fun z => z hw)).trans (if_neg hn)
            have s2 : Same H2 (upd H2 q (.lst [.int n, .int (y.now + m)])) := same_upd hq
            have := k (upd (upd H2 q (.lst [.int n, .int (y.now + m)])) a (.lst ((rs.eraseIdx j).map V.ref ++ [.ref q]))) (rs.eraseIdx j ++ [q]) ((k2.trans (.of s2)).trans .upd) (by rw [upd_same, List.map_append]; rfl) (by
              rw [e2]
              refine Paired.snoc (BellsP.keep (s2 _ _ ea2) .upd (L2.Paired.mapP hb2 fun r p e => s2 r _ e)) ?_
              show upd _ a _ q = _
              rw [upd_ne nq, upd_same]) (fun c hc => by
              rcases List.mem_append.mp hc with hc | hc
              · exact .inl (List.mem_of_mem_eraseIdx hc)
              · rw [List.mem_singleton.mp hc]; exact .inr (k2.free hq nq))
            rw [e1] at this
            exact this
        · refine iteND hw ?_
          have e1 : told y (.off n m) = .noBell := if_pos hw
          have e2 : next y (.off n m) = y := if_pos hw
          have := k H1 rs (.of s1) ea (by rw [e2]; exact hb1) (fun _ hq => .inl hq)
          rw [e1] at this
          exact this
      | strike n =>
        have hr1 : H1 r = some (.tup [.str "strike", .int n]) := s1 _ _ hd
        refine ⟨_, rfl, r, _, _, _, rfl, rfl, SqT.of hr1, rfl, rfl, _, rfl, iteND ne_strike_set ?_⟩
        refine ⟨_, rfl, r, _, _, _, rfl, rfl, SqT.of hr1, rfl, _, rfl, l, _, rfl, .inl (SqL.of el), rfl, nums_flat _, _, rfl, ?_⟩
        show if (!inV (.int n) (nums y.ws)) = true then _ else _
        rw [nums_in]
        by_cases hw : waits y n
        · refine iteNS hw ?_
          refine ⟨_, rfl, r, _, _, _, rfl, rfl, SqT.of hr1, rfl, rfl, _, rfl, iteNS rfl (iteF ?_)⟩
          refine ⟨_, rfl, r, _, _, _, rfl, rfl, SqT.of hr1, rfl, rfl, _, rfl, iteDN ne_strike_set ?_⟩
          obtain ⟨j, p, j1, j2, j3, j4, j5⟩ := find_num g.nd hw
          have jr : j < rs.length := by rw [hbl]; exact (List.getElem?_eq_some_iff.mp j2).1
          have jx : (rs.map V.ref)[j]? = some (.ref rs[j]) := by simp [jr]
          refine ⟨_, rfl, .inl ⟨rfl, _, SqL.of ea⟩, _, rfl, .inl ⟨rfl, _, SqL.of el⟩, _, rfl, r, _, _, _, rfl, rfl, SqT.of hr1, rfl, l, _, _, j, rfl, rfl, SqL.of el, rfl, nums_flat _, j1, j4, j5, ?_⟩
          refine ⟨a, _, _, j, _, rfl, rfl, ea, by omega, by omega, seqIndex_of (by omega) (by rw [List.length_map]; omega), jx, ?_⟩
          have ea2 : upd H1 a (.lst ((rs.map V.ref).eraseIdx j)) a = some (.lst ((rs.eraseIdx j).map V.ref)) := by rw [upd_same, map_erase]
          have hb2 : BellsP (upd H1 a (.lst ((rs.map V.ref).eraseIdx j))) (rs.eraseIdx j) (drop n y.ws) := by
            rw [← erase_drop y.ws j p g.nd j2 j3]
            exact Paired_erase j (BellsP.keep ea .upd hb1)
          have hr2 : upd H1 a (.lst ((rs.map V.ref).eraseIdx j)) r = some (.tup [.str "strike", .int n]) := Keep.upd _ _ hr1 (ne_of hr1 ea (by intro z; cases z))
          have k2 : Keep a H (upd H1 a (.lst ((rs.map V.ref).eraseIdx j))) := (Keep.of s1).trans .upd
          generalize upd H1 a (.lst ((rs.map V.ref).eraseIdx j)) = H2 at ea2 hb2 hr2 k2 ⊢
          refine ⟨_, rfl, r, _, _, _, rfl, rfl, SqT.of hr2, rfl, rfl, _, rfl, iteDN ne_strike_off ?_⟩
          have e1 : told y (.strike n) = .yes := if_neg (fun z => z hw)
          have e2 : next y (.strike n) = { y with ws := drop n y.ws } := if_neg (fun z => z hw)
          have := k H2 (rs.eraseIdx j) k2 ea2 (by rw [e2]; exact hb2) (fun c hc => .inl (List.mem_of_mem_eraseIdx hc))
          rw [e1] at this
          exact this
        · refine iteND hw ?_
          have e1 : told y (.strike n) = .noBell := if_pos hw
          have e2 : next y (.strike n) = y := if_pos hw
          have := k H1 rs (.of s1) ea (by rw [e2]; exact hb1) (fun _ hq => .inl hq)
          rw [e1] at this
          exact this
end
end BwL

set_option Elab.async false
set_option linter.all false
set_option maxRecDepth 100000
set_option maxHeartbeats 4000000
namespace BwL
open PySem L2 Bw BwM PyProof.Rows
def forBody (st : Stmt) : List Stmt := match st with
  | .For _ _ b _ _ => b
  | _ => []
def exprOf (st : Stmt) : Expr := match st with
  | .Expr e _ => e
  | .Assign _ e _ => e
  | .Return (some e) _ => e
  | _ => .Constant .none 0 ⟨0, 0, 0, 0⟩
def arg0 (e : Expr) : Expr := match e with
  | .Call _ (a :: _) _ _ => a
  | e => e
def recv (e : Expr) : Expr := match e with
  | .Call (.Attribute o _ _) _ _ _ => o
  | e => e
abbrev scT1 : Scope := compAt (stAt (defBody sTickL) 0)
abbrev scT2 : Scope := compOf (recv (arg0 (exprOf (stAt (forBody (stAt (defBody sTickL) 1)) 0))))
theorem bsT1 : BlkScope scT1 := ⟨rfl, by decide +kernel, by decide +kernel⟩
theorem frT1 : ∀ x ∈ scT1.names, x.2 = .free → (defScope sTickL).names.lookup x.1 = some .cell := by decide +kernel
theorem bsT2 : BlkScope scT2 := ⟨rfl, by decide +kernel, by decide +kernel⟩
theorem nfT2 : ∀ y ∈ scT2.names, y.2 ≠ .free := by decide +kernel
theorem ndT1 : (["_law_pair", "_law_now"] : List Str).Nodup := by decide +kernel
theorem capOne {X : Cx} {σ : L2.St} {scope : Scope} {N : List Str} {n j : Nat} {x : Str} (hl : N.length = n + 1) (h1 : N[n]? = some x) (h2 : X.N[j]? = some x) (h3 : X.env.scope.names.lookup x = some .cell) (h4 : scope.names.lookup x = some .free) : Caps X σ scope N (capσ n [j] σ) :=
  caps_of hl fun k i z e1 e2 => by
    cases k with
    | zero =>
      have e3 : j = i := by simpa using e1
      have e4 : some x = some z := h1.symm.trans e2
      cases e4
      rw [← e3]
      exact ⟨h2, h3, h4⟩
    | succ k => simp at e1
section
variable {P : Program} {w : World} {K : PySem.W.Frag} {mg : Str → Option Value} {base : Heap}
abbrev NT : List Str := ["_law_waits", "_law_now", "_law_rung", "_law_number"]
theorem scT : FnScope NT ["_law_waits", "_law_now"] (defScope sTickL) := ⟨rfl, rfl, rfl, by decide +kernel, rfl, by decide +kernel, by decide +kernel⟩
theorem ok_tickL {f : Addr} {fd : FuncData} (F : Fun K "_law_ticked" "_law_ticked" sTickL f fd) : FnOk P w K mg base CX0 1 f fd ["_law_waits", "_law_now"] spTickL := by
  refine F.ok scT (fun vs H Q E h => ?_) (fun cdv A outer s H vs Q E hr h => ?_)
  · obtain ⟨a, rs, ws, t, rfl, _⟩ := h
    rfl
  · obtain ⟨a, rs, ws, t, rfl, ha, hb, nd, hl, k⟩ := h
    have hbl := hb.length
    refine ⟨_, pss_cons (ps_setC (i := 2) (N := ["_law_pair", "_law_now"]) (τ := capσ 1 [1]) rfl scT.nd rfl (Or.inl rfl) (pi_list (pv 0)) bsT1 frT1 (fun σ _ => capOne rfl rfl rfl rfl rfl)
        ⟨fun _ _ _ _ _ => pg_nameB 0 ndT1 rfl rfl, fun _ _ _ _ _ => pf_one (pt_cmpR op_eq (pe_ix ix_listB (pvB 0 rfl rfl) pe_int fun _ _ => rfl) (pvC 1 rfl rfl rfl rfl) (nomark _)), fun _ _ _ _ _ => pe_ix ix_listB (pvB 0 rfl rfl) pe_int fun _ _ => rfl⟩)
      (pss_cons (ps_for PassesOwn.never rfl (pi_list (pv 2)) (pg_name (i := 3) scT.nd rfl (Or.inl rfl))
        (pss_one (ps_expr (pe_bm PySem.F.plainAttrs_list PySem.F.slot_list_pop PySem.F.type_list_pop mt_popAt (pv 0)
          (pa_cons (pe_bm PySem.F.plainAttrs_list PySem.F.slot_list_index PySem.F.type_list_index mt_index
            (pe_comp (N := ["_law_pair"]) (τ := fun _ => [none]) rfl (pi_list (pv 0)) bsT2 (nofreeX nfT2) (fun σ _ => caps_none)
              ⟨fun _ _ _ _ _ => pg_nameB 0 nd1 rfl rfl, fun _ _ _ _ _ => pf_nil, fun _ _ _ _ _ => pe_ix ix_listB (pvB 0 rfl rfl) pe_int fun _ _ => rfl⟩)
            (pa_cons (pv 3) pa_nil)) pa_nil)))))
      (pss_one (ps_ret (pv 2)))), ?_⟩
    refine ⟨_, rfl, a, rfl, ⟨_, SqL.of ha⟩, comp_list (K := K) (a := a) (xs := rs.map V.ref) (fun l i σ1 H1 => (∃ u, σ1 = [u, some (.int t)]) ∧ H l = none ∧ H1 = upd H l (.lst ((due t (ws.take i)).map V.int))) ?_ ?_ ?_ ?_⟩
    · intro l hl0
      exact ⟨⟨none, rfl⟩, hl0, by simp [due]⟩
    · rintro l i σ1 H1 _ ⟨_, hl0, rfl⟩
      exact SqL.of (same_upd hl0 _ _ ha)
    · rintro l i x σ1 H1 hx ⟨⟨u, rfl⟩, hl0, rfl⟩
      obtain ⟨q, p, rfl, hpi, hri, tp⟩ := hb.get hx
      have hi := (List.getElem?_eq_some_iff.mp hpi).1
      refine ⟨_, rfl, q, _, _, _, rfl, rfl, SqL.of (same_upd hl0 _ _ tp), rfl, _, rfl, rfl, _, rfl, ?_⟩
      by_cases h0 : p.2 = t
      · refine iteD (by rw [h0]) ⟨_, rfl, q, _, _, _, rfl, rfl, SqL.of (same_upd hl0 _ _ tp), rfl, _, upd_same, small_of (m := ws.length) ?_ (by omega), ⟨_, rfl⟩, hl0, ?_⟩
        · rw [List.length_map]; exact Nat.le_trans (due_len _ _) (Nat.le_trans (List.length_take_le _ _) (by omega))
        · rw [upd_upd, take_snoc hpi, due_in h0, List.map_append]; rfl
      · refine iteDN (fun z => h0 (V.int.inj z)) ⟨⟨_, rfl⟩, hl0, ?_⟩
        rw [take_snoc hpi, due_out h0]
    · rintro l σ1 H1 ⟨_, hl0, rfl⟩
      rw [show (rs.map V.ref).length = ws.length by rw [List.length_map]; exact hbl, List.take_length]
      have nla : l ≠ a := fun z => by subst z; rw [ha] at hl0; cases hl0
      have s1 : Same H (upd H l (.lst ((due t ws).map V.int))) := same_upd hl0
      have el : upd H l (.lst ((due t ws).map V.int)) l = some (.lst ((due t ws).map V.int)) := upd_same
      refine ⟨_, rfl, l, rfl, ⟨_, SqL.of el⟩, for_list (K := K) (a := l) (xs := (due t ws).map V.int)
        (fun i σ H2 => ∃ (x3 : Option V) (rs' : List Addr), σ = [some (.ref a), some (.int t), some (.ref l), x3] ∧ H2 l = some (.lst ((due t ws).map V.int)) ∧ H2 a = some (.lst (rs'.map V.ref)) ∧ BellsP H2 rs' (((due t ws).take i).foldl (fun w n => drop n w) ws) ∧ Keep a H H2 ∧ ∀ q ∈ rs', q ∈ rs)
        ⟨none, rs, rfl, el, s1 _ _ ha, L2.Paired.mapP hb fun r p e => s1 r _ e, .of s1, fun _ hq => hq⟩ (fun i σ H2 _ ⟨_, _, _, e, _⟩ => SqL.of e) ?_ ?_⟩
      · rintro i x σ H2 hx ⟨x3, rs', rfl, el2, ea2, hb2, k2, sub2⟩
        obtain ⟨n, rfl, hn⟩ : ∃ n, x = .int n ∧ (due t ws)[i]? = some n := by
          rw [List.getElem?_map] at hx
          cases e : (due t ws)[i]? with
          | none => rw [e] at hx; cases hx
          | some n => rw [e] at hx; exact ⟨n, (Option.some.inj hx).symm, rfl⟩
        have still := due_still nd hn
        have nd2 := nodup_fold ((due t ws).take i) nd
        have len2 := len_fold ws ((due t ws).take i)
        have ed : ((due t ws).take (i + 1)).foldl (fun w n => drop n w) ws = drop n (((due t ws).take i).foldl (fun w n => drop n w) ws) := by
          rw [take_snoc hn, List.foldl_append]; rfl
        rw [ed]
        generalize (((due t ws).take i).foldl (fun w n => drop n w) ws) = us at hb2 still nd2 len2
        have hbl2 := hb2.length
        have hl2 : us.length ≤ 1000 := Nat.le_trans len2 hl
        refine ⟨_, rfl, .inl ⟨rfl, _, SqL.of ea2⟩, _, rfl, a, rfl, ⟨_, SqL.of ea2⟩, comp_list (K := K) (a := a) (xs := rs'.map V.ref) (fun c i σ1 H3 => (∃ u, σ1 = [u]) ∧ H2 c = none ∧ H3 = upd H2 c (.lst (nums (us.take i)))) ?_ ?_ ?_ ?_⟩
        · intro c hc0
          exact ⟨⟨none, rfl⟩, hc0, by simp [nums]⟩
        · rintro c i σ1 H3 _ ⟨_, hc0, rfl⟩
          exact SqL.of (same_upd hc0 _ _ ea2)
        · rintro c i x σ1 H3 hx ⟨⟨u, rfl⟩, hc0, rfl⟩
          obtain ⟨q, p, rfl, hpi, hri, tp⟩ := hb2.get hx
          have hi := (List.getElem?_eq_some_iff.mp hpi).1
          refine ⟨_, rfl, q, _, _, _, rfl, rfl, SqL.of (same_upd hc0 _ _ tp), rfl, _, upd_same, small_of (m := us.length) ?_ (by omega), ⟨_, rfl⟩, hc0, ?_⟩
          · unfold nums; rw [List.length_map]; exact Nat.le_trans (List.length_take_le _ _) (by omega)
          · rw [upd_upd, take_snoc hpi, nums_snoc]
        · rintro c σ1 H3 ⟨_, hc0, rfl⟩
          rw [show (rs'.map V.ref).length = us.length by rw [List.length_map]; exact hbl2, List.take_length]
          have s3 : Same H2 (upd H2 c (.lst (nums us))) := same_upd hc0
          have ec : upd H2 c (.lst (nums us)) c = some (.lst (nums us)) := upd_same
          have ea3 := s3 _ _ ea2
          obtain ⟨j, p, j1, j2, j3, j4, j5⟩ := find_num nd2 still
          have jr : j < rs'.length := by rw [hbl2]; exact (List.getElem?_eq_some_iff.mp j2).1
          have jx : (rs'.map V.ref)[j]? = some (.ref rs'[j]) := by simp [jr]
          have hb3 : BellsP (upd H2 c (.lst (nums us))) rs' us := L2.Paired.mapP hb2 fun r p e => s3 r _ e
          have el3 := s3 _ _ el2
          have k3 : Keep a H (upd H2 c (.lst (nums us))) := k2.trans (.of s3)
          generalize upd H2 c (.lst (nums us)) = H3 at ec ea3 hb3 el3 k3 ⊢
          refine ⟨.inl ⟨rfl, _, SqL.of ec⟩, _, rfl, c, _, _, j, rfl, rfl, SqL.of ec, rfl, nums_flat _, j1, j4, j5, ?_⟩
          refine ⟨a, _, _, j, _, rfl, rfl, ea3, by omega, by omega, seqIndex_of (by omega) (by rw [List.length_map]; omega), jx, ?_⟩
          refine ⟨_, rs'.eraseIdx j, rfl, Keep.upd _ _ el3 nla, by rw [upd_same, map_erase], ?_, k3.trans .upd, fun q hq => sub2 q (List.mem_of_mem_eraseIdx hq)⟩
          rw [← erase_drop us j p nd2 j2 j3]
          exact Paired_erase j (BellsP.keep ea3 .upd hb3)
      · rintro σ H2 ⟨x3, rs', rfl, el2, ea2, hb2, k2, sub2⟩
        rw [List.length_map, List.take_length, fold_due nd] at hb2
        exact ⟨_, rfl, k l H2 rs' k2 hl0 nla el2 ea2 hb2 sub2⟩
end
end BwL

set_option Elab.async false
set_option linter.all false
set_option maxRecDepth 100000
/-! isinstance with a tuple of classes; its answers for the built-in types that the laws ask of. -/
namespace L2
open PySem PySem.Spec PyProof.Rows
section
variable {X : Cx} {pins : List (Addr × Obj)} {σ : L2.St} {H : Hp} {s : Shared} {A : Around} {E : Value → Shared → Prop} {Q : Value → Shared → Prop} {b : Bool}
theorem isinst_tup {x : V} {u t : Value} {tp : Addr} {its : List Value} (I : Inv X pins σ H s) (rx : RelV x u) (ty : TyOf X.K H x t) (htp : IsTup s.heap tp its.toArray) (e : PySem.W.kitAny X.K t its = some b) (h : ∀ tk, Q (.bool b) { s with toks := tk }) :
    wpAny (model X.prog X.w) A (call (.builtin "isinstance") [u, .ref tp]) Q E s := by
  obtain ⟨⟨cls, dd, data, sl⟩, ho, hc, n, hd⟩ := htp
  simp only at hc hd
  subst hc hd
  cases ty with
  | non => cases (show u = Value.none from rx); exact PySem.W.kia_tup PySem.W.kitx_none I.kIn True.intro ho e (fun z => nomatch z) h
  | bl y => cases (show u = Value.bool y from rx); exact PySem.W.kia_tup PySem.W.kitx_bool I.kIn True.intro ho e (fun z => nomatch z) h
  | int i => obtain ⟨t, q⟩ := (show ∃ t, u = Value.int i t from rx); cases q; exact PySem.W.kia_tup PySem.W.kitx_int I.kIn True.intro ho e (fun z => nomatch z) h
  | str y => obtain ⟨t, q⟩ := (show ∃ t, u = Value.str y t from rx); cases q; exact PySem.W.kia_tup PySem.W.kitx_str I.kIn True.intro ho e (fun z => nomatch z) h
  | flt y => obtain ⟨t, q⟩ := (show ∃ t, u = Value.float y t from rx); cases q; exact PySem.W.kia_tup PySem.W.kitx_float I.kIn True.intro ho e (fun z => nomatch z) h
  | @lst a xs ea =>
    cases (show u = Value.ref a from rx)
    obtain ⟨_, _, n, _, h1⟩ := (show ObjOk X.prog X.w H s.heap a (.lst xs) from I.hok a _ ea)
    exact PySem.W.kia_tup PySem.W.kitx_list I.kIn ⟨_, h1, rfl⟩ ho e (fun z => nomatch z) h
  | @frz a ob xs ea =>
    cases (show u = Value.ref a from rx)
    obtain ⟨_, _, _, n, _, h1⟩ := (show ObjOk X.prog X.w H s.heap a (.frz ob (.lst xs)) from I.hok a _ ea)
    exact PySem.W.kia_tup PySem.W.kitx_list I.kIn ⟨_, h1, rfl⟩ ho e (fun z => nomatch z) h
  | @tup a xs ea =>
    cases (show u = Value.ref a from rx)
    obtain ⟨_, _, _, p⟩ := (show ObjOk X.prog X.w H s.heap a (.tup xs) from I.hok a _ ea)
    obtain ⟨o, h1, h2, _⟩ := p
    exact PySem.W.kia_tup PySem.W.kitx_tuple I.kIn ⟨o, h1, h2⟩ ho e (fun z => nomatch z) h
  | @dK a kvs ea =>
    cases (show u = Value.ref a from rx)
    obtain ⟨_, _, vs, _, p⟩ := (show ObjOk X.prog X.w H s.heap a (.dK kvs) from I.hok a _ ea)
    obtain ⟨o, es, ep, h1, h2, _⟩ := p
    exact PySem.W.kia_tup PySem.W.kitx_dict I.kIn ⟨o, h1, h2.1⟩ ho e (fun z => nomatch z) h
  | @dT a kvs ea =>
    cases (show u = Value.ref a from rx)
    obtain ⟨_, _, xs, _, o, es, ep, h1, h2, _⟩ := (show ObjOk X.prog X.w H s.heap a (.dT kvs) from I.hok a _ ea)
    exact PySem.W.kia_tup PySem.W.kitx_dict I.kIn ⟨o, h1, h2.1⟩ ho e (fun z => nomatch z) h
  | @ins a C dx fs ea cl ha hn htk hm =>
    cases (show u = Value.ref a from rx)
    obtain ⟨mA, O, _⟩ := ins_get I.hok ea
    obtain ⟨od, J, _⟩ := O.look
    exact PySem.W.kia_tup (PySem.W.kitx_own (cl.get _) cl.hd ha hn htk hm) I.kIn J ho e (fun z => nomatch z) h
theorem vals_ty : ∀ {Ts : List String} {us : List Value}, Vals (Ts.map V.ty) us → us = Ts.map Value.type
  | [], _, r => by cases r; rfl
  | T :: Ts, _, r => by
    cases r with
    | cons r1 r2 => rw [vals_ty r2]; cases r1; rfl
end
def rIsi2 (K : PySem.W.Frag) : List V → Hp → VK → Prop := fun xs H Q => ∃ (x : V) (t : Value) (tp : Addr) (Ts : List String) (b : Bool), xs = [x, .ref tp] ∧ H tp = some (.tup (Ts.map V.ty)) ∧ TyOf K H x t ∧ PySem.W.kitAny K t (Ts.map Value.type) = some b ∧ Q (.bl b) H
theorem call_isi2 {X : Cx} : CallR X (.builtin "isinstance") (rIsi2 X.K) := by
  intro pins s σ H xs us Q I r h
  obtain ⟨x, t, tp, Ts, b, rfl, htp, ty, e, q⟩ := h
  obtain ⟨u, w', rfl, rx, rt⟩ := vals2 r
  obtain rfl : w' = .ref tp := rt
  obtain ⟨_, its, rv, p⟩ := (show ObjOk X.prog X.w H s.heap tp (.tup (Ts.map V.ty)) from I.hok tp _ htp)
  have ei := vals_ty rv
  subst ei
  exact isinst_tup I rx ty p e fun tk => ⟨.bl b, H, I.tok tk, rfl, q⟩
end L2
namespace Bw
open PySem L2
section
variable {K : PySem.W.Frag}
theorem kit_of {T U : String} {b : Bool} (h1 : (Value.type T == Value.type U) = false) (h2 : (if PySem.W.kitMeta U = true then (fastBuiltinMro T).map (·.contains (.type U)) else none) = some b) : PySem.W.kitOne K (.type T) (.type U) = some b := by
  unfold PySem.W.kitOne
  rw [h1]
  exact h2
theorem kit_int_list : PySem.W.kitOne K (.type "int") (.type "list") = some false := kit_of (by decide) (by decide +kernel)
theorem kit_int_tuple : PySem.W.kitOne K (.type "int") (.type "tuple") = some false := kit_of (by decide) (by decide +kernel)
theorem kit_int_str : PySem.W.kitOne K (.type "int") (.type "str") = some false := kit_of (by decide) (by decide +kernel)
theorem kit_bool_list : PySem.W.kitOne K (.type "bool") (.type "list") = some false := kit_of (by decide) (by decide +kernel)
theorem kit_bool_tuple : PySem.W.kitOne K (.type "bool") (.type "tuple") = some false := kit_of (by decide) (by decide +kernel)
theorem kit_str_list : PySem.W.kitOne K (.type "str") (.type "list") = some false := kit_of (by decide) (by decide +kernel)
theorem kit_str_tuple : PySem.W.kitOne K (.type "str") (.type "tuple") = some false := kit_of (by decide) (by decide +kernel)
theorem kit_str_bool : PySem.W.kitOne K (.type "str") (.type "bool") = some false := kit_of (by decide) (by decide +kernel)
theorem kit_tuple_list : PySem.W.kitOne K (.type "tuple") (.type "list") = some false := kit_of (by decide) (by decide +kernel)
theorem kit_list_tuple : PySem.W.kitOne K (.type "list") (.type "tuple") = some false := kit_of (by decide) (by decide +kernel)
theorem kitA_list : PySem.W.kitAny K (.type "list") (["list", "tuple"].map Value.type) = some true := by
  show (match PySem.W.kitOne K (.type "list") (.type "list") with | some true => some true | some false => PySem.W.kitAny K (.type "list") (["tuple"].map Value.type) | none => none) = _
  rw [kit_same]
theorem kitA_tuple : PySem.W.kitAny K (.type "tuple") (["list", "tuple"].map Value.type) = some true := by
  show (match PySem.W.kitOne K (.type "tuple") (.type "list") with | some true => some true | some false => PySem.W.kitAny K (.type "tuple") (["tuple"].map Value.type) | none => none) = _
  rw [kit_tuple_list]
  show (match PySem.W.kitOne K (.type "tuple") (.type "tuple") with | some true => some true | some false => PySem.W.kitAny K (.type "tuple") [] | none => none) = _
  rw [kit_same]
theorem kitA_no {T : String} (h1 : PySem.W.kitOne K (.type T) (.type "list") = some false) (h2 : PySem.W.kitOne K (.type T) (.type "tuple") = some false) : PySem.W.kitAny K (.type T) (["list", "tuple"].map Value.type) = some false := by
  show (match PySem.W.kitOne K (.type T) (.type "list") with | some true => some true | some false => PySem.W.kitAny K (.type T) (["tuple"].map Value.type) | none => none) = _
  rw [h1]
  show (match PySem.W.kitOne K (.type T) (.type "tuple") with | some true => some true | some false => PySem.W.kitAny K (.type T) [] | none => none) = _
  rw [h2]
  rfl
end
end Bw

set_option Elab.async false
set_option linter.all false
set_option maxRecDepth 100000
set_option maxHeartbeats 4000000
namespace BwL
open PySem L2 Bw BwM PyProof.Rows
section
variable {P : Program} {w : World} {K : PySem.W.Frag} {mg : Str → Option Value} {base : Heap}
/-! ### _law_whole -/
theorem scW : FnScope ["_law_found"] ["_law_found"] (defScope sWhole) := ⟨rfl, rfl, rfl, by decide +kernel, rfl, by decide +kernel, by decide +kernel⟩
def spWhole : Sp := fun vs H Q _ => ∃ i : Int, vs = [.int i] ∧ Q (.bl true) H
theorem ok_whole {f : Addr} {fd : FuncData} (F : Fun K "_law_whole" "_law_whole" sWhole f fd) (T : TxtB mg) : FnOk P w K mg base CX0 1 f fd ["_law_found"] spWhole := by
  refine F.ok scW (fun vs H Q E h => ?_) (fun cdv A outer s H vs Q E hr h => ?_)
  · obtain ⟨i, rfl, _⟩ := h
    rfl
  · obtain ⟨i, rfl, k⟩ := h
    refine ⟨_, pss_one (ps_ret (pe_and (pe_callB call_isi (by rfl) T.isi boot_isinstance (pa_cons (pv 0) (pa_cons (pe_bltn (v := .ty "int") (by rfl) T.int boot_int rfl) pa_nil)))
      (pe_one (pe_not (pe_callB call_isi (by rfl) T.isi boot_isinstance (pa_cons (pv 0) (pa_cons (pe_bltn (v := .ty "bool") (by rfl) T.bool boot_bool rfl) pa_nil))))))), ?_⟩
    exact ⟨_, rfl, _, _, _, _, rfl, .int _, kit_same, _, rfl, iteT ⟨_, rfl, _, _, _, _, rfl, .int _, kit_int_bool, _, rfl, k⟩⟩
/-! ### _law_at -/
theorem scA : FnScope ["_law_script", "_law_k"] ["_law_script", "_law_k"] (defScope sAt) := ⟨rfl, rfl, rfl, by decide +kernel, rfl, by decide +kernel, by decide +kernel⟩
def spAt (K : PySem.W.Frag) : Sp := fun vs H Q _ => ∃ (a : Addr) (ns : List Int) (k : Int), vs = [.ref a, .int k] ∧ SqL K H a (ns.map V.int) ∧ (∀ n ∈ ns, 0 ≤ n) ∧ 0 ≤ k ∧ ∀ n : Int, 0 ≤ n → Q (.int n) H
theorem int_at {ns : List Int} {i : Nat} (h : i < ns.length) : ∃ n, n ∈ ns ∧ (ns.map V.int)[i]? = some (.int n) := ⟨ns[i], List.getElem_mem h, by simp [h]⟩
theorem ok_at {f : Addr} {fd : FuncData} (F : Fun K "_law_at" "_law_at" sAt f fd) (T : TxtB mg) : FnOk P w K mg base CX0 1 f fd ["_law_script", "_law_k"] (spAt K) := by
  refine F.ok scA (fun vs H Q E h => ?_) (fun cdv A outer s H vs Q E hr h => ?_)
  · obtain ⟨a, ns, k, rfl, _⟩ := h
    rfl
  · obtain ⟨a, ns, k, rfl, ha, pos, hk, q⟩ := h
    refine ⟨_, pss_cons (ps_if (pt_cmpR op_lt (pv 1) (pe_callB call_len_seq (by rfl) T.len PySem.boot_len (pa_cons (pv 0) pa_nil)) (nomark _)) (pss_one (ps_ret (pe_ix ix_list (pv 0) (pv 1) fun _ _ => rfl))) pss_nil)
      (pss_one (ps_ret pe_int)), ?_⟩
    refine ⟨_, rfl, _, rfl, a, _, rfl, .inl ha, _, _, rfl, rfl, _, rfl, ?_⟩
    by_cases h : k < ((ns.map V.int).length : Int)
    · have h' : k.toNat < ns.length := by rw [List.length_map] at h; omega
      obtain ⟨n, hn, en⟩ := int_at h'
      have a1 : atI (ns.map V.int) k = some (.int n) := by
        have := atI_nat en
        rwa [Int.toNat_of_nonneg hk] at this
      exact iteD h ⟨_, rfl, _, rfl, a, _, _, _, rfl, rfl, ha, a1, q n (pos n hn)⟩
    · exact iteDN h (q 0 (Int.le_refl 0))
/-! ### _law_pairs_are -/
theorem scPr : FnScope ["_law_found", "_law_due", "_law_k"] ["_law_found", "_law_due"] (defScope sPairs) := ⟨rfl, rfl, rfl, by decide +kernel, rfl, by decide +kernel, by decide +kernel⟩
def spPairs : Sp := fun vs H Q _ => ∃ (a b : Addr) (rs qs : List Addr) (ps : List (Int × Int)), vs = [.ref a, .ref b] ∧ H a = some (.lst (rs.map V.ref)) ∧ H b = some (.lst (qs.map V.ref)) ∧ TupsP H rs ps ∧ TupsP H qs ps ∧ ps.length ≤ 100000 ∧ Q (.bl true) H
theorem ok_pairs {f fW : Addr} {fd fdW : FuncData} (F : Fun K "_law_pairs_are" "_law_pairs_are" sPairs f fd) (T : TxtB mg) (FW : Fun K "_law_whole" "_law_whole" sWhole fW fdW) (bW : L2.Binds K fdW ["_law_found"] []) (mW : mg "_law_whole" = some (.ref fW)) :
    FnOk P w K mg base CX0 2 f fd ["_law_found", "_law_due"] spPairs := by
  have GW : FnOk P w K mg base CX0 1 fW fdW ["_law_found"] spWhole := ok_whole FW T
  refine F.ok scPr (fun vs H Q E h => ?_) (fun cdv A outer s H vs Q E hr h => ?_)
  · obtain ⟨a, b, rs, qs, ps, rfl, _⟩ := h
    rfl
  · obtain ⟨a, b, rs, qs, ps, rfl, ha, hb, tr, tq, hl, k⟩ := h
    have hu := hu_of hr
    have l1 : (rs.map V.ref).length = ps.length := by rw [List.length_map]; exact tr.length
    have l2 : (qs.map V.ref).length = ps.length := by rw [List.length_map]; exact tq.length
    refine ⟨_, pss_cons (ps_if (pw_or (pt_not (pt_val (pe_callB call_isi (by rfl) T.isi boot_isinstance (pa_cons (pv 0) (pa_cons (pe_bltn (v := .ty "list") (by rfl) T.list boot_list rfl) pa_nil)))))
          (pw_or1 (pt_cmpR op_ne (pe_callB call_len_seq (by rfl) T.len PySem.boot_len (pa_cons (pv 0) pa_nil)) (pe_callB call_len_seq (by rfl) T.len PySem.boot_len (pa_cons (pv 1) pa_nil)) (nomark _)))).pt (pss_one (ps_ret pe_bl)) pss_nil)
      (pss_cons (ps_for PassesOwn.never rfl (pi_range1 (by rfl) T.range (pa_cons (pe_callB call_len_seq (by rfl) T.len PySem.boot_len (pa_cons (pv 1) pa_nil)) pa_nil)) (pg_name (i := 2) scPr.nd rfl (Or.inl rfl))
        (pss_cons (ps_if (pw_or (pt_not (pt_val (pe_callB call_isi (by rfl) T.isi boot_isinstance (pa_cons (pe_ix ix_list (pv 0) (pv 2) fun _ _ => rfl) (pa_cons (pe_bltn (v := .ty "tuple") (by rfl) T.tuple boot_tuple rfl) pa_nil)))))
            (pw_or1 (pt_cmpR op_ne (pe_callB call_len_seq (by rfl) T.len PySem.boot_len (pa_cons (pe_ix ix_list (pv 0) (pv 2) fun _ _ => rfl) pa_nil)) pe_int (nomark _)))).pt (pss_one (ps_ret pe_bl)) pss_nil)
        (pss_cons (ps_if (pw_or (pt_not (pt_val (pe_call GW hr (by rfl) mW FW.kp bW .nil pass0 (pa_cons (pe_ix ix_tup (pe_ix ix_list (pv 0) (pv 2) fun _ _ => rfl) pe_int fun _ _ => rfl) pa_nil))))
            (pw_or1 (pt_not (pt_val (pe_call GW hr (by rfl) mW FW.kp bW .nil pass0 (pa_cons (pe_ix ix_tup (pe_ix ix_list (pv 0) (pv 2) fun _ _ => rfl) pe_int fun _ _ => rfl) pa_nil)))))).pt (pss_one (ps_ret pe_bl)) pss_nil)
        (pss_one (ps_if (pt_cmpR (op_neT (Nat.lt_of_succ_lt hu)) (pe_ix ix_list (pv 0) (pv 2) fun _ _ => rfl) (pe_ix ix_list (pv 1) (pv 2) fun _ _ => rfl) (nomark _)) (pss_one (ps_ret pe_bl)) pss_nil)))))
      (pss_one (ps_ret pe_bl))), ?_⟩
    refine ⟨_, rfl, _, _, _, _, rfl, .lst ha, kit_same, _, rfl, iteF ?_⟩
    refine ⟨_, rfl, a, _, rfl, .inl (SqL.of ha), _, rfl, b, _, rfl, .inl (SqL.of hb), rfl, _, rfl, ?_⟩
    refine iteNS (by rw [l1, l2]) ?_
    refine ⟨_, rfl, b, _, rfl, .inl (SqL.of hb), _, rfl, by omega, by omega, for_range (lo := 0) (fun i σ H2 => (∃ v, σ = [some (.ref a), some (.ref b), v]) ∧ H2 = H) ⟨⟨none, rfl⟩, rfl⟩ ?_ ?_⟩
    · rintro i σ H2 hi ⟨⟨v, rfl⟩, rfl⟩
      have hi2 : i < ps.length := by rw [← l2]; omega
      obtain ⟨r, p, e1, e2, tp⟩ := tr.at hi2
      obtain ⟨q, p', e3, e4, tp'⟩ := tq.at hi2
      have ep : p' = p := by rw [e2] at e4; exact (Option.some.inj e4).symm
      subst ep
      have a1 : atI (rs.map V.ref) (0 + (i : Int)) = some (.ref r) := by rw [Int.zero_add]; exact atI_nat e1
      have a2 : atI (qs.map V.ref) (0 + (i : Int)) = some (.ref q) := by rw [Int.zero_add]; exact atI_nat e3
      refine ⟨_, rfl, _, rfl, a, _, _, _, rfl, rfl, SqL.of ha, a1, _, _, _, _, rfl, .tup tp, kit_same, _, rfl, iteF ?_⟩
      refine ⟨_, rfl, _, rfl, a, _, _, _, rfl, rfl, SqL.of ha, a1, r, _, rfl, .inr (SqT.of tp), rfl, _, rfl, ?_⟩
      refine iteNS rfl ?_
      refine ⟨_, rfl, _, rfl, a, _, _, _, rfl, rfl, SqL.of ha, a1, r, _, _, _, rfl, rfl, SqT.of tp, rfl, _, rfl, _, rfl, iteF ?_⟩
      refine ⟨_, rfl, _, rfl, a, _, _, _, rfl, rfl, SqL.of ha, a1, r, _, _, _, rfl, rfl, SqT.of tp, rfl, _, rfl, _, rfl, iteF ?_⟩
      refine ⟨_, rfl, _, rfl, a, _, _, _, rfl, rfl, SqL.of ha, a1, _, rfl, _, rfl, b, _, _, _, rfl, rfl, SqL.of hb, a2, r, q, _, _, rfl, rfl, SqT.of tp, SqT.of tp', rfl, rfl, _, rfl, ?_⟩
      rw [eqL_pair, decide_eq_true (show _ ∧ _ from ⟨rfl, rfl⟩)]
      exact iteF ⟨⟨_, rfl⟩, rfl⟩
    · rintro σ H2 ⟨_, rfl⟩
      exact k
/-! ### _law_answer_is -/
theorem scAn : FnScope ["_law_found", "_law_due"] ["_law_found", "_law_due"] (defScope sAns) := ⟨rfl, rfl, rfl, by decide +kernel, rfl, by decide +kernel, by decide +kernel⟩
def ansLen : Ans → Nat
  | .rings ps => ps.length
  | _ => 0
def spAns : Sp := fun vs H Q _ => ∃ (v u : V) (n : Ans), vs = [v, u] ∧ AnsP H v n ∧ AnsP H u n ∧ ansLen n ≤ 100000 ∧ Q (.bl true) H
theorem ok_ans {f fW fP : Addr} {fd fdW fdP : FuncData} (F : Fun K "_law_answer_is" "_law_answer_is" sAns f fd) (T : TxtB mg) (FW : Fun K "_law_whole" "_law_whole" sWhole fW fdW) (bW : L2.Binds K fdW ["_law_found"] []) (mW : mg "_law_whole" = some (.ref fW))
    (FP : Fun K "_law_pairs_are" "_law_pairs_are" sPairs fP fdP) (bP : L2.Binds K fdP ["_law_found", "_law_due"] []) (mP : mg "_law_pairs_are" = some (.ref fP)) : FnOk P w K mg base CX0 3 f fd ["_law_found", "_law_due"] spAns := by
  have GW : FnOk P w K mg base CX0 1 fW fdW ["_law_found"] spWhole := ok_whole FW T
  have GP : FnOk P w K mg base CX0 2 fP fdP ["_law_found", "_law_due"] spPairs := ok_pairs FP T FW bW mW
  refine F.ok scAn (fun vs H Q E h => ?_) (fun cdv A outer s H vs Q E hr h => ?_)
  · obtain ⟨v, u, n, rfl, _⟩ := h
    rfl
  · obtain ⟨v, u, n, rfl, hv, hu, hl, k⟩ := h
    have hr1 : Room 1 _ := hr.mono (by decide)
    refine ⟨_, pss_cons (ps_if (pt_val (pe_callB call_isi (by rfl) T.isi boot_isinstance (pa_cons (pv 1) (pa_cons (pe_bltn (v := .ty "list") (by rfl) T.list boot_list rfl) pa_nil))))
          (pss_one (ps_ret (pe_call GP hr (by rfl) mP FP.kp bP .nil pass0 (pa_cons (pv 0) (pa_cons (pv 1) pa_nil))))) pss_nil)
      (pss_cons (ps_if (pt_val (pe_callB call_isi (by rfl) T.isi boot_isinstance (pa_cons (pv 1) (pa_cons (pe_bltn (v := .ty "bool") (by rfl) T.bool boot_bool rfl) pa_nil))))
          (pss_one (ps_ret (pe_and (pe_callB call_isi (by rfl) T.isi boot_isinstance (pa_cons (pv 0) (pa_cons (pe_bltn (v := .ty "bool") (by rfl) T.bool boot_bool rfl) pa_nil))) (pe_one (pe_cmpR op_eq (pv 0) (pv 1) (nomark _)))))) pss_nil)
      (pss_cons (ps_if (pt_val (pe_callB call_isi (by rfl) T.isi boot_isinstance (pa_cons (pv 1) (pa_cons (pe_bltn (v := .ty "str") (by rfl) T.str boot_str rfl) pa_nil))))
          (pss_one (ps_ret (pe_and (pe_callB call_isi (by rfl) T.isi boot_isinstance (pa_cons (pv 0) (pa_cons (pe_bltn (v := .ty "str") (by rfl) T.str boot_str rfl) pa_nil))) (pe_one (pe_cmpR op_eq (pv 0) (pv 1) (nomark _)))))) pss_nil)
      (pss_one (ps_ret (pe_and (pe_call GW hr1 (by rfl) mW FW.kp bW .nil pass0 (pa_cons (pv 0) pa_nil)) (pe_one (pe_cmpR op_eq (pv 0) (pv 1) (nomark _)))))))), ?_⟩
    have fin : ∀ x : V, Q (.bl (decide (x = x))) H := fun x => by rw [decide_eq_true rfl]; exact k
    cases n with
    | num i =>
      cases (show v = .int i from hv)
      cases (show u = .int i from hu)
      refine ⟨_, rfl, _, _, _, _, rfl, .int _, kit_int_list, _, rfl, iteF ?_⟩
      refine ⟨_, rfl, _, _, _, _, rfl, .int _, kit_int_bool, _, rfl, iteF ?_⟩
      refine ⟨_, rfl, _, _, _, _, rfl, .int _, kit_int_str, _, rfl, iteF ?_⟩
      exact ⟨_, rfl, _, rfl, _, rfl, iteT ⟨_, rfl, _, rfl, rfl, fin _⟩⟩
    | yes =>
      cases (show v = .bl true from hv)
      cases (show u = .bl true from hu)
      refine ⟨_, rfl, _, _, _, _, rfl, .bl _, kit_bool_list, _, rfl, iteF ?_⟩
      refine ⟨_, rfl, _, _, _, _, rfl, .bl _, kit_same, _, rfl, iteT ?_⟩
      exact ⟨_, rfl, _, _, _, _, rfl, .bl _, kit_same, _, rfl, iteT ⟨_, rfl, _, rfl, rfl, fin _⟩⟩
    | noBell =>
      cases (show v = .str "no bell" from hv)
      cases (show u = .str "no bell" from hu)
      refine ⟨_, rfl, _, _, _, _, rfl, .str _, kit_str_list, _, rfl, iteF ?_⟩
      refine ⟨_, rfl, _, _, _, _, rfl, .str _, kit_str_bool, _, rfl, iteF ?_⟩
      refine ⟨_, rfl, _, _, _, _, rfl, .str _, kit_same, _, rfl, iteT ?_⟩
      exact ⟨_, rfl, _, _, _, _, rfl, .str _, kit_same, _, rfl, iteT ⟨_, rfl, _, rfl, rfl, fin _⟩⟩
    | noTicks =>
      cases (show v = .str "no ticks" from hv)
      cases (show u = .str "no ticks" from hu)
      refine ⟨_, rfl, _, _, _, _, rfl, .str _, kit_str_list, _, rfl, iteF ?_⟩
      refine ⟨_, rfl, _, _, _, _, rfl, .str _, kit_str_bool, _, rfl, iteF ?_⟩
      refine ⟨_, rfl, _, _, _, _, rfl, .str _, kit_same, _, rfl, iteT ?_⟩
      exact ⟨_, rfl, _, _, _, _, rfl, .str _, kit_same, _, rfl, iteT ⟨_, rfl, _, rfl, rfl, fin _⟩⟩
    | rings ps =>
      obtain ⟨a, rs, rfl, ha, tr⟩ := hv
      obtain ⟨b, qs, rfl, hb, tq⟩ := hu
      refine ⟨_, rfl, _, _, _, _, rfl, .lst hb, kit_same, _, rfl, iteT ?_⟩
      exact ⟨_, rfl, _, rfl, a, b, rs, qs, ps, rfl, ha, hb, tr, tq, hl, k⟩
/-! ### _law_mixed -/
abbrev scM1 : Scope := compAt (stAt (defBody sMixed) 0)
theorem bsM1 : BlkScope scM1 := ⟨rfl, by decide +kernel, by decide +kernel⟩
theorem frM1 : ∀ x ∈ scM1.names, x.2 = .free → (defScope sMixed).names.lookup x.1 = some .cell := by decide +kernel
theorem ndM1 : (["_law_k", "_law_script"] : List Str).Nodup := by decide +kernel
theorem scM : FnScope ["_law_script"] ["_law_script"] (defScope sMixed) := ⟨rfl, rfl, rfl, by decide +kernel, rfl, by decide +kernel, by decide +kernel⟩
def spMixed (K : PySem.W.Frag) : Sp := fun vs H Q _ => ∃ (a : Addr) (ns : List Int), vs = [.ref a] ∧ SqL K H a (ns.map V.int) ∧ ns.length ≤ 1000 ∧ ∀ (l : Addr) (ms : List Int), H l = none → ms.length = ns.length → (∀ m ∈ ms, 0 ≤ m) → Q (.ref l) (upd H l (.lst (ms.map V.int)))
theorem ok_mixed {f : Addr} {fd : FuncData} (F : Fun K "_law_mixed" "_law_mixed" sMixed f fd) (T : TxtB mg) : FnOk P w K mg base CX0 1 f fd ["_law_script"] (spMixed K) := by
  refine F.ok scM (fun vs H Q E h => ?_) (fun cdv A outer s H vs Q E hr h => ?_)
  · obtain ⟨a, ns, rfl, _⟩ := h
    rfl
  · obtain ⟨a, ns, rfl, ha, hl, k⟩ := h
    refine ⟨_, pss_one (ps_ret (pe_comp (N := ["_law_k", "_law_script"]) (τ := capσ 1 [0]) rfl (pi_range1 (by rfl) T.range (pa_cons (pe_callB call_len_seq (by rfl) T.len PySem.boot_len (pa_cons (pv 0) pa_nil)) pa_nil)) bsM1 frM1 (fun σ _ => capOne rfl rfl rfl rfl rfl)
      ⟨fun _ _ _ _ _ => pg_nameB 0 ndM1 rfl rfl, fun _ _ _ _ _ => pf_nil,
       fun _ _ _ _ _ => pe_op op_mod (pe_op op_mul (pe_op op_add (pe_ix ix_listB (pvC 1 rfl rfl rfl rfl) (pvB 0 rfl rfl) fun _ _ => rfl) (pe_op op_mul pe_int (pvB 0 rfl rfl))) pe_int) pe_int⟩)), ?_⟩
    refine ⟨_, rfl, a, _, rfl, .inl ha, _, rfl, by rw [List.length_map]; omega, by rw [List.length_map]; omega, comp_range (lo := 0) (n := ((((ns.map V.int).length : Nat) : Int)).toNat) (fun l i σ1 H1 => (∃ u, σ1 = [u, some (.ref a)]) ∧ H l = none ∧ ∃ ms : List Int, ms.length = i ∧ (∀ m ∈ ms, 0 ≤ m) ∧ H1 = upd H l (.lst (ms.map V.int))) ?_ ?_ ?_⟩
    · intro l hl0
      exact ⟨⟨none, rfl⟩, hl0, [], rfl, (fun _ z => nomatch z), rfl⟩
    · rintro l i σ1 H1 hi ⟨⟨u, rfl⟩, hl0, ms, e1, e2, rfl⟩
      have hi2 : i < ns.length := by rw [List.length_map] at hi; omega
      obtain ⟨n, _, en⟩ := int_at hi2
      have a1 : atI (ns.map V.int) (0 + (i : Int)) = some (.int n) := by rw [Int.zero_add]; exact atI_nat en
      refine ⟨_, rfl, _, rfl, a, _, _, _, rfl, rfl, (same_upd hl0).seq ha, a1, _, rfl, _, _, rfl, rfl, .inl ⟨by decide, by decide⟩, _, _, rfl, rfl, _, _, rfl, rfl, .inr ⟨by decide, by decide⟩, _, _, rfl, rfl, (by show (0 : Int) < 1000003; decide), _, upd_same, small_of (m := 1000) (by rw [List.length_map]; omega) (by omega), ⟨_, rfl⟩, hl0, ms ++ [(n + 7919 * (0 + (i : Int))) * 48271 % 1000003], by simp [e1], fun m hm => ?_, ?_⟩
      · rcases List.mem_append.mp hm with hm | hm
        · exact e2 m hm
        · rw [List.mem_singleton.mp hm]; exact Int.emod_nonneg _ (by decide)
      · rw [upd_upd, List.map_append]; rfl
    · rintro l σ1 H1 ⟨_, hl0, ms, e1, e2, rfl⟩
      exact k l ms hl0 (by rw [e1, List.length_map]; omega) e2
end
end BwL

set_option Elab.async false
set_option linter.all false
set_option maxRecDepth 100000
set_option maxHeartbeats 4000000
namespace BwL
open PySem L2 Bw BwM PyProof.Rows
def DeedOk : Deed → Prop
  | .tick m => 0 ≤ m ∧ m ≤ 299
  | _ => True
section
variable {P : Program} {w : World} {K : PySem.W.Frag} {mg : Str → Option Value} {base : Heap}
abbrev ND : List Str := ["_law_cells", "_law_made", "_law_far", "_law_count", "_law_k", "_law_turn", "_law_seed", "_law_after", "_law_number", "_law_many"]
theorem scD : FnScope ND ["_law_cells"] (defScope sDeeds) := ⟨rfl, rfl, rfl, by decide +kernel, rfl, by decide +kernel, by decide +kernel⟩
abbrev bod : List Stmt := forBody (stAt (defBody sDeeds) 3)
def spDeeds (K : PySem.W.Frag) : Sp := fun vs H Q _ => ∃ (a : Addr) (ns : List Int), vs = [.ref a] ∧ SqL K H a (ns.map V.int) ∧ ns.length ≤ 1000 ∧
  ∀ (l : Addr) (rs : List Addr) (ds : List Deed) (H' : Hp), Same H H' → H l = none → H' l = some (.lst (rs.map V.ref)) → DeedsP H' rs ds → ds.length = ns.length → (∀ d ∈ ds, DeedOk d) → Q (.ref l) H'
/-- what the rest of a turn wants: behind it one deed more stands -/
def Rest (K : PySem.W.Frag) (a : Addr) (ns : List Int) (t : TS) : Prop := ∀ (D : Ends) (l : Addr) (far count kk turn seed after : Int) (x8 x9 : Option V) (H2 : Hp) (rs : List Addr), SqL K H2 a (ns.map V.int) → 0 < ns.length → H2 l = some (.lst (rs.map V.ref)) → rs.length ≤ 1000 → 0 ≤ count →
  (∀ (q : Addr) (d : Deed) (H3 : Hp) (far' count' after' : Int) (x8' x9' : Option V), Keep l H2 H3 → H3 l = some (.lst ((rs ++ [q]).map V.ref)) → H2 q = none → DeedP H3 q d → DeedOk d → 0 ≤ count' →
    D.nx [some (.ref a), some (.ref l), some (.int far'), some (.int count'), some (.int kk), some (.int turn), some (.int seed), some (.int after'), x8', x9'] H3) →
  t D [some (.ref a), some (.ref l), some (.int far), some (.int count), some (.int kk), some (.int turn), some (.int seed), some (.int after), x8, x9] H2
theorem ok_deeds {f : Addr} {fd : FuncData} (F : Fun K "_law_deeds" "_law_deeds" sDeeds f fd) (T : TxtB mg) : FnOk P w K mg base CX0 1 f fd ["_law_cells"] (spDeeds K) := by
  refine F.ok scD (fun vs H Q E h => ?_) (fun cdv A outer s H vs Q E hr h => ?_)
  · obtain ⟨a, ns, rfl, _⟩ := h
    rfl
  · obtain ⟨a, ns, rfl, ha, hlen, k⟩ := h
    have lm : (ns.map V.int).length = ns.length := List.length_map ..
    have t6 : ∃ t, PSs (cxOf CX0 P w K mg base ND "_law_deeds" (defScope sDeeds) f cdv A outer s H E).nox (bod.drop 6) t ∧ Rest K a ns t := by
      refine ⟨_, pss_cons (ps_set (i := 8) scD.nd rfl (Or.inl rfl) (pe_op op_sub (pe_op op_mod (pe_ix ix_list (pv 0) (pe_op op_mod (pe_op op_add (pv 4) pe_int) (pe_callB call_len_seq (by rfl) T.len PySem.boot_len (pa_cons (pv 0) pa_nil))) fun _ _ => rfl) (pe_op op_add (pv 3) pe_int)) pe_int))
        (pss_one (ps_if (pt_cmpR op_lt (pv 5) pe_int (nomark _))
          (pss_cons (ps_expr (pe_bm PySem.F.plainAttrs_list PySem.F.slot_list_append PySem.F.type_list_append mt_append (pv 1) (pa_cons (pe_tup (pa_cons pe_str (pa_cons (pv 7) pa_nil))) pa_nil)))
            (pss_one (ps_set (i := 3) scD.nd rfl (Or.inl rfl) (pe_op op_add (pv 3) (pe_callTy call_int1 (by rfl) T.int boot_int (pa_cons (pe_cmpR op_gt (pv 7) pe_int (nomark _)) pa_nil))))))
          (pss_one (ps_if (pt_cmpR op_eq (pv 5) pe_int (nomark _))
            (pss_one (ps_expr (pe_bm PySem.F.plainAttrs_list PySem.F.slot_list_append PySem.F.type_list_append mt_append (pv 1) (pa_cons (pe_tup (pa_cons pe_str (pa_cons (pv 8) (pa_cons (pv 7) pa_nil)))) pa_nil))))
            (pss_one (ps_if (pt_cmpR op_eq (pv 5) pe_int (nomark _))
              (pss_one (ps_expr (pe_bm PySem.F.plainAttrs_list PySem.F.slot_list_append PySem.F.type_list_append mt_append (pv 1) (pa_cons (pe_tup (pa_cons pe_str (pa_cons (pv 8) pa_nil))) pa_nil))))
              (pss_cons (ps_set (i := 9) scD.nd rfl (Or.inl rfl) (pe_op op_mod (pe_op op_fdiv (pv 6) pe_int) pe_int))
              (pss_cons (ps_if (pw_and (pt_cmpR op_eq (pe_op op_mod (pv 6) pe_int) pe_int (nomark _)) (pw_and1 (pt_cmpR op_lt (pv 2) pe_int (nomark _)))).pt
                (pss_cons (ps_set (i := 9) scD.nd rfl (Or.inl rfl) (pe_op op_add pe_int (pe_op op_mod (pe_op op_fdiv (pv 6) pe_int) pe_int)))
                  (pss_one (ps_set (i := 2) scD.nd rfl (Or.inl rfl) (pe_op op_add (pv 2) pe_int)))) pss_nil)
              (pss_one (ps_expr (pe_bm PySem.F.plainAttrs_list PySem.F.slot_list_append PySem.F.type_list_append mt_append (pv 1) (pa_cons (pe_tup (pa_cons pe_str (pa_cons (pv 9) pa_nil))) pa_nil)))))))))))), ?_⟩
      intro D l far count kk turn seed after x8 x9 H2 rs ha2 hn hl2 hlr hc kk'
      have hnz : (0 : Int) < (((ns.map V.int).length : Nat) : Int) := by rw [lm]; omega
      have e0 := Int.emod_nonneg (kk + 1) (show (((ns.map V.int).length : Nat) : Int) ≠ 0 by omega)
      have e1 := Int.emod_lt_of_pos (kk + 1) hnz
      have hi2 : ((kk + 1) % (((ns.map V.int).length : Nat) : Int)).toNat < ns.length := by omega
      obtain ⟨n, _, en⟩ := int_at hi2
      have a1 : atI (ns.map V.int) ((kk + 1) % (((ns.map V.int).length : Nat) : Int)) = some (.int n) := by
        have := atI_nat en
        rwa [Int.toNat_of_nonneg e0] at this
      refine ⟨_, rfl, _, rfl, _, _, rfl, rfl, _, rfl, a, _, rfl, .inl ha2, _, _, rfl, rfl, hnz, a, _, _, _, rfl, rfl, ha2, a1, _, rfl, _, _, rfl, rfl, _, _, rfl, rfl, (by show 0 < count + 2; omega), _, _, rfl, rfl, ?_⟩
      have small : (rs.map V.ref).length < sizeLine := small_of (m := 1000) (by rw [List.length_map]; exact hlr) (by omega)
      have app : ∀ (q : Addr) (us : List V) (d : Deed) (far' count' after' : Int) (x8' x9' : Option V), H2 q = none → (∀ H3 : Hp, H3 q = some (.tup us) → DeedP H3 q d) → DeedOk d → 0 ≤ count' →
          D.nx [some (.ref a), some (.ref l), some (.int far'), some (.int count'), some (.int kk), some (.int turn), some (.int seed), some (.int after'), x8', x9'] (upd (upd H2 q (.tup us)) l (.lst (rs.map V.ref ++ [.ref q]))) := fun q us d far' count' after' x8' x9' hq hd ok hc' => by
        have nq : q ≠ l := Ne.symm (ne_of_none hl2 hq)
        exact kk' q d _ far' count' after' x8' x9' ((Keep.of (same_upd hq)).trans .upd) (by rw [upd_same, List.map_append]; rfl) hq (hd _ (by rw [upd_ne nq, upd_same])) ok hc'
      refine ⟨_, rfl, _, _, rfl, rfl, _, rfl, ite2 (fun _ => ?_) fun _ => ?_⟩
      · refine ⟨_, rfl, .inl ⟨rfl, _, SqL.of hl2⟩, _, rfl, (by show 2 ≤ sizeLine; decide), fun q hq => ⟨l, _, _, rfl, rfl, same_upd hq _ _ hl2, small, ?_⟩⟩
        refine ⟨_, rfl, _, rfl, _, _, rfl, rfl, .inr ⟨_, rfl, _, _, rfl, rfl, ?_⟩⟩
        exact app q _ (.set after) _ _ _ _ _ hq (fun _ h => h) trivial (by split <;> omega)
      · refine ⟨_, rfl, rfl, _, rfl, ite2 (fun _ => ?_) fun _ => ?_⟩
        · refine ⟨_, rfl, .inl ⟨rfl, _, SqL.of hl2⟩, _, rfl, _, rfl, (by show 3 ≤ sizeLine; decide), fun q hq => ⟨l, _, _, rfl, rfl, same_upd hq _ _ hl2, small, ?_⟩⟩
          exact app q _ (.off _ after) _ _ _ _ _ hq (fun _ h => h) trivial hc
        · refine ⟨_, rfl, rfl, _, rfl, ite2 (fun _ => ?_) fun _ => ?_⟩
          · refine ⟨_, rfl, .inl ⟨rfl, _, SqL.of hl2⟩, _, rfl, (by show 2 ≤ sizeLine; decide), fun q hq => ⟨l, _, _, rfl, rfl, same_upd hq _ _ hl2, small, ?_⟩⟩
            exact app q _ (.strike _) _ _ _ _ _ hq (fun _ h => h) trivial hc
          · refine ⟨_, rfl, _, _, rfl, rfl, ⟨by decide, by decide⟩, _, _, rfl, rfl, (by show (0 : Int) < 4; decide), ?_⟩
            refine ⟨_, rfl, _, _, rfl, rfl, (by show (0 : Int) < 61; decide), rfl, _, rfl, ite2 (fun _ => ?_) fun _ => iteF ?_⟩
            · refine ⟨_, rfl, _, _, rfl, rfl, _, rfl, ite2 (fun _ => ?_) fun _ => ?_⟩
              · refine ⟨_, rfl, _, _, rfl, rfl, ⟨by decide, by decide⟩, _, _, rfl, rfl, (by show (0 : Int) < 240; decide), _, _, rfl, rfl, ?_⟩
                refine ⟨_, rfl, _, _, rfl, rfl, ?_⟩
                exact ⟨_, rfl, .inl ⟨rfl, _, SqL.of hl2⟩, _, rfl, (by show 2 ≤ sizeLine; decide), fun q hq => ⟨l, _, _, rfl, rfl, same_upd hq _ _ hl2, small, app q _ (.tick _) _ _ _ _ _ hq (fun _ h => h) ⟨by omega, by omega⟩ hc⟩⟩
              · exact ⟨_, rfl, .inl ⟨rfl, _, SqL.of hl2⟩, _, rfl, (by show 2 ≤ sizeLine; decide), fun q hq => ⟨l, _, _, rfl, rfl, same_upd hq _ _ hl2, small, app q _ (.tick _) _ _ _ _ _ hq (fun _ h => h) ⟨by omega, by omega⟩ hc⟩⟩
            · exact ⟨_, rfl, .inl ⟨rfl, _, SqL.of hl2⟩, _, rfl, (by show 2 ≤ sizeLine; decide), fun q hq => ⟨l, _, _, rfl, rfl, same_upd hq _ _ hl2, small, app q _ (.tick _) _ _ _ _ _ hq (fun _ h => h) ⟨by omega, by omega⟩ hc⟩⟩
    obtain ⟨t6, ht6, hq6⟩ := t6
    have t5 : ∃ t, PSs (cxOf CX0 P w K mg base ND "_law_deeds" (defScope sDeeds) f cdv A outer s H E).nox (bod.drop 5) t ∧ Rest K a ns t := by
      refine ⟨_, pss_cons (ps_if (pt_cmpR op_eq (pe_op op_mod (pv 6) pe_int) pe_int (nomark _)) (pss_one (ps_set (i := 7) scD.nd rfl (Or.inl rfl) (pe_op op_add pe_int (pe_op op_fdiv (pv 6) pe_int)))) pss_nil) ht6, ?_⟩
      intro D l far count kk turn seed after x8 x9 H2 rs ha2 hn hl2 hlr hc kk'
      refine ⟨_, rfl, _, _, rfl, rfl, (by show (0 : Int) < 23; decide), rfl, _, rfl, ite2 (fun _ => ?_) fun _ => ?_⟩
      · exact ⟨_, rfl, _, _, rfl, rfl, ⟨by decide, by decide⟩, _, _, rfl, rfl, hq6 D l _ _ _ _ _ _ _ _ H2 rs ha2 hn hl2 hlr hc kk'⟩
      · exact hq6 D l _ _ _ _ _ _ _ _ H2 rs ha2 hn hl2 hlr hc kk'
    obtain ⟨t5, ht5, hq5⟩ := t5
    have t4 : ∃ t, PSs (cxOf CX0 P w K mg base ND "_law_deeds" (defScope sDeeds) f cdv A outer s H E).nox (bod.drop 4) t ∧ Rest K a ns t := by
      refine ⟨_, pss_cons (ps_if (pt_cmpR op_eq (pe_op op_mod (pv 6) pe_int) pe_int (nomark _)) (pss_one (ps_set (i := 7) scD.nd rfl (Or.inl rfl) (pe_op op_pow pe_int pe_int))) pss_nil) ht5, ?_⟩
      intro D l far count kk turn seed after x8 x9 H2 rs ha2 hn hl2 hlr hc kk'
      refine ⟨_, rfl, _, _, rfl, rfl, (by show (0 : Int) < 23; decide), rfl, _, rfl, ite2 (fun _ => ?_) fun _ => ?_⟩
      · exact ⟨_, _, rfl, rfl, ⟨by decide, by decide, by decide⟩, hq5 D l _ _ _ _ _ _ _ _ H2 rs ha2 hn hl2 hlr hc kk'⟩
      · exact hq5 D l _ _ _ _ _ _ _ _ H2 rs ha2 hn hl2 hlr hc kk'
    obtain ⟨t4, ht4, hq4⟩ := t4
    have t3 : ∃ t, PSs (cxOf CX0 P w K mg base ND "_law_deeds" (defScope sDeeds) f cdv A outer s H E).nox (bod.drop 3) t ∧ Rest K a ns t := by
      refine ⟨_, pss_cons (ps_if (pt_cmpR op_eq (pe_op op_mod (pv 6) pe_int) pe_int (nomark _)) (pss_one (ps_set (i := 7) scD.nd rfl (Or.inl rfl) (pe_op op_sub pe_int (pe_op op_mod (pv 6) pe_int)))) pss_nil) ht4, ?_⟩
      intro D l far count kk turn seed after x8 x9 H2 rs ha2 hn hl2 hlr hc kk'
      refine ⟨_, rfl, _, _, rfl, rfl, (by show (0 : Int) < 23; decide), rfl, _, rfl, ite2 (fun _ => ?_) fun _ => ?_⟩
      · exact ⟨_, rfl, _, _, rfl, rfl, (by show (0 : Int) < 2; decide), _, _, rfl, rfl, hq4 D l _ _ _ _ _ _ _ _ H2 rs ha2 hn hl2 hlr hc kk'⟩
      · exact hq4 D l _ _ _ _ _ _ _ _ H2 rs ha2 hn hl2 hlr hc kk'
    obtain ⟨t3, ht3, hq3⟩ := t3
    refine ⟨_, pss_cons (ps_set (i := 1) scD.nd rfl (Or.inl rfl) (pe_lst pa_nil))
      (pss_cons (ps_set (i := 2) scD.nd rfl (Or.inl rfl) pe_int)
      (pss_cons (ps_set (i := 3) scD.nd rfl (Or.inl rfl) pe_int)
      (pss_cons (ps_for PassesOwn.never rfl (pi_range1 (by rfl) T.range (pa_cons (pe_callB call_len_seq (by rfl) T.len PySem.boot_len (pa_cons (pv 0) pa_nil)) pa_nil)) (pg_name (i := 4) scD.nd rfl (Or.inl rfl))
        (pss_cons (ps_set (i := 5) scD.nd rfl (Or.inl rfl) (pe_op op_mod (pe_op op_add (pe_ix ix_list (pv 0) (pv 4) fun _ _ => rfl) (pe_op op_mul pe_int (pv 4))) pe_int))
        (pss_cons (ps_set (i := 6) scD.nd rfl (Or.inl rfl) (pe_op op_add (pe_op op_fdiv (pe_ix ix_list (pv 0) (pv 4) fun _ _ => rfl) pe_int) (pe_op op_mul pe_int (pv 4))))
        (pss_cons (ps_set (i := 7) scD.nd rfl (Or.inl rfl) (pe_op op_add pe_int (pe_ix ix_list (pe_lst (pa_cons (pe_op op_mod (pv 6) pe_int) (pa_cons (pe_op op_mod (pv 6) pe_int) (pa_cons (pe_op op_mod (pv 6) pe_int) pa_nil)))) (pe_op op_mod (pe_op op_fdiv (pv 6) pe_int) pe_int) fun _ _ => rfl)))
        ht3))))
      (pss_one (ps_ret (pv 1)))))), ?_⟩
    refine ⟨Nat.zero_le _, fun l fl => ?_⟩
    have s1 : Same H (upd H l (.lst [])) := same_upd fl
    refine ⟨_, rfl, a, _, rfl, .inl (s1.seq ha), _, rfl, by omega, by omega, for_range (lo := 0)
      (fun i σ H2 => ∃ (far count : Int) (x4 x5 x6 x7 x8 x9 : Option V) (rs : List Addr) (ds : List Deed), σ = [some (.ref a), some (.ref l), some (.int far), some (.int count), x4, x5, x6, x7, x8, x9] ∧ Same H H2 ∧ H2 l = some (.lst (rs.map V.ref)) ∧ DeedsP H2 rs ds ∧ ds.length = i ∧ (∀ d ∈ ds, DeedOk d) ∧ 0 ≤ count)
      ⟨0, 0, none, none, none, none, none, none, [], [], rfl, s1, upd_same, Paired.nil, rfl, (fun _ z => nomatch z), Int.le_refl 0⟩ ?_ ?_⟩
    · rintro i σ H2 hi ⟨far, count, x4, x5, x6, x7, x8, x9, rs, ds, rfl, s2, hl2, hd2, hdl, hok, hc⟩
      have hi2 : i < ns.length := by omega
      have ha2 := s2.seq ha
      obtain ⟨n, _, en⟩ := int_at hi2
      have a1 : atI (ns.map V.int) (0 + (i : Int)) = some (.int n) := by rw [Int.zero_add]; exact atI_nat en
      refine ⟨_, rfl, _, rfl, a, _, _, _, rfl, rfl, ha2, a1, _, rfl, _, _, rfl, rfl, .inl ⟨by decide, by decide⟩, _, _, rfl, rfl, _, _, rfl, rfl, (by show (0 : Int) < 8; decide), ?_⟩
      refine ⟨_, rfl, _, rfl, a, _, _, _, rfl, rfl, ha2, a1, _, _, rfl, rfl, ⟨by decide, by decide⟩, _, rfl, _, _, rfl, rfl, .inl ⟨by decide, by decide⟩, _, _, rfl, rfl, ?_⟩
      generalize hseed : n / 8 + 5 * (0 + (i : Int)) = seed
      refine ⟨_, rfl, _, _, rfl, rfl, (by show (0 : Int) < 4; decide), _, rfl, _, _, rfl, rfl, (by show (0 : Int) < 9; decide), _, rfl, _, _, rfl, rfl, (by show (0 : Int) < 31; decide), (by show 3 ≤ sizeLine; decide), fun p fp => ?_⟩
      refine ⟨_, rfl, _, _, rfl, rfl, ⟨by decide, by decide⟩, _, _, rfl, rfl, (by show (0 : Int) < 3; decide), ?_⟩
      have s3 := same_upd (o := .lst [.int ((n / 8 + 5 * (0 + (i : Int))) % 4), .int ((n / 8 + 5 * (0 + (i : Int))) % 9), .int ((n / 8 + 5 * (0 + (i : Int))) % 31)]) fp
      have hp3 : upd H2 p (.lst [.int ((n / 8 + 5 * (0 + (i : Int))) % 4), .int ((n / 8 + 5 * (0 + (i : Int))) % 9), .int ((n / 8 + 5 * (0 + (i : Int))) % 31)]) p = some (.lst [.int ((n / 8 + 5 * (0 + (i : Int))) % 4), .int ((n / 8 + 5 * (0 + (i : Int))) % 9), .int ((n / 8 + 5 * (0 + (i : Int))) % 31)]) := upd_same
      have hlr : rs.length ≤ 1000 := by rw [hd2.length]; omega
      have go : ∀ (D : Ends) (after turn seed : Int) (H3 : Hp), Same H2 H3 → (∀ σ' H', (∃ (far count : Int) (x4 x5 x6 x7 x8 x9 : Option V) (rs : List Addr) (ds : List Deed), σ' = [some (.ref a), some (.ref l), some (.int far), some (.int count), x4, x5, x6, x7, x8, x9] ∧ Same H H' ∧ H' l = some (.lst (rs.map V.ref)) ∧ DeedsP H' rs ds ∧ ds.length = i + 1 ∧ (∀ d ∈ ds, DeedOk d) ∧ 0 ≤ count) → D.nx σ' H') →
          t3 D [some (.ref a), some (.ref l), some (.int far), some (.int count), some (.int (0 + (i : Int))), some (.int turn), some (.int seed), some (.int after), x8, x9] H3 := fun D after turn seed H3 s3 nx =>
        hq3 D l far count _ turn seed after x8 x9 H3 rs (s3.seq ha2) (by omega) (s3 _ _ hl2) hlr hc fun q d H4 far' count' after' x8' x9' k4 hl4 hq4 hd4 ok4 hc4 => by
          refine nx _ _ ⟨far', count', _, _, _, _, _, _, rs ++ [q], ds ++ [d], rfl, fun b o e => k4 b o (s3 b o (s2 b o e)) (ne_of_none e fl), hl4, ?_, by simp [hdl], fun d' hd' => ?_, hc4⟩
          · refine Paired.snoc (L2.Paired.mapP hd2 fun r d e => DeedP.same (fun xs e' => k4 r _ (s3 r _ e') (ne_of (s3 r _ e') (s3 _ _ hl2) (by intro z; cases z))) e) hd4
          · rcases List.mem_append.mp hd' with h | h
            · exact hok d' h
            · rw [List.mem_singleton.mp h]; exact ok4
      rcases (show (n / 8 + 5 * (0 + (i : Int))) / 31 % 3 = 0 ∨ (n / 8 + 5 * (0 + (i : Int))) / 31 % 3 = 1 ∨ (n / 8 + 5 * (0 + (i : Int))) / 31 % 3 = 2 by omega) with e | e | e
      · exact ⟨p, _, _, _, rfl, rfl, SqL.of hp3, by rw [e]; rfl, _, _, rfl, rfl, go _ _ _ _ _ s3 fun _ _ z => z⟩
      · exact ⟨p, _, _, _, rfl, rfl, SqL.of hp3, by rw [e]; rfl, _, _, rfl, rfl, go _ _ _ _ _ s3 fun _ _ z => z⟩
      · exact ⟨p, _, _, _, rfl, rfl, SqL.of hp3, by rw [e]; rfl, _, _, rfl, rfl, go _ _ _ _ _ s3 fun _ _ z => z⟩
    · rintro σ H2 ⟨far, count, x4, x5, x6, x7, x8, x9, rs, ds, rfl, s2, hl2, hd2, hdl, hok, hc⟩
      exact ⟨_, rfl, k l rs ds H2 s2 fl hl2 hd2 (by rw [hdl]; omega) hok⟩
end
end BwL

namespace BwM
theorem tolds_get : ∀ (ds : List Deed) (s : Day) (i : Nat) (d : Deed), ds[i]? = some d → (tolds ds s)[i]? = some (told (days (ds.take i) s) d)
  | [], _, _, _, h => by simp at h
  | e :: ds, s, 0, d, h => by
    simp at h; subst h
    rfl
  | e :: ds, s, i + 1, d, h => by
    have h' : ds[i]? = some d := by simpa using h
    have := tolds_get ds (next s e) i d h'
    show (told s e :: tolds ds (next s e))[i + 1]? = _
    rw [List.getElem?_cons_succ, this]
    rfl
theorem rest_len (t : Int) (ws : W) : (rest t ws).length + (due t ws).length = ws.length := by
  induction ws with
  | nil => rfl
  | cons p ws ih =>
    unfold rest due at ih ⊢
    by_cases h : p.2 = t
    · rw [List.filter_cons_of_neg (p := fun p : Int × Int => !decide (p.2 = t)) (by simpa using h), List.filter_cons_of_pos (by simpa using h), List.map_cons, List.length_cons, List.length_cons]
      omega
    · rw [List.filter_cons_of_pos (p := fun p : Int × Int => !decide (p.2 = t)) (by simpa using h), List.filter_cons_of_neg (by simpa using h), List.length_cons, List.length_cons]
      omega
theorem rungs_len (k : Nat) : ∀ s : Day, (rungs k s).length + (ticks k s).ws.length = s.ws.length := by
  induction k with
  | zero => intro s; simp [rungs, ticks]
  | succ k ih =>
    intro s
    have h1 := ih (tick1 s)
    have h2 := rest_len (s.now + 1) s.ws
    show (rung1 s ++ rungs k (tick1 s)).length + (ticks k (tick1 s)).ws.length = s.ws.length
    rw [List.length_append]
    have e : (rung1 s).length = (due (s.now + 1) s.ws).length := by unfold rung1; rw [List.length_map]
    have e2 : (tick1 s).ws.length = (rest (s.now + 1) s.ws).length := rfl
    omega
theorem drop_len (n : Int) (ws : W) : (drop n ws).length ≤ ws.length := List.length_filter_le _ _
theorem drop_less {n : Int} {ws : W} (h : n ∈ ws.map (·.1)) : (drop n ws).length + 1 ≤ ws.length := by
  induction ws with
  | nil => cases h
  | cons p ws ih =>
    unfold drop at ih ⊢
    by_cases e : p.1 = n
    · rw [List.filter_cons_of_neg (by simpa using e), List.length_cons]
      exact Nat.succ_le_succ (List.length_filter_le _ _)
    · rw [List.filter_cons_of_pos (by simpa using e), List.length_cons, List.length_cons]
      have h' : n ∈ ws.map (·.1) := by
        rcases List.mem_cons.mp h with z | z
        · exact absurd z.symm e
        · exact z
      have := ih h'
      omega
theorem next_len (s : Day) : ∀ d : Deed, (next s d).ws.length ≤ s.ws.length + 1
  | .set a => by
    rw [next_set]
    by_cases h : a < 1
    · rw [if_pos h]; omega
    · rw [if_neg h]; show (s.ws ++ [_]).length ≤ _; rw [List.length_append]; exact Nat.le_refl _
  | .off n a => by
    rw [next_off]
    by_cases hw : waits s n
    · rw [if_neg (show ¬ ¬ waits s n from fun y => y hw)]
      by_cases h : a < 1
      · rw [if_pos h]; omega
      · rw [if_neg h]
        have := drop_less hw
        show (drop n s.ws ++ [_]).length ≤ _
        rw [List.length_append, List.length_singleton]; omega
    · rw [if_pos hw]; omega
  | .strike n => by
    rw [next_strike]
    by_cases hw : waits s n
    · rw [if_neg (show ¬ ¬ waits s n from fun y => y hw)]
      have := drop_len n s.ws
      show (drop n s.ws).length ≤ _
      omega
    · rw [if_pos hw]; omega
  | .tick m => by
    have := rungs_len m.toNat s
    show (ticks m.toNat s).ws.length ≤ _
    omega
theorem days_len : ∀ (ds : List Deed) (s : Day), (days ds s).ws.length ≤ s.ws.length + ds.length
  | [], _ => Nat.le_refl _
  | d :: ds, s => by
    have h1 := days_len ds (next s d)
    have h2 := next_len s d
    show (days ds (next s d)).ws.length ≤ s.ws.length + (ds.length + 1)
    omega
theorem ticks_came (k : Nat) : ∀ s : Day, (ticks k s).came = s.came := by
  induction k with
  | zero => intro s; rfl
  | succ k ih => intro s; exact ih (tick1 s)
theorem ticks_now (k : Nat) : ∀ s : Day, (ticks k s).now = s.now + k := by
  induction k with
  | zero => intro s; simp [ticks]
  | succ k ih =>
    intro s
    show (ticks k (tick1 s)).now = _
    rw [ih]
    show s.now + 1 + (k : Int) = s.now + ((k + 1 : Nat) : Int)
    omega
end BwM

/-! The bells that wait, their numbers rising; how often a slot is looked at. -/
namespace BwM
/-- the bells that wait with the ticks to go -/
def left (s : Day) : List (Int × Int) := s.ws.map fun p => (p.1, p.2 - s.now)
def Rising (l : List (Int × Int)) : Prop := l.Pairwise fun a b => a.1 ≤ b.1
theorem left_nums (s : Day) : (left s).map (·.1) = s.ws.map (·.1) := by unfold left; rw [List.map_map]; rfl
theorem left_len (s : Day) : (left s).length = s.ws.length := by unfold left; rw [List.length_map]
/-- one order alone -/
theorem rising_eq : ∀ {l k : List (Int × Int)}, (l.map (·.1)).Nodup → l.Perm k → Rising l → Rising k → l = k
  | [], k, _, p, _, _ => by rw [List.nil_perm.mp p]
  | a :: l, [], _, p, _, _ => by have := p.length_eq; simp at this
  | a :: l, b :: k, nd, p, hl, hk => by
    have nd' := nd
    rw [List.map_cons, List.nodup_cons] at nd
    unfold Rising at hl hk
    rw [List.pairwise_cons] at hl hk
    have ha : a ∈ b :: k := p.mem_iff.mp List.mem_cons_self
    have hb : b ∈ a :: l := p.mem_iff.mpr List.mem_cons_self
    have e : a = b := by
      rcases List.mem_cons.mp ha with e | ha
      · exact e
      · rcases List.mem_cons.mp hb with e | hb
        · exact e.symm
        · have h1 := hl.1 b hb
          have h2 := hk.1 a ha
          have e1 : a.1 = b.1 := by omega
          exact absurd (by rw [e1]; exact List.mem_map_of_mem hb) nd.1
    subst e
    rw [rising_eq nd.2 (List.Perm.cons_inv p) hl.2 hk.2]
theorem rising_one {l k m : List (Int × Int)} (nd : (m.map (·.1)).Nodup) (hl : l.Perm m) (hk : k.Perm m) (rl : Rising l) (rk : Rising k) : l = k :=
  rising_eq ((hl.map _).nodup_iff.mpr nd) (hl.trans hk.symm) rl rk
/-- a bell off the ones that wait, as the tick goes on: the other ones have one tick fewer to go -/
def Near (s : Day) (b : Int) : Prop := ∀ p ∈ s.ws, p.2 ≤ s.now + b
theorem near0 {b : Int} : Near day0 b := fun _ h => nomatch h
theorem Near.tick1 {s : Day} {b : Int} (h : Near s b) : Near (tick1 s) b := fun p hp => by
  have := h p (List.mem_filter.mp hp).1
  show p.2 ≤ s.now + 1 + b
  omega
theorem Near.ticks {b : Int} : ∀ (k : Nat) {s : Day}, Near s b → Near (ticks k s) b
  | 0, _, g => g
  | k + 1, _, g => Near.ticks k g.tick1
theorem Near.next {s : Day} {b : Int} (h : Near s b) : ∀ (d : Deed), (∀ a, d = .set a → a ≤ b) → (∀ n a, d = .off n a → a ≤ b) → Near (next s d) b
  | .set a, h1, _ => by
    rw [next_set]
    by_cases e : a < 1
    · rw [if_pos e]; exact h
    · rw [if_neg e]
      intro p hp
      rcases List.mem_append.mp hp with hp | hp
      · exact h p hp
      · rw [List.mem_singleton.mp hp]
        have := h1 a rfl
        show s.now + a ≤ s.now + b
        omega
  | .off n a, _, h2 => by
    rw [next_off]
    by_cases hw : waits s n
    · rw [if_neg (show ¬ ¬ waits s n from fun y => y hw)]
      by_cases e : a < 1
      · rw [if_pos e]; exact h
      · rw [if_neg e]
        intro p hp
        rcases List.mem_append.mp hp with hp | hp
        · exact h p (List.mem_filter.mp hp).1
        · rw [List.mem_singleton.mp hp]
          have := h2 n a rfl
          show s.now + a ≤ s.now + b
          omega
    · rw [if_pos hw]; exact h
  | .strike n, _, _ => by
    rw [next_strike]
    by_cases hw : waits s n
    · rw [if_neg (show ¬ ¬ waits s n from fun y => y hw)]
      exact fun p hp => h p (List.mem_filter.mp hp).1
    · rw [if_pos hw]; exact h
  | .tick m, _, _ => Near.ticks _ h
theorem now_next' (s : Day) : ∀ (d : Deed), (∀ m, d ≠ .tick m) → (next s d).now = s.now
  | .set a, _ => by rw [next_set]; split <;> rfl
  | .off n a, _ => by rw [next_off]; split; rfl; split <;> rfl
  | .strike n, _ => by rw [next_strike]; split <;> rfl
  | .tick m, h => absurd rfl (h m)
/-- how far a day goes -/
theorem days_now : ∀ (ds : List Deed) (s : Day), (∀ m, Deed.tick m ∈ ds → m ≤ 299) → s.now ≤ (days ds s).now ∧ (days ds s).now ≤ s.now + 299 * ds.length
  | [], s, _ => ⟨Int.le_refl _, by show s.now ≤ s.now + 299 * ((0 : Nat) : Int); omega⟩
  | d :: ds, s, h => by
    have ih := days_now ds (next s d) fun m hm => h m (List.mem_cons_of_mem _ hm)
    have e : days (d :: ds) s = days ds (next s d) := rfl
    rw [e]
    have hn : s.now ≤ (next s d).now ∧ (next s d).now ≤ s.now + 299 := by
      by_cases hd : ∃ m, d = .tick m
      · obtain ⟨m, rfl⟩ := hd
        have h1 := h m List.mem_cons_self
        show s.now ≤ (ticks m.toNat s).now ∧ (ticks m.toNat s).now ≤ s.now + 299
        rw [ticks_now]
        omega
      · rw [now_next' s d fun m e => hd ⟨m, e⟩]
        omega
    rw [List.length_cons]
    omega
theorem days_near {b : Int} : ∀ (ds : List Deed) (s : Day), Near s b → (∀ a, Deed.set a ∈ ds → a ≤ b) → (∀ n a, Deed.off n a ∈ ds → a ≤ b) → Near (days ds s) b
  | [], _, h, _, _ => h
  | d :: ds, s, h, h1, h2 => days_near ds (next s d) (h.next d (fun a e => h1 a (by rw [← e]; exact List.mem_cons_self)) fun n a e => h2 n a (by rw [← e]; exact List.mem_cons_self)) (fun a ha => h1 a (List.mem_cons_of_mem _ ha)) fun n a ha => h2 n a (List.mem_cons_of_mem _ ha)
/-- how many of the first k ticks behind now are looked at in the slot j -/
def looks (z now j : Int) : Nat → Int
  | 0 => 0
  | k + 1 => looks z now j k + if (now + 1 + (k : Int)) % z = j then 1 else 0
/-- .. counted back from the bell's tick -/
theorem looks_eq {z now m : Int} (hz : 0 < z) : ∀ (k : Nat), now + 1 + k ≤ m → looks z now (m % z) k = (m - now - 1) / z - (m - now - 1 - k) / z
  | 0, _ => by
    show (0 : Int) = _
    rw [show m - now - 1 - ((0 : Nat) : Int) = m - now - 1 by omega]; omega
  | k + 1, h => by
    have h' : now + 1 + ((k : Nat) : Int) ≤ m := by omega
    have ih := looks_eq (m := m) hz k h'
    show looks z now (m % z) k + _ = _
    rw [ih]
    have e0 : m - now - 1 - ((k + 1 : Nat) : Int) = (m - (now + 1 + (k : Int))) - 1 := by omega
    have e1 : m - now - 1 - (k : Int) = m - (now + 1 + (k : Int)) := by omega
    rw [e0, e1]
    by_cases e : (now + 1 + (k : Int)) % z = m % z
    · rw [if_pos e]
      have := count_hit hz (same_rest.mp e.symm)
      omega
    · rw [if_neg e]
      have := count_miss hz (fun q => e (same_rest.mpr q).symm)
      omega
theorem looks_all {z now m : Int} (hz : 0 < z) (h : now < m) : looks z now (m % z) (m - (now + 1)).toNat = (m - now - 1) / z := by
  rw [looks_eq hz _ (by omega), show m - now - 1 - ((m - (now + 1)).toNat : Int) = 0 by omega, Int.zero_ediv]
  omega
theorem slot_nil (z now j : Int) : slot z now j [] = [] := rfl
theorem slot_len (z now j : Int) (ws : W) : (slot z now j ws).length ≤ ws.length := by
  unfold slot; rw [List.length_map]; exact List.length_filter_le _ _
end BwM

set_option Elab.async false
set_option linter.all false
set_option maxRecDepth 100000
/-! What the program promises: answers and behind. -/
namespace Bw
open PySem L2 BwM
/-- the day's ticks -/
def TicksOk (ds : List Deed) : Prop := ∀ m, Deed.tick m ∈ ds → 0 ≤ m ∧ m ≤ 10000
def spAnswers : Sp := fun vs H Q _ => ∃ (z : Int) (a : Addr) (rs : List Addr) (ds : List Deed), vs = [.int z, .ref a] ∧ 0 < z ∧ z ≤ 1000 ∧ H a = some (.lst (rs.map V.ref)) ∧ DeedsP H rs ds ∧ ds.length ≤ 63 ∧ TicksOk ds ∧
  ∀ (l : Addr) (xs : List V) (H' : Hp), Same H H' → H l = none → H' l = some (.lst xs) → Paired (AnsP H') xs (tolds ds day0) → Q (.ref l) H'
/-- the slots stand at srs -/
def SlotsP (H : Hp) (z now : Int) (ws : W) (srs : List Addr) : Prop := ∀ (j : Nat) (r : Addr), srs[j]? = some r → ∃ rs : List Addr, H r = some (.lst (rs.map V.ref)) ∧ TupsP H rs (slot z now j ws)
def spBehind : Sp := fun vs H Q _ => ∃ (z : Int) (a : Addr) (rs : List Addr) (ds : List Deed), vs = [.int z, .ref a] ∧ 0 < z ∧ z ≤ 1000 ∧ H a = some (.lst (rs.map V.ref)) ∧ DeedsP H rs ds ∧ ds.length ≤ 63 ∧ TicksOk ds ∧
  ∀ (t sl wl : Addr) (srs qs : List Addr) (ss : List (Int × Int)) (H' : Hp), Same H H' → H' t = some (.tup [.ref sl, .ref wl]) → H' sl = some (.lst (srs.map V.ref)) → (srs.length : Int) = z → SlotsP H' z (days ds day0).now (days ds day0).ws srs →
    H' wl = some (.lst (qs.map V.ref)) → TupsP H' qs ss → ss.Perm (left (days ds day0)) → Rising ss → Q (.ref t) H'
theorem AnsP.same {H H' : Hp} {v : V} (s : Same H H') : ∀ {n : Ans}, AnsP H v n → AnsP H' v n
  | .num _, h => h
  | .yes, h => h
  | .noBell, h => h
  | .noTicks, h => h
  | .rings ps, ⟨l, rs, e, hl, tr⟩ => ⟨l, rs, e, s _ _ hl, tr.same s⟩
/-- all but a and b stands as it stood -/
def Keep2 (a b : Addr) (H H' : Hp) : Prop := ∀ c o, H c = some o → c ≠ a → c ≠ b → H' c = some o
/-- an answer whose list is neither a nor b -/
def AnsQ (H : Hp) (a b : Addr) (v : V) (n : Ans) : Prop := AnsP H v n ∧ ∀ l, v = .ref l → l ≠ a ∧ l ≠ b
theorem AnsQ.keep {H H' : Hp} {a b : Addr} {xs ys : List V} (ha : H a = some (.lst xs)) (hb : H b = some (.lst ys)) (k : Keep2 a b H H') {v : V} {n : Ans} (h : AnsQ H a b v n) : AnsQ H' a b v n := by
  obtain ⟨h1, h2⟩ := h
  refine ⟨?_, h2⟩
  cases n with
  | rings ps =>
    obtain ⟨l, rs, e, hl, tr⟩ := h1
    obtain ⟨n1, n2⟩ := h2 l e
    exact ⟨l, rs, e, k l _ hl n1 n2, TupsP.tups (fun r xs e => k r _ e (ne_of e ha (by intro z; cases z)) (ne_of e hb (by intro z; cases z))) tr⟩
  | num _ => exact h1
  | yes => exact h1
  | noBell => exact h1
  | noTicks => exact h1
theorem tupsApp {G : Hp} : ∀ {l1 l2 : List Addr} {k1 k2 : List (Int × Int)}, TupsP G l1 k1 → TupsP G l2 k2 → TupsP G (l1 ++ l2) (k1 ++ k2)
  | _, _, _, _, .nil, h => h
  | _, _, _, _, .cons r t, h => .cons r (tupsApp t h)
end Bw

set_option Elab.async false
set_option linter.all false
set_option maxRecDepth 100000
/-! sorted of fewer than 64 things whose keys differ: the library's tree of questions (kas_sort) answered by keys, its end in order. -/
namespace BwS
open PySem PySem.W PyProof.Rows
/-- the tree, answered by the keys: every question is about things that are there, and the end is R -/
def Pur {α : Type} (n : Nat) (key : Nat → Int) : KasT α → (α → Prop) → Prop
  | .ret a, R => R a
  | .ask i j k, R => i < n ∧ j < n ∧ Pur n key (k (decide (key i < key j))) R
variable {n : Nat} {key : Nat → Int}
theorem Pur.mono {α : Type} {R R' : α → Prop} : ∀ {t : KasT α}, Pur n key t R → (∀ a, R a → R' a) → Pur n key t R'
  | .ret _, h, f => f _ h
  | .ask _ _ _, ⟨h1, h2, h3⟩, f => ⟨h1, h2, Pur.mono h3 f⟩
theorem Pur.bind {α β : Type} {f : α → KasT β} {R : β → Prop} : ∀ {t : KasT α}, Pur n key t (fun a => Pur n key (f a) R) → Pur n key (t.bind f) R
  | .ret _, h => h
  | .ask _ _ _, ⟨h1, h2, h3⟩ => ⟨h1, h2, Pur.bind h3⟩
theorem Pur.wp {α : Type} {cmp : Nat → Nat → (Bool → Shared → Prop) → Shared → Prop} {Q : α → Shared → Prop} {s : Shared} (hc : ∀ i j (C : Bool → Shared → Prop), i < n → j < n → C (decide (key i < key j)) s → cmp i j C s) :
    ∀ {t : KasT α} {R : α → Prop}, Pur n key t R → (∀ a, R a → Q a s) → t.kasWp cmp Q s
  | .ret _, _, h, f => f _ h
  | .ask i j k, _, ⟨h1, h2, h3⟩, f => hc i j _ h1 h2 (Pur.wp hc h3 f)
/-- the place's thing -/
abbrev pl (p : Array Nat) (k : Nat) : Nat := p.getD k 0
theorem pl_eq (p : Array Nat) (k : Nat) : pl p k = (p[k]?).getD 0 := by simp [pl, Array.getD_eq_getD_getElem?]
/-- an order of the things below n -/
def Ord (n : Nat) (p : Array Nat) : Prop := p.toList.Perm (List.range n)
theorem Ord.size {p : Array Nat} (h : Ord n p) : p.size = n := by
  have := h.length_eq
  simpa using this
theorem Ord.lt {p : Array Nat} (h : Ord n p) {k : Nat} (hk : k < n) : pl p k < n := by
  have hs := h.size
  have e : pl p k = p[k]'(by omega) := by simp [pl, Array.getD, show k < p.size by omega]
  rw [e]
  exact List.mem_range.mp (h.mem_iff.mp (by simp))
theorem Ord.inj {p : Array Nat} (h : Ord n p) {i j : Nat} (hi : i < n) (hj : j < n) (e : pl p i = pl p j) : i = j := by
  have hs := h.size
  have nd : p.toList.Nodup := h.nodup_iff.mpr List.nodup_range
  have ei : pl p i = p.toList[i]'(by simp; omega) := by simp [pl, Array.getD, show i < p.size by omega]
  have ej : pl p j = p.toList[j]'(by simp; omega) := by simp [pl, Array.getD, show j < p.size by omega]
  rw [ei, ej] at e
  exact (List.getElem_inj nd).mp e
theorem Ord.perm {p q : Array Nat} (h : Ord n p) (hq : q.Perm p) : Ord n q := (Array.perm_iff_toList_perm.mp hq).trans h
/-- the first m in order -/
def Asc (key : Nat → Int) (p : Array Nat) (m : Nat) : Prop := ∀ k, 1 ≤ k → k < m → key (pl p (k - 1)) ≤ key (pl p k)
theorem Asc.le {p : Array Nat} {m : Nat} (h : Asc key p m) : ∀ (d i : Nat), i + d < m → key (pl p i) ≤ key (pl p (i + d))
  | 0, i, _ => Int.le_refl _
  | d + 1, i, hi => by
    have h1 := h.le d i (by omega)
    have h2 := h (i + (d + 1)) (by omega) hi
    rw [show i + (d + 1) - 1 = i + d by omega] at h2
    exact Int.le_trans h1 h2
theorem Asc.le' {p : Array Nat} {m : Nat} (h : Asc key p m) {i j : Nat} (hij : i ≤ j) (hj : j < m) : key (pl p i) ≤ key (pl p j) := by
  have := h.le (j - i) i (by omega)
  rwa [show i + (j - i) = j by omega] at this
theorem asc_ok {p : Array Nat} (o : Ord n p) : ∀ (f a : Nat), 1 ≤ a → a + f ≤ n → Pur n key (kas_asc p f a) (fun m => a ≤ m ∧ m ≤ a + f ∧ (∀ k, a ≤ k → k < m → key (pl p (k - 1)) ≤ key (pl p k)) ∧ (m < a + f → key (pl p m) < key (pl p (m - 1))))
  | 0, a, _, _ => ⟨Nat.le_refl _, Nat.le_refl _, fun k h1 h2 => absurd h2 (by omega), fun h => absurd h (by omega)⟩
  | f + 1, a, h1, h2 => by
    refine ⟨o.lt (by omega), o.lt (by omega), ?_⟩
    show Pur n key (if decide (key (pl p a) < key (pl p (a - 1))) = true then .ret a else kas_asc p f (a + 1)) _
    by_cases h : key (pl p a) < key (pl p (a - 1))
    · rw [if_pos (decide_eq_true h)]
      exact ⟨Nat.le_refl _, by omega, fun k h3 h4 => absurd h4 (by omega), fun _ => h⟩
    · rw [if_neg (by simpa using h)]
      refine (asc_ok o f (a + 1) (by omega) (by omega)).mono fun m ⟨m1, m2, m3, m4⟩ => ⟨by omega, by omega, fun k h3 h4 => ?_, fun h5 => m4 (by omega)⟩
      by_cases hk : k = a
      · subst hk; omega
      · exact m3 k (by omega) h4
theorem desc_ok {p : Array Nat} (o : Ord n p) (ki : ∀ i j, i < n → j < n → key i = key j → i = j) : ∀ (f a : Nat), 1 ≤ a → a + f ≤ n →
    Pur n key (kas_desc f p a 0) (fun r => r.1 = p ∧ r.2.2 = 0 ∧ a ≤ r.2.1 ∧ r.2.1 ≤ a + f ∧ ∀ k, a ≤ k → k < r.2.1 → key (pl p k) < key (pl p (k - 1)))
  | 0, a, _, _ => ⟨rfl, rfl, Nat.le_refl _, Nat.le_refl _, fun k h1 h2 => absurd h2 (by show ¬ k < a; omega)⟩
  | f + 1, a, h1, h2 => by
    refine ⟨o.lt (by omega), o.lt (by omega), ?_⟩
    show Pur n key (if decide (key (pl p a) < key (pl p (a - 1))) = true then (if 0 > 0 then kas_desc f (kas_rev p (a - (0 + 1)) a) (a + 1) 0 else kas_desc f p (a + 1) 0)
      else .ask (pl p (a - 1)) (pl p a) fun d => if d = true then .ret (p, a, 0) else kas_desc f p (a + 1) (0 + 1)) _
    by_cases h : key (pl p a) < key (pl p (a - 1))
    · rw [if_pos (decide_eq_true h), if_neg (Nat.lt_irrefl 0)]
      refine (desc_ok o ki f (a + 1) (by omega) (by omega)).mono fun r ⟨r1, r2, r3, r4, r5⟩ => ⟨r1, r2, by omega, by omega, fun k h3 h4 => ?_⟩
      by_cases hk : k = a
      · subst hk; exact h
      · exact r5 k (by omega) h4
    · rw [if_neg (by simpa using h)]
      refine ⟨o.lt (by omega), o.lt (by omega), ?_⟩
      have hne : key (pl p (a - 1)) ≠ key (pl p a) := fun e => by
        have := o.inj (by omega) (by omega) (ki _ _ (o.lt (by omega)) (o.lt (by omega)) e)
        omega
      show Pur n key (if decide (key (pl p (a - 1)) < key (pl p a)) = true then .ret (p, a, 0) else _) _
      rw [if_pos (decide_eq_true (by omega))]
      exact ⟨rfl, rfl, Nat.le_refl _, by show a ≤ _; omega, fun k h3 h4 => absurd h4 (by show ¬ k < a; omega)⟩
theorem rev_pl {p : Array Nat} {m : Nat} (hm : m ≤ p.size) (k : Nat) : pl (kas_rev p 0 m) k = if k < m then pl p (m - 1 - k) else pl p k := by
  rw [pl_eq]
  unfold kas_rev
  rw [getElem?_mirror_all hm]
  by_cases h : k < m
  · rw [if_pos ⟨Nat.zero_le _, h⟩, if_pos h, pl_eq, show 0 + m - 1 - k = m - 1 - k by omega]
  · rw [if_neg (by omega), if_neg h, pl_eq]
theorem count_ok (hn : 2 ≤ n) {p : Array Nat} (o : Ord n p) (ki : ∀ i j, i < n → j < n → key i = key j → i = j) :
    Pur n key (kas_count n p) (fun r => 1 ≤ r.1 ∧ r.1 ≤ n ∧ Ord n r.2 ∧ Asc key r.2 r.1) := by
  unfold kas_count
  refine Pur.bind ((asc_ok o (n - 1) 1 (Nat.le_refl 1) (by omega)).mono fun m ⟨m1, m2, m3, m4⟩ => ?_)
  have asc : Asc key p m := fun k h1 h2 => m3 k h1 h2
  by_cases e : m = n
  · rw [if_pos (by simpa using e)]
    exact ⟨m1, by omega, o, asc⟩
  · rw [if_neg (by simpa using e)]
    by_cases h1 : m > 1
    · rw [if_pos h1]
      refine ⟨o.lt (by omega), o.lt (by omega), ?_⟩
      have h2 := asc.le' (i := 0) (j := m - 1) (Nat.zero_le _) (by omega)
      have h3 : key (pl p 0) ≠ key (pl p (m - 1)) := fun z => by
        have := o.inj (by omega) (by omega) (ki _ _ (o.lt (by omega)) (o.lt (by omega)) z)
        omega
      show Pur n key (if decide (key (pl p 0) < key (pl p (m - 1))) = true then .ret (m, p) else _) _
      rw [if_pos (decide_eq_true (by omega))]
      exact ⟨m1, by omega, o, asc⟩
    · rw [if_neg h1]
      have em : m = 1 := by omega
      subst em
      have d1 : key (pl p 1) < key (pl p 0) := m4 (by omega)
      unfold kas_descPart
      refine Pur.bind ((desc_ok o ki (n - (1 + 1)) (1 + 1) (by omega) (by omega)).mono fun r ⟨r1, r2, r3, r4, r5⟩ => ?_)
      obtain ⟨q, m, z⟩ := r
      have e1 : q = p := r1
      have e2 : z = 0 := r2
      subst e1; subst e2
      have r3' : 2 ≤ m := r3
      have r4' : m ≤ n := by have : m ≤ 1 + 1 + (n - (1 + 1)) := r4; omega
      have hs := o.size
      show Pur n key (if 0 > 0 then _ else kas_tail3 m n q) _
      rw [if_neg (Nat.lt_irrefl 0)]
      unfold kas_tail3
      have o2 : Ord n (kas_rev q 0 m) := o.perm (mirror_perm _ _ _ _)
      have rp := rev_pl (p := q) (m := m) (by omega)
      refine Pur.bind ((asc_ok o2 (n - m) m (by omega) (by omega)).mono fun m' ⟨a1, a2, a3, a4⟩ => ?_)
      refine ⟨by show 1 ≤ m'; omega, by show m' ≤ n; omega, o2, fun k k1 k2 => ?_⟩
      have k2' : k < m' := k2
      show key (pl (kas_rev q 0 m) (k - 1)) ≤ key (pl (kas_rev q 0 m) k)
      by_cases hk : k < m
      · rw [rp, rp, if_pos (by omega), if_pos hk]
        have e3 : m - 1 - (k - 1) - 1 = m - 1 - k := by omega
        by_cases h5 : m - 1 - (k - 1) = 1
        · rw [h5] at e3 ⊢
          have : m - 1 - k = 0 := by omega
          rw [this]
          omega
        · have := r5 (m - 1 - (k - 1)) (by omega) (by show _ < m; omega)
          rw [e3] at this
          omega
      · exact a3 k (by omega) k2'
theorem place_ok {p : Array Nat} (o : Ord n p) {k : Nat} (hk : k < n) (asc : Asc key p k) : ∀ (f l r : Nat), l ≤ r → r ≤ k → r - l ≤ f → (∀ i, i < l → key (pl p i) ≤ key (pl p k)) → (∀ i, r ≤ i → i < k → key (pl p k) < key (pl p i)) →
    Pur n key (kas_place p k f l r) (fun x => x ≤ k ∧ (∀ i, i < x → key (pl p i) ≤ key (pl p k)) ∧ (∀ i, x ≤ i → i < k → key (pl p k) < key (pl p i)))
  | 0, l, r, h1, h2, h3, h4, h5 => by
    have e : l = r := by omega
    subst e
    exact ⟨h2, h4, h5⟩
  | f + 1, l, r, h1, h2, h3, h4, h5 => by
    show Pur n key (if l ≥ r then .ret l else .ask (pl p k) (pl p ((l + r) / 2)) fun c => if c = true then kas_place p k f l ((l + r) / 2) else kas_place p k f ((l + r) / 2 + 1) r) _
    by_cases h : l ≥ r
    · rw [if_pos h]
      have e : l = r := by omega
      subst e
      exact ⟨h2, h4, h5⟩
    · rw [if_neg h]
      have hm : l ≤ (l + r) / 2 ∧ (l + r) / 2 < r := by omega
      generalize (l + r) / 2 = mid at hm
      refine ⟨o.lt hk, o.lt (by omega), ?_⟩
      show Pur n key (if decide (key (pl p k) < key (pl p mid)) = true then _ else _) _
      by_cases c : key (pl p k) < key (pl p mid)
      · rw [if_pos (decide_eq_true c)]
        refine place_ok o hk asc f l mid hm.1 (by omega) (by omega) h4 fun i i1 i2 => ?_
        have := asc.le' i1 i2
        omega
      · rw [if_neg (by simpa using c)]
        refine place_ok o hk asc f (mid + 1) r (by omega) h2 (by omega) (fun i i1 => ?_) h5
        have := asc.le' (i := i) (j := mid) (by omega) (by omega)
        omega
theorem bub_pl {p : Array Nat} {k l : Nat} (hk : k < p.size) (hl : l ≤ k) (i : Nat) : pl (bubble p k (k - l)) i = if i = l then pl p k else if l < i ∧ i ≤ k then pl p (i - 1) else pl p i := by
  rw [pl_eq, getElem?_bubble hk (k - l) (by omega), show k - (k - l) = l by omega]
  by_cases h : i = l
  · rw [if_pos h, if_pos h, pl_eq]
  · rw [if_neg h, if_neg h]
    by_cases h2 : l < i ∧ i ≤ k
    · rw [if_pos h2, if_pos h2, pl_eq]
    · rw [if_neg h2, if_neg h2, pl_eq]
theorem bin_ok : ∀ (f : Nat) (p : Array Nat) (k : Nat), k + f = n → 1 ≤ k → Ord n p → Asc key p k → Pur n key (kas_bin f p k) (fun q => Ord n q ∧ Asc key q n)
  | 0, p, k, h1, _, o, asc => by
    have e : k = n := by omega
    subst e
    exact ⟨o, asc⟩
  | f + 1, p, k, h1, h2, o, asc => by
    have hs := o.size
    unfold kas_bin
    refine Pur.bind ((place_ok o (by omega) asc k 0 k (Nat.zero_le _) (Nat.le_refl _) (by omega) (fun i hi => absurd hi (Nat.not_lt_zero _)) (fun i i1 i2 => absurd i2 (by omega))).mono fun l ⟨l1, l2, l3⟩ => ?_)
    have bp := bub_pl (p := p) (k := k) (l := l) (by omega) l1
    refine bin_ok f _ (k + 1) (by omega) (by omega) (o.perm (bubble_perm _ _ _)) fun i i1 i2 => ?_
    rw [bp, bp]
    by_cases a1 : i = l
    · rw [if_pos a1, if_neg (by omega), if_neg (by omega)]
      exact l2 (i - 1) (by omega)
    · rw [if_neg a1]
      by_cases a2 : l < i
      · rw [if_pos (show l < i ∧ i ≤ k from ⟨a2, by omega⟩)]
        by_cases a3 : i - 1 = l
        · rw [if_pos a3, a3]
          have := l3 l (Nat.le_refl _) (by omega)
          omega
        · rw [if_neg a3, if_pos (show l < i - 1 ∧ i - 1 ≤ k from ⟨by omega, by omega⟩)]
          have := asc (i - 1) (by omega) (by omega)
          exact this
      · rw [if_neg (by omega), if_neg (by omega), if_neg (by omega)]
        exact asc i i1 (by omega)
theorem ord_range : Ord n (List.toArray (List.range n)) := by unfold Ord; exact List.Perm.refl _
theorem sort_ok (hn : 2 ≤ n) (ki : ∀ i j, i < n → j < n → key i = key j → i = j) : Pur n key (kas_sort n) (fun q => Ord n q ∧ Asc key q n) := by
  unfold kas_sort
  refine Pur.bind ((count_ok hn ord_range ki).mono fun r ⟨r1, r2, r3, r4⟩ => ?_)
  by_cases h : r.1 < n
  · rw [if_pos h, show max r.1 1 = r.1 by omega]
    exact bin_ok _ _ _ (by omega) r1 r3 r4
  · rw [if_neg h]
    have e : r.1 = n := by omega
    rw [e] at r4
    exact ⟨r3, r4⟩
end BwS

set_option Elab.async false
set_option linter.all false
set_option maxRecDepth 100000
set_option maxHeartbeats 1000000
/-! sorted of a list of fewer than 64 pairs of ints whose firsts differ. -/
namespace BwS
open PySem PySem.W PySem.Calls PyProof.Rows L2
/-- v is a pair of ints, not standing at a -/
def PairAt (h : Heap) (a : Addr) (v : Value) (p : Int × Int) : Prop :=
  ∃ r t u ob n, v = .ref r ∧ r ≠ a ∧ h.get? r = some ob ∧ ob.cls = .type "tuple" ∧ ob.data = .seq #[.int p.1 t, .int p.2 u] n
section
variable {prog : Program} {w : World} {A : Around} {E : Value → Shared → Prop} {s : Shared}
theorem pair_firsts {h : Heap} {a : Addr} : ∀ {vs : List Value} {ps : List (Int × Int)}, Paired (PairAt h a) vs ps → ∃ fs, KatTups h vs fs ∧ fs.length = ps.length ∧ ∀ v ∈ fs, ∃ i t, v = Value.int i t
  | _, _, .nil => ⟨[], .nil, rfl, fun _ z => nomatch z⟩
  | _, _, .cons (b := p) ⟨r, t, u, ob, n, e, _, h1, h2, h3⟩ tl => by
    obtain ⟨fs, k, l, al⟩ := pair_firsts tl
    subst e
    refine ⟨.int p.1 t :: fs, .cons h1 h2 h3 rfl k, by simp [l], fun v hv => ?_⟩
    rcases List.mem_cons.mp hv with rfl | hv
    · exact ⟨_, _, rfl⟩
    · exact al v hv
theorem pair_kind {a : Addr} {vs : List Value} {ps : List (Int × Int)} {Q : SortKind → Shared → Prop} (hp : Paired (PairAt s.heap a) vs ps) (hn : 0 < vs.length) (h : Q (tuples' true) s) :
    wpAny (model prog w) A (keyKind' vs.toArray) Q E s := by
  obtain ⟨fs, k, l, al⟩ := pair_firsts hp
  refine kat_kind (T := .type "int") k (by rw [l, ← hp.length]; exact hn) (fun v hv => ?_) rfl h
  obtain ⟨i, t, rfl⟩ := al v hv
  exact Looks.now
theorem pair_lt {h : Heap} {a : Addr} {v v' : Value} {p p' : Int × Int} {Q : Bool → Shared → Prop} (hv : PairAt s.heap a v p) (hv' : PairAt s.heap a v' p') (hd : p.1 = p'.1 → p = p') (hq : Q (decide (p.1 < p'.1)) s) :
    wpAny (model prog w) A (keyLt' (tuples' true) v v') Q E s := by
  obtain ⟨r, t, u, ob, n, rfl, _, h1, _, h3⟩ := hv
  obtain ⟨r', t', u', ob', n', rfl, _, h1', _, h3'⟩ := hv'
  refine kat_lt h1 h3 h1' h3' ?_
  show KatLex prog w A true _ Q [(.int p.1 t, .int p'.1 t'), (.int p.2 u, .int p'.2 u')] 0 s
  refine kat_cons (wpAny_eqBool_int ?_)
  refine kat_go (fun e => ?_) (fun e => ?_)
  · have e1 : p.1 = p'.1 := by simpa using e
    have e2 := hd e1
    subst e2
    refine kat_yes (kat_cons (wpAny_eqBool_int ?_))
    rw [show (p.2 == p.2) = true by simp]
    refine kat_yes (kat_nil ?_)
    simpa using hq
  · exact kat_no (oneLt_int hq)
theorem paired_getD {h : Heap} {a : Addr} {vs : List Value} {ps : List (Int × Int)} (hp : Paired (PairAt h a) vs ps) {i : Nat} (hi : i < vs.length) : PairAt h a (vs.getD i Value.none) (ps.getD i (0, 0)) := by
  have e : vs[i]? = some vs[i] := List.getElem?_eq_getElem hi
  obtain ⟨b, e2, r⟩ := Bw.Paired_get hp e
  rw [List.getD_eq_getElem?_getD, List.getD_eq_getElem?_getD, e, e2]
  exact r
theorem pair_list_sort {a : Addr} {vs : List Value} {ps : List (Int × Int)} {n : Nat} {P : PySem.Fin → Shared → Prop} (ho : s.heap.get? a = some (seqObj "list" vs.toArray n)) (hp : Paired (PairAt s.heap a) vs ps)
    (hd : ∀ i j, i < vs.length → j < vs.length → (ps.getD i (0, 0)).1 = (ps.getD j (0, 0)).1 → i = j) (h64 : vs.length < 64)
    (h : ∀ (q : Array Nat) (h' : Heap) (c : Nat), Ord vs.length q → Asc (fun i => (ps.getD i (0, 0)).1) q vs.length → (∀ b u, b ≠ a → s.heap.get? b = some u → h'.get? b = some u) →
      h'.get? a = some (seqObj "list" (List.toArray (q.toList.map fun i => vs.getD i Value.none)) c) → P (.done (.ret .none)) { s with heap := h' }) :
    wpAny (model prog w) A (Builtin.«list.sort» ⟨[.ref a], []⟩) P E s := by
  have ha : a < s.heap.objs.size := Heap.lt_size ho
  have s1 := Heap.SameBut.update s.heap a (Obj.mapSeq fun _ => (#[] : Array Value))
  obtain ⟨e1, ho1⟩ : ∃ e1, (s.heap.update a (Obj.mapSeq fun _ => (#[] : Array Value))).get? a = some (seqObj "list" #[] e1) := ⟨_, get?_update_seq ho fun _ => #[]⟩
  have keep1 : ∀ b u, b ≠ a → s.heap.get? b = some u → (((s.heap.update a (Obj.mapSeq fun _ => (#[] : Array Value))).push (seqObj "tuple" vs.toArray 0)).push (seqObj "list" #[] 0)).get? b = some u := fun b u hb e =>
    Heap.get?_push_of_some _ (Heap.get?_push_of_some _ ((Heap.get?_update_other _ _ (Ne.symm hb)).trans e))
  have ho6 : (((s.heap.update a (Obj.mapSeq fun _ => (#[] : Array Value))).push (seqObj "tuple" vs.toArray 0)).push (seqObj "list" #[] 0)).get? a = some (seqObj "list" #[] e1) :=
    Heap.get?_push_of_some _ (Heap.get?_push_of_some _ ho1)
  have hp2 : Paired (PairAt (((s.heap.update a (Obj.mapSeq fun _ => (#[] : Array Value))).push (seqObj "tuple" vs.toArray 0)).push (seqObj "list" #[] 0)) a) vs ps :=
    Paired.mapP hp fun v p ⟨r, t, u, ob, n, e, z, h1, h2, h3⟩ => ⟨r, t, u, ob, n, e, z, keep1 r _ z h1, h2, h3⟩
  generalize hh6 : ((s.heap.update a (Obj.mapSeq fun _ => (#[] : Array Value))).push (seqObj "tuple" vs.toArray 0)).push (seqObj "list" #[] 0) = h6 at keep1 ho6 hp2
  -- the end, from any state whose heap is h6
  have fin : ∀ (q : Array Nat) (c : Nat), Ord vs.length q → Asc (fun i => (ps.getD i (0, 0)).1) q vs.length → ∀ f : Array Value, f = List.toArray (q.toList.map fun i => vs.getD i Value.none) →
      P (.done (.ret .none)) { s with heap := h6.update a (Obj.mapSeq fun _ => f) } := fun q c o asc f ef => by
    subst ef
    obtain ⟨c2, hc2⟩ : ∃ c2, (h6.update a (Obj.mapSeq fun _ => List.toArray (q.toList.map fun i => vs.getD i Value.none))).get? a = some (seqObj "list" (List.toArray (q.toList.map fun i => vs.getD i Value.none)) c2) := ⟨_, get?_update_seq ho6 fun _ => _⟩
    exact h q _ c2 o asc (fun b u hb e => (Heap.get?_update_other _ _ (Ne.symm hb)).trans (keep1 b u hb e)) hc2
  rw [list_sort_plain]
  refine wpAny_bind (listItems_at ho rfl ?_)
  refine wpAny_bind (listUpdate_at ho rfl ?_ (by rw [List.size_toArray, sizeLine_eq]; omega) (Nat.zero_le _))
  refine wpAny_bind (seqEpoch_at ho1 rfl ?_)
  refine wpAny_bind (wpAny_newTuple ?_ (by show vs.length ≤ _; rw [sizeLine_eq]; omega))
  refine wpAny_bind (wpAny_newList ?_ (Nat.zero_le _))
  refine wpAny_holding ?_
  show wpAny (model prog w) A _ P E { s with heap := ((s.heap.update a (Obj.mapSeq fun _ => (#[] : Array Value))).push (seqObj "tuple" vs.toArray 0)).push (seqObj "list" #[] 0) }
  rw [hh6]
  dsimp only
  by_cases h2 : vs.toArray.size < 2
  · rw [if_pos h2, if_pos h2]
    refine wpAny_bind (wpAny_pure ?_)
    rw [StateT.run_pure]
    refine wpAny_bind (wpAny_pure ?_)
    dsimp only
    have hv : (arrOf (SortSt.mk' general' (vs.toArray.zip vs.toArray) #[] 7 none)).map (·.2) = List.toArray ((List.toArray (List.range vs.length)).toList.map fun i => vs.getD i Value.none) := by
      show (vs.toArray.zip vs.toArray).map (·.2) = _
      apply Array.toList_inj.mp
      have h2' : vs.length < 2 := by simpa using h2
      match vs, h2' with
      | [], _ => simp
      | [v], _ => simp
    refine wpAny_bind (seqEpoch_at ho6 rfl ?_)
    refine wpAny_bind (listUpdate_at ho6 rfl ?_ (Nat.zero_le _) (by rw [hv]; simp; rw [sizeLine_eq]; omega))
    simp only [bne_self_eq_false, Bool.false_eq_true, if_false]
    have h2' : vs.length < 2 := by simpa using h2
    exact wpAny_pure (fin (List.toArray (List.range vs.length)) 0 ord_range (fun k k1 k2 => absurd k2 (by omega)) _ hv)
  · have h2' : 2 ≤ vs.length := by simp at h2; omega
    rw [if_neg h2, if_neg h2]
    refine wpAny_bind (pair_kind (s := { s with heap := h6 }) hp2 (by omega) ?_)
    refine wpAny_bind (wpAny_mono (kat_run (s := { s with heap := h6 }) (ks := vs) (vs := vs) (κ := tuples' true) (G := fun q s' => s' = { s with heap := h6 } ∧ Ord vs.length q ∧ Asc (fun i => (ps.getD i (0, 0)).1) q vs.length)
      (Q := fun st' s' => ∃ q : Array Nat, q.size = vs.length ∧ arrOf st' = q.map (kas_item (vs.toArray.zip vs.toArray)) ∧ failedOf st' = none ∧ s' = { s with heap := h6 } ∧ Ord vs.length q ∧ Asc (fun i => (ps.getD i (0, 0)).1) q vs.length)
      rfl h2' h64 (fun q st' s' a1 a2 a3 a4 => ⟨q, a1, a2, a3, a4⟩)
      (Pur.wp (fun i j C hi hj hc => pair_lt (h := h6) (a := a) (paired_getD hp2 hi) (paired_getD hp2 hj) (fun e => by rw [hd i j hi hj e]) hc) (sort_ok h2' hd) fun q r => ⟨rfl, r.1, r.2⟩)) ?_ fun _ _ e => e)
    rintro ⟨⟨⟩, st'⟩ s' ⟨q, hq, har, hf, rfl, o, asc⟩
    dsimp only
    have hv := kat_snds (ks := vs) (vs := vs) rfl har
    refine wpAny_bind (seqEpoch_at ho6 rfl ?_)
    refine wpAny_bind (listUpdate_at ho6 rfl ?_ (Nat.zero_le _) (by rw [hv]; simp [hq]; rw [sizeLine_eq]; omega))
    rw [hf]
    simp only [bne_self_eq_false, Bool.false_eq_true, if_false]
    exact wpAny_pure (fin q 0 o asc _ hv)
/-- what sorted leaves: the refs in the order q -/
theorem pair_sorted {l : Addr} {vs : List Value} {ps : List (Int × Int)} {Q : Value → Shared → Prop} (hl : s.heap.IsList l vs.toArray) (hp : Paired (PairAt s.heap s.heap.objs.size) vs ps)
    (hd : ∀ i j, i < vs.length → j < vs.length → (ps.getD i (0, 0)).1 = (ps.getD j (0, 0)).1 → i = j) (h64 : vs.length < 64)
    (h : ∀ (q : Array Nat) (h' : Heap) (c : Nat), Ord vs.length q → Asc (fun i => (ps.getD i (0, 0)).1) q vs.length → (∀ b u, s.heap.get? b = some u → h'.get? b = some u) →
      h'.get? (s.heap.objs.size + 1) = some (seqObj "list" (List.toArray (q.toList.map fun i => vs.getD i Value.none)) c) → Q (.ref (s.heap.objs.size + 1)) { s with heap := h' }) :
    wpAny (model prog w) A (call (.builtin "sorted") [.ref l]) Q E s := by
  refine Calls.call_function_entry kind_sorted plain_sorted entry_sorted (args_sorted1 _) ?_
  unfold Builtin.«sorted»
  refine wpAny_bind (m := checkCount "sorted" 1 1 _) (wpAny_pure ?_)
  refine wpAny_bind (collect_list hl ?_ (by rw [sizeLine_eq]; omega))
  refine wpAny_bind (wpAny_newList ?_ (by rw [sizeLine_eq]; omega))
  have hsz : ((s.heap.push (seqObj "list" #[] 0)).update s.heap.objs.size (Obj.mapSeq (· ++ vs.toArray))).objs.size = s.heap.objs.size + 1 := by
    rw [Heap.size_update, size_push']
  have hoL : (((s.heap.push (seqObj "list" #[] 0)).update s.heap.objs.size (Obj.mapSeq (· ++ vs.toArray))).push (seqObj "list" vs.toArray 0)).get? (s.heap.objs.size + 1) = some (seqObj "list" vs.toArray 0) := by
    rw [← hsz]; exact Heap.get?_push_size _ rfl
  have keep : ∀ b o, s.heap.get? b = some o → (((s.heap.push (seqObj "list" #[] 0)).update s.heap.objs.size (Obj.mapSeq (· ++ vs.toArray))).push (seqObj "list" vs.toArray 0)).get? b = some o := fun b o q => by
    have hlt : b < s.heap.objs.size := Heap.lt_size q
    rw [Heap.get?_push_ne _ _ _ (by rw [hsz]; exact Nat.ne_of_lt (Nat.lt_succ_of_lt hlt)), Heap.get?_update_ne _ _ _ _ (Nat.ne_of_lt hlt), Heap.get?_push_ne _ _ _ (Nat.ne_of_lt hlt)]
    exact q
  show wpAny _ _ _ _ _ { s with heap := ((s.heap.push (seqObj "list" #[] 0)).update s.heap.objs.size (Obj.mapSeq (· ++ vs.toArray))).push (seqObj "list" vs.toArray 0) }
  rw [hsz]
  refine wpAny_bind (wpAny_holding (wpAny_call_entry slot_list_sort ⟨_, hoL, rfl⟩ entry_list_sort ?body (args_list_sort _)))
  case body =>
    refine pair_list_sort (s := { s with heap := ((s.heap.push (seqObj "list" #[] 0)).update s.heap.objs.size (Obj.mapSeq (· ++ vs.toArray))).push (seqObj "list" vs.toArray 0) })
      hoL (Paired.mapP hp fun v p ⟨r, t, u, ob, n, e, z, h1, h2, h3⟩ => ⟨r, t, u, ob, n, e, Nat.ne_of_lt (Nat.lt_succ_of_lt (Heap.lt_size h1)), keep r _ h1, h2, h3⟩) hd h64 fun q h' c o asc k e => ⟨_, rfl, wpAny_pure ⟨_, rfl, ?_⟩⟩
    exact h q h' c o asc (fun b u eb => k b u (Nat.ne_of_lt (Nat.lt_succ_of_lt (Heap.lt_size eb))) (keep b u eb)) e
end
/-! ### the layer's rule -/
section
theorem perm_of_ord {α : Type} {l : List α} {d : α} {q : Array Nat} (o : Ord l.length q) : (q.toList.map fun i => l.getD i d).Perm l := by
  have h1 : (q.toList.map fun i => l.getD i d).Perm ((List.range l.length).map fun i => l.getD i d) := o.map _
  have h2 : ((List.range l.length).map fun i => l.getD i d) = l := by
    apply List.ext_getElem?
    intro j
    by_cases hj : j < l.length
    · simp [List.getElem?_map, List.getElem?_range hj, hj]
    · simp [List.getElem?_eq_none, Nat.le_of_not_lt hj]
  rw [h2] at h1
  exact h1
theorem asc_sorted {l : List (Int × Int)} {q : Array Nat} (o : Ord l.length q) (asc : Asc (fun i => (l.getD i (0, 0)).1) q l.length) : (q.toList.map fun i => l.getD i (0, 0)).Pairwise (fun a b => a.1 ≤ b.1) := by
  have hs := o.size
  rw [List.pairwise_iff_getElem]
  intro i j hi hj hij
  simp only [List.length_map, Array.length_toList] at hi hj
  have := asc.le' (i := i) (j := j) (by omega) (by omega)
  have ei : pl q i = q[i] := by simp [pl, Array.getD, hi]
  have ej : pl q j = q[j] := by simp [pl, Array.getD, hj]
  rw [ei, ej] at this
  simpa using this
theorem rels_getD {vs : List V} {us : List Value} (r : Vals vs us) (q : List Nat) (hq : ∀ i ∈ q, i < vs.length) : Vals (q.map fun i => vs.getD i V.non) (q.map fun i => us.getD i Value.none) := by
  induction q with
  | nil => exact .nil
  | cons i q ih =>
    refine .cons ?_ (ih fun j hj => hq j (List.mem_cons_of_mem _ hj))
    have hi := hq i List.mem_cons_self
    have e : vs[i]? = some vs[i] := List.getElem?_eq_getElem hi
    obtain ⟨b, e2, r⟩ := Bw.Paired_get r e
    show L2.RelV (vs.getD i V.non) (us.getD i Value.none)
    rw [List.getD_eq_getElem?_getD, List.getD_eq_getElem?_getD, e, e2]
    exact r
theorem tups_getD {H : Hp} {rs : List Addr} {ps : List (Int × Int)} (r : Bw.TupsP H rs ps) (q : List Nat) (hq : ∀ i ∈ q, i < rs.length) : Bw.TupsP H (q.map fun i => rs.getD i 0) (q.map fun i => ps.getD i (0, 0)) := by
  induction q with
  | nil => exact .nil
  | cons i q ih =>
    refine .cons ?_ (ih fun j hj => hq j (List.mem_cons_of_mem _ hj))
    have hi := hq i List.mem_cons_self
    have e : rs[i]? = some rs[i] := List.getElem?_eq_getElem hi
    obtain ⟨b, e2, r⟩ := Bw.Paired_get r e
    show Bw.TupP H (rs.getD i 0) (ps.getD i (0, 0))
    rw [List.getD_eq_getElem?_getD, List.getD_eq_getElem?_getD, e, e2]
    exact r
theorem pairs_at {P : Program} {w : World} {H : Hp} {h : Heap} (ok : HOk P w H h) : ∀ {rs : List Addr} {ps : List (Int × Int)} {its : List Value}, Bw.TupsP H rs ps → Vals (rs.map V.ref) its → Paired (PairAt h h.objs.size) its ps
  | _, _, _, .nil, .nil => .nil
  | r :: _, p :: _, _, .cons t tl, .cons x xs => by
    cases x
    refine .cons ?_ (pairs_at ok tl xs)
    obtain ⟨_, itp, rvp, ob, ho, hc, n', hd⟩ := ok r _ t
    match itp, rvp with
    | [_, _], .cons ⟨t1, h1⟩ (.cons ⟨t2, h2⟩ .nil) =>
      subst h1; subst h2
      exact ⟨r, t1, t2, ob, n', rfl, Nat.ne_of_lt (Heap.lt_size ho), ho, hc, hd⟩
variable {X : Cx}
/-- sorted of a list of pairs whose firsts differ: a new list of the same pairs, firsts rising -/
theorem call_sorted : CallR X (.builtin "sorted") (fun xs H Q => ∃ a rs ps, xs = [.ref a] ∧ H a = some (.lst (rs.map V.ref)) ∧ Bw.TupsP H rs ps ∧ ps.length < 64 ∧ (ps.map (·.1)).Nodup ∧
    ∀ l qs ss, H l = none → Bw.TupsP H qs ss → ss.Perm ps → ss.Pairwise (fun a b => a.1 ≤ b.1) → Q (.ref l) (upd H l (.lst (qs.map V.ref)))) := by
  intro pins s σ H xs us Q I r h
  obtain ⟨a, rs, ps, rfl, hH, ht, h64, hn, q⟩ := h
  obtain ⟨u, rfl, rx⟩ := vals1 r
  cases rx
  obtain ⟨hz, its, n, rv, hlen, e⟩ := I.lstM hH
  have hl1 : rs.length = ps.length := ht.length
  have hl2 : its.length = ps.length := by rw [← hlen, List.length_map, hl1]
  have hp := pairs_at I.hok ht rv
  refine pair_sorted ⟨_, e, rfl, _, rfl⟩ hp (fun i j hi hj e => ?_) (by omega) fun q' h' c o asc k e' => ?_
  · have hi' : i < (ps.map (·.1)).length := by rw [List.length_map]; omega
    have hj' : j < (ps.map (·.1)).length := by rw [List.length_map]; omega
    have hi2 : i < ps.length := by omega
    have hj2 : j < ps.length := by omega
    refine (List.getElem_inj (h₀ := hi') (h₁ := hj') hn).mp ?_
    simpa [List.getD_eq_getElem?_getD, hi2, hj2] using e
  · rw [hl2] at o asc
    have hq : ∀ i ∈ q'.toList, i < ps.length := fun i hi => List.mem_range.mp (o.mem_iff.mp hi)
    have hv : Vals ((q'.toList.map fun i => rs.getD i 0).map V.ref) (q'.toList.map fun i => its.getD i Value.none) := by
      have := rels_getD rv q'.toList fun i hi => by rw [List.length_map, hl1]; exact hq i hi
      have e0 : (q'.toList.map fun i => rs.getD i 0).map V.ref = q'.toList.map fun i => (rs.map V.ref).getD i V.non := by
        rw [List.map_map]
        refine List.map_congr_left fun i hi => ?_
        have hi := hq i hi
        have : i < rs.length := by omega
        simp [List.getD_eq_getElem?_getD, this]
      rw [e0]
      exact this
    have hq' := tups_getD ht q'.toList fun i hi => by rw [hl1]; exact hq i hi
    refine ⟨.ref (s.heap.objs.size + 1), _, I.laid (t' := s.toks) k (Nat.le_succ _) (o := .lst ((q'.toList.map fun i => rs.getD i 0).map V.ref)) ?_, rfl, q _ _ _ (I.hok.fresh (Nat.le_succ _)) hq' (perm_of_ord o) (asc_sorted o asc)⟩
    refine ⟨?_, _, c, hv, e'⟩
    have := o.size
    simp only [List.length_map, Array.length_toList]
    rw [sizeLine_eq]
    omega
end
end BwS

set_option Elab.async false
set_option linter.all false
set_option maxRecDepth 100000
set_option maxHeartbeats 4000000
namespace BwL
open PySem L2 Bw BwM PyProof.Rows
theorem cut500 (xs : List V) (h : xs.length ≤ 500) : cutV xs none (some 500) = xs := by
  unfold cutV
  have e1 : HT.sIx xs.length 0 none = 0 := rfl
  have e2 : HT.sIx xs.length xs.length (some 500) = xs.length := by
    have := HT.sIx_nat xs.length xs.length 500
    rw [show ((500 : Nat) : Int) = 500 from rfl] at this
    rw [this]; omega
  rw [e1, e2, List.drop_zero, Nat.sub_zero, List.take_length]
theorem cut1 (ms : List Int) : cutV (ms.map V.int) (some 1) none = (ms.drop 1).map V.int := by
  unfold cutV
  have e1 : HT.sIx (ms.map V.int).length 0 (some 1) = min 1 (ms.map V.int).length := HT.sIx_nat _ _ 1
  have e2 : HT.sIx (ms.map V.int).length (ms.map V.int).length none = (ms.map V.int).length := rfl
  rw [e1, e2]
  cases ms with
  | nil => rfl
  | cons m ms =>
    have : min 1 ((m :: ms).map V.int).length = 1 := by simp
    rw [this]
    show (List.map V.int ms).take _ = List.map V.int ms
    exact List.take_of_length_le (by simp)
theorem deed_ne {x : Str} (h : ¬ V.str x = V.str "tick") : ¬ V.str x = V.str "tick" := h
theorem ne_set_tick : ¬ V.str "set" = V.str "tick" := by decide +kernel
theorem ne_off_tick : ¬ V.str "off" = V.str "tick" := by decide +kernel
theorem ne_strike_tick : ¬ V.str "strike" = V.str "tick" := by decide +kernel
/-- the number that the next bell gets -/
theorem came_set (s : Day) (a : Int) : s.came + (if decide (0 < a) = true then 1 else 0) = (next s (.set a)).came := by
  rw [next_set]
  by_cases h : a < 1
  · rw [if_pos h, if_neg (by simp; omega)]; omega
  · rw [if_neg h, if_pos (by simp; omega)]
theorem came_off (s : Day) (n a : Int) : s.came + 0 = (next s (.off n a)).came := by
  rw [next_off]
  split
  · omega
  · split <;> simp
theorem came_strike (s : Day) (n : Int) : s.came + 0 = (next s (.strike n)).came := by
  rw [next_strike]
  split <;> simp
theorem now_next (s : Day) : ∀ (d : Deed), (∀ m, d ≠ .tick m) → s.now = (next s d).now
  | .set a, _ => by rw [next_set]; split <;> rfl
  | .off n a, _ => by rw [next_off]; split; rfl; split <;> rfl
  | .strike n, _ => by rw [next_strike]; split <;> rfl
  | .tick m, h => absurd rfl (h m)
theorem flat_ans (s : Day) : ∀ (d : Deed), (∀ m, d ≠ .tick m) → ∀ H, AnsP H (flatAns (told s d)) (told s d) := fun d h H => by
  cases d with
  | set a => show AnsP H (flatAns (if a < 1 then _ else _)) (if a < 1 then _ else _); split <;> rfl
  | off n a =>
    show AnsP H (flatAns (if ¬ waits s n then _ else _)) (if ¬ waits s n then _ else _)
    split
    · rfl
    · split <;> rfl
  | strike n => show AnsP H (flatAns (if ¬ waits s n then _ else _)) (if ¬ waits s n then _ else _); split <;> rfl
  | tick m => exact absurd rfl (h m)
def ifBody (st : Stmt) : List Stmt := match st with
  | .If _ b _ _ => b
  | _ => []
def binR (e : Expr) : Expr := match e with
  | .BinOp _ _ b _ => b
  | e => e
def tupAt (e : Expr) (i : Nat) : Expr := match e with
  | .Tuple es _ _ => es.getD i e
  | e => e
theorem cut2 (ms : List Int) : cutV (ms.map V.int) (some 2) none = (ms.drop 2).map V.int := by
  unfold cutV
  have e1 : HT.sIx (ms.map V.int).length 0 (some 2) = min 2 (ms.map V.int).length := HT.sIx_nat _ _ 2
  have e2 : HT.sIx (ms.map V.int).length (ms.map V.int).length none = (ms.map V.int).length := rfl
  rw [e1, e2]
  match ms with
  | [] => rfl
  | [m] => rfl
  | m :: m' :: ms =>
    have : min 2 ((m :: m' :: ms).map V.int).length = 2 := by simp
    rw [this]
    show (List.map V.int ms).take _ = List.map V.int ms
    exact List.take_of_length_le (by simp)
end BwL

set_option Elab.async false
set_option linter.all false
set_option maxRecDepth 100000
set_option maxHeartbeats 4000000
namespace BwL
open PySem L2 Bw BwM PyProof.Rows
abbrev dueFor : List Stmt := forBody (stAt (defBody sDue) 4)
abbrev scU1 : Scope := compOf (binR (exprOf (stAt (forBody (stAt (ifBody (stAt dueFor 1)) 0)) 1)))
abbrev scU2 : Scope := compOf (arg0 (tupAt (exprOf (stAt (defBody sDue) 5)) 1))
theorem bsU1 : BlkScope scU1 := ⟨rfl, by decide +kernel, by decide +kernel⟩
theorem frU1 : ∀ x ∈ scU1.names, x.2 = .free → (defScope sDue).names.lookup x.1 = some .cell := by decide +kernel
theorem ndU1 : (["_law_number", "_law_now"] : List Str).Nodup := by decide +kernel
theorem bsU2 : BlkScope scU2 := ⟨rfl, by decide +kernel, by decide +kernel⟩
theorem frU2 : ∀ x ∈ scU2.names, x.2 = .free → (defScope sDue).names.lookup x.1 = some .cell := by decide +kernel
theorem ndU2 : (["_law_pair", "_law_now"] : List Str).Nodup := by decide +kernel
section
variable {P : Program} {w : World} {K : PySem.W.Frag} {mg : Str → Option Value} {base : Heap}
abbrev NU : List Str := ["_law_asked", "_law_due", "_law_waits", "_law_now", "_law_came", "_law_deed", "_law_rung", "_law_tick"]
theorem scU : FnScope NU ["_law_asked"] (defScope sDue) := ⟨rfl, rfl, rfl, by decide +kernel, rfl, by decide +kernel, by decide +kernel⟩
def spDue : Sp := fun vs H Q _ => ∃ (a : Addr) (rs : List Addr) (ds : List Deed), vs = [.ref a] ∧ H a = some (.lst (rs.map V.ref)) ∧ DeedsP H rs ds ∧ ds.length ≤ 63 ∧ (∀ d ∈ ds, DeedOk d) ∧
  ∀ (t dl ll : Addr) (xs : List V) (qs : List Addr) (ss : List (Int × Int)) (H' : Hp), Same H H' → H' t = some (.tup [.ref dl, .ref ll]) → H' dl = some (.lst xs) → Paired (AnsP H') xs (tolds ds day0) → H' ll = some (.lst (qs.map V.ref)) → TupsP H' qs ss →
    ss.Perm (left (days ds day0)) → Rising ss → Q (.ref t) H'
/-- the loop's state -/
structure DueI (H : Hp) (da wa : Addr) (ds : List Deed) (y : Day) (H2 : Hp) : Prop where
  same : Same H H2
  ans : ∃ xs : List V, H2 da = some (.lst xs) ∧ Paired (AnsQ H2 da wa) xs (tolds ds day0)
  bells : ∃ wrs : List Addr, H2 wa = some (.lst (wrs.map V.ref)) ∧ BellsP H2 wrs y.ws ∧ ∀ q ∈ wrs, q ≠ da
theorem bellsNe {H H' : Hp} {da : Addr} (k : ∀ c o, H c = some o → c ≠ da → H' c = some o) : ∀ {rs : List Addr} {ws : W}, BellsP H rs ws → (∀ q ∈ rs, q ≠ da) → BellsP H' rs ws
  | _, _, .nil, _ => .nil
  | _, _, .cons h t, n => .cons (k _ _ h (n _ List.mem_cons_self)) (bellsNe k t fun q hq => n q (List.mem_cons_of_mem _ hq))
theorem ok_due {f fP fT : Addr} {fd fdP fdT : FuncData} (F : Fun K "_law_due_of" "_law_due_of" sDue f fd) (T : TxtB mg)
    (FP : Fun K "_law_plain" "_law_plain" sPlain fP fdP) (bP : L2.Binds K fdP ["_law_waits", "_law_now", "_law_came", "_law_deed"] []) (mP : mg "_law_plain" = some (.ref fP))
    (FT : Fun K "_law_ticked" "_law_ticked" sTickL fT fdT) (bT : L2.Binds K fdT ["_law_waits", "_law_now"] []) (mT : mg "_law_ticked" = some (.ref fT)) : FnOk P w K mg base CX0 2 f fd ["_law_asked"] spDue := by
  have GP : FnOk P w K mg base CX0 1 fP fdP ["_law_waits", "_law_now", "_law_came", "_law_deed"] spPlain := ok_plain FP
  have GT : FnOk P w K mg base CX0 1 fT fdT ["_law_waits", "_law_now"] spTickL := ok_tickL FT
  refine F.ok scU (fun vs H Q E h => ?_) (fun cdv A outer s H vs Q E hr h => ?_)
  · obtain ⟨a, rs, ds, rfl, _⟩ := h
    rfl
  · obtain ⟨aa, rs, ds, rfl, haa, hds, hdl, hok, k⟩ := h
    have hr1 : Room 1 _ := hr.mono (by decide)
    refine ⟨_, pss_cons (ps_set (i := 1) scU.nd rfl (Or.inl rfl) (pe_lst pa_nil))
      (pss_cons (ps_set (i := 2) scU.nd rfl (Or.inl rfl) (pe_lst pa_nil))
      (pss_cons (ps_set (i := 3) scU.nd rfl (Or.inr rfl) pe_int)
      (pss_cons (ps_set (i := 4) scU.nd rfl (Or.inl rfl) pe_int)
      (pss_cons (ps_for PassesOwn.never rfl (pi_list (pv 0)) (pg_name (i := 5) scU.nd rfl (Or.inl rfl))
        (pss_cons (ps_set (i := 6) scU.nd rfl (Or.inl rfl) (pe_lst pa_nil))
        (pss_one (ps_if (pt_cmpR op_eq (pe_ix ix_tup (pv 5) pe_int fun _ _ => rfl) pe_str (nomark _))
          (pss_cons (ps_for PassesOwn.never rfl (pi_range1 (by rfl) T.range (pa_cons (pe_ix ix_tup (pv 5) pe_int fun _ _ => rfl) pa_nil)) (pg_name (i := 7) scU.nd rfl (Or.inl rfl))
            (pss_cons (ps_set (i := 3) scU.nd rfl (Or.inr rfl) (pe_op op_add (pv 3) pe_int))
            (pss_one (ps_set (i := 6) scU.nd rfl (Or.inl rfl) (pe_op op_cat (pv 6)
              (pe_comp (N := ["_law_number", "_law_now"]) (τ := capσ 1 [3]) rfl (pi_list (pe_call GT hr1 (by rfl) mT FT.kp bT .nil pass0 (pa_cons (pv 2) (pa_cons (pv 3) pa_nil)))) bsU1 frU1 (fun σ _ => capOne rfl rfl rfl rfl rfl)
                ⟨fun _ _ _ _ _ => pg_nameB 0 ndU1 rfl rfl, fun _ _ _ _ _ => pf_nil, fun _ _ _ _ _ => pe_tup (pa_cons (pvC 1 rfl rfl rfl rfl) (pa_cons (pvB 0 rfl rfl) pa_nil))⟩))))))
          (pss_one (ps_expr (pe_bm PySem.F.plainAttrs_list PySem.F.slot_list_append PySem.F.type_list_append mt_append (pv 1) (pa_cons (pv 6) pa_nil)))))
          (pss_cons (ps_expr (pe_bm PySem.F.plainAttrs_list PySem.F.slot_list_append PySem.F.type_list_append mt_append (pv 1) (pa_cons (pe_call GP hr1 (by rfl) mP FP.kp bP .nil pass0 (pa_cons (pv 2) (pa_cons (pv 3) (pa_cons (pv 4) (pa_cons (pv 5) pa_nil))))) pa_nil)))
          (pss_one (ps_set (i := 4) scU.nd rfl (Or.inl rfl) (pe_op op_add (pv 4) (pe_callTy call_int1 (by rfl) T.int boot_int (pa_cons (pe_and (pe_cmpR op_eq (pe_ix ix_tup (pv 5) pe_int fun _ _ => rfl) pe_str (nomark _)) (pe_one (pe_cmpR op_gt (pe_ix ix_tup (pv 5) pe_int fun _ _ => rfl) pe_int (nomark _)))) pa_nil))))))))))
      (pss_one (ps_ret (pe_tup (pa_cons (pv 1) (pa_cons (pe_callB BwS.call_sorted (by rfl) T.sorted boot_sorted (pa_cons
        (pe_comp (N := ["_law_pair", "_law_now"]) (τ := capσ 1 [3]) rfl (pi_list (pv 2)) bsU2 frU2 (fun σ _ => capOne rfl rfl rfl rfl rfl)
          ⟨fun _ _ _ _ _ => pg_nameB 0 ndU2 rfl rfl, fun _ _ _ _ _ => pf_nil, fun _ _ _ _ _ => pe_tup (pa_cons (pe_ix ix_listB (pvB 0 rfl rfl) pe_int fun _ _ => rfl) (pa_cons (pe_op op_sub (pe_ix ix_listB (pvB 0 rfl rfl) pe_int fun _ _ => rfl) (pvC 1 rfl rfl rfl rfl)) pa_nil))⟩) pa_nil)) pa_nil))))))))), ?_⟩
    refine ⟨Nat.zero_le _, fun da fda => ?_⟩
    have s1 : Same H (upd H da (.lst [])) := same_upd fda
    have hda : upd H da (.lst []) da = some (.lst []) := upd_same
    generalize upd H da (.lst []) = H1 at s1 hda ⊢
    refine ⟨Nat.zero_le _, fun wa fwa => ?_⟩
    have s2 : Same H1 (upd H1 wa (.lst [])) := same_upd fwa
    have hwa : upd H1 wa (.lst []) wa = some (.lst []) := upd_same
    have hda2 := s2 _ _ hda
    have nwd : wa ≠ da := Ne.symm (ne_of_none hda fwa)
    have fwa0 : H wa = none := s1.free fwa
    have s02 := s1.trans s2
    generalize upd H1 wa (.lst []) = H2 at s2 hwa hda2 s02 ⊢
    refine ⟨_, rfl, aa, rfl, ⟨_, SqL.of (s02 _ _ haa)⟩, for_list (K := K) (a := aa) (xs := rs.map V.ref)
      (fun i σ H3 => ∃ (x5 x6 x7 : Option V) (y : Day), σ = [some (.ref aa), some (.ref da), some (.ref wa), some (.int y.now), some (.int y.came), x5, x6, x7] ∧ y = days (ds.take i) day0 ∧ DueI H da wa (ds.take i) y H3)
      ⟨none, none, none, day0, rfl, rfl, s02, ⟨[], hda2, .nil⟩, [], hwa, .nil, fun _ z => nomatch z⟩ (fun i σ H3 _ ⟨_, _, _, _, _, _, M⟩ => SqL.of (M.same _ _ haa)) ?_ ?_⟩
    · rintro i x σ H3 hx ⟨x5, x6, x7, y, rfl, ey, s3, ⟨xs, hxs, hans⟩, wrs, hw3, hb3, nq3⟩
      obtain ⟨r, rfl, er⟩ : ∃ r, x = .ref r ∧ rs[i]? = some r := by
        rw [List.getElem?_map] at hx
        cases e : rs[i]? with
        | none => rw [e] at hx; cases hx
        | some r => rw [e] at hx; exact ⟨r, (Option.some.inj hx).symm, rfl⟩
      have hi : i < rs.length := (List.getElem?_eq_some_iff.mp er).1
      have hi2 : i < 63 := by rw [hds.length] at hi; omega
      have g : BwM.Good y := by rw [ey]; exact good0.days _
      have ylen : y.ws.length ≤ i := by
        rw [ey]
        have := days_len (ds.take i) day0
        have e : day0.ws.length = 0 := rfl
        have := List.length_take_le i ds
        omega
      have xlen : xs.length ≤ 63 := by rw [hans.length, tolds_len]; exact Nat.le_trans (List.length_take_le i ds) (by omega)
      obtain ⟨d, ed, hd0⟩ := Paired_get hds er
      have ok := hok d (List.mem_of_getElem? ed)
      have enext : days (ds.take (i + 1)) day0 = next y d := by rw [take_snoc ed, days_snoc, ← ey]
      have etold : tolds (ds.take (i + 1)) day0 = tolds (ds.take i) day0 ++ [told y d] := by rw [take_snoc ed, tolds_snoc, ← ey]
      refine ⟨Nat.zero_le _, fun gl fgl => ?_⟩
      have sG : Same H3 (upd H3 gl (.lst [])) := same_upd fgl
      have hgl : upd H3 gl (.lst []) gl = some (.lst []) := upd_same
      have ngd : gl ≠ da := Ne.symm (ne_of_none hxs fgl)
      have ngw : gl ≠ wa := Ne.symm (ne_of_none hw3 fgl)
      have s4 := s3.trans sG
      have fgl0 : H gl = none := s3.free fgl
      have hxs4 := sG _ _ hxs
      have hw4 := sG _ _ hw3
      have hb4 : BellsP (upd H3 gl (.lst [])) wrs y.ws := L2.Paired.mapP hb3 fun r p e => sG r _ e
      have hd4 : DeedP (upd H3 gl (.lst [])) r d := DeedP.same (fun us e' => s4 r _ e') hd0
      have hans4 : Paired (AnsQ (upd H3 gl (.lst [])) da wa) xs (tolds (ds.take i) day0) := L2.Paired.mapP hans fun v n h => ⟨AnsP.same sG h.1, h.2⟩
      generalize upd H3 gl (.lst []) = H4 at sG hgl s4 hxs4 hw4 hb4 hd4 hans4 ⊢
      have small : xs.length < sizeLine := small_of (m := 63) xlen (by omega)
      -- the end of a turn
      have fin : ∀ (H5 : Hp) (v : V) (x6' x7' : Option V) (wrs' : List Addr), Keep2 da wa H4 H5 → H5 da = some (.lst (xs ++ [v])) → H5 wa = some (.lst (wrs'.map V.ref)) → BellsP H5 wrs' (next y d).ws → (∀ q ∈ wrs', q ≠ da) → AnsQ H5 da wa v (told y d) →
          ∃ (x5 x6 x7 : Option V) (y2 : Day), [some (.ref aa), some (.ref da), some (.ref wa), some (.int (next y d).now), some (.int (next y d).came), some (.ref r), x6', x7'] = [some (.ref aa), some (.ref da), some (.ref wa), some (.int y2.now), some (.int y2.came), x5, x6, x7] ∧ y2 = days (ds.take (i + 1)) day0 ∧ DueI H da wa (ds.take (i + 1)) y2 H5 := fun H5 v x6' x7' wrs' k5 hd5 hw5 hb5 nq5 hv =>
        ⟨_, _, _, next y d, rfl, enext.symm, fun b o e => k5 b o (s4 b o e) (ne_of_none e fda) (ne_of_none e fwa0), ⟨xs ++ [v], hd5, by rw [etold]; exact Paired.snoc (L2.Paired.mapP hans4 fun _ _ h => h.keep hxs4 hw4 k5) hv⟩, wrs', hw5, hb5, nq5⟩
      have nqs : ∀ {wrs' : List Addr}, (∀ q ∈ wrs', q ∈ wrs ∨ H4 q = none) → ∀ q ∈ wrs', q ≠ da := fun {wrs'} h q hq => by
        rcases h q hq with h | h
        · exact nq3 q h
        · exact Ne.symm (ne_of_none hxs4 h)
      have flat : ∀ (nt : ∀ m, d ≠ .tick m) (H5 : Hp) (wrs' : List Addr) (x6' x7' : Option V), Keep wa H4 H5 → H5 wa = some (.lst (wrs'.map V.ref)) → BellsP H5 wrs' (next y d).ws → (∀ q ∈ wrs', q ∈ wrs ∨ H4 q = none) →
          ∃ (x5 x6 x7 : Option V) (y2 : Day), [some (.ref aa), some (.ref da), some (.ref wa), some (.int (next y d).now), some (.int (next y d).came), some (.ref r), x6', x7'] = [some (.ref aa), some (.ref da), some (.ref wa), some (.int y2.now), some (.int y2.came), x5, x6, x7] ∧ y2 = days (ds.take (i + 1)) day0 ∧ DueI H da wa (ds.take (i + 1)) y2 (upd H5 da (.lst (xs ++ [flatAns (told y d)]))) := fun nt H5 wrs' x6' x7' k5 hw5 hb5 hq5 =>
        fin _ _ _ _ wrs' (fun c o e n1 n2 => by rw [upd_ne n1]; exact k5 c o e n2) upd_same (by rw [upd_ne nwd]; exact hw5) (bellsNe (fun c o e n => by rw [upd_ne n]; exact e) hb5 (nqs hq5)) (nqs hq5) ⟨flat_ans y d nt _, fun l e => by
          cases d with
          | tick m => exact absurd rfl (nt m)
          | set a => exact absurd e (by show flatAns (if a < 1 then _ else _) ≠ _; split <;> (intro z; cases z))
          | off n a => exact absurd e (by show flatAns (if ¬ waits y n then _ else _) ≠ _; split; (intro z; cases z); split <;> (intro z; cases z))
          | strike n => exact absurd e (by show flatAns (if ¬ waits y n then _ else _) ≠ _; split <;> (intro z; cases z))⟩
      cases d with
      | set n0 =>
        have hr4 : H4 r = some (.tup [.str "set", .int n0]) := hd4
        have nt : ∀ m, Deed.set n0 ≠ .tick m := fun m z => nomatch z
        refine ⟨_, rfl, r, _, _, _, rfl, rfl, SqT.of hr4, rfl, rfl, _, rfl, iteDN ne_set_tick ?_⟩
        refine ⟨_, rfl, .inl ⟨rfl, _, SqL.of hxs4⟩, _, rfl, _, rfl, _, rfl, _, rfl, wa, r, wrs, y, _, rfl, hw4, hb4, hd4, nt, g, by omega, fun H5 wrs' k5 hw5 hb5 hq5 => ?_⟩
        have hr5 : H5 r = some (.tup [.str "set", .int n0]) := k5 _ _ hr4 (ne_of hr4 hw4 (by intro z; cases z))
        refine ⟨da, _, _, rfl, rfl, k5 _ _ hxs4 (Ne.symm nwd), small, ?_⟩
        have hr6 : upd H5 da (.lst (xs ++ [flatAns (told y (.set n0))])) r = some (.tup [.str "set", .int n0]) := by rw [upd_ne (ne_of hr4 hxs4 (by intro z; cases z))]; exact hr5
        have q5 := flat nt H5 wrs' (some (.ref gl)) x7 k5 hw5 hb5 hq5
        refine ⟨_, rfl, _, rfl, r, _, _, _, rfl, rfl, SqT.of hr6, rfl, rfl, _, rfl, iteD rfl ?_⟩
        refine ⟨_, rfl, r, _, _, _, rfl, rfl, SqT.of hr6, rfl, _, _, rfl, rfl, .inr ⟨_, rfl, _, _, rfl, rfl, ?_⟩⟩
        rw [← now_next y _ nt, ← came_set y n0] at q5
        exact q5
      | off n0 m0 =>
        have hr4 : H4 r = some (.tup [.str "off", .int n0, .int m0]) := hd4
        have nt : ∀ m, Deed.off n0 m0 ≠ .tick m := fun m z => nomatch z
        refine ⟨_, rfl, r, _, _, _, rfl, rfl, SqT.of hr4, rfl, rfl, _, rfl, iteDN ne_off_tick ?_⟩
        refine ⟨_, rfl, .inl ⟨rfl, _, SqL.of hxs4⟩, _, rfl, _, rfl, _, rfl, _, rfl, wa, r, wrs, y, _, rfl, hw4, hb4, hd4, nt, g, by omega, fun H5 wrs' k5 hw5 hb5 hq5 => ?_⟩
        have hr5 : H5 r = some (.tup [.str "off", .int n0, .int m0]) := k5 _ _ hr4 (ne_of hr4 hw4 (by intro z; cases z))
        refine ⟨da, _, _, rfl, rfl, k5 _ _ hxs4 (Ne.symm nwd), small, ?_⟩
        have hr6 : upd H5 da (.lst (xs ++ [flatAns (told y (.off n0 m0))])) r = some (.tup [.str "off", .int n0, .int m0]) := by rw [upd_ne (ne_of hr4 hxs4 (by intro z; cases z))]; exact hr5
        have q5 := flat nt H5 wrs' (some (.ref gl)) x7 k5 hw5 hb5 hq5
        refine ⟨_, rfl, _, rfl, r, _, _, _, rfl, rfl, SqT.of hr6, rfl, rfl, _, rfl, iteDN ne_off_set ?_⟩
        refine .inr ⟨_, rfl, _, _, rfl, rfl, ?_⟩
        rw [← now_next y _ nt, ← came_off y n0 m0] at q5
        exact q5
      | strike n0 =>
        have hr4 : H4 r = some (.tup [.str "strike", .int n0]) := hd4
        have nt : ∀ m, Deed.strike n0 ≠ .tick m := fun m z => nomatch z
        refine ⟨_, rfl, r, _, _, _, rfl, rfl, SqT.of hr4, rfl, rfl, _, rfl, iteDN ne_strike_tick ?_⟩
        refine ⟨_, rfl, .inl ⟨rfl, _, SqL.of hxs4⟩, _, rfl, _, rfl, _, rfl, _, rfl, wa, r, wrs, y, _, rfl, hw4, hb4, hd4, nt, g, by omega, fun H5 wrs' k5 hw5 hb5 hq5 => ?_⟩
        have hr5 : H5 r = some (.tup [.str "strike", .int n0]) := k5 _ _ hr4 (ne_of hr4 hw4 (by intro z; cases z))
        refine ⟨da, _, _, rfl, rfl, k5 _ _ hxs4 (Ne.symm nwd), small, ?_⟩
        have hr6 : upd H5 da (.lst (xs ++ [flatAns (told y (.strike n0))])) r = some (.tup [.str "strike", .int n0]) := by rw [upd_ne (ne_of hr4 hxs4 (by intro z; cases z))]; exact hr5
        have q5 := flat nt H5 wrs' (some (.ref gl)) x7 k5 hw5 hb5 hq5
        refine ⟨_, rfl, _, rfl, r, _, _, _, rfl, rfl, SqT.of hr6, rfl, rfl, _, rfl, iteDN ne_strike_set ?_⟩
        refine .inr ⟨_, rfl, _, _, rfl, rfl, ?_⟩
        rw [← now_next y _ nt, ← came_strike y n0] at q5
        exact q5
      | tick m0 =>
        have hr4 : H4 r = some (.tup [.str "tick", .int m0]) := hd4
        obtain ⟨m1, m2⟩ : 0 ≤ m0 ∧ m0 ≤ 299 := ok
        refine ⟨_, rfl, r, _, _, _, rfl, rfl, SqT.of hr4, rfl, rfl, _, rfl, iteD rfl ?_⟩
        refine ⟨_, rfl, r, _, _, _, rfl, rfl, SqT.of hr4, rfl, _, rfl, by omega, by omega, for_range (lo := 0)
          (fun j σ H5 => ∃ (x7 : Option V) (du : Addr) (drs wrs' : List Addr), σ = [some (.ref aa), some (.ref da), some (.ref wa), some (.int (ticks j y).now), some (.int y.came), some (.ref r), some (.ref du), x7] ∧ Keep wa H4 H5 ∧ H5 wa = some (.lst (wrs'.map V.ref)) ∧ BellsP H5 wrs' (ticks j y).ws ∧ (∀ q ∈ wrs', q ∈ wrs) ∧ du ≠ da ∧ du ≠ wa ∧ H5 du = some (.lst (drs.map V.ref)) ∧ TupsP H5 drs (rungs j y))
          ⟨x7, gl, [], wrs, rfl, .refl _ _, hw4, hb4, (fun _ h => h), ngd, ngw, hgl, Paired.nil⟩ ?_ ?_⟩
        · rintro j σ H5 hj ⟨y7, du, drs, wrs5, rfl, k5, hw5, hb5, sub5, nud, nuw, hdu, tdu⟩
          have gj := BwM.Good.ticks j g
          have tl := rungs_len j y
          refine ⟨_, rfl, _, _, rfl, rfl, ?_⟩
          refine ⟨_, rfl, _, rfl, _, rfl, wa, wrs5, (ticks j y).ws, (ticks j y).now + 1, rfl, hw5, hb5, gj.nd, by omega, fun l6 H6 wrs6 k6 fl6 nl6 hl6 hw6 hb6 sub6 => ⟨l6, rfl, ⟨_, SqL.of hl6⟩, ?_⟩⟩
          have dlen : (due ((ticks j y).now + 1) (ticks j y).ws).length ≤ 1000 := Nat.le_trans (due_len _ _) (by omega)
          have hdu6 := k6 _ _ hdu nuw
          have tdu6 : TupsP H6 drs (rungs j y) := TupsP.tups (fun r xs e => k6 r _ e (ne_of e hw5 (by intro z; cases z))) tdu
          have hxs6 : H6 da = some (.lst xs) := k6 _ _ (k5 _ _ hxs4 (Ne.symm nwd)) (Ne.symm nwd)
          refine comp_list (K := K) (a := l6) (xs := (due ((ticks j y).now + 1) (ticks j y).ws).map V.int)
            (fun c n σ1 H7 => (∃ u, σ1 = [u, some (.int ((ticks j y).now + 1))]) ∧ H6 c = none ∧ Same H6 H7 ∧ ∃ crs : List Addr, H7 c = some (.lst (crs.map V.ref)) ∧ TupsP H7 crs (((due ((ticks j y).now + 1) (ticks j y).ws).take n).map fun n => ((ticks j y).now + 1, n))) ?_ ?_ ?_ ?_
          · intro c hc
            exact ⟨⟨none, rfl⟩, hc, same_upd hc, [], upd_same, Paired.nil⟩
          · rintro c n σ1 H7 _ ⟨_, hc, s7, _⟩
            exact SqL.of (s7 _ _ hl6)
          · rintro c n x σ1 H7 hx ⟨⟨u, rfl⟩, hc, s7, crs, hcr, tcr⟩
            obtain ⟨nn, rfl, hnn⟩ : ∃ nn, x = .int nn ∧ (due ((ticks j y).now + 1) (ticks j y).ws)[n]? = some nn := by
              rw [List.getElem?_map] at hx
              cases e : (due ((ticks j y).now + 1) (ticks j y).ws)[n]? with
              | none => rw [e] at hx; cases hx
              | some nn => rw [e] at hx; exact ⟨nn, (Option.some.inj hx).symm, rfl⟩
            have lcr : (crs.map V.ref).length ≤ 1000 := by
              rw [List.length_map, tcr.length, List.length_map]
              exact Nat.le_trans (List.length_take_le _ _) (Nat.le_trans (Nat.le_of_lt (List.getElem?_eq_some_iff.mp hnn).1) dlen)
            refine ⟨_, rfl, _, rfl, (by show 2 ≤ sizeLine; decide), fun q hq => ⟨crs.map V.ref, same_upd hq _ _ hcr, small_of lcr (by omega), ⟨_, rfl⟩, hc, same_updN (same_updN s7 (s7.free hq)) hc, crs ++ [q], by rw [upd_same, List.map_append]; rfl, ?_⟩⟩
            have nq : q ≠ c := Ne.symm (ne_of_none hcr hq)
            rw [take_snoc hnn, List.map_append]
            refine Paired.snoc (TupsP.tups (fun r xs e => ?_) tcr) ?_
            · rw [upd_ne (ne_of e hcr (by intro z; cases z)), upd_ne (ne_of_none e hq)]
              exact e
            · show upd _ c _ q = _
              rw [upd_ne nq, upd_same]
          · rintro c σ1 H7 ⟨_, hc, s7, crs, hcr, tcr⟩
            rw [List.length_map, List.take_length] at tcr
            have hdu7 := s7 _ _ hdu6
            have len1 : (drs.map V.ref).length = (rungs j y).length := by rw [List.length_map]; exact tdu.length
            have len2 : (crs.map V.ref).length ≤ 1000 := by rw [List.length_map, tcr.length, List.length_map]; exact dlen
            refine ⟨du, c, _, _, rfl, rfl, hdu7, hcr, Nat.le_of_lt (small_of (m := 3000) (by omega) (by omega)), fun p fp => ?_⟩
            have sp := same_upd (o := .lst (drs.map V.ref ++ crs.map V.ref)) fp
            refine ⟨some (.int (0 + (j : Int))), p, drs ++ crs, wrs6, ?_, (k5.trans k6).trans (.of (s7.trans sp)), sp _ _ (s7 _ _ hw6), ?_, fun q hq => sub5 q (sub6 q hq), Ne.symm (ne_of_none (s7 _ _ hxs6) fp), Ne.symm (ne_of_none (s7 _ _ hw6) fp), by rw [upd_same, List.map_append], ?_⟩
            · rw [show (ticks (j + 1) y).now = (ticks j y).now + 1 by rw [ticks_succ]; rfl]
              rfl
            · rw [ticks_succ]
              exact L2.Paired.mapP hb6 fun r p e => sp r _ (s7 r _ e)
            · rw [rungs_succ]
              exact tupsApp ((tdu6.same s7).same sp) (tcr.same sp)
        · rintro σ H5 ⟨y7, du, drs, wrs5, rfl, k5, hw5, hb5, sub5, nud, nuw, hdu, tdu⟩
          have hxs5 := k5 _ _ hxs4 (Ne.symm nwd)
          refine ⟨_, rfl, .inl ⟨rfl, _, SqL.of hxs5⟩, _, rfl, da, _, _, rfl, rfl, hxs5, small, ?_⟩
          have nq5 : ∀ q ∈ wrs5, q ≠ da := fun q hq => nq3 q (sub5 q hq)
          have q5 := fin (upd H5 da (.lst (xs ++ [.ref du]))) (.ref du) (some (.ref du)) y7 wrs5 (fun c o e n1 n2 => by rw [upd_ne n1]; exact k5 c o e n2) upd_same (by rw [upd_ne nwd]; exact hw5) (bellsNe (fun c o e n => by rw [upd_ne n]; exact e) hb5 nq5) nq5
            ⟨⟨du, drs, rfl, by rw [upd_ne nud]; exact hdu, TupsP.tups (fun r xs e => by rw [upd_ne (ne_of e hxs5 (by intro z; cases z))]; exact e) tdu⟩, fun l e => by cases e; exact ⟨nud, nuw⟩⟩
          have ec : (next y (.tick m0)).came = y.came := ticks_came _ _
          rw [ec] at q5
          exact q5
    · rintro σ H3 ⟨x5, x6, x7, y, rfl, ey, s3, ⟨xs, hxs, hans⟩, wrs, hw3, hb3, nq3⟩
      have hlen : (rs.map V.ref).length = ds.length := by rw [List.length_map]; exact hds.length
      rw [hlen, List.take_length] at ey hans
      have g : BwM.Good y := by rw [ey]; exact good0.days _
      have ylen : y.ws.length ≤ 63 := by
        rw [ey]
        have := days_len ds day0
        have e : day0.ws.length = 0 := rfl
        omega
      have hbl := hb3.length
      refine ⟨_, rfl, _, rfl, wa, rfl, ⟨_, SqL.of hw3⟩, ?_⟩
      refine comp_list (K := K) (a := wa) (xs := wrs.map V.ref)
        (fun c n σ1 H7 => (∃ u, σ1 = [u, some (.int y.now)]) ∧ H3 c = none ∧ Same H3 H7 ∧ ∃ crs : List Addr, H7 c = some (.lst (crs.map V.ref)) ∧ TupsP H7 crs ((y.ws.take n).map fun p => (p.1, p.2 - y.now))) ?_ ?_ ?_ ?_
      · intro c hc
        exact ⟨⟨none, rfl⟩, hc, same_upd hc, [], upd_same, Paired.nil⟩
      · rintro c n σ1 H7 _ ⟨_, hc, s7, _⟩
        exact SqL.of (s7 _ _ hw3)
      · rintro c n x σ1 H7 hx ⟨⟨u, rfl⟩, hc, s7, crs, hcr, tcr⟩
        obtain ⟨q0, p, rfl, hpi, hri, tp⟩ := hb3.get hx
        have tp7 := s7 _ _ tp
        have lcr : (crs.map V.ref).length ≤ 63 := by
          rw [List.length_map, tcr.length, List.length_map]
          exact Nat.le_trans (List.length_take_le' _ _) ylen
        refine ⟨_, rfl, q0, _, _, _, rfl, rfl, SqL.of tp7, rfl, _, rfl, q0, _, _, _, rfl, rfl, SqL.of tp7, rfl, _, rfl, _, _, rfl, rfl, (by show 2 ≤ sizeLine; decide), fun q hq => ⟨crs.map V.ref, same_upd hq _ _ hcr, small_of lcr (by omega), ⟨_, rfl⟩, hc, same_updN (same_updN s7 (s7.free hq)) hc, crs ++ [q], by rw [upd_same, List.map_append]; rfl, ?_⟩⟩
        have nq : q ≠ c := Ne.symm (ne_of_none hcr hq)
        rw [take_snoc hpi, List.map_append]
        refine Paired.snoc (TupsP.tups (fun r xs e => ?_) tcr) ?_
        · rw [upd_ne (ne_of e hcr (by intro z; cases z)), upd_ne (ne_of_none e hq)]
          exact e
        · show upd _ c _ q = _
          rw [upd_ne nq, upd_same]
      · rintro c σ1 H7 ⟨_, hc, s7, crs, hcr, tcr⟩
        rw [show (wrs.map V.ref).length = y.ws.length by rw [List.length_map]; exact hbl, List.take_length] at tcr
        have tcr' : TupsP H7 crs (left y) := tcr
        refine ⟨c, crs, left y, rfl, hcr, tcr', by rw [left_len]; omega, by rw [left_nums]; exact g.nd, fun l qs ss hl tq pq sq => ?_⟩
        have sl := same_upd (o := .lst (qs.map V.ref)) hl
        have hl8 : upd H7 l (.lst (qs.map V.ref)) l = some (.lst (qs.map V.ref)) := upd_same
        have tq8 := tq.same sl
        have s38 := s7.trans sl
        generalize upd H7 l (.lst (qs.map V.ref)) = H8 at sl hl8 tq8 s38 ⊢
        refine ⟨(by show 2 ≤ sizeLine; decide), fun t ht => ?_⟩
        have st := same_upd (o := .tup [.ref da, .ref l]) ht
        have s39 := s38.trans st
        rw [ey] at pq
        exact k t da l xs qs ss _ (s3.trans s39) upd_same (s39 _ _ hxs) (L2.Paired.mapP hans fun v n h => AnsP.same s39 h.1) (st _ _ hl8) (tq8.same st) pq sq
end
end BwL

set_option Elab.async false
set_option linter.all false
set_option maxRecDepth 100000
set_option maxHeartbeats 4000000
namespace BwL
open PySem L2 Bw BwM PyProof.Rows
section
variable {P : Program} {w : World} {K : PySem.W.Frag} {mg : Str → Option Value} {base : Heap}
abbrev NL : List Str := ["_law_script", "_law_asked", "_law_due", "_law_left", "_law_size", "_law_found", "_law_k", "_law_told"]
theorem scLw : FnScope NL ["_law_script"] (defScope sLaw) := ⟨rfl, rfl, rfl, by decide +kernel, rfl, by decide +kernel, by decide +kernel⟩
def spLaw (K : PySem.W.Frag) : Sp := fun vs H Q _ => ∃ (a : Addr) (ns : List Int), vs = [.ref a] ∧ SqL K H a (ns.map V.int) ∧ ns.length ≤ 63 ∧ ∀ H', Q (.bl true) H'
/-- the law's own defs, as the top has made them -/
structure Defs (K : PySem.W.Frag) (mg : Str → Option Value) where
  fW : Addr
  fdW : FuncData
  FW : Fun K "_law_whole" "_law_whole" sWhole fW fdW
  bW : L2.Binds K fdW ["_law_found"] []
  mW : mg "_law_whole" = some (.ref fW)
  fA : Addr
  fdA : FuncData
  FA : Fun K "_law_at" "_law_at" sAt fA fdA
  bA : L2.Binds K fdA ["_law_script", "_law_k"] []
  mA : mg "_law_at" = some (.ref fA)
  fD : Addr
  fdD : FuncData
  FD : Fun K "_law_deeds" "_law_deeds" sDeeds fD fdD
  bD : L2.Binds K fdD ["_law_cells"] []
  mD : mg "_law_deeds" = some (.ref fD)
  fP : Addr
  fdP : FuncData
  FP : Fun K "_law_plain" "_law_plain" sPlain fP fdP
  bP : L2.Binds K fdP ["_law_waits", "_law_now", "_law_came", "_law_deed"] []
  mP : mg "_law_plain" = some (.ref fP)
  fT : Addr
  fdT : FuncData
  FT : Fun K "_law_ticked" "_law_ticked" sTickL fT fdT
  bT : L2.Binds K fdT ["_law_waits", "_law_now"] []
  mT : mg "_law_ticked" = some (.ref fT)
  fR : Addr
  fdR : FuncData
  FR : Fun K "_law_pairs_are" "_law_pairs_are" sPairs fR fdR
  bR : L2.Binds K fdR ["_law_found", "_law_due"] []
  mR : mg "_law_pairs_are" = some (.ref fR)
  fN : Addr
  fdN : FuncData
  FN : Fun K "_law_answer_is" "_law_answer_is" sAns fN fdN
  bN : L2.Binds K fdN ["_law_found", "_law_due"] []
  mN : mg "_law_answer_is" = some (.ref fN)
  fU : Addr
  fdU : FuncData
  FU : Fun K "_law_due_of" "_law_due_of" sDue fU fdU
  bU : L2.Binds K fdU ["_law_asked"] []
  mU : mg "_law_due_of" = some (.ref fU)
  fM : Addr
  fdM : FuncData
  FM : Fun K "_law_mixed" "_law_mixed" sMixed fM fdM
  bM : L2.Binds K fdM ["_law_script"] []
  mM : mg "_law_mixed" = some (.ref fM)
theorem ansLens : ∀ (ds : List Deed) (s : Day), s.ws.length + ds.length ≤ 100000 → ∀ n ∈ tolds ds s, ansLen n ≤ 100000
  | [], _, _, _, h => nomatch h
  | d :: ds, s, hl, n, h => by
    rw [List.length_cons] at hl
    rcases List.mem_cons.mp h with rfl | h
    · cases d with
      | tick m =>
        show (rungs m.toNat s).length ≤ 100000
        have := rungs_len m.toNat s
        omega
      | set a => show ansLen (if a < 1 then _ else _) ≤ _; split <;> exact Nat.zero_le _
      | off n a => show ansLen (if ¬ waits s n then _ else _) ≤ _; split; exact Nat.zero_le _; split <;> exact Nat.zero_le _
      | strike n => show ansLen (if ¬ waits s n then _ else _) ≤ _; split <;> exact Nat.zero_le _
    · exact ansLens ds (next s d) (by have := next_len s d; omega) n h
theorem ok_law {f fAn fBe : Addr} {fd fdAn fdBe : FuncData} {kA : Nat} (hkA : kA ≤ 10) (F : Fun K "law" "law" sLaw f fd) (T : TxtB mg) (D : Defs K mg)
    (GAn : FnOk P w K mg base CX0 kA fAn fdAn ["size", "deeds"] spAnswers) (kpAn : PySem.W.keepIn K (.ref fAn) = true) (bAn : L2.Binds K fdAn ["size", "deeds"] []) (mAn : mg "answers" = some (.ref fAn))
    (GBe : FnOk P w K mg base CX0 kA fBe fdBe ["size", "deeds"] spBehind) (kpBe : PySem.W.keepIn K (.ref fBe) = true) (bBe : L2.Binds K fdBe ["size", "deeds"] []) (mBe : mg "behind" = some (.ref fBe)) :
    FnOk P w K mg base CX0 11 f fd ["_law_script"] (spLaw K) := by
  have GA : FnOk P w K mg base CX0 1 D.fA D.fdA ["_law_script", "_law_k"] (spAt K) := ok_at D.FA T
  have GD : FnOk P w K mg base CX0 1 D.fD D.fdD ["_law_cells"] (spDeeds K) := ok_deeds D.FD T
  have GU : FnOk P w K mg base CX0 2 D.fU D.fdU ["_law_asked"] spDue := ok_due D.FU T D.FP D.bP D.mP D.FT D.bT D.mT
  have GN : FnOk P w K mg base CX0 3 D.fN D.fdN ["_law_found", "_law_due"] spAns := ok_ans D.FN T D.FW D.bW D.mW D.FR D.bR D.mR
  have GR : FnOk P w K mg base CX0 2 D.fR D.fdR ["_law_found", "_law_due"] spPairs := ok_pairs D.FR T D.FW D.bW D.mW
  have GM : FnOk P w K mg base CX0 1 D.fM D.fdM ["_law_script"] (spMixed K) := ok_mixed D.FM T
  refine F.ok scLw (fun vs H Q E h => ?_) (fun cdv A outer s H vs Q E hr h => ?_)
  · obtain ⟨a, ns, rfl, _⟩ := h
    rfl
  · obtain ⟨a, ns, rfl, hS, hlen, k⟩ := h
    have hr1 : Room 1 _ := hr.mono (by decide)
    have hr2 : Room 2 _ := hr.mono (by decide)
    have hr3 : Room 3 _ := hr.mono (by decide)
    have hrA : Room kA _ := hr.mono hkA
    refine ⟨_, pss_cons (ps_set (i := 0) scLw.nd rfl (Or.inl rfl) (pe_slice sl_list (pv 0) po_none (po_some pe_int)))
      (pss_cons (ps_set (i := 0) scLw.nd rfl (Or.inl rfl) (pe_call GM hr1 (by rfl) D.mM D.FM.kp D.bM .nil pass0 (pa_cons (pv 0) pa_nil)))
      (pss_cons (ps_set (i := 1) scLw.nd rfl (Or.inl rfl) (pe_call GD hr1 (by rfl) D.mD D.FD.kp D.bD .nil pass0 (pa_cons (pe_slice sl_list (pv 0) (po_some pe_int) po_none) pa_nil)))
      (pss_cons (ps_asg (pe_call GU hr2 (by rfl) D.mU D.FU.kp D.bU .nil pass0 (pa_cons (pv 1) pa_nil)) (pg_tup (by rfl) (pgs_cons (pg_name (i := 2) scLw.nd rfl (Or.inl rfl)) (pgs_cons (pg_name (i := 3) scLw.nd rfl (Or.inl rfl)) pgs_nil))))
      (pss_cons (ps_for PassesOwn.never rfl (pi_list (pe_lst (pa_cons (pe_op op_add pe_int (pe_op op_mod (pe_call GA hr1 (by rfl) D.mA D.FA.kp D.bA .nil pass0 (pa_cons (pv 0) (pa_cons pe_int pa_nil))) pe_int))
          (pa_cons (pe_op op_add pe_int (pe_op op_mod (pe_call GA hr1 (by rfl) D.mA D.FA.kp D.bA .nil pass0 (pa_cons (pv 0) (pa_cons pe_int pa_nil))) pe_int)) pa_nil)))) (pg_name (i := 4) scLw.nd rfl (Or.inl rfl))
        (pss_cons (ps_set (i := 5) scLw.nd rfl (Or.inl rfl) (pe_call GAn hrA (by rfl) mAn kpAn bAn .nil pass0 (pa_cons (pv 4) (pa_cons (pe_callTy call_list_of (by rfl) T.list boot_list (pa_cons (pv 1) pa_nil)) pa_nil))))
        (pss_cons (ps_if (pw_or (pt_not (pt_val (pe_callB call_isi (by rfl) T.isi boot_isinstance (pa_cons (pv 5) (pa_cons (pe_bltn (v := .ty "list") (by rfl) T.list boot_list rfl) pa_nil)))))
            (pw_or1 (pt_cmpR op_ne (pe_callB call_len_seq (by rfl) T.len PySem.boot_len (pa_cons (pv 5) pa_nil)) (pe_callB call_len_seq (by rfl) T.len PySem.boot_len (pa_cons (pv 1) pa_nil)) (nomark _)))).pt (pss_one (ps_ret pe_bl)) pss_nil)
        (pss_cons (ps_for PassesOwn.never rfl (pi_range1 (by rfl) T.range (pa_cons (pe_callB call_len_seq (by rfl) T.len PySem.boot_len (pa_cons (pv 1) pa_nil)) pa_nil)) (pg_name (i := 6) scLw.nd rfl (Or.inl rfl))
          (pss_one (ps_if (pt_not (pt_val (pe_call GN hr3 (by rfl) D.mN D.FN.kp D.bN .nil pass0 (pa_cons (pe_ix ix_list (pv 5) (pv 6) fun _ _ => rfl) (pa_cons (pe_ix ix_list (pv 2) (pv 6) fun _ _ => rfl) pa_nil))))) (pss_one (ps_ret pe_bl)) pss_nil)))
        (pss_cons (ps_set (i := 7) scLw.nd rfl (Or.inl rfl) (pe_call GBe hrA (by rfl) mBe kpBe bBe .nil pass0 (pa_cons (pv 4) (pa_cons (pe_callTy call_list_of (by rfl) T.list boot_list (pa_cons (pv 1) pa_nil)) pa_nil))))
        (pss_cons (ps_if (pw_or (pt_not (pt_val (pe_callB call_isi (by rfl) T.isi boot_isinstance (pa_cons (pv 7) (pa_cons (pe_bltn (v := .ty "tuple") (by rfl) T.tuple boot_tuple rfl) pa_nil)))))
            (pw_or (pt_cmpR op_ne (pe_callB call_len_seq (by rfl) T.len PySem.boot_len (pa_cons (pv 7) pa_nil)) pe_int (nomark _))
            (pw_or1 (pt_not (pt_val (pe_callB call_isi (by rfl) T.isi boot_isinstance (pa_cons (pe_ix ix_tup (pv 7) pe_int fun _ _ => rfl) (pa_cons (pe_bltn (v := .ty "list") (by rfl) T.list boot_list rfl) pa_nil)))))))).pt (pss_one (ps_ret pe_bl)) pss_nil)
        (pss_one (ps_if (pw_or (pt_cmpR op_ne (pe_callB call_len_seq (by rfl) T.len PySem.boot_len (pa_cons (pe_ix ix_tup (pv 7) pe_int fun _ _ => rfl) pa_nil)) (pv 4) (nomark _))
            (pw_or1 (pt_not (pt_val (pe_call GR hr2 (by rfl) D.mR D.FR.kp D.bR .nil pass0 (pa_cons (pe_ix ix_tup (pv 7) pe_int fun _ _ => rfl) (pa_cons (pv 3) pa_nil))))))).pt (pss_one (ps_ret pe_bl)) pss_nil))))))))
      (pss_one (ps_ret pe_bl)))))), ?_⟩
    refine ⟨_, rfl, _, rfl, a, _, rfl, hS, fun s1 fs1 => ?_⟩
    rw [cut500 _ (by rw [List.length_map]; omega)]
    have hs1 : upd H s1 (.lst (ns.map V.int)) s1 = some (.lst (ns.map V.int)) := upd_same
    generalize upd H s1 (.lst (ns.map V.int)) = H1 at hs1 ⊢
    refine ⟨_, rfl, s1, ns, rfl, SqL.of hs1, by omega, fun m ms fm hml hmp => ?_⟩
    have hm1 : upd H1 m (.lst (ms.map V.int)) m = some (.lst (ms.map V.int)) := upd_same
    generalize upd H1 m (.lst (ms.map V.int)) = H2 at hm1 ⊢
    refine ⟨_, rfl, _, rfl, m, _, rfl, SqL.of hm1, fun cs fcs => ?_⟩
    rw [cut2]
    have sc := same_upd (o := .lst ((ms.drop 2).map V.int)) fcs
    have hcs : upd H2 cs (.lst ((ms.drop 2).map V.int)) cs = some (.lst ((ms.drop 2).map V.int)) := upd_same
    have hm2 := sc _ _ hm1
    generalize upd H2 cs (.lst ((ms.drop 2).map V.int)) = H3 at sc hcs hm2 ⊢
    have dl : (ms.drop 2).length ≤ 63 := by rw [List.length_drop]; omega
    refine ⟨cs, ms.drop 2, rfl, SqL.of hcs, by omega, fun aa rs ds H4 s4 faa haa hds hdsl hok => ?_⟩
    have hm4 := s4 _ _ hm2
    have hdl : ds.length ≤ 63 := by omega
    refine ⟨_, rfl, aa, rs, ds, rfl, haa, hds, hdl, hok, fun tt dd ll ys qs ss H5 s5 htt hdd hans hll tqs pss rss => ?_⟩
    refine ⟨tt, _, rfl, SqT.of htt, rfl, _, _, rfl, _, _, rfl, rfl, ?_⟩
    have haa5 := s5 _ _ haa
    have hds5 : DeedsP H5 rs ds := L2.Paired.mapP hds fun r d e => DeedP.same (fun us e' => s5 r _ e') e
    have hm5 := s5 _ _ hm4
    have hrl : (rs.map V.ref).length = ds.length := by rw [List.length_map]; exact hds.length
    have hyl : ys.length = ds.length := by rw [hans.length, tolds_len]
    have tok : TicksOk ds := fun m hm => ⟨(hok _ hm).1, Int.le_trans (hok _ hm).2 (by decide)⟩
    have g : BwM.Good (days ds day0) := good0.days _
    have ylen : (days ds day0).ws.length ≤ 63 := by
      have := days_len ds day0
      have e : day0.ws.length = 0 := rfl
      omega
    refine ⟨_, rfl, m, ms, 0, rfl, SqL.of hm5, hmp, by decide, fun c hc => ⟨_, _, rfl, rfl, (by show (0 : Int) < 12; decide), _, _, rfl, rfl, ?_⟩⟩
    refine ⟨_, rfl, m, ms, 1, rfl, SqL.of hm5, hmp, by decide, fun c2 hc2 => ⟨_, _, rfl, rfl, (by show (0 : Int) < 40; decide), _, _, rfl, rfl, (by show 2 ≤ sizeLine; decide), fun zl fzl => ?_⟩⟩
    have sz := same_upd (o := .lst [.int (1 + c % 12), .int (1 + c2 % 40)]) fzl
    have hzl : upd H5 zl (.lst [.int (1 + c % 12), .int (1 + c2 % 40)]) zl = some (.lst [.int (1 + c % 12), .int (1 + c2 % 40)]) := upd_same
    have haa6 := sz _ _ haa5
    have hds6 : DeedsP (upd H5 zl (.lst [.int (1 + c % 12), .int (1 + c2 % 40)])) rs ds := L2.Paired.mapP hds5 fun r d e => DeedP.same (fun us e' => sz r _ e') e
    have hdd6 := sz _ _ hdd
    have hll6 := sz _ _ hll
    have hans6 : Paired (AnsP (upd H5 zl (.lst [.int (1 + c % 12), .int (1 + c2 % 40)]))) ys (tolds ds day0) := L2.Paired.mapP hans fun v n h => AnsP.same sz h
    have tqs6 := tqs.same sz
    have hpos : ∀ x ∈ [V.int (1 + c % 12), V.int (1 + c2 % 40)], ∃ z : Int, x = .int z ∧ 0 < z ∧ z ≤ 1000 := fun x hx => by
      rcases List.mem_cons.mp hx with rfl | hx
      · exact ⟨_, rfl, by omega, by omega⟩
      · rw [List.mem_singleton.mp hx]
        exact ⟨_, rfl, by omega, by omega⟩
    generalize [V.int (1 + c % 12), V.int (1 + c2 % 40)] = zs at sz hzl haa6 hds6 hdd6 hll6 hans6 tqs6 hpos ⊢
    generalize upd H5 zl (.lst zs) = H6 at sz hzl haa6 hds6 hdd6 hll6 hans6 tqs6 ⊢
    refine ⟨zl, rfl, ⟨_, SqL.of hzl⟩, for_list (K := K) (a := zl) (xs := zs)
      (fun i σ H7 => (∃ (x4 x5 x6 x7 : Option V), σ = [some (.ref m), some (.ref aa), some (.ref dd), some (.ref ll), x4, x5, x6, x7]) ∧ Same H6 H7)
      ⟨⟨_, _, _, _, rfl⟩, fun _ _ e => e⟩ (fun i σ H7 _ ⟨_, s7⟩ => SqL.of (s7 _ _ hzl)) ?_ ?_⟩
    · rintro i x σ H7 hx ⟨⟨x4, x5, x6, x7, rfl⟩, s7⟩
      obtain ⟨z, rfl, hz, hz2⟩ := hpos x (List.mem_of_getElem? hx)
      have haa7 := s7 _ _ haa6
      refine ⟨_, rfl, _, rfl, aa, _, rfl, .inl (SqL.of haa7), fun ha fha => ?_⟩
      have s8 := same_upd (o := .lst (rs.map V.ref)) fha
      have hha : upd H7 ha (.lst (rs.map V.ref)) ha = some (.lst (rs.map V.ref)) := upd_same
      have s68 := s7.trans s8
      generalize upd H7 ha (.lst (rs.map V.ref)) = H8 at s8 hha s68 ⊢
      have hds8 : DeedsP H8 rs ds := L2.Paired.mapP hds6 fun r d e => DeedP.same (fun us e' => s68 r _ e') e
      refine ⟨z, ha, rs, ds, rfl, hz, hz2, hha, hds8, hdl, tok, fun fl xs H9 s9 ffl hfl hfa => ?_⟩
      have hxl : xs.length = ds.length := by rw [hfa.length, tolds_len]
      have s69 := s68.trans s9
      have haa9 := s69 _ _ haa6
      refine ⟨_, rfl, _, _, _, _, rfl, .lst hfl, kit_same, _, rfl, iteF ?_⟩
      refine ⟨_, rfl, fl, _, rfl, .inl (SqL.of hfl), _, rfl, aa, _, rfl, .inl (SqL.of haa9), rfl, _, rfl, iteNS (by rw [hxl, hrl]) ?_⟩
      refine ⟨_, rfl, aa, _, rfl, .inl (SqL.of haa9), _, rfl, by omega, by omega, for_range (lo := 0)
        (fun j σ HA => (∃ (x6 : Option V), σ = [some (.ref m), some (.ref aa), some (.ref dd), some (.ref ll), some (.int z), some (.ref fl), x6, x7]) ∧ HA = H9)
        ⟨⟨_, rfl⟩, rfl⟩ ?_ ?_⟩
      · rintro j σ HA hj ⟨⟨y6, rfl⟩, rfl⟩
        have hj2 : j < ds.length := by omega
        have exs : xs[j]? = some xs[j] := List.getElem?_eq_getElem (by omega)
        have eys : ys[j]? = some ys[j] := List.getElem?_eq_getElem (by omega)
        obtain ⟨n, en, hn⟩ := Paired_get hfa exs
        obtain ⟨n', en', hn'⟩ := Paired_get hans6 eys
        have enn : n' = n := by rw [en] at en'; exact (Option.some.inj en').symm
        subst enn
        have a1 : atI xs (0 + (j : Int)) = some xs[j] := by rw [Int.zero_add]; exact atI_nat exs
        have a2 : atI ys (0 + (j : Int)) = some ys[j] := by rw [Int.zero_add]; exact atI_nat eys
        refine ⟨_, rfl, _, rfl, fl, _, _, _, rfl, rfl, SqL.of hfl, a1, _, rfl, _, rfl, dd, _, _, _, rfl, rfl, SqL.of (s69 _ _ hdd6), a2, _, _, n', rfl, hn, AnsP.same s69 hn', ?_, _, rfl, iteF ⟨⟨_, rfl⟩, rfl⟩⟩
        exact ansLens ds day0 (by have e : day0.ws.length = 0 := rfl; omega) n' (List.mem_of_getElem? en)
      · rintro σ HA ⟨⟨y6, rfl⟩, rfl⟩
        refine ⟨_, rfl, _, rfl, aa, _, rfl, .inl (SqL.of haa9), fun hb fhb => ?_⟩
        have sB := same_upd (o := .lst (rs.map V.ref)) fhb
        have hhb : upd HA hb (.lst (rs.map V.ref)) hb = some (.lst (rs.map V.ref)) := upd_same
        have s6B := s69.trans sB
        generalize upd HA hb (.lst (rs.map V.ref)) = HB at sB hhb s6B ⊢
        have hdsB : DeedsP HB rs ds := L2.Paired.mapP hds6 fun r d e => DeedP.same (fun us e' => s6B r _ e') e
        refine ⟨z, hb, rs, ds, rfl, hz, hz2, hhb, hdsB, hdl, tok, fun bt sl wl srs qs' ss' HC sC hbt hsl hsz _ hwl tqs' pss' rss' => ?_⟩
        have s6C := s6B.trans sC
        have ess : ss' = ss := rising_one (by rw [left_nums]; exact g.nd) pss' pss rss' rss
        subst ess
        refine ⟨_, rfl, _, _, _, _, rfl, .tup hbt, kit_same, _, rfl, iteF ?_⟩
        refine ⟨_, rfl, bt, _, rfl, .inr (SqT.of hbt), rfl, _, rfl, iteNS rfl ?_⟩
        refine ⟨_, rfl, bt, _, _, _, rfl, rfl, SqT.of hbt, rfl, _, _, _, _, rfl, .lst hsl, kit_same, _, rfl, iteF ?_⟩
        refine ⟨_, rfl, bt, _, _, _, rfl, rfl, SqT.of hbt, rfl, sl, _, rfl, .inl (SqL.of hsl), _, rfl, rfl, _, rfl, iteNS (by rw [List.length_map, hsz]) ?_⟩
        refine ⟨_, rfl, bt, _, _, _, rfl, rfl, SqT.of hbt, rfl, _, rfl, wl, ll, qs', qs, ss', rfl, hwl, s6C _ _ hll6, tqs', tqs6.same s6C, ?_, _, rfl, iteF ?_⟩
        · rw [pss'.length_eq, left_len]; omega
        · exact ⟨⟨_, _, _, _, rfl⟩, s6C⟩
    · rintro σ H7 ⟨_, s7⟩
      exact k H7
end
end BwL

set_option Elab.async false
set_option linter.all false
set_option maxRecDepth 100000
/-! list(d) and d != {} for a dict by ints and texts. -/
namespace L2
open PySem PySem.Spec PyProof.Rows
section
variable {X : Cx}
theorem relV_key {P : Program} {w : World} {k : Key} {v : Value} (h : (mixKind P w).is k v = true) : RelV (kV k) v := by
  rcases keyIs_shape h with ⟨i, t, rfl, rfl⟩ | ⟨x, t, rfl, rfl⟩
  · exact ⟨t, rfl⟩
  · exact ⟨t, rfl⟩
theorem vals_keys {P : Program} {w : World} : ∀ {kvs : List (Key × V)} {vs : List (Key × Value)} {us : List Value}, KV kvs vs → us.length = vs.length → (∀ (j : Nat) (u : Value), us[j]? = some u → ∃ k x, vs[j]? = some (k, x) ∧ (mixKind P w).is k u = true) → Vals (kvs.map fun kv => kV kv.1) us
  | _, _, [], .nil, _, _ => .nil
  | _, _, _ :: _, .nil, hl, _ => by simp at hl
  | _, _, [], .cons _ _, hl, _ => by simp at hl
  | p :: _, q :: _, u :: us, .cons r t, hl, h => by
    obtain ⟨k, x, e, hk⟩ := h 0 u rfl
    simp only [List.getElem?_cons_zero, Option.some.injEq] at e
    refine .cons ?_ (vals_keys t (by simpa using hl) fun j u' hu => by simpa using h (j + 1) u' (by simpa using hu))
    show RelV (kV p.1) u
    rw [r.1, e]
    exact relV_key hk
/-- list(d): the keys in their order -/
theorem call_list_d (hc : X.calm = true) : CallR X (.type "list") (fun xs H Q => ∃ a kvs, xs = [.ref a] ∧ H a = some (.dK kvs) ∧ ∀ l, H l = none → Q (.ref l) (upd H l (.lst (kvs.map fun kv => kV kv.1)))) := by
  intro pins s σ H xs us Q I r h
  obtain ⟨a, kvs, rfl, hH, q⟩ := h
  obtain ⟨u, rfl, rx⟩ := vals1 r
  cases rx
  obtain ⟨hz, lo, vs, rel, dd⟩ := dk_of I.hok hH
  obtain ⟨ep, hat⟩ := dd.dictAt
  have hlen := rel.length
  refine PySem.W.kdl_call (PySem.W.kdl_dict (knd := mixKind X.prog X.w) (kvs := vs) (ep := ep) lo) (I.ok.hd hc) hat (by omega) fun h' tk acc' c' hk hD hacc => ?_
  refine ⟨.ref s.heap.objs.size, _, I.laid (t' := tk) hk (Nat.le_refl _) (o := .lst (kvs.map fun kv => kV kv.1)) ?_, rfl, q _ (I.hok.fresh (Nat.le_refl _))⟩
  refine ⟨by rw [List.length_map]; exact hz, acc'.toList, c', ?_, by simpa using hD⟩
  exact vals_keys rel (by rw [Array.length_toList]; exact hacc.1) fun j v e => hacc.2 j v (by rw [← Array.getElem?_toList]; exact e)
/-- {} != {} -/
theorem op_neD (hu : X.A.units < cLine) : OpR X (compareOp .NotEq) (fun x y H Q => ∃ a b, x = .ref a ∧ y = .ref b ∧ H a = some (.dK []) ∧ H b = some (.dK []) ∧ Q (.bl false) H) := by
  intro pins s σ H x y v u Q I rx ry h
  obtain ⟨a, b, rfl, rfl, h1, h2, q⟩ := h
  cases rx
  cases ry
  obtain ⟨_, lo1, vs1, rel1, d1⟩ := dk_of I.hok h1
  obtain ⟨_, lo2, vs2, rel2, d2⟩ := dk_of I.hok h2
  cases rel1
  cases rel2
  exact PySem.W.keq_ne lo1 lo2 d1 d2 hu (fun _ => .nil) ⟨.bl false, H, I, rfl, q⟩
end
end L2

set_option Elab.async false
set_option linter.all false
set_option maxRecDepth 100000
/-! The wheel on the abstract heap: its attributes, its slots, its dict of ticks; what its methods and the day's functions promise. -/
namespace Bw
open PySem L2 BwM
theorem iteP {c A B : Prop} [Decidable c] (hc : c) (h : A) : if c then A else B := by
  rw [if_pos hc]
  exact h
theorem iteQ {c A B : Prop} [Decidable c] (hc : ¬ c) (h : B) : if c then A else B := by
  rw [if_neg hc]
  exact h
/-! ### the dict of ticks: the plain list itself -/
def dct (ws : W) : List (Key × V) := ws.map fun p => (Sum.inl p.1, V.int p.2)
theorem dct_len (ws : W) : (dct ws).length = ws.length := by unfold dct; rw [List.length_map]
theorem dct_none {ws : W} {n : Int} (h : n ∉ ws.map (·.1)) : valV (dct ws) (Sum.inl n : Key) = none := by
  induction ws with
  | nil => rfl
  | cons p ws ih =>
    rw [List.map_cons, List.mem_cons, not_or] at h
    show valV ((Sum.inl p.1, V.int p.2) :: dct ws) _ = none
    rw [valV_neg (fun e => h.1 (Sum.inl.inj e).symm)]
    exact ih h.2
theorem dct_some {ws : W} {p : Int × Int} (nd : (ws.map (·.1)).Nodup) (h : p ∈ ws) : valV (dct ws) (Sum.inl p.1 : Key) = some (.int p.2) := by
  induction ws with
  | nil => cases h
  | cons q ws ih =>
    rw [List.map_cons, List.nodup_cons] at nd
    show valV ((Sum.inl q.1, V.int q.2) :: dct ws) _ = _
    rcases List.mem_cons.mp h with e | h
    · subst e; rw [valV_pos rfl]
    · have ne : ¬ (Sum.inl q.1 : Key) = Sum.inl p.1 := fun e => nd.1 (by rw [Sum.inl.inj e]; exact List.mem_map_of_mem h)
      rw [valV_neg ne]; exact ih nd.2 h
theorem dct_is {ws : W} (nd : (ws.map (·.1)).Nodup) (n : Int) : (valV (dct ws) (Sum.inl n : Key)).isSome = decide (n ∈ ws.map (·.1)) := by
  by_cases h : n ∈ ws.map (·.1)
  · obtain ⟨p, hp, e⟩ := List.mem_map.mp h
    have e' : p.1 = n := e
    rw [decide_eq_true h, ← e', dct_some nd hp]
    rfl
  · rw [decide_eq_false h, dct_none h]
    rfl
theorem dct_put {ws : W} {n m : Int} (h : n ∉ ws.map (·.1)) : putK (dct ws) (Sum.inl n : Key) (.int m) = dct (ws ++ [(n, m)]) := by
  rw [putK_new _ (dct_none h)]
  unfold dct
  rw [List.map_append]
  rfl
theorem dct_drop (ws : W) (n : Int) : dropK (dct ws) (Sum.inl n : Key) = dct (drop n ws) := by
  induction ws with
  | nil => rfl
  | cons p ws ih =>
    show dropK ((Sum.inl p.1, V.int p.2) :: dct ws) _ = _
    by_cases e : p.1 = n
    · rw [dropK_pos (by rw [e]), ih]
      unfold drop
      rw [List.filter_cons_of_neg (by simpa using e)]
    · rw [dropK_neg (fun z => e (Sum.inl.inj z)), ih]
      unfold drop
      rw [List.filter_cons_of_pos (by simpa using e)]
      rfl
/-! ### slots -/
theorem slot_drop_other {z now j n m : Int} {ws : W} (nd : (ws.map (·.1)).Nodup) (h : (n, m) ∈ ws) (hj : j ≠ m % z) : slot z now j (drop n ws) = slot z now j ws := by
  rw [slot_drop]
  refine List.filter_eq_self.mpr fun q hq => ?_
  unfold slot at hq
  obtain ⟨p, hp, e⟩ := List.mem_map.mp hq
  have hp' := List.mem_filter.mp hp
  have e1 : p.2 % z = j := of_decide_eq_true hp'.2
  have e2 : q.1 = p.1 := by rw [← e]
  simp only [Bool.not_eq_true', decide_eq_false_iff_not]
  intro e3
  have e4 := once nd hp'.1 h (by rw [← e2, e3])
  rw [e4] at e1
  exact hj e1.symm
theorem nodup_set {α : Type} {a : α} : ∀ {l : List α} (j : Nat), l.Nodup → a ∉ l → (l.set j a).Nodup
  | [], _, _, _ => by simp
  | b :: l, 0, nd, h => by
    rw [List.nodup_cons] at nd
    rw [List.set_cons_zero, List.nodup_cons]
    exact ⟨fun z => h (List.mem_cons_of_mem _ z), nd.2⟩
  | b :: l, j + 1, nd, h => by
    rw [List.nodup_cons] at nd
    rw [List.set_cons_succ, List.nodup_cons]
    refine ⟨fun z => ?_, nodup_set j nd.2 fun z => h (List.mem_cons_of_mem _ z)⟩
    rcases List.mem_or_eq_of_mem_set z with z | z
    · exact nd.1 z
    · exact h (by rw [← z]; exact List.mem_cons_self)
/-! ### the attributes -/
def flds (z : Int) (sl : Addr) (now : Int) (dd : Addr) (came : Int) : List (Str × V) := [("size", .int z), ("slots", .ref sl), ("now", .int now), ("due", .ref dd), ("bells_set", .int came)]
theorem lk_hd (k : Str) (v : V) (r : List (Str × V)) : List.lookup k ((k, v) :: r) = some v := by simp [List.lookup]
theorem lk_tl {k g : Str} (h : ¬ k = g) (v : V) (r : List (Str × V)) : List.lookup k ((g, v) :: r) = List.lookup k r := by
  have e : (k == g) = false := beq_eq_false_iff_ne.mpr h
  simp only [List.lookup, e]
theorem put_hd (k : Str) (v x : V) (r : List (Str × V)) : putF k v ((k, x) :: r) = (k, v) :: r := by
  show (if k = k then (k, v) :: r else (k, x) :: putF k v r) = _
  rw [if_pos rfl]
theorem put_tl {k g : Str} (h : ¬ g = k) (v x : V) (r : List (Str × V)) : putF k v ((g, x) :: r) = (g, x) :: putF k v r := by
  show (if g = k then (g, v) :: r else (g, x) :: putF k v r) = _
  rw [if_neg h]
section
variable (z : Int) (sl : Addr) (now : Int) (dd : Addr) (came : Int)
theorem f_size : (flds z sl now dd came).lookup ("size" : Str) = some (.int z) := lk_hd _ _ _
theorem f_slots : (flds z sl now dd came).lookup ("slots" : Str) = some (.ref sl) := (lk_tl (by decide +kernel) _ _).trans (lk_hd _ _ _)
theorem f_now : (flds z sl now dd came).lookup ("now" : Str) = some (.int now) := (lk_tl (by decide +kernel) _ _).trans ((lk_tl (by decide +kernel) _ _).trans (lk_hd _ _ _))
theorem f_due : (flds z sl now dd came).lookup ("due" : Str) = some (.ref dd) := (lk_tl (by decide +kernel) _ _).trans ((lk_tl (by decide +kernel) _ _).trans ((lk_tl (by decide +kernel) _ _).trans (lk_hd _ _ _)))
theorem f_came : (flds z sl now dd came).lookup ("bells_set" : Str) = some (.int came) := (lk_tl (by decide +kernel) _ _).trans ((lk_tl (by decide +kernel) _ _).trans ((lk_tl (by decide +kernel) _ _).trans ((lk_tl (by decide +kernel) _ _).trans (lk_hd _ _ _))))
theorem f_no {m : Str} (h1 : ¬ m = "size") (h2 : ¬ m = "slots") (h3 : ¬ m = "now") (h4 : ¬ m = "due") (h5 : ¬ m = "bells_set") : (flds z sl now dd came).lookup m = none :=
  (lk_tl h1 _ _).trans ((lk_tl h2 _ _).trans ((lk_tl h3 _ _).trans ((lk_tl h4 _ _).trans ((lk_tl h5 _ _).trans rfl))))
theorem put_now (y : Int) : putF "now" (.int y) (flds z sl now dd came) = flds z sl y dd came := by
  unfold flds
  rw [put_tl (by decide +kernel), put_tl (by decide +kernel), put_hd]
theorem put_came (y : Int) : putF "bells_set" (.int y) (flds z sl now dd came) = flds z sl now dd y := by
  unfold flds
  rw [put_tl (by decide +kernel), put_tl (by decide +kernel), put_tl (by decide +kernel), put_tl (by decide +kernel), put_hd]
theorem fl1 : putF "slots" (.ref sl) [(("size" : Str), V.int z)] = ([("size", .int z), ("slots", .ref sl)] : List (Str × V)) := by
  rw [put_tl (by decide +kernel)]
  rfl
theorem fl2 : putF "now" (.int now) ([("size", .int z), ("slots", .ref sl)] : List (Str × V)) = ([("size", .int z), ("slots", .ref sl), ("now", .int now)] : List (Str × V)) := by
  rw [put_tl (by decide +kernel), put_tl (by decide +kernel)]
  rfl
theorem fl3 : putF "due" (.ref dd) ([("size", .int z), ("slots", .ref sl), ("now", .int now)] : List (Str × V)) = ([("size", .int z), ("slots", .ref sl), ("now", .int now), ("due", .ref dd)] : List (Str × V)) := by
  rw [put_tl (by decide +kernel), put_tl (by decide +kernel), put_tl (by decide +kernel)]
  rfl
theorem fl4 : putF "bells_set" (.int came) ([("size", .int z), ("slots", .ref sl), ("now", .int now), ("due", .ref dd)] : List (Str × V)) = flds z sl now dd came := by
  rw [put_tl (by decide +kernel), put_tl (by decide +kernel), put_tl (by decide +kernel), put_tl (by decide +kernel)]
  rfl
end
/-! ### a wheel stands at p -/
structure Wh (C : Addr) (z : Int) (H : Hp) (p sl dd : Addr) (srs : List Addr) (s : Day) : Prop where
  ob : ∃ dx, H p = some (.ins C dx (flds z sl s.now dd s.came))
  hs : H sl = some (.lst (srs.map V.ref))
  len : (srs.length : Int) = z
  nd : srs.Nodup
  nsl : sl ∉ srs
  at_ : SlotsP H z s.now s.ws srs
  hd : H dd = some (.dK (dct s.ws))
/-- what a method leaves: nothing else is changed; the slots are the old ones or new -/
structure Step (p sl dd : Addr) (srs srs' : List Addr) (H H' : Hp) : Prop where
  keep : ∀ c o, H c = some o → c ≠ p → c ≠ sl → c ≠ dd → c ∉ srs → H' c = some o
  new : ∀ c ∈ srs', c ∈ srs ∨ H c = none
  grow : ∀ c, H' c = none → H c = none
section
variable {C : Addr} {z : Int} {H H' H1 : Hp} {p sl dd : Addr} {srs srs' : List Addr} {s : Day}
theorem Wh.lst (W : Wh C z H p sl dd srs s) {r : Addr} (h : r ∈ srs) : ∃ rs : List Addr, H r = some (.lst (rs.map V.ref)) := by
  obtain ⟨j, e⟩ := List.getElem?_of_mem h
  obtain ⟨rs, e2, _⟩ := W.at_ j r e
  exact ⟨rs, e2⟩
theorem Wh.p_sl (W : Wh C z H p sl dd srs s) : p ≠ sl := by obtain ⟨dx, e⟩ := W.ob; exact ne_of e W.hs (by intro z; cases z)
theorem Wh.p_dd (W : Wh C z H p sl dd srs s) : p ≠ dd := by obtain ⟨dx, e⟩ := W.ob; exact ne_of e W.hd (by intro z; cases z)
theorem Wh.sl_dd (W : Wh C z H p sl dd srs s) : sl ≠ dd := ne_of W.hs W.hd (by intro z; cases z)
theorem Wh.p_srs (W : Wh C z H p sl dd srs s) : p ∉ srs := fun h => by
  obtain ⟨dx, e⟩ := W.ob
  obtain ⟨rs, e2⟩ := W.lst h
  exact ne_of e e2 (by intro z; cases z) rfl
theorem Wh.dd_srs (W : Wh C z H p sl dd srs s) : dd ∉ srs := fun h => by
  obtain ⟨rs, e2⟩ := W.lst h
  exact ne_of W.hd e2 (by intro z; cases z) rfl
theorem SlotsP.same {now : Int} {ws : W} (h : SlotsP H z now ws srs) (sm : Same H H') : SlotsP H' z now ws srs := fun j r e => by
  obtain ⟨rs, e1, t⟩ := h j r e
  exact ⟨rs, sm _ _ e1, t.same sm⟩
theorem Wh.same (W : Wh C z H p sl dd srs s) (sm : Same H H') : Wh C z H' p sl dd srs s :=
  ⟨by obtain ⟨dx, e⟩ := W.ob; exact ⟨dx, sm _ _ e⟩, sm _ _ W.hs, W.len, W.nd, W.nsl, SlotsP.same W.at_ sm, sm _ _ W.hd⟩
theorem Step.refl : Step p sl dd srs srs H H := ⟨fun _ _ e _ _ _ _ => e, fun _ h => .inl h, fun _ h => h⟩
theorem Step.same (sm : Same H H') : Step p sl dd srs srs H H' := ⟨fun _ _ e _ _ _ _ => sm _ _ e, fun _ h => .inl h, fun _ h => sm.free h⟩
theorem Step.put {c : Addr} {o : HO} (h : c = p ∨ c = sl ∨ c = dd ∨ c ∈ srs ∨ H c = none) : Step p sl dd srs srs H (upd H c o) := by
  refine ⟨fun b u e n1 n2 n3 n4 => ?_, fun _ h => .inl h, fun b e => ?_⟩
  · have nb : b ≠ c := by
      intro q
      rcases h with h | h | h | h | h
      · exact n1 (q.trans h)
      · exact n2 (q.trans h)
      · exact n3 (q.trans h)
      · exact n4 (by rw [q]; exact h)
      · rw [← q, e] at h; cases h
    rw [upd_ne nb]
    exact e
  · by_cases q : b = c
    · subst q; rw [upd_same] at e; cases e
    · rw [upd_ne q] at e; exact e
theorem Step.trans {srs2 : List Addr} (a : Step p sl dd srs srs' H H1) (b : Step p sl dd srs' srs2 H1 H') : Step p sl dd srs srs2 H H' := by
  refine ⟨fun c o e n1 n2 n3 n4 => ?_, fun c h => ?_, fun c h => a.grow c (b.grow c h)⟩
  · refine b.keep c o (a.keep c o e n1 n2 n3 n4) n1 n2 n3 fun h => ?_
    rcases a.new c h with h | h
    · exact n4 h
    · rw [e] at h; cases h
  · rcases b.new c h with h | h
    · exact a.new c h
    · exact .inr (a.grow c h)
theorem Step.withSrs {srs2 : List Addr} (a : Step p sl dd srs srs' H H') (h : ∀ c ∈ srs2, c ∈ srs ∨ H c = none) : Step p sl dd srs srs2 H H' := ⟨a.keep, h, a.grow⟩
theorem Step.tup (W : Wh C z H p sl dd srs s) (st : Step p sl dd srs srs' H H') {r : Addr} {xs : List V} (h : H r = some (.tup xs)) : H' r = some (.tup xs) := by
  obtain ⟨dx, e⟩ := W.ob
  refine st.keep r _ h (ne_of h e (by intro z; cases z)) (ne_of h W.hs (by intro z; cases z)) (ne_of h W.hd (by intro z; cases z)) fun hm => ?_
  obtain ⟨rs, e2⟩ := W.lst hm
  exact ne_of h e2 (by intro z; cases z) rfl
/-- a bell is hung -/
theorem Wh.push {j : Nat} {r q : Addr} {rs : List Addr} {n a : Int} (W : Wh C z H p sl dd srs s) (hz : 0 < z) (ej : srs[j]? = some r) (hj : (j : Int) = (s.now + a) % z) (hr : H r = some (.lst (rs.map V.ref)))
    (tr : TupsP H rs (slot z s.now j s.ws)) (hq : TupP H q (n, (a - 1) / z)) :
    Wh C z (upd (upd H r (.lst (rs.map V.ref ++ [.ref q]))) dd (.dK (dct (s.ws ++ [(n, s.now + a)])))) p sl dd srs { s with ws := s.ws ++ [(n, s.now + a)] } := by
  have hm : r ∈ srs := List.mem_of_getElem? ej
  have nr : r ≠ p := fun e => W.p_srs (by rw [← e]; exact hm)
  have nrd : r ≠ dd := fun e => W.dd_srs (by rw [← e]; exact hm)
  have nrs : r ≠ sl := fun e => W.nsl (by rw [← e]; exact hm)
  have kt : ∀ c xs, H c = some (.tup xs) → upd (upd H r (.lst (rs.map V.ref ++ [.ref q]))) dd (.dK (dct (s.ws ++ [(n, s.now + a)]))) c = some (.tup xs) := fun c xs e => by
    rw [upd_ne (ne_of e W.hd (by intro z; cases z)), upd_ne (ne_of e hr (by intro z; cases z))]
    exact e
  refine ⟨?_, ?_, W.len, W.nd, W.nsl, fun i c ei => ?_, upd_same⟩
  · obtain ⟨dx, e⟩ := W.ob
    exact ⟨dx, by rw [upd_ne W.p_dd, upd_ne (Ne.symm nr)]; exact e⟩
  · rw [upd_ne W.sl_dd, upd_ne (Ne.symm nrs)]; exact W.hs
  · have hc : c ∈ srs := List.mem_of_getElem? ei
    have ncd : c ≠ dd := fun e => W.dd_srs (by rw [← e]; exact hc)
    by_cases e : i = j
    · subst e
      rw [ei] at ej; cases ej
      refine ⟨rs ++ [q], by rw [upd_ne ncd, upd_same, List.map_append]; rfl, ?_⟩
      show TupsP _ _ (slot z s.now i (s.ws ++ [(n, s.now + a)]))
      rw [slot_snoc_in (p := (n, s.now + a)) (by rw [hj])]
      refine Paired.snoc (tr.tups kt) ?_
      have e1 : s.now + a - s.now - 1 = a - 1 := by omega
      show TupP _ q (n, (s.now + a - s.now - 1) / z)
      rw [e1]
      exact kt q _ hq
    · have ncr : c ≠ r := fun q => e (by
        have h1 := (List.getElem?_eq_some_iff.mp ei)
        have h2 := (List.getElem?_eq_some_iff.mp ej)
        obtain ⟨l1, e1⟩ := h1
        obtain ⟨l2, e2⟩ := h2
        exact (List.getElem_inj (h₀ := l1) (h₁ := l2) W.nd).mp (by rw [e1, e2]; exact q))
      obtain ⟨rs2, e1, t⟩ := W.at_ i c ei
      refine ⟨rs2, by rw [upd_ne ncd, upd_ne ncr]; exact e1, ?_⟩
      show TupsP _ _ (slot z s.now i (s.ws ++ [(n, s.now + a)]))
      rw [slot_snoc_out (p := (n, s.now + a)) (by intro y; rw [← hj] at y; exact e (by have : (j : Int) = (i : Int) := y; omega))]
      exact t.tups kt
/-- a slot is laid anew -/
theorem Wh.swap {s' : Day} {j : Nat} {l : Addr} (W : Wh C z H p sl dd srs s) (hp : ∃ dx, H' p = some (.ins C dx (flds z sl s'.now dd s'.came))) (hsl : H' sl = some (.lst ((srs.set j l).map V.ref))) (hdd : H' dd = some (.dK (dct s'.ws))) (fl : H l = none)
    (keep : ∀ r rs, r ∈ srs → H r = some (.lst rs) → H' r = some (.lst rs)) (tups : ∀ r xs, H r = some (.tup xs) → H' r = some (.tup xs)) (hl : ∃ rs : List Addr, H' l = some (.lst (rs.map V.ref)) ∧ TupsP H' rs (slot z s'.now j s'.ws))
    (other : ∀ i : Nat, i ≠ j → slot z s'.now i s'.ws = slot z s.now i s.ws) : Wh C z H' p sl dd (srs.set j l) s' := by
  have nl : l ∉ srs := fun h => by
    obtain ⟨rs, e⟩ := W.lst h
    rw [fl] at e; cases e
  refine ⟨hp, hsl, by rw [List.length_set]; exact W.len, nodup_set j W.nd nl, fun h => ?_, fun i r e => ?_, hdd⟩
  · rcases List.mem_or_eq_of_mem_set h with h | h
    · exact W.nsl h
    · have := W.hs; rw [h, fl] at this; cases this
  · by_cases q : i = j
    · subst q
      rw [List.getElem?_set] at e
      rw [if_pos rfl] at e
      split at e
      · cases e; exact hl
      · cases e
    · rw [List.getElem?_set_ne (Ne.symm q)] at e
      obtain ⟨rs, e1, t⟩ := W.at_ i r e
      refine ⟨rs, keep r _ (List.mem_of_getElem? e) e1, ?_⟩
      rw [other i q]
      exact t.tups tups
end
/-- something beside the wheel is changed -/
theorem Wh.keep {C : Addr} {z : Int} {H H' : Hp} {p sl dd g : Addr} {srs : List Addr} {s : Day} {xs : List V} (W : Wh C z H p sl dd srs s) (hg : H g = some (.lst xs)) (ns : g ≠ sl) (nm : g ∉ srs) (kp : ∀ c o, H c = some o → c ≠ g → H' c = some o) : Wh C z H' p sl dd srs s := by
  obtain ⟨dx, ob⟩ := W.ob
  refine ⟨⟨dx, kp _ _ ob (ne_of ob hg (by intro z; cases z))⟩, kp _ _ W.hs (Ne.symm ns), W.len, W.nd, W.nsl, fun j r e => ?_, kp _ _ W.hd (ne_of W.hd hg (by intro z; cases z))⟩
  obtain ⟨rs, e1, t⟩ := W.at_ j r e
  exact ⟨rs, kp _ _ e1 (fun q => nm (by rw [← q]; exact List.mem_of_getElem? e)), t.tups fun q ys e => kp _ _ e (ne_of e hg (by intro z; cases z))⟩
theorem Step.fresh {H H' : Hp} {p sl dd g : Addr} {srs srs' : List Addr} {o : HO} (st : Step p sl dd srs srs' H H') (fg : H g = none) : Step p sl dd srs srs' H (upd H' g o) := by
  refine ⟨fun c u e n1 n2 n3 n4 => ?_, st.new, fun c e => ?_⟩
  · rw [upd_ne (ne_of_none e fg)]; exact st.keep c u e n1 n2 n3 n4
  · by_cases q : c = g
    · rw [q]; exact fg
    · rw [upd_ne q] at e; exact st.grow c e
/-- the wheel's objects are newer than H -/
structure Fr (H : Hp) (p sl dd : Addr) (srs : List Addr) : Prop where
  p : H p = none
  sl : H sl = none
  dd : H dd = none
  srs : ∀ c ∈ srs, H c = none
theorem Fr.same {H H1 H2 : Hp} {p sl dd : Addr} {srs srs' : List Addr} (f : Fr H p sl dd srs) (s : Same H H1) (st : Step p sl dd srs srs' H1 H2) : Same H H2 := fun c o e =>
  st.keep c o (s _ _ e) (ne_of_none e f.p) (ne_of_none e f.sl) (ne_of_none e f.dd) fun h => ne_of_none e (f.srs c h) rfl
theorem Fr.step {H H1 H2 : Hp} {p sl dd : Addr} {srs srs' : List Addr} (f : Fr H p sl dd srs) (s : Same H H1) (st : Step p sl dd srs srs' H1 H2) : Fr H p sl dd srs' :=
  ⟨f.p, f.sl, f.dd, fun c h => (st.new c h).elim (f.srs c) s.free⟩
/-- an answer whose list is not the wheel's and not g -/
def AnsW (H : Hp) (sl g : Addr) (srs : List Addr) (v : V) (n : Ans) : Prop := AnsP H v n ∧ ∀ l, v = .ref l → l ≠ g ∧ l ≠ sl ∧ l ∉ srs
theorem AnsW.step {C : Addr} {z : Int} {H H' : Hp} {p sl dd g : Addr} {srs srs' : List Addr} {s : Day} {v : V} {n : Ans} (W : Wh C z H p sl dd srs s) (st : Step p sl dd srs srs' H H') (h : AnsW H sl g srs v n) : AnsW H' sl g srs' v n := by
  obtain ⟨h1, h2⟩ := h
  cases n with
  | rings ps =>
    obtain ⟨l, rs, e, hl, tr⟩ := h1
    obtain ⟨n1, n2, n3⟩ := h2 l e
    obtain ⟨dx, ob⟩ := W.ob
    refine ⟨⟨l, rs, e, st.keep _ _ hl (ne_of hl ob (by intro z; cases z)) n2 (ne_of hl W.hd (by intro z; cases z)) n3, tr.tups fun _ _ e => st.tup W e⟩, fun l' e' => ?_⟩
    rw [e] at e'; cases e'
    refine ⟨n1, n2, fun h => ?_⟩
    rcases st.new l h with h | h
    · exact n3 h
    · rw [hl] at h; cases h
  | num i => exact ⟨h1, fun l e => by have h1' : v = .int i := h1; rw [h1'] at e; cases e⟩
  | yes => exact ⟨h1, fun l e => by have h1' : v = .bl true := h1; rw [h1'] at e; cases e⟩
  | noBell => exact ⟨h1, fun l e => by have h1' : v = .str "no bell" := h1; rw [h1'] at e; cases e⟩
  | noTicks => exact ⟨h1, fun l e => by have h1' : v = .str "no ticks" := h1; rw [h1'] at e; cases e⟩
theorem AnsW.keep {H H' : Hp} {sl g : Addr} {srs : List Addr} {v : V} {n : Ans} {xs : List V} (hg : H g = some (.lst xs)) (kp : ∀ c o, H c = some o → c ≠ g → H' c = some o) (h : AnsW H sl g srs v n) : AnsW H' sl g srs v n := by
  obtain ⟨h1, h2⟩ := h
  refine ⟨?_, h2⟩
  cases n with
  | rings ps =>
    obtain ⟨l, rs, e, hl, tr⟩ := h1
    exact ⟨l, rs, e, kp _ _ hl (h2 l e).1, tr.tups fun q ys e => kp _ _ e (ne_of e hg (by intro z; cases z))⟩
  | num _ => exact h1
  | yes => exact h1
  | noBell => exact h1
  | noTicks => exact h1
/-! ### the promises -/
/-- what is handed in: a wheel between two deeds -/
structure WIn (C : Addr) (z : Int) (H : Hp) (p sl dd : Addr) (srs : List Addr) (s : Day) : Prop where
  z0 : 0 < z
  z1 : z ≤ 1000
  wh : Wh C z H p sl dd srs s
  good : Good s
  few : s.ws.length ≤ 100
def spSpot : Sp := fun vs H Q _ => ∃ z n a : Int, vs = [.int z, .int n, .int a] ∧ 0 < z ∧ z < 1000000 ∧ ∀ r, H r = none → Q (.ref r) (upd H r (.tup [.int ((n + a) % z), .int ((a - 1) / z)]))
def spInit (C : Addr) : Sp := fun vs H Q _ => ∃ (p dx : Addr) (z : Int), vs = [.ref p, .int z] ∧ H p = some (.ins C dx []) ∧ 0 < z ∧ z ≤ 1000 ∧
  ∀ (sl dd : Addr) (srs : List Addr) (H' : Hp), Wh C z H' p sl dd srs day0 → (∀ c o, H c = some o → c ≠ p → H' c = some o) → H sl = none → H dd = none → (∀ c ∈ srs, H c = none) → Q .non H'
def spWaits (C : Addr) : Sp := fun vs H Q _ => ∃ (z : Int) (p sl dd : Addr) (srs : List Addr) (s : Day) (n : Int), vs = [.ref p, .int n] ∧ WIn C z H p sl dd srs s ∧ Q (.bl (decide (waits s n))) H
def spHang (C : Addr) : Sp := fun vs H Q _ => ∃ (z : Int) (p sl dd : Addr) (srs : List Addr) (s : Day) (n a : Int), vs = [.ref p, .int n, .int a] ∧ 0 < z ∧ z ≤ 1000 ∧ Wh C z H p sl dd srs s ∧ s.ws.length ≤ 100 ∧ ¬ waits s n ∧
  ∀ H', Wh C z H' p sl dd srs { s with ws := s.ws ++ [(n, s.now + a)] } → Step p sl dd srs srs H H' → Q .non H'
def spSetNext (C : Addr) : Sp := fun vs H Q _ => ∃ (z : Int) (p sl dd : Addr) (srs : List Addr) (s : Day) (a : Int), vs = [.ref p, .int a] ∧ WIn C z H p sl dd srs s ∧
  ∀ H', Wh C z H' p sl dd srs { s with ws := s.ws ++ [(s.came, s.now + a)], came := s.came + 1 } → Step p sl dd srs srs H H' → Q (.int s.came) H'
def spTakeOff (C : Addr) : Sp := fun vs H Q _ => ∃ (z : Int) (p sl dd : Addr) (srs : List Addr) (s : Day) (n : Int), vs = [.ref p, .int n] ∧ WIn C z H p sl dd srs s ∧ waits s n ∧
  ∀ (H' : Hp) (srs' : List Addr), Wh C z H' p sl dd srs' { s with ws := drop n s.ws } → Step p sl dd srs srs' H H' → Q .non H'
def spGoOn (C : Addr) : Sp := fun vs H Q _ => ∃ (z : Int) (p sl dd : Addr) (srs : List Addr) (s : Day), vs = [.ref p] ∧ WIn C z H p sl dd srs s ∧
  ∀ (l : Addr) (H' : Hp) (srs' : List Addr), Wh C z H' p sl dd srs' (tick1 s) → Step p sl dd srs srs' H H' → H l = none → l ∉ srs' → H' l = some (.lst ((due (s.now + 1) s.ws).map V.int)) → Q (.ref l) H'
def spToGo (C : Addr) : Sp := fun vs H Q _ => ∃ (z : Int) (p sl dd : Addr) (srs : List Addr) (s : Day), vs = [.ref p] ∧ WIn C z H p sl dd srs s ∧ s.ws.length < 64 ∧
  ∀ (wl : Addr) (qs : List Addr) (ss : List (Int × Int)) (H' : Hp), Same H H' → H' wl = some (.lst (qs.map V.ref)) → TupsP H' qs ss → ss.Perm (left s) → Rising ss → Q (.ref wl) H'
/-- a deed is done -/
def Done (C : Addr) (z : Int) (p sl dd : Addr) (srs : List Addr) (s : Day) (d : Deed) (H : Hp) (Q : VK) : Prop :=
  ∀ (v : V) (H' : Hp) (srs' : List Addr), Wh C z H' p sl dd srs' (next s d) → Step p sl dd srs srs' H H' → AnsP H' v (told s d) → (∀ l, v = .ref l → H l = none ∧ l ∉ srs') → Q v H'
def spSetBell (C : Addr) : Sp := fun vs H Q _ => ∃ (z : Int) (p sl dd : Addr) (srs : List Addr) (s : Day) (a : Int), vs = [.ref p, .int a] ∧ WIn C z H p sl dd srs s ∧ Done C z p sl dd srs s (.set a) H Q
def spPutOff (C : Addr) : Sp := fun vs H Q _ => ∃ (z : Int) (p sl dd : Addr) (srs : List Addr) (s : Day) (n a : Int), vs = [.ref p, .int n, .int a] ∧ WIn C z H p sl dd srs s ∧ Done C z p sl dd srs s (.off n a) H Q
def spStrike (C : Addr) : Sp := fun vs H Q _ => ∃ (z : Int) (p sl dd : Addr) (srs : List Addr) (s : Day) (n : Int), vs = [.ref p, .int n] ∧ WIn C z H p sl dd srs s ∧ Done C z p sl dd srs s (.strike n) H Q
def spGoBy (C : Addr) : Sp := fun vs H Q _ => ∃ (z : Int) (p sl dd : Addr) (srs : List Addr) (s : Day) (m : Int), vs = [.ref p, .int m] ∧ WIn C z H p sl dd srs s ∧ 0 ≤ m ∧ m ≤ 10000 ∧ Done C z p sl dd srs s (.tick m) H Q
def spAnswerTo (C : Addr) : Sp := fun vs H Q _ => ∃ (z : Int) (p sl dd : Addr) (srs : List Addr) (s : Day) (r : Addr) (d : Deed), vs = [.ref p, .ref r] ∧ WIn C z H p sl dd srs s ∧ DeedP H r d ∧ (∀ m, d = .tick m → 0 ≤ m ∧ m ≤ 10000) ∧ Done C z p sl dd srs s d H Q
/-- what the text's top has made: the class and the names -/
structure TxtW (K : PySem.W.Frag) (mg : Str → Option Value) (C : Addr) : Prop where
  cl : Cls K C
  nSz : NoAttr K C "size"
  nSl : NoAttr K C "slots"
  nNw : NoAttr K C "now"
  nDu : NoAttr K C "due"
  nBs : NoAttr K C "bells_set"
  mgC : mg "Wheel" = some (.ref C)
  noB : ∃ t, mg "NO_BELL" = some (.str "no bell" t)
  noT : ∃ t, mg "NO_TICKS" = some (.str "no ticks" t)
  range : mg "range" = none
/-! ### the waiting bells by their rising numbers -/
/-- the tick of a bell -/
def tkOf (ws : W) (n : Int) : Int := ((ws.find? fun p => decide (p.1 = n)).map (·.2)).getD 0
theorem tkOf_in {ws : W} {p : Int × Int} (nd : (ws.map (·.1)).Nodup) (h : p ∈ ws) : tkOf ws p.1 = p.2 := by
  unfold tkOf
  cases e : ws.find? fun q => decide (q.1 = p.1) with
  | none =>
    have := List.find?_eq_none.mp e p h
    simp at this
  | some q =>
    have h1 := List.mem_of_find?_eq_some e
    have h2 := List.find?_some e
    have h3 : q.1 = p.1 := by simpa using h2
    rw [once nd h1 h h3]
    rfl
theorem left_tk {s : Day} (nd : (s.ws.map (·.1)).Nodup) : (s.ws.map (·.1)).map (fun n => (n, tkOf s.ws n - s.now)) = left s := by
  unfold left
  rw [List.map_map]
  refine List.map_congr_left fun p hp => ?_
  show (p.1, tkOf s.ws p.1 - s.now) = (p.1, p.2 - s.now)
  rw [tkOf_in nd hp]
theorem dct_keys (ws : W) : ((dct ws).map fun kv => kV kv.1) = (ws.map (·.1)).map V.int := by
  unfold dct
  rw [List.map_map, List.map_map]
  rfl
/-- an attribute, read in a block -/
theorem pe_fldB {X : Cx} {N : List Str} {scope : Scope} {cl : List (Str × Addr)} {C : Addr} {s : Shared} {H : Hp} {fp : List Addr} {e : Expr} {ta : TE} {f : Str} {pos : Pos} (he : PE (blk X N scope cl C s H fp) e ta)
    (hb : attributeBase e f (blk X N scope cl C s H fp).env (eval e (blk X N scope cl C s H fp).env) = eval e (blk X N scope cl C s H fp).env) : PE (blk X N scope cl C s H fp) (.Attribute e f pos) (tFld X.K ta f) := pe_fld he hb
/-- one name of the frame around, read in a block -/
theorem capJ {X : Cx} {σ : L2.St} {scope : Scope} {N : List Str} {n j : Nat} {x : Str} (hl : N.length = n + 1) (h1 : N[n]? = some x) (h2 : X.N[j]? = some x) (h3 : X.env.scope.names.lookup x = some .cell) (h4 : scope.names.lookup x = some .free) : Caps X σ scope N (capσ n [j] σ) :=
  caps_of hl fun k i z e1 e2 => by
    cases k with
    | zero =>
      have e3 : j = i := by simpa using e1
      have e4 : some x = some z := h1.symm.trans e2
      cases e4
      rw [← e3]
      exact ⟨h2, h3, h4⟩
    | succ k => simp at e1
/-- the scope of a block -/
def compSc (st : Stmt) : Scope := match st with
  | .Assign _ (.ListComp _ _ sc _) _ => sc
  | .Return (some (.ListComp _ _ sc _)) _ => sc
  | _ => { kind := .function, names := [], isGenerator := false, isCoroutine := false }
/-- a comprehension's scope, by the statement's place in the def -/
abbrev scOf (st : Stmt) (i : Nat) : Scope := compSc ((defBody st).getD i (.Pass ⟨0, 0, 0, 0⟩))
end Bw

set_option Elab.async false
set_option linter.all false
set_option maxRecDepth 100000
set_option maxHeartbeats 4000000
namespace BwP
open PySem L2 Bw BwM PyProof.Rows
/-! ### the program's text by places -/
def top (i : Nat) : Stmt := PySem.Challenge.pw_bellwheel_k04_whole_any_size.main.body.getD i (.Pass ⟨0, 0, 0, 0⟩)
abbrev sSpot : Stmt := top 1
abbrev sTicked : Stmt := top 2
abbrev sInit : Stmt := inClass (top 4) 0
abbrev sWaits : Stmt := inClass (top 4) 1
abbrev sSetNext : Stmt := inClass (top 4) 2
abbrev sHang : Stmt := inClass (top 4) 3
abbrev sTakeOff : Stmt := inClass (top 4) 4
abbrev sGoOn : Stmt := inClass (top 4) 5
abbrev sToGo : Stmt := inClass (top 4) 6
abbrev sAnswers : Stmt := top 8
abbrev sBehind : Stmt := top 9
abbrev sAnswerTo : Stmt := top 10
abbrev sSetBell : Stmt := top 11
abbrev sPutOff : Stmt := top 12
abbrev sStrike : Stmt := top 13
abbrev sGoBy : Stmt := top 14
end BwP

set_option Elab.async false
set_option linter.all false
set_option maxRecDepth 100000
set_option maxHeartbeats 4000000
namespace BwP
open PySem L2 Bw BwM PyProof.Rows
abbrev sc1 : Scope := scOf sTicked 0
abbrev sc2 : Scope := scOf sTicked 1
theorem bs1 : BlkScope sc1 := ⟨rfl, by decide +kernel, by decide +kernel⟩
theorem nf1 : ∀ y ∈ sc1.names, y.2 ≠ .free := by decide +kernel
theorem bs2 : BlkScope sc2 := ⟨rfl, by decide +kernel, by decide +kernel⟩
theorem nf2 : ∀ y ∈ sc2.names, y.2 ≠ .free := by decide +kernel
theorem nd2 : (["number", "turns"] : List Str).Nodup := by decide +kernel
section
variable {P : Program} {w : World} {K : PySem.W.Frag} {mg : Str → Option Value} {base : Heap}
theorem scTk : FnScope ["slot", "ringing", "waiting"] ["slot"] (defScope sTicked) := ⟨rfl, rfl, rfl, by decide +kernel, rfl, by decide +kernel, by decide +kernel⟩
theorem ok_ticked {f : Addr} {fd : FuncData} (F : Fun K "ticked" "ticked" sTicked f fd) : FnOk P w K mg base CX0 1 f fd ["slot"] (spTicked K) := by
  refine F.ok scTk (fun vs H Q E h => ?_) (fun cdv A outer s H vs Q E hr h => ?_)
  · obtain ⟨a, rs, ps, rfl, _⟩ := h
    rfl
  · obtain ⟨a, rs, ps, rfl, ha, hp, hl, k⟩ := h
    have hrl : (rs.map V.ref).length = ps.length := by rw [List.length_map]; exact hp.length
    refine ⟨_, pss_cons (ps_setC (i := 1) (N := ["number", "turns"]) (τ := fun _ => [none, none]) rfl scTk.nd rfl (Or.inl rfl) (pi_list (pv 0)) bs1 (nofreeX nf1) (fun σ _ => caps_none)
        ⟨fun _ _ _ _ _ => pg_tupB 2 rfl (pgs_cons (pg_nameB 0 nd2 rfl rfl) (pgs_cons (pg_nameB 1 nd2 rfl rfl) pgs_nil)),
         fun _ _ _ _ _ => pf_one (pt_cmpR op_eq (pv 1) pe_int (nomark _)), fun _ _ _ _ _ => pv 0⟩)
      (pss_cons (ps_setC (i := 2) (N := ["number", "turns"]) (τ := fun _ => [none, none]) rfl scTk.nd rfl (Or.inl rfl) (pi_list (pv 0)) bs2 (nofreeX nf2) (fun σ _ => caps_none)
        ⟨fun _ _ _ _ _ => pg_tupB 2 rfl (pgs_cons (pg_nameB 0 nd2 rfl rfl) (pgs_cons (pg_nameB 1 nd2 rfl rfl) pgs_nil)),
         fun _ _ _ _ _ => pf_one (pt_cmpR op_ne (pv 1) pe_int (nomark _)), fun _ _ _ _ _ => pe_tup (pa_cons (pv 0) (pa_cons (pe_op op_sub (pv 1) pe_int) pa_nil))⟩)
      (pss_one (ps_ret (pe_tup (pa_cons (pv 1) (pa_cons (pv 2) pa_nil)))))), ?_⟩
    refine ⟨_, rfl, a, rfl, ⟨_, ha⟩, comp_list (K := K) (a := a) (xs := rs.map V.ref) (fun l i σ1 H1 => (∃ u v, σ1 = [u, v]) ∧ H l = none ∧ H1 = upd H l (.lst (ring (ps.take i)))) ?_ ?_ ?_ ?_⟩
    · intro l hl
      exact ⟨⟨none, none, rfl⟩, hl, by simp [ring]⟩
    · rintro l i σ1 H1 _ ⟨_, hl, rfl⟩
      exact (same_upd hl).seq ha
    · rintro l i x σ1 H1 hx ⟨⟨u, v, rfl⟩, hl0, rfl⟩
      obtain ⟨r, p, rfl, hpi, hri, tp⟩ := hp.get hx
      have hi := (List.getElem?_eq_some_iff.mp hpi).1
      refine ⟨r, _, rfl, SqT.of (same_upd hl0 r _ tp), rfl, _, _, rfl, _, _, rfl, rfl, ?_⟩
      refine ⟨_, rfl, rfl, _, rfl, ?_⟩
      by_cases h0 : p.2 = 0
      · rw [decide_eq_true (show V.int p.2 = V.int 0 by rw [h0])]
        refine iteT ⟨_, rfl, _, upd_same, small_of (Nat.le_trans (ring_len _) (Nat.le_trans (List.length_take_le _ _) (Nat.le_of_lt hi))) (by omega), ⟨_, _, rfl⟩, hl0, ?_⟩
        rw [upd_upd, take_snoc hpi, ring_in h0]
      · rw [decide_eq_false (show ¬ V.int p.2 = V.int 0 from fun z => h0 (V.int.inj z))]
        refine iteF ⟨⟨_, _, rfl⟩, hl0, ?_⟩
        rw [take_snoc hpi, ring_out h0]
    · rintro l1 σ1 H1 ⟨_, hl1, rfl⟩
      rw [hrl, List.take_length]
      have s1 : Same H (upd H l1 (.lst (ring ps))) := same_upd hl1
      refine ⟨_, rfl, a, rfl, ⟨_, s1.seq ha⟩, comp_list (K := K) (a := a) (xs := rs.map V.ref)
        (fun l i σ1 H2 => (∃ u v, σ1 = [u, v]) ∧ upd H l1 (.lst (ring ps)) l = none ∧ ∃ qs : List Addr, H2 l = some (.lst (qs.map V.ref)) ∧ TupsP H2 qs (wait (ps.take i)) ∧ Same (upd H l1 (.lst (ring ps))) H2) ?_ ?_ ?_ ?_⟩
      · intro l hl
        exact ⟨⟨none, none, rfl⟩, hl, [], upd_same, by simpa [wait] using Paired.nil, same_upd hl⟩
      · rintro l i σ2 H2 _ ⟨_, hl, qs, _, _, s2⟩
        exact s2.seq (s1.seq ha)
      · rintro l i x σ2 H2 hx ⟨⟨u, v, rfl⟩, hl0, qs, e2, tq, s2⟩
        obtain ⟨r, p, rfl, hpi, hri, tp⟩ := hp.get hx
        have hi := (List.getElem?_eq_some_iff.mp hpi).1
        refine ⟨r, _, rfl, SqT.of (s2 r _ (s1 r _ tp)), rfl, _, _, rfl, _, _, rfl, rfl, ?_⟩
        refine ⟨_, rfl, rfl, _, rfl, ?_⟩
        by_cases h0 : p.2 = 0
        · rw [decide_eq_true (show V.int p.2 = V.int 0 by rw [h0])]
          refine iteF ⟨⟨_, _, rfl⟩, hl0, qs, e2, ?_, s2⟩
          rw [take_snoc hpi, wait_out h0]
          exact tq
        · rw [decide_eq_false (show ¬ V.int p.2 = V.int 0 from fun z => h0 (V.int.inj z))]
          have lq : (qs.map V.ref).length ≤ i := by
            rw [List.length_map, tq.length]
            exact Nat.le_trans (wait_len _) (List.length_take_le _ _)
          refine iteT ⟨_, rfl, _, rfl, _, _, rfl, rfl, (by show 2 ≤ sizeLine; decide), fun q hq => ⟨qs.map V.ref, by rw [upd_ne (ne_of_none e2 hq)]; exact e2, small_of lq (by omega), ⟨_, _, rfl⟩, hl0, qs ++ [q], ?_, ?_, ?_⟩⟩
          · rw [upd_same, List.map_append]; rfl
          · rw [take_snoc hpi, wait_in h0]
            have nq : q ≠ l := Ne.symm (ne_of_none e2 hq)
            refine Paired.snoc (tq.tups fun r xs e => ?_) ?_
            · rw [upd_ne (ne_of e e2 (by intro z; cases z)), upd_ne (ne_of_none e hq)]
              exact e
            · show upd _ l _ q = _
              rw [upd_ne nq, upd_same]
          · exact same_updN (same_updN s2 (s2.free hq)) hl0
      · rintro l2 σ2 H2 ⟨_, hl2, qs, e2, tq, s2⟩
        rw [hrl, List.take_length] at tq
        refine ⟨_, rfl, _, rfl, (by show 2 ≤ sizeLine; decide), fun r hr => ?_⟩
        have n12 : l1 ≠ l2 := by intro z; subst z; rw [upd_same] at hl2; cases hl2
        have sA : Same H H2 := s1.trans s2
        have hl2' : H l2 = none := by rw [upd_ne (Ne.symm n12)] at hl2; exact hl2
        have s3 : Same H2 (upd H2 r (.tup [.ref l1, .ref l2])) := same_upd hr
        exact k r l1 l2 qs _ (sA.trans s3) (sA.free hr) hl1 hl2' n12 upd_same (s3 _ _ (s2 _ _ upd_same)) (s3 _ _ e2) (tq.same s3)
theorem scS : FnScope ["size", "now", "after", "slot", "turns"] ["size", "now", "after"] (defScope sSpot) := ⟨rfl, rfl, rfl, by decide +kernel, rfl, by decide +kernel, by decide +kernel⟩
theorem ok_spot {f : Addr} {fd : FuncData} (F : Fun K "spot_for" "spot_for" sSpot f fd) : FnOk P w K mg base CX0 1 f fd ["size", "now", "after"] spSpot := by
  refine F.ok scS (fun vs H Q E h => ?_) (fun cdv A outer s H vs Q E hr h => ?_)
  · obtain ⟨z, n, a, rfl, _⟩ := h
    rfl
  · obtain ⟨z, n, a, rfl, hz, hz2, k⟩ := h
    refine ⟨_, pss_cons (ps_set (i := 3) scS.nd rfl (Or.inl rfl) (pe_op op_mod (pe_op op_add (pv 1) (pv 2)) (pv 0)))
      (pss_cons (ps_set (i := 4) scS.nd rfl (Or.inl rfl) (pe_op op_fdiv (pe_op op_sub (pv 2) pe_int) (pv 0)))
      (pss_one (ps_ret (pe_tup (pa_cons (pv 3) (pa_cons (pv 4) pa_nil)))))), ?_⟩
    refine ⟨_, rfl, _, rfl, _, _, rfl, rfl, _, rfl, _, _, rfl, rfl, hz, ?_⟩
    refine ⟨_, rfl, _, _, rfl, rfl, _, rfl, _, _, rfl, rfl, ⟨hz, by omega⟩, ?_⟩
    exact ⟨_, rfl, _, rfl, (by show 2 ≤ sizeLine; decide), fun r hr => k r hr⟩
end
end BwP

set_option Elab.async false
set_option linter.all false
set_option maxRecDepth 100000
set_option maxHeartbeats 4000000
/-! The wheel's methods. -/
namespace BwP
open PySem L2 Bw BwM PyProof.Rows
abbrev scI0 : Scope := scOf sInit 1
theorem bsI : BlkScope scI0 := ⟨rfl, by decide +kernel, by decide +kernel⟩
theorem nfI : ∀ y ∈ scI0.names, y.2 ≠ .free := by decide +kernel
theorem ndI : (["place"] : List Str).Nodup := by decide +kernel
abbrev scO0 : Scope := scOf sTakeOff 1
theorem bsO : BlkScope scO0 := ⟨rfl, by decide +kernel, by decide +kernel⟩
theorem frO : ∀ x ∈ scO0.names, x.2 = .free → (defScope sTakeOff).names.lookup x.1 = some .cell := by decide +kernel
theorem ndO : (["pair", "number"] : List Str).Nodup := by decide +kernel
/-- the place of a slot among the refs -/
theorem ref_at {srs : List Addr} {j : Nat} {r : Addr} (e : srs[j]? = some r) : (srs.map V.ref)[j]? = some (.ref r) := by rw [List.getElem?_map, e]; rfl
theorem slot_place {z m : Int} {srs : List Addr} (hz : 0 < z) (hl : (srs.length : Int) = z) : ∃ (j : Nat) (r : Addr), (j : Int) = m % z ∧ srs[j]? = some r ∧ atI (srs.map V.ref) (m % z) = some (.ref r) ∧ ixN (srs.map V.ref).length (m % z) = some j := by
  have h0 := Int.emod_nonneg m (show z ≠ 0 by omega)
  have h1 := Int.emod_lt_of_pos m hz
  have e0 : (((m % z).toNat : Nat) : Int) = m % z := Int.toNat_of_nonneg h0
  have hj : (m % z).toNat < srs.length := by omega
  have er : srs[(m % z).toNat]? = some srs[(m % z).toNat] := List.getElem?_eq_getElem hj
  refine ⟨(m % z).toNat, srs[(m % z).toNat], e0, er, ?_, ?_⟩
  · have := atI_nat (ref_at er)
    rwa [e0] at this
  · unfold ixN
    rw [List.length_map, if_pos h0, if_pos (by omega)]
section
variable {P : Program} {w : World} {K : PySem.W.Frag} {mg : Str → Option Value} {base : Heap}
theorem scIn : FnScope ["self", "size"] ["self", "size"] (defScope sInit) := ⟨rfl, rfl, rfl, by decide +kernel, rfl, by decide +kernel, by decide +kernel⟩
theorem ok_init {f C : Addr} {fd : FuncData} (F : Fun K "__init__" "Wheel.__init__" sInit f fd) (T : TxtW K mg C) : FnOk P w K mg base CX0 1 f fd ["self", "size"] (spInit C) := by
  refine F.ok scIn (fun vs H Q E h => ?_) (fun cdv A outer s H vs Q E hr h => ?_)
  · obtain ⟨p, dx, z, rfl, _⟩ := h
    rfl
  · obtain ⟨p, dx, z, rfl, hp, hz, hz2, k⟩ := h
    refine ⟨_, pss_cons (ps_fld (pv 0) (pv 1) rfl)
      (pss_cons (ps_fld (pv 0) (pe_comp (N := ["place"]) (τ := fun _ => [none]) rfl (pi_range1 (by rfl) T.range (pa_cons (pv 1) pa_nil)) bsI (nofreeX nfI) (fun σ _ => caps_none)
        ⟨fun _ _ _ _ _ => pg_nameB 0 ndI rfl rfl, fun _ _ _ _ _ => pf_nil, fun _ _ _ _ _ => pe_lst pa_nil⟩) rfl)
      (pss_cons (ps_fld (pv 0) pe_int rfl)
      (pss_cons (ps_fld (pv 0) pe_dnewK rfl)
      (pss_one (ps_fld (pv 0) pe_int rfl))))), ?_⟩
    refine ⟨_, rfl, _, rfl, p, C, dx, [], rfl, hp, T.cl, T.nSz, (by show 0 < 1000; decide), ?_⟩
    have h1p : upd H p (.ins C dx (putF "size" (.int z) [])) p = some (.ins C dx [("size", .int z)]) := upd_same
    have kp : ∀ c o, H c = some o → c ≠ p → upd H p (.ins C dx (putF "size" (.int z) [])) c = some o := fun c o e n => by rw [upd_ne n]; exact e
    have fr : ∀ c, upd H p (.ins C dx (putF "size" (.int z) [])) c = none → H c = none := fun c e => by
      by_cases q : c = p
      · rw [q, upd_same] at e; cases e
      · rw [upd_ne q] at e; exact e
    generalize upd H p (.ins C dx (putF "size" (.int z) [])) = H1 at h1p kp fr
    have zn : ((z.toNat : Nat) : Int) = z := Int.toNat_of_nonneg (by omega)
    refine ⟨_, rfl, z, rfl, by omega, by omega, comp_range (lo := 0) (n := z.toNat)
      (fun l i σ1 H2 => (∃ u, σ1 = [u]) ∧ H1 l = none ∧ Same H1 H2 ∧ ∃ crs : List Addr, H2 l = some (.lst (crs.map V.ref)) ∧ crs.length = i ∧ crs.Nodup ∧ ∀ c ∈ crs, H2 c = some (.lst []) ∧ H1 c = none ∧ c ≠ l) ?_ ?_ ?_⟩
    · intro l hl0
      exact ⟨⟨none, rfl⟩, hl0, same_upd hl0, [], upd_same, rfl, List.nodup_nil, fun _ z => nomatch z⟩
    · rintro l i σ1 H2 hi ⟨⟨u, rfl⟩, hl0, s1, crs, hl1, hcl, nd, hc⟩
      refine ⟨Nat.zero_le _, fun q hq => ⟨crs.map V.ref, same_upd hq _ _ hl1, small_of (m := 1000) (by rw [List.length_map]; omega) (by omega), ⟨_, rfl⟩, hl0, same_updN (same_updN s1 (s1.free hq)) hl0, crs ++ [q], by rw [upd_same, List.map_append]; rfl, by simp [hcl], ?_, fun c hcc => ?_⟩⟩
      · rw [List.nodup_append]
        refine ⟨nd, by simp, fun a ha b hb e => ?_⟩
        rw [List.mem_singleton.mp hb] at e
        have := (hc a ha).1
        rw [e, hq] at this
        cases this
      · have nql : q ≠ l := Ne.symm (ne_of_none hl1 hq)
        rcases List.mem_append.mp hcc with h | h
        · obtain ⟨h1, h2, h3⟩ := hc c h
          exact ⟨by rw [upd_ne h3, upd_ne (ne_of_none h1 hq)]; exact h1, h2, h3⟩
        · rw [List.mem_singleton.mp h]
          exact ⟨by rw [upd_ne nql, upd_same], s1.free hq, nql⟩
    · rintro l σ1 H2 ⟨_, hl0, s2, crs, hl2, hcl, nd, hc⟩
      refine ⟨_, rfl, p, C, dx, [("size", .int z)], rfl, s2 _ _ h1p, T.cl, T.nSl, (by show 1 < 1000; decide), ?_⟩
      refine ⟨_, rfl, p, C, dx, [("size", .int z), ("slots", .ref l)], rfl, (by rw [upd_same, fl1]), T.cl, T.nNw, (by show 2 < 1000; decide), fun d hd => ?_⟩
      have hdp : d ≠ p := fun q => by rw [q, upd_same] at hd; cases hd
      have hd2 : H2 d = none := by rw [upd_ne hdp, upd_ne hdp] at hd; exact hd
      have npl : l ≠ p := fun q => by rw [q, h1p] at hl0; cases hl0
      refine ⟨_, rfl, p, C, dx, [("size", .int z), ("slots", .ref l), ("now", .int 0)], rfl, (by rw [upd_ne (Ne.symm hdp), upd_same, fl2]), T.cl, T.nDu, (by show 3 < 1000; decide), ?_⟩
      refine ⟨_, rfl, p, C, dx, [("size", .int z), ("slots", .ref l), ("now", .int 0), ("due", .ref d)], rfl, (by rw [upd_same, fl3]), T.cl, T.nBs, (by show 4 < 1000; decide), ?_⟩
      have ncp : ∀ c ∈ crs, c ≠ p := fun c h q => by
        have := (hc c h).2.1
        rw [q, h1p] at this; cases this
      have ncd : ∀ c ∈ crs, c ≠ d := fun c h => ne_of_none (hc c h).1 hd2
      have nld : l ≠ d := ne_of_none hl2 hd2
      refine k l d crs _ ⟨⟨dx, by rw [upd_same, fl4]; rfl⟩, ?_, by omega, nd, fun h => (hc l h).2.2 rfl, fun j r e => ⟨[], ?_, .nil⟩, ?_⟩ (fun c o e n => ?_) (fr _ hl0) (fr _ (s2.free hd2)) fun c h => fr _ (hc c h).2.1
      · rw [upd_ne npl, upd_ne npl, upd_ne nld, upd_ne npl, upd_ne npl]; exact hl2
      · have hm := List.mem_of_getElem? e
        rw [upd_ne (ncp r hm), upd_ne (ncp r hm), upd_ne (ncd r hm), upd_ne (ncp r hm), upd_ne (ncp r hm)]; exact (hc r hm).1
      · rw [upd_ne hdp, upd_ne hdp, upd_same]; rfl
      · have e2 := s2 _ _ (kp c o e n)
        rw [upd_ne n, upd_ne n, upd_ne (ne_of_none e2 hd2), upd_ne n, upd_ne n]
        exact e2
theorem scWa : FnScope ["self", "number"] ["self", "number"] (defScope sWaits) := ⟨rfl, rfl, rfl, by decide +kernel, rfl, by decide +kernel, by decide +kernel⟩
theorem ok_waits {f C : Addr} {fd : FuncData} (F : Fun K "waits" "Wheel.waits" sWaits f fd) (T : TxtW K mg C) : FnOk P w K mg base CX0 1 f fd ["self", "number"] (spWaits C) := by
  refine F.ok scWa (fun vs H Q E h => ?_) (fun cdv A outer s H vs Q E hr h => ?_)
  · obtain ⟨z, p, sl, dd, srs, y, n, rfl, _⟩ := h
    rfl
  · obtain ⟨z, p, sl, dd, srs, y, n, rfl, W, k⟩ := h
    obtain ⟨dx, ob⟩ := W.wh.ob
    refine ⟨_, pss_one (ps_ret (pe_cmp (pc_din (hu_of hr) (pv 1) (pe_fld (pv 0) rfl)))), ?_⟩
    refine ⟨_, rfl, _, rfl, p, C, dx, _, _, rfl, ob, T.cl, T.nDu, f_due _ _ _ _ _, dd, _, rfl, DGet.k (k := Sum.inl n) W.wh.hd, ?_⟩
    rw [dct_is W.good.nd, show decide (n ∈ y.ws.map (·.1)) = decide (waits y n) from decide_eq_decide.mpr Iff.rfl]
    exact k
theorem scH : FnScope ["self", "number", "after", "spot"] ["self", "number", "after"] (defScope sHang) := ⟨rfl, rfl, rfl, by decide +kernel, rfl, by decide +kernel, by decide +kernel⟩
theorem ok_hang {f fS C : Addr} {fd fdS : FuncData} (F : Fun K "hang" "Wheel.hang" sHang f fd) (T : TxtW K mg C) (FS : Fun K "spot_for" "spot_for" sSpot fS fdS) (bS : L2.Binds K fdS ["size", "now", "after"] []) (mS : mg "spot_for" = some (.ref fS)) :
    FnOk P w K mg base CX0 2 f fd ["self", "number", "after"] (spHang C) := by
  have GS : FnOk P w K mg base CX0 1 fS fdS ["size", "now", "after"] spSpot := ok_spot FS
  refine F.ok scH (fun vs H Q E h => ?_) (fun cdv A outer s H vs Q E hr h => ?_)
  · obtain ⟨z, p, sl, dd, srs, y, n, a, rfl, _⟩ := h
    rfl
  · obtain ⟨z, p, sl, dd, srs, y, n, a, rfl, hz, hz2, W, few, nw, k⟩ := h
    have hu := hu_of hr
    obtain ⟨dx, ob⟩ := W.ob
    refine ⟨_, pss_cons (ps_set (i := 3) scH.nd rfl (Or.inl rfl) (pe_call GS hr (by rfl) mS FS.kp bS .nil pass0 (pa_cons (pe_fld (pv 0) rfl) (pa_cons (pe_fld (pv 0) rfl) (pa_cons (pv 2) pa_nil)))))
      (pss_cons (ps_expr (pe_bm PySem.F.plainAttrs_list PySem.F.slot_list_append PySem.F.type_list_append mt_append (pe_ix ix_list (pe_fld (pv 0) rfl) (pe_ix ix_tup (pv 3) pe_int fun _ _ => rfl) fun _ _ => rfl)
        (pa_cons (pe_tup (pa_cons (pv 1) (pa_cons (pe_ix ix_tup (pv 3) pe_int fun _ _ => rfl) pa_nil))) pa_nil)))
      (pss_one (ps_dput hu (pe_fld (pv 0) rfl) (pv 1) (pe_op op_add (pe_fld (pv 0) rfl) (pv 2)) rfl))), ?_⟩
    refine ⟨_, rfl, p, C, dx, _, _, rfl, ob, T.cl, T.nSz, f_size _ _ _ _ _, _, rfl, p, C, dx, _, _, rfl, ob, T.cl, T.nNw, f_now _ _ _ _ _, _, rfl, z, y.now, a, rfl, hz, by omega, fun t ft => ?_⟩
    have s1 : Same H (upd H t (.tup [.int ((y.now + a) % z), .int ((a - 1) / z)])) := same_upd ft
    have ht : upd H t (.tup [.int ((y.now + a) % z), .int ((a - 1) / z)]) t = some (.tup [.int ((y.now + a) % z), .int ((a - 1) / z)]) := upd_same
    generalize upd H t (.tup [.int ((y.now + a) % z), .int ((a - 1) / z)]) = H1 at s1 ht
    have W1 := W.same s1
    have ob1 := s1 _ _ ob
    obtain ⟨j, r, hj, er, a1, _⟩ := slot_place (m := y.now + a) hz W.len
    obtain ⟨rs, hr1, tr1⟩ := W1.at_ j r er
    refine ⟨_, rfl, p, C, dx, _, _, rfl, ob1, T.cl, T.nSl, f_slots _ _ _ _ _, _, rfl, t, _, _, _, rfl, rfl, SqT.of ht, rfl, sl, _, _, _, rfl, rfl, SqL.of W1.hs, a1, .inl ⟨rfl, _, SqL.of hr1⟩,
      _, rfl, _, rfl, t, _, _, _, rfl, rfl, SqT.of ht, rfl, (by show 2 ≤ sizeLine; decide), fun q fq => ?_⟩
    have s2 : Same H1 (upd H1 q (.tup [.int n, .int ((a - 1) / z)])) := same_upd fq
    have hq : TupP (upd H1 q (.tup [.int n, .int ((a - 1) / z)])) q (n, (a - 1) / z) := upd_same
    refine ⟨r, _, _, rfl, rfl, s2 _ _ hr1, small_of (m := 100) (by rw [List.length_map, tr1.length]; exact Nat.le_trans (slot_len _ _ _ _) few) (by omega), ?_⟩
    have W2 := W1.same s2
    have hr2 := s2 _ _ hr1
    have tr2 := tr1.same s2
    have ob2 := s2 _ _ ob1
    have st2 : Step p sl dd srs srs H (upd H1 q (.tup [.int n, .int ((a - 1) / z)])) := Step.same (s1.trans s2)
    generalize upd H1 q (.tup [.int n, .int ((a - 1) / z)]) = H2 at hq W2 hr2 tr2 ob2 st2
    have hm : r ∈ srs := List.mem_of_getElem? er
    have nr : p ≠ r := fun e => W.p_srs (by rw [e]; exact hm)
    have nrd : dd ≠ r := fun e => W.dd_srs (by rw [e]; exact hm)
    have ob3 : ∀ o, upd H2 r o p = some (.ins C dx (flds z sl y.now dd y.came)) := fun o => by rw [upd_ne nr]; exact ob2
    have hd3 : ∀ o, upd H2 r o dd = some (.dK (dct y.ws)) := fun o => by rw [upd_ne nrd]; exact W2.hd
    refine ⟨_, rfl, p, C, dx, _, _, rfl, ob3 _, T.cl, T.nNw, f_now _ _ _ _ _, _, rfl, _, _, rfl, rfl, _, rfl, p, C, dx, _, _, rfl, ob3 _, T.cl, T.nDu, f_due _ _ _ _ _, _, rfl, dd, _, rfl, DPut.k (k := Sum.inl n) (hd3 _) (small_of (m := 100) (by rw [dct_len]; exact few) (by omega)), ?_⟩
    rw [dct_put nw]
    exact k _ (W2.push hz er hj hr2 tr2 hq) (st2.trans ((Step.put (.inr (.inr (.inr (.inl hm))))).trans (Step.put (.inr (.inr (.inl rfl))))))
theorem scSN : FnScope ["self", "after", "number"] ["self", "after"] (defScope sSetNext) := ⟨rfl, rfl, rfl, by decide +kernel, rfl, by decide +kernel, by decide +kernel⟩
theorem ok_setNext {f fH C : Addr} {fd fdH : FuncData} (F : Fun K "set_next" "Wheel.set_next" sSetNext f fd) (T : TxtW K mg C) (GH : FnOk P w K mg base CX0 2 fH fdH ["self", "number", "after"] (spHang C)) (bH : L2.Binds K fdH ["self", "number", "after"] []) (mH : Meth K C "hang" fH) :
    FnOk P w K mg base CX0 3 f fd ["self", "after"] (spSetNext C) := by
  refine F.ok scSN (fun vs H Q E h => ?_) (fun cdv A outer s H vs Q E hr h => ?_)
  · obtain ⟨z, p, sl, dd, srs, y, a, rfl, _⟩ := h
    rfl
  · obtain ⟨z, p, sl, dd, srs, y, a, rfl, W, k⟩ := h
    obtain ⟨dx, ob⟩ := W.wh.ob
    refine ⟨_, pss_cons (ps_set (i := 2) scSN.nd rfl (Or.inl rfl) (pe_fld (pv 0) rfl))
      (pss_cons (ps_fld (pv 0) (pe_op op_add (pv 2) pe_int) rfl)
      (pss_cons (ps_expr (pe_meth (pv 0) T.cl mH GH hr bH .nil pass0 (pa_cons (pv 2) (pa_cons (pv 1) pa_nil))))
      (pss_one (ps_ret (pv 2))))), ?_⟩
    refine ⟨_, rfl, p, C, dx, _, _, rfl, ob, T.cl, T.nBs, f_came _ _ _ _ _, ?_⟩
    refine ⟨_, rfl, _, _, rfl, rfl, _, rfl, p, C, dx, _, rfl, ob, T.cl, T.nBs, (by show 5 < 1000; decide), ?_⟩
    rw [put_came]
    have W1 : Wh C z (upd H p (.ins C dx (flds z sl y.now dd (y.came + 1)))) p sl dd srs { y with came := y.came + 1 } := by
      refine ⟨⟨dx, upd_same⟩, by rw [upd_ne (Ne.symm W.wh.p_sl)]; exact W.wh.hs, W.wh.len, W.wh.nd, W.wh.nsl, fun j r e => ?_, by rw [upd_ne (Ne.symm W.wh.p_dd)]; exact W.wh.hd⟩
      obtain ⟨rs, e1, t⟩ := W.wh.at_ j r e
      refine ⟨rs, by rw [upd_ne (ne_of e1 ob (by intro z; cases z))]; exact e1, t.tups fun q xs e => ?_⟩
      rw [upd_ne (ne_of e ob (by intro z; cases z))]; exact e
    have nw : ¬ waits { y with came := y.came + 1 } y.came := fun hm => by
      obtain ⟨p, hp, e⟩ := List.mem_map.mp hm
      have := W.good.nums p hp
      have e' : p.1 = y.came := e
      omega
    refine ⟨_, rfl, p, dx, _, rfl, upd_same, f_no _ _ _ _ _ (by decide +kernel) (by decide +kernel) (by decide +kernel) (by decide +kernel) (by decide +kernel), _, rfl, _, rfl,
      z, p, sl, dd, srs, { y with came := y.came + 1 }, y.came, a, rfl, W.z0, W.z1, W1, W.few, nw, fun H' W' st' => ?_⟩
    exact ⟨_, rfl, k H' W' ((Step.put (.inl rfl)).trans st')⟩
end
end BwP

set_option Elab.async false
set_option linter.all false
set_option maxRecDepth 100000
set_option maxHeartbeats 4000000
/-! The wheel's methods: take_off, go_on. -/
namespace BwP
open PySem L2 Bw BwM PyProof.Rows
theorem map_set_ref (srs : List Addr) (j : Nat) (l : Addr) : (srs.map V.ref).set j (.ref l) = (srs.set j l).map V.ref := by rw [List.map_set]
theorem ring_eq (ps : List (Int × Int)) : ring ps = (ringN ps).map V.int := by unfold ring ringN; rw [List.map_map]; rfl
theorem due_mem {t n : Int} {ws : W} (h : n ∈ due t ws) : n ∈ ws.map (·.1) := by
  obtain ⟨p, hp, _, e⟩ := mem_due.mp h
  exact List.mem_map.mpr ⟨p, hp, e⟩
section
variable {P : Program} {w : World} {K : PySem.W.Frag} {mg : Str → Option Value} {base : Heap}
theorem scO : FnScope ["self", "number", "place"] ["self", "number"] (defScope sTakeOff) := ⟨rfl, rfl, rfl, by decide +kernel, rfl, by decide +kernel, by decide +kernel⟩
theorem ok_takeOff {f C : Addr} {fd : FuncData} (F : Fun K "take_off" "Wheel.take_off" sTakeOff f fd) (T : TxtW K mg C) : FnOk P w K mg base CX0 1 f fd ["self", "number"] (spTakeOff C) := by
  refine F.ok scO (fun vs H Q E h => ?_) (fun cdv A outer s H vs Q E hr h => ?_)
  · obtain ⟨z, p, sl, dd, srs, y, n, rfl, _⟩ := h
    rfl
  · obtain ⟨z, p, sl, dd, srs, y, n, rfl, W, hw, k⟩ := h
    have hu := hu_of hr
    obtain ⟨dx, ob⟩ := W.wh.ob
    obtain ⟨⟨n', m⟩, hm, en⟩ := List.mem_map.mp hw
    have en' : n' = n := en
    subst en'
    have hz := W.z0
    obtain ⟨j, r, hj, er, a1, ix⟩ := slot_place (m := m) hz W.wh.len
    obtain ⟨rs, hr1, tr1⟩ := W.wh.at_ j r er
    have hmr : r ∈ srs := List.mem_of_getElem? er
    have dv : valV (dct y.ws) (Sum.inl n' : Key) = some (.int m) := dct_some W.good.nd hm
    refine ⟨_, pss_cons (ps_set (i := 2) scO.nd rfl (Or.inl rfl) (pe_op op_mod (pe_dget hu (pe_fld (pv 0) rfl) (pv 1) (fun _ _ => rfl)) (pe_fld (pv 0) rfl)))
      (pss_cons (ps_asg (pe_comp (N := ["pair", "number"]) (τ := capσ 1 [1]) rfl (pi_list (pe_ix ix_list (pe_fld (pv 0) rfl) (pv 2) fun _ _ => rfl)) bsO frO (fun σ _ => capJ rfl rfl rfl rfl rfl)
          ⟨fun _ _ _ _ _ => pg_nameB 0 ndO rfl rfl, fun _ _ _ _ _ => pf_one (pt_cmpR op_ne (pe_ix ix_tupB (pvB 0 rfl rfl) pe_int fun _ _ => rfl) (pvC 1 rfl rfl rfl rfl) (nomark _)), fun _ _ _ _ _ => pvB 0 rfl rfl⟩)
        (pg_sub (pe_fld (pv 0) rfl) (pv 2) set_list))
      (pss_one (ps_expr (pe_dpop1 (pe_fld (pv 0) rfl) (pv 1) ⟨rfl, rfl, rfl, rfl⟩)))), ?_⟩
    refine ⟨_, rfl, p, C, dx, _, _, rfl, ob, T.cl, T.nDu, f_due _ _ _ _ _, _, rfl, dd, _, rfl, (by have := DGet.k (k := Sum.inl n') W.wh.hd; rw [dv] at this; exact this), _, rfl, p, C, dx, _, _, rfl, ob, T.cl, T.nSz, f_size _ _ _ _ _, _, _, rfl, rfl, hz, ?_⟩
    have hrl : (rs.map V.ref).length = (slot z y.now j y.ws).length := by rw [List.length_map]; exact tr1.length
    have sll : (slot z y.now j y.ws).length ≤ 100 := Nat.le_trans (slot_len _ _ _ _) W.few
    refine ⟨_, rfl, p, C, dx, _, _, rfl, ob, T.cl, T.nSl, f_slots _ _ _ _ _, _, rfl, sl, _, _, _, rfl, rfl, SqL.of W.wh.hs, a1, r, rfl, ⟨_, SqL.of hr1⟩, comp_list (K := K) (a := r) (xs := rs.map V.ref)
      (fun l i σ1 H2 => (∃ u, σ1 = [u, some (.int n')]) ∧ H l = none ∧ ∃ qs : List Addr, H2 = upd H l (.lst (qs.map V.ref)) ∧ TupsP H qs (((slot z y.now j y.ws).take i).filter fun p => !decide (p.1 = n'))) ?_ ?_ ?_ ?_⟩
    · intro l hl
      exact ⟨⟨none, rfl⟩, hl, [], rfl, .nil⟩
    · rintro l i σ1 H2 _ ⟨_, hl, qs, rfl, _⟩
      exact SqL.of (same_upd hl _ _ hr1)
    · rintro l i x σ1 H2 hx ⟨⟨u, rfl⟩, hl, qs, rfl, tq⟩
      obtain ⟨q, pr, rfl, hpi, hri, tp⟩ := tr1.get hx
      have hi := (List.getElem?_eq_some_iff.mp hpi).1
      have lq : (qs.map V.ref).length ≤ 100 := by
        rw [List.length_map, tq.length]
        exact Nat.le_trans (List.length_filter_le _ _) (Nat.le_trans (List.length_take_le _ _) (Nat.le_trans (Nat.le_of_lt hi) sll))
      refine ⟨_, rfl, q, _, _, _, rfl, rfl, SqT.of (same_upd hl _ _ tp), rfl, _, rfl, rfl, _, rfl, ?_⟩
      by_cases h0 : pr.1 = n'
      · rw [decide_eq_true (show V.int pr.1 = V.int n' by rw [h0])]
        refine iteF ⟨⟨_, rfl⟩, hl, qs, rfl, ?_⟩
        rw [take_snoc hpi, List.filter_append, List.filter_cons_of_neg (by simpa using h0), List.filter_nil, List.append_nil]
        exact tq
      · rw [decide_eq_false (show ¬ V.int pr.1 = V.int n' from fun z => h0 (V.int.inj z))]
        refine iteT ⟨_, rfl, _, upd_same, small_of lq (by omega), ⟨_, rfl⟩, hl, qs ++ [q], ?_, ?_⟩
        · rw [upd_upd, List.map_append]; rfl
        · rw [take_snoc hpi, List.filter_append, List.filter_cons_of_pos (by simpa using h0), List.filter_nil]
          exact Paired.snoc tq tp
    · rintro l σ1 H2 ⟨_, hl, qs, rfl, tq⟩
      rw [hrl, List.take_length, ← slot_drop] at tq
      have s2 : Same H (upd H l (.lst (qs.map V.ref))) := same_upd hl
      have hl2 : upd H l (.lst (qs.map V.ref)) l = some (.lst (qs.map V.ref)) := upd_same
      generalize upd H l (.lst (qs.map V.ref)) = H2 at s2 hl2
      refine ⟨_, rfl, p, C, dx, _, _, rfl, s2 _ _ ob, T.cl, T.nSl, f_slots _ _ _ _ _, _, rfl, sl, _, _, j, rfl, rfl, s2 _ _ W.wh.hs, ix, ?_⟩
      rw [map_set_ref]
      have nps : p ≠ sl := W.wh.p_sl
      have hd3 : upd H2 sl (.lst ((srs.set j l).map V.ref)) dd = some (.dK (dct y.ws)) := by rw [upd_ne (Ne.symm W.wh.sl_dd)]; exact s2 _ _ W.wh.hd
      refine ⟨_, rfl, p, C, dx, _, _, rfl, (by rw [upd_ne nps]; exact s2 _ _ ob), T.cl, T.nDu, f_due _ _ _ _ _, dd, rfl, .inl ⟨_, .inl hd3⟩, _, rfl, _, Sum.inl n', _, hd3, rfl, dv, ?_⟩
      rw [dct_drop]
      have nls : l ≠ sl := fun q => by rw [q, W.wh.hs] at hl; cases hl
      have nld : l ≠ dd := fun q => by rw [q, W.wh.hd] at hl; cases hl
      have kt : ∀ c xs, H c = some (.tup xs) → upd (upd H2 sl (.lst ((srs.set j l).map V.ref))) dd (.dK (dct (drop n' y.ws))) c = some (.tup xs) := fun c xs e => by
        rw [upd_ne (ne_of e W.wh.hd (by intro z; cases z)), upd_ne (ne_of e W.wh.hs (by intro z; cases z))]
        exact s2 _ _ e
      refine k _ (srs.set j l) (W.wh.swap (s' := { y with ws := drop n' y.ws }) ⟨dx, by rw [upd_ne W.wh.p_dd, upd_ne nps]; exact s2 _ _ ob⟩ (by rw [upd_ne W.wh.sl_dd, upd_same]) upd_same hl (fun c xs hc e => ?_) kt ⟨qs, ?_, tq.tups kt⟩ fun i hi => ?_) ?_
      · rw [upd_ne (fun q => W.wh.dd_srs (by rw [← q]; exact hc)), upd_ne (fun q => W.wh.nsl (by rw [← q]; exact hc))]
        exact s2 _ _ e
      · rw [upd_ne nld, upd_ne nls]; exact hl2
      · exact slot_drop_other W.good.nd hm (by rw [← hj]; omega)
      · refine ((Step.same s2).trans ((Step.put (.inr (.inl rfl))).trans (Step.put (.inr (.inr (.inl rfl)))))).withSrs fun c hc => ?_
        rcases List.mem_or_eq_of_mem_set hc with h | h
        · exact .inl h
        · exact .inr (by rw [h]; exact hl)
theorem scG : FnScope ["self", "place", "look", "number"] ["self"] (defScope sGoOn) := ⟨rfl, rfl, rfl, by decide +kernel, rfl, by decide +kernel, by decide +kernel⟩
theorem ok_goOn {f fT C : Addr} {fd fdT : FuncData} (F : Fun K "go_on" "Wheel.go_on" sGoOn f fd) (T : TxtW K mg C) (FT : Fun K "ticked" "ticked" sTicked fT fdT) (bT : L2.Binds K fdT ["slot"] []) (mT : mg "ticked" = some (.ref fT)) :
    FnOk P w K mg base CX0 2 f fd ["self"] (spGoOn C) := by
  have GT : FnOk P w K mg base CX0 1 fT fdT ["slot"] (spTicked K) := ok_ticked FT
  refine F.ok scG (fun vs H Q E h => ?_) (fun cdv A outer s H vs Q E hr h => ?_)
  · obtain ⟨z, p, sl, dd, srs, y, rfl, _⟩ := h
    rfl
  · obtain ⟨z, p, sl, dd, srs, y, rfl, W, k⟩ := h
    obtain ⟨dx, ob⟩ := W.wh.ob
    have hz := W.z0
    obtain ⟨j, r, hj, er, a1, ix⟩ := slot_place (m := y.now + 1) hz W.wh.len
    obtain ⟨rs, hr0, tr0⟩ := W.wh.at_ j r er
    have hmr : r ∈ srs := List.mem_of_getElem? er
    have sll : (slot z y.now j y.ws).length ≤ 100 := Nat.le_trans (slot_len _ _ _ _) W.few
    refine ⟨_, pss_cons (ps_fld (pv 0) (pe_op op_add (pe_fld (pv 0) rfl) pe_int) rfl)
      (pss_cons (ps_set (i := 1) scG.nd rfl (Or.inl rfl) (pe_op op_mod (pe_fld (pv 0) rfl) (pe_fld (pv 0) rfl)))
      (pss_cons (ps_set (i := 2) scG.nd rfl (Or.inl rfl) (pe_call GT hr (by rfl) mT FT.kp bT .nil pass0 (pa_cons (pe_ix ix_list (pe_fld (pv 0) rfl) (pv 1) fun _ _ => rfl) pa_nil)))
      (pss_cons (ps_asg (pe_ix ix_tup (pv 2) pe_int fun _ _ => rfl) (pg_sub (pe_fld (pv 0) rfl) (pv 1) set_list))
      (pss_cons (ps_for PassesOwn.never rfl (pi_list (pe_ix ix_tup (pv 2) pe_int fun _ _ => rfl)) (pg_name (i := 3) scG.nd rfl (Or.inl rfl))
        (pss_one (ps_expr (pe_dpop1 (pe_fld (pv 0) rfl) (pv 3) ⟨rfl, rfl, rfl, rfl⟩))))
      (pss_one (ps_ret (pe_ix ix_tup (pv 2) pe_int fun _ _ => rfl))))))), ?_⟩
    refine ⟨_, rfl, p, C, dx, _, _, rfl, ob, T.cl, T.nNw, f_now _ _ _ _ _, _, _, rfl, rfl, _, rfl, p, C, dx, _, rfl, ob, T.cl, T.nNw, (by show 5 < 1000; decide), ?_⟩
    rw [put_now]
    have ob1 : upd H p (.ins C dx (flds z sl (y.now + 1) dd y.came)) p = some (.ins C dx (flds z sl (y.now + 1) dd y.came)) := upd_same
    have k1 : ∀ c o, H c = some o → c ≠ p → upd H p (.ins C dx (flds z sl (y.now + 1) dd y.came)) c = some o := fun c o e n => by rw [upd_ne n]; exact e
    have st1 : Step p sl dd srs srs H (upd H p (.ins C dx (flds z sl (y.now + 1) dd y.came))) := Step.put (.inl rfl)
    generalize upd H p (.ins C dx (flds z sl (y.now + 1) dd y.came)) = H1 at ob1 k1 st1
    have hs1 := k1 _ _ W.wh.hs (Ne.symm W.wh.p_sl)
    have hd1 := k1 _ _ W.wh.hd (Ne.symm W.wh.p_dd)
    have kt1 : ∀ c xs, H c = some (.tup xs) → H1 c = some (.tup xs) := fun c xs e => k1 _ _ e (ne_of e ob (by intro z; cases z))
    have hr1 := k1 _ _ hr0 (ne_of hr0 ob (by intro z; cases z))
    have tr1 := tr0.tups kt1
    refine ⟨_, rfl, p, C, dx, _, _, rfl, ob1, T.cl, T.nNw, f_now _ _ _ _ _, _, rfl, p, C, dx, _, _, rfl, ob1, T.cl, T.nSz, f_size _ _ _ _ _, _, _, rfl, rfl, hz, ?_⟩
    refine ⟨_, rfl, p, C, dx, _, _, rfl, ob1, T.cl, T.nSl, f_slots _ _ _ _ _, _, rfl, sl, _, _, _, rfl, rfl, SqL.of hs1, a1, r, rs, _, rfl, SqL.of hr1, tr1, by omega, fun lk l1 l2 qs H2 s2 flk fl1 fl2 n12 e1 e2 e3 tq => ?_⟩
    refine ⟨_, rfl, lk, _, _, _, rfl, rfl, SqT.of e1, rfl, _, rfl, p, C, dx, _, _, rfl, s2 _ _ ob1, T.cl, T.nSl, f_slots _ _ _ _ _, _, rfl, sl, _, _, j, rfl, rfl, s2 _ _ hs1, ix, ?_⟩
    rw [map_set_ref]
    have nps : p ≠ sl := W.wh.p_sl
    have n1s : l1 ≠ sl := fun q => by rw [q, hs1] at fl1; cases fl1
    have n2s : l2 ≠ sl := fun q => by rw [q, hs1] at fl2; cases fl2
    have n1d : l1 ≠ dd := fun q => by rw [q, hd1] at fl1; cases fl1
    have n2d : l2 ≠ dd := fun q => by rw [q, hd1] at fl2; cases fl2
    have nks : lk ≠ sl := fun q => by rw [q, hs1] at flk; cases flk
    have nkd : lk ≠ dd := fun q => by rw [q, hd1] at flk; cases flk
    have rq : ring (slot z y.now j y.ws) = (due (y.now + 1) y.ws).map V.int := by rw [ring_eq, hj, ring_slot hz _ W.good.later]
    have wq : wait (slot z y.now j y.ws) = slot z (y.now + 1) j (rest (y.now + 1) y.ws) := by rw [hj]; exact wait_slot hz _ W.good.later
    rw [rq] at e2
    rw [wq] at tq
    -- the heap behind the slot's laying
    have hH3 : ∀ c, c ≠ sl → upd H2 sl (.lst ((srs.set j l2).map V.ref)) c = H2 c := fun c n => upd_ne n
    have hS3 : upd H2 sl (.lst ((srs.set j l2).map V.ref)) sl = some (.lst ((srs.set j l2).map V.ref)) := upd_same
    have st3 : Step p sl dd srs srs H (upd H2 sl (.lst ((srs.set j l2).map V.ref))) := st1.trans ((Step.same s2).trans (Step.put (.inr (.inl rfl))))
    generalize upd H2 sl (.lst ((srs.set j l2).map V.ref)) = H3 at hH3 hS3 st3
    have ob3 : H3 p = some (.ins C dx (flds z sl (y.now + 1) dd y.came)) := (hH3 _ nps).trans (s2 _ _ ob1)
    have hl3 : H3 l1 = some (.lst ((due (y.now + 1) y.ws).map V.int)) := (hH3 _ n1s).trans e2
    have hk3 : H3 lk = some (.tup [.ref l1, .ref l2]) := (hH3 _ nks).trans e1
    refine ⟨_, rfl, lk, _, _, _, rfl, rfl, SqT.of hk3, rfl, l1, rfl, ⟨_, SqL.of hl3⟩, for_list (K := K) (a := l1) (xs := (due (y.now + 1) y.ws).map V.int)
      (fun i σ H4 => (∃ x3 : Option V, σ = [some (.ref p), some (.int ((y.now + 1) % z)), some (.ref lk), x3]) ∧ (∀ c, c ≠ dd → H4 c = H3 c) ∧ H4 dd = some (.dK (dct (((due (y.now + 1) y.ws).take i).foldl (fun w n => drop n w) y.ws))))
      ⟨⟨none, rfl⟩, fun _ _ => rfl, (hH3 _ (Ne.symm W.wh.sl_dd)).trans (s2 _ _ hd1)⟩ (fun i σ H4 _ ⟨_, e4, _⟩ => SqL.of ((e4 _ n1d).trans hl3)) ?_ ?_⟩
    · rintro i x σ H4 hx ⟨⟨x3, rfl⟩, e4, d4⟩
      rw [List.getElem?_map] at hx
      cases hn : (due (y.now + 1) y.ws)[i]? with
      | none => rw [hn] at hx; cases hx
      | some n =>
        rw [hn] at hx
        have ex : V.int n = x := Option.some.inj hx
        subst ex
        have still := due_still W.good.nd hn
        obtain ⟨q, hq, eq⟩ := List.mem_map.mp still
        have dv := dct_some (nodup_fold ((due (y.now + 1) y.ws).take i) W.good.nd) hq
        have eq' : q.1 = n := eq
        rw [eq'] at dv
        refine ⟨_, rfl, p, C, dx, _, _, rfl, (e4 _ W.wh.p_dd).trans ob3, T.cl, T.nDu, f_due _ _ _ _ _, dd, rfl, .inl ⟨_, .inl d4⟩, _, rfl, _, Sum.inl n, _, d4, rfl, dv, ?_⟩
        refine ⟨⟨_, rfl⟩, fun c hc => by rw [upd_ne hc]; exact e4 c hc, ?_⟩
        rw [upd_same, dct_drop, take_snoc hn, List.foldl_append]
        rfl
    · rintro σ H4 ⟨⟨x3, rfl⟩, e4, d4⟩
      rw [List.length_map, List.take_length, fold_due W.good.nd] at d4
      have kt : ∀ c xs, H c = some (.tup xs) → H4 c = some (.tup xs) := fun c xs e => by
        rw [e4 c (ne_of e W.wh.hd (by intro z; cases z)), hH3 c (ne_of e W.wh.hs (by intro z; cases z))]
        exact s2 _ _ (kt1 _ _ e)
      have kt2 : ∀ c xs, H2 c = some (.tup xs) → H4 c = some (.tup xs) := fun c xs e => by
        rw [e4 c (ne_of e (s2 _ _ hd1) (by intro z; cases z)), hH3 c (ne_of e (s2 _ _ hs1) (by intro z; cases z))]
        exact e
      have fl1' : H l1 = none := st1.grow _ fl1
      have fl2' : H l2 = none := st1.grow _ fl2
      have nl1 : l1 ∉ srs.set j l2 := fun h => by
        rcases List.mem_or_eq_of_mem_set h with h | h
        · obtain ⟨xs, e⟩ := W.wh.lst h
          rw [fl1'] at e; cases e
        · exact n12 h
      refine ⟨_, rfl, lk, _, _, _, rfl, rfl, SqT.of ((e4 _ nkd).trans hk3), rfl, k l1 H4 (srs.set j l2) (W.wh.swap (s' := tick1 y) ⟨dx, (e4 _ W.wh.p_dd).trans ob3⟩ ((e4 _ W.wh.sl_dd).trans hS3) d4 fl2' (fun c xs hc e => ?_) kt ⟨qs, ?_, tq.tups kt2⟩ fun i hi => ?_) ?_ fl1' nl1 ((e4 _ n1d).trans hl3)⟩
      · rw [e4 c (fun q => W.wh.dd_srs (by rw [← q]; exact hc)), hH3 c (fun q => W.wh.nsl (by rw [← q]; exact hc))]
        exact s2 _ _ (k1 _ _ e (fun q => W.wh.p_srs (by rw [← q]; exact hc)))
      · rw [e4 _ n2d, hH3 _ n2s]; exact e3
      · exact other_slot hz (by rw [← hj]; omega) y.ws
      · refine (st3.trans (⟨fun c o e _ _ nd _ => by rw [e4 c nd]; exact e, fun c h => .inl h, fun c h => ?_⟩ : Step p sl dd srs srs H3 H4)).withSrs fun c hc => ?_
        · by_cases q : c = dd
          · rw [q, d4] at h; cases h
          · rw [e4 c q] at h; exact h
        · rcases List.mem_or_eq_of_mem_set hc with h | h
          · exact .inl h
          · exact .inr (by rw [h]; exact fl2')
end
end BwP

set_option Elab.async false
set_option linter.all false
set_option maxRecDepth 100000
set_option maxHeartbeats 4000000
/-! The day's functions. -/
namespace BwP
open PySem L2 Bw BwM PyProof.Rows
/-- the wheel's methods and what they promise -/
structure Ms (P : Program) (w : World) (K : PySem.W.Frag) (mg : Str → Option Value) (base : Heap) (C : Addr) where
  T : TxtW K mg C
  fI : Addr
  fdI : FuncData
  GI : FnOk P w K mg base CX0 1 fI fdI ["self", "size"] (spInit C)
  bI : L2.Binds K fdI ["self", "size"] []
  mI : Mk K C fI
  fW : Addr
  fdW : FuncData
  GW : FnOk P w K mg base CX0 1 fW fdW ["self", "number"] (spWaits C)
  bW : L2.Binds K fdW ["self", "number"] []
  mW : Meth K C "waits" fW
  fN : Addr
  fdN : FuncData
  GN : FnOk P w K mg base CX0 3 fN fdN ["self", "after"] (spSetNext C)
  bN : L2.Binds K fdN ["self", "after"] []
  mN : Meth K C "set_next" fN
  fH : Addr
  fdH : FuncData
  GH : FnOk P w K mg base CX0 2 fH fdH ["self", "number", "after"] (spHang C)
  bH : L2.Binds K fdH ["self", "number", "after"] []
  mH : Meth K C "hang" fH
  fO : Addr
  fdO : FuncData
  GO : FnOk P w K mg base CX0 1 fO fdO ["self", "number"] (spTakeOff C)
  bO : L2.Binds K fdO ["self", "number"] []
  mO : Meth K C "take_off" fO
  fG : Addr
  fdG : FuncData
  GG : FnOk P w K mg base CX0 2 fG fdG ["self"] (spGoOn C)
  bG : L2.Binds K fdG ["self"] []
  mG : Meth K C "go_on" fG
section
variable {P : Program} {w : World} {K : PySem.W.Frag} {mg : Str → Option Value} {base : Heap} {C : Addr}
theorem scB : FnScope ["wheel", "after"] ["wheel", "after"] (defScope sSetBell) := ⟨rfl, rfl, rfl, by decide +kernel, rfl, by decide +kernel, by decide +kernel⟩
theorem ok_setBell {f : Addr} {fd : FuncData} (F : Fun K "set_bell" "set_bell" sSetBell f fd) (M : Ms P w K mg base C) : FnOk P w K mg base CX0 4 f fd ["wheel", "after"] (spSetBell C) := by
  have T := M.T
  obtain ⟨tT, eT⟩ := T.noT
  refine F.ok scB (fun vs H Q E h => ?_) (fun cdv A outer s H vs Q E hr h => ?_)
  · obtain ⟨z, p, sl, dd, srs, y, a, rfl, _⟩ := h
    rfl
  · obtain ⟨z, p, sl, dd, srs, y, a, rfl, W, k⟩ := h
    obtain ⟨dx, ob⟩ := W.wh.ob
    refine ⟨_, pss_cons (ps_if (pt_cmpR op_lt (pv 1) pe_int (nomark _)) (pss_one (ps_ret (pe_glob (v := .str "no ticks") (by rfl) eT ⟨tT, rfl⟩))) pss_nil)
      (pss_one (ps_ret (pe_meth (pv 0) T.cl M.mN M.GN hr M.bN .nil pass0 (pa_cons (pv 1) pa_nil)))), ?_⟩
    refine ⟨_, rfl, _, _, rfl, rfl, _, rfl, ?_⟩
    by_cases h1 : a < 1
    · rw [decide_eq_true h1]
      have e1 : told y (.set a) = .noTicks := if_pos h1
      refine iteT (k _ H srs (by rw [next_set, if_pos h1]; exact W.wh) Step.refl (by rw [e1]; rfl) fun l e => nomatch e)
    · rw [decide_eq_false h1]
      have e1 : told y (.set a) = .num y.came := if_neg h1
      refine iteF ⟨_, rfl, p, dx, _, rfl, ob, f_no _ _ _ _ _ (by decide +kernel) (by decide +kernel) (by decide +kernel) (by decide +kernel) (by decide +kernel), _, rfl, z, p, sl, dd, srs, y, a, rfl, W, fun H' W' st => ?_⟩
      exact k _ H' srs (by rw [next_set, if_neg h1]; exact W') st (by rw [e1]; rfl) fun l e => nomatch e
theorem scPO : FnScope ["wheel", "number", "after"] ["wheel", "number", "after"] (defScope sPutOff) := ⟨rfl, rfl, rfl, by decide +kernel, rfl, by decide +kernel, by decide +kernel⟩
theorem ok_putOff {f : Addr} {fd : FuncData} (F : Fun K "put_off" "put_off" sPutOff f fd) (M : Ms P w K mg base C) : FnOk P w K mg base CX0 3 f fd ["wheel", "number", "after"] (spPutOff C) := by
  have T := M.T
  obtain ⟨tT, eT⟩ := T.noT
  obtain ⟨tB, eB⟩ := T.noB
  refine F.ok scPO (fun vs H Q E h => ?_) (fun cdv A outer s H vs Q E hr h => ?_)
  · obtain ⟨z, p, sl, dd, srs, y, n, a, rfl, _⟩ := h
    rfl
  · obtain ⟨z, p, sl, dd, srs, y, n, a, rfl, W, k⟩ := h
    have hr1 : Room 1 _ := hr.mono (by decide)
    obtain ⟨dx, ob⟩ := W.wh.ob
    refine ⟨_, pss_cons (ps_if (pt_not (pt_val (pe_meth (pv 0) T.cl M.mW M.GW hr1 M.bW .nil pass0 (pa_cons (pv 1) pa_nil)))) (pss_one (ps_ret (pe_glob (v := .str "no bell") (by rfl) eB ⟨tB, rfl⟩))) pss_nil)
      (pss_cons (ps_if (pt_cmpR op_lt (pv 2) pe_int (nomark _)) (pss_one (ps_ret (pe_glob (v := .str "no ticks") (by rfl) eT ⟨tT, rfl⟩))) pss_nil)
      (pss_cons (ps_expr (pe_meth (pv 0) T.cl M.mO M.GO hr1 M.bO .nil pass0 (pa_cons (pv 1) pa_nil)))
      (pss_cons (ps_expr (pe_meth (pv 0) T.cl M.mH M.GH hr M.bH .nil pass0 (pa_cons (pv 1) (pa_cons (pv 2) pa_nil))))
      (pss_one (ps_ret pe_bl))))), ?_⟩
    refine ⟨_, rfl, p, dx, _, rfl, ob, f_no _ _ _ _ _ (by decide +kernel) (by decide +kernel) (by decide +kernel) (by decide +kernel) (by decide +kernel), _, rfl, z, p, sl, dd, srs, y, n, rfl, W, _, rfl, ?_⟩
    by_cases hw : waits y n
    · rw [decide_eq_true hw]
      have hnn : ¬ ¬ waits y n := fun q => q hw
      refine iteF ⟨_, rfl, _, _, rfl, rfl, _, rfl, ?_⟩
      by_cases h1 : a < 1
      · rw [decide_eq_true h1]
        have e1 : told y (.off n a) = .noTicks := (if_neg hnn).trans (if_pos h1)
        refine iteT (k _ H srs (by rw [next_off, if_neg hnn, if_pos h1]; exact W.wh) Step.refl (by rw [e1]; rfl) fun l e => nomatch e)
      · rw [decide_eq_false h1]
        have e1 : told y (.off n a) = .yes := (if_neg hnn).trans (if_neg h1)
        refine iteF ⟨_, rfl, p, dx, _, rfl, ob, f_no _ _ _ _ _ (by decide +kernel) (by decide +kernel) (by decide +kernel) (by decide +kernel) (by decide +kernel), _, rfl, z, p, sl, dd, srs, y, n, rfl, W, hw, fun H1 srs1 W1 st1 => ?_⟩
        obtain ⟨dx1, ob1⟩ := W1.ob
        refine ⟨_, rfl, p, dx1, _, rfl, ob1, f_no _ _ _ _ _ (by decide +kernel) (by decide +kernel) (by decide +kernel) (by decide +kernel) (by decide +kernel), _, rfl, _, rfl, z, p, sl, dd, srs1, _, n, a, rfl, W.z0, W.z1, W1, Nat.le_trans (drop_len _ _) W.few, not_in_drop, fun H2 W2 st2 => ?_⟩
        exact k _ H2 srs1 (by rw [next_off, if_neg hnn, if_neg h1]; exact W2) (st1.trans st2) (by rw [e1]; rfl) fun l e => nomatch e
    · rw [decide_eq_false hw]
      have e1 : told y (.off n a) = .noBell := if_pos hw
      refine iteT (k _ H srs (by rw [next_off, if_pos hw]; exact W.wh) Step.refl (by rw [e1]; rfl) fun l e => nomatch e)
theorem scSO : FnScope ["wheel", "number"] ["wheel", "number"] (defScope sStrike) := ⟨rfl, rfl, rfl, by decide +kernel, rfl, by decide +kernel, by decide +kernel⟩
theorem ok_strike {f : Addr} {fd : FuncData} (F : Fun K "strike_off" "strike_off" sStrike f fd) (M : Ms P w K mg base C) : FnOk P w K mg base CX0 2 f fd ["wheel", "number"] (spStrike C) := by
  have T := M.T
  obtain ⟨tB, eB⟩ := T.noB
  refine F.ok scSO (fun vs H Q E h => ?_) (fun cdv A outer s H vs Q E hr h => ?_)
  · obtain ⟨z, p, sl, dd, srs, y, n, rfl, _⟩ := h
    rfl
  · obtain ⟨z, p, sl, dd, srs, y, n, rfl, W, k⟩ := h
    obtain ⟨dx, ob⟩ := W.wh.ob
    refine ⟨_, pss_cons (ps_if (pt_not (pt_val (pe_meth (pv 0) T.cl M.mW M.GW hr M.bW .nil pass0 (pa_cons (pv 1) pa_nil)))) (pss_one (ps_ret (pe_glob (v := .str "no bell") (by rfl) eB ⟨tB, rfl⟩))) pss_nil)
      (pss_cons (ps_expr (pe_meth (pv 0) T.cl M.mO M.GO hr M.bO .nil pass0 (pa_cons (pv 1) pa_nil)))
      (pss_one (ps_ret pe_bl))), ?_⟩
    refine ⟨_, rfl, p, dx, _, rfl, ob, f_no _ _ _ _ _ (by decide +kernel) (by decide +kernel) (by decide +kernel) (by decide +kernel) (by decide +kernel), _, rfl, z, p, sl, dd, srs, y, n, rfl, W, _, rfl, ?_⟩
    by_cases hw : waits y n
    · rw [decide_eq_true hw]
      have hnn : ¬ ¬ waits y n := fun q => q hw
      have e1 : told y (.strike n) = .yes := if_neg hnn
      refine iteF ⟨_, rfl, p, dx, _, rfl, ob, f_no _ _ _ _ _ (by decide +kernel) (by decide +kernel) (by decide +kernel) (by decide +kernel) (by decide +kernel), _, rfl, z, p, sl, dd, srs, y, n, rfl, W, hw, fun H1 srs1 W1 st1 => ?_⟩
      exact k _ H1 srs1 (by rw [next_strike, if_neg hnn]; exact W1) st1 (by rw [e1]; rfl) fun l e => nomatch e
    · rw [decide_eq_false hw]
      have e1 : told y (.strike n) = .noBell := if_pos hw
      refine iteT (k _ H srs (by rw [next_strike, if_pos hw]; exact W.wh) Step.refl (by rw [e1]; rfl) fun l e => nomatch e)
theorem scGB : FnScope ["wheel", "many", "rung", "step", "number"] ["wheel", "many"] (defScope sGoBy) := ⟨rfl, rfl, rfl, by decide +kernel, rfl, by decide +kernel, by decide +kernel⟩
theorem ok_goBy {f : Addr} {fd : FuncData} (F : Fun K "let_go_by" "let_go_by" sGoBy f fd) (M : Ms P w K mg base C) : FnOk P w K mg base CX0 3 f fd ["wheel", "many"] (spGoBy C) := by
  have T := M.T
  refine F.ok scGB (fun vs H Q E h => ?_) (fun cdv A outer s H vs Q E hr h => ?_)
  · obtain ⟨z, p, sl, dd, srs, y, m, rfl, _⟩ := h
    rfl
  · obtain ⟨z, p, sl, dd, srs, y, m, rfl, W, hm0, hm1, k⟩ := h
    refine ⟨_, pss_cons (ps_set (i := 2) scGB.nd rfl (Or.inl rfl) (pe_lst pa_nil))
      (pss_cons (ps_for PassesOwn.never rfl (pi_range1 (by rfl) T.range (pa_cons (pv 1) pa_nil)) (pg_name (i := 3) scGB.nd rfl (Or.inl rfl))
        (pss_one (ps_for PassesOwn.never rfl (pi_list (pe_meth0 (pv 0) T.cl M.mG M.GG hr M.bG .nil pass0)) (pg_name (i := 4) scGB.nd rfl (Or.inl rfl))
          (pss_one (ps_expr (pe_bm PySem.F.plainAttrs_list PySem.F.slot_list_append PySem.F.type_list_append mt_append (pv 2) (pa_cons (pe_tup (pa_cons (pe_fld (pv 0) rfl) (pa_cons (pv 4) pa_nil))) pa_nil)))))))
      (pss_one (ps_ret (pv 2)))), ?_⟩
    refine ⟨Nat.zero_le _, fun g fg => ?_⟩
    have gs : g ≠ sl := fun q => by have := W.wh.hs; rw [← q, fg] at this; cases this
    have gd : g ≠ dd := fun q => by have := W.wh.hd; rw [← q, fg] at this; cases this
    have gp : g ≠ p := fun q => by obtain ⟨dx, ob⟩ := W.wh.ob; rw [← q, fg] at ob; cases ob
    have gm : g ∉ srs := fun h => by obtain ⟨rs, e⟩ := W.wh.lst h; rw [fg] at e; cases e
    refine ⟨_, rfl, m, rfl, by omega, by omega, for_range (lo := 0) (n := m.toNat)
      (fun i σ H2 => (∃ x3 x4 : Option V, σ = [some (.ref p), some (.int m), some (.ref g), x3, x4]) ∧ ∃ (srs2 rs : List Addr), Wh C z H2 p sl dd srs2 (ticks i y) ∧ Step p sl dd srs srs2 H H2 ∧ g ∉ srs2 ∧ H2 g = some (.lst (rs.map V.ref)) ∧ TupsP H2 rs (rungs i y))
      ⟨⟨none, none, rfl⟩, srs, [], W.wh.same (same_upd fg), Step.same (same_upd fg), gm, upd_same, .nil⟩ ?_ ?_⟩
    · rintro i σ H2 hi ⟨⟨x3, x4, rfl⟩, srs2, rs, W2, st2, gm2, hg2, tr2⟩
      obtain ⟨dx2, ob2⟩ := W2.ob
      have few2 : (ticks i y).ws.length ≤ 100 := by have := rungs_len i y; have := W.few; omega
      refine ⟨_, rfl, p, dx2, _, rfl, ob2, f_no _ _ _ _ _ (by decide +kernel) (by decide +kernel) (by decide +kernel) (by decide +kernel) (by decide +kernel), z, p, sl, dd, srs2, ticks i y, rfl, ⟨W.z0, W.z1, W2, Good.ticks i W.good, few2⟩, fun l H3 srs3 W3 st3 fl nl hl => ?_⟩
      have lg : l ≠ g := fun q => by rw [q, hg2] at fl; cases fl
      have gm3 : g ∉ srs3 := fun h => by
        rcases st3.new g h with h | h
        · exact gm2 h
        · rw [hg2] at h; cases h
      have hg3 : H3 g = some (.lst (rs.map V.ref)) := st3.keep _ _ hg2 gp gs gd gm2
      have tr3 := tr2.tups fun _ _ e => st3.tup W2 e
      have rl : rs.length ≤ 100 := by have := rungs_len i y; have := W.few; rw [tr2.length]; omega
      have dl : (due ((ticks i y).now + 1) (ticks i y).ws).length ≤ 100 := Nat.le_trans (due_len _ _) few2
      refine ⟨l, rfl, ⟨_, SqL.of hl⟩, for_list (K := K) (a := l) (xs := (due ((ticks i y).now + 1) (ticks i y).ws).map V.int)
        (fun j σ H4 => (∃ x4 : Option V, σ = [some (.ref p), some (.int m), some (.ref g), some (.int (0 + (i : Int))), x4]) ∧ ∃ rs' : List Addr, Wh C z H4 p sl dd srs3 (tick1 (ticks i y)) ∧ Step p sl dd srs srs3 H H4 ∧ H4 l = some (.lst ((due ((ticks i y).now + 1) (ticks i y).ws).map V.int)) ∧
          H4 g = some (.lst (rs'.map V.ref)) ∧ TupsP H4 rs' (rungs i y ++ ((due ((ticks i y).now + 1) (ticks i y).ws).take j).map fun n => ((ticks i y).now + 1, n)))
        ⟨⟨_, rfl⟩, rs, W3, st2.trans st3, hl, hg3, by simpa using tr3⟩ (fun j σ H4 _ ⟨_, _, _, _, e4, _⟩ => SqL.of e4) ?_ ?_⟩
      · rintro j x σ H4 hx ⟨⟨y4, rfl⟩, rs', W4, st4, hl4, hg4, tr4⟩
        rw [List.getElem?_map] at hx
        cases hn : (due ((ticks i y).now + 1) (ticks i y).ws)[j]? with
        | none => rw [hn] at hx; cases hx
        | some n =>
          rw [hn] at hx
          have ex : V.int n = x := Option.some.inj hx
          subst ex
          obtain ⟨dx4, ob4⟩ := W4.ob
          have jl := (List.getElem?_eq_some_iff.mp hn).1
          refine ⟨_, rfl, .inl ⟨rfl, _, SqL.of hg4⟩, _, rfl, p, C, dx4, _, _, rfl, ob4, T.cl, T.nNw, f_now _ _ _ _ _, _, rfl, (by show 2 ≤ sizeLine; decide), fun q fq => ?_⟩
          have s5 : Same H4 (upd H4 q (.tup [.int ((ticks i y).now + 1), .int n])) := same_upd fq
          have rl4 : (rs'.map V.ref).length ≤ 1000 := by
            have := rungs_len i y; have := W.few
            rw [List.length_map, tr4.length, List.length_append, List.length_map, List.length_take]; omega
          refine ⟨g, _, _, rfl, rfl, s5 _ _ hg4, small_of rl4 (by omega), ⟨_, rfl⟩, rs' ++ [q], (W4.same s5).keep (s5 _ _ hg4) gs gm3 (fun c o e n => by rw [upd_ne n]; exact e), ((st4.trans (Step.same s5)).fresh fg), ?_, by rw [upd_same, List.map_append]; rfl, ?_⟩
          · rw [upd_ne lg]; exact s5 _ _ hl4
          · have nq : q ≠ g := fun e => by rw [e, hg4] at fq; cases fq
            rw [take_snoc hn, List.map_append, ← List.append_assoc]
            refine Paired.snoc (tr4.tups fun c xs e => ?_) ?_
            · rw [upd_ne (ne_of e hg4 (by intro z; cases z))]; exact s5 _ _ e
            · show upd _ g _ q = _
              rw [upd_ne nq, upd_same]
              rfl
      · rintro σ H4 ⟨⟨y4, rfl⟩, rs', W4, st4, hl4, hg4, tr4⟩
        rw [List.length_map, List.take_length] at tr4
        refine ⟨⟨_, _, rfl⟩, srs3, rs', ?_, st4, gm3, hg4, ?_⟩
        · rw [ticks_succ]; exact W4
        · rw [rungs_succ]; exact tr4
    · rintro σ H2 ⟨⟨x3, x4, rfl⟩, srs2, rs, W2, st2, gm2, hg2, tr2⟩
      refine ⟨_, rfl, k (.ref g) H2 srs2 W2 st2 ⟨g, rs, rfl, hg2, tr2⟩ fun l e => ?_⟩
      cases e
      exact ⟨fg, gm2⟩
end
end BwP

set_option Elab.async false
set_option linter.all false
set_option maxRecDepth 100000
set_option maxHeartbeats 4000000
/-! One deed. -/
namespace BwP
open PySem L2 Bw BwM PyProof.Rows
/-- the day's functions -/
structure Fs (K : PySem.W.Frag) (mg : Str → Option Value) where
  fB : Addr
  fdB : FuncData
  FB : Fun K "set_bell" "set_bell" sSetBell fB fdB
  bB : L2.Binds K fdB ["wheel", "after"] []
  mB : mg "set_bell" = some (.ref fB)
  fP : Addr
  fdP : FuncData
  FP : Fun K "put_off" "put_off" sPutOff fP fdP
  bP : L2.Binds K fdP ["wheel", "number", "after"] []
  mP : mg "put_off" = some (.ref fP)
  fS : Addr
  fdS : FuncData
  FS : Fun K "strike_off" "strike_off" sStrike fS fdS
  bS : L2.Binds K fdS ["wheel", "number"] []
  mS : mg "strike_off" = some (.ref fS)
  fL : Addr
  fdL : FuncData
  FL : Fun K "let_go_by" "let_go_by" sGoBy fL fdL
  bL : L2.Binds K fdL ["wheel", "many"] []
  mL : mg "let_go_by" = some (.ref fL)
  fT : Addr
  fdT : FuncData
  FT : Fun K "answer_to" "answer_to" sAnswerTo fT fdT
  bT : L2.Binds K fdT ["wheel", "deed"] []
  mT : mg "answer_to" = some (.ref fT)
section
variable {P : Program} {w : World} {K : PySem.W.Frag} {mg : Str → Option Value} {base : Heap} {C : Addr}
theorem scAT : FnScope ["wheel", "deed"] ["wheel", "deed"] (defScope sAnswerTo) := ⟨rfl, rfl, rfl, by decide +kernel, rfl, by decide +kernel, by decide +kernel⟩
theorem ok_answerTo (D : Fs K mg) (M : Ms P w K mg base C) : FnOk P w K mg base CX0 5 D.fT D.fdT ["wheel", "deed"] (spAnswerTo C) := by
  have GB : FnOk P w K mg base CX0 4 D.fB D.fdB ["wheel", "after"] (spSetBell C) := ok_setBell D.FB M
  have GP : FnOk P w K mg base CX0 3 D.fP D.fdP ["wheel", "number", "after"] (spPutOff C) := ok_putOff D.FP M
  have GS : FnOk P w K mg base CX0 2 D.fS D.fdS ["wheel", "number"] (spStrike C) := ok_strike D.FS M
  have GL : FnOk P w K mg base CX0 3 D.fL D.fdL ["wheel", "many"] (spGoBy C) := ok_goBy D.FL M
  refine D.FT.ok scAT (fun vs H Q E h => ?_) (fun cdv A outer s H vs Q E hr h => ?_)
  · obtain ⟨z, p, sl, dd, srs, y, r, d, rfl, _⟩ := h
    rfl
  · obtain ⟨z, p, sl, dd, srs, y, r, d, rfl, W, hd, ht, k⟩ := h
    have hr2 : Room 2 _ := hr.mono (by decide)
    have hr3 : Room 3 _ := hr.mono (by decide)
    refine ⟨_, pss_cons (ps_if (pt_cmpR op_eq (pe_ix ix_tup (pv 1) pe_int fun _ _ => rfl) pe_str (nomark _)) (pss_one (ps_ret (pe_call GB hr (by rfl) D.mB D.FB.kp D.bB .nil pass0 (pa_cons (pv 0) (pa_cons (pe_ix ix_tup (pv 1) pe_int fun _ _ => rfl) pa_nil))))) pss_nil)
      (pss_cons (ps_if (pt_cmpR op_eq (pe_ix ix_tup (pv 1) pe_int fun _ _ => rfl) pe_str (nomark _)) (pss_one (ps_ret (pe_call GP hr3 (by rfl) D.mP D.FP.kp D.bP .nil pass0 (pa_cons (pv 0) (pa_cons (pe_ix ix_tup (pv 1) pe_int fun _ _ => rfl) (pa_cons (pe_ix ix_tup (pv 1) pe_int fun _ _ => rfl) pa_nil)))))) pss_nil)
      (pss_cons (ps_if (pt_cmpR op_eq (pe_ix ix_tup (pv 1) pe_int fun _ _ => rfl) pe_str (nomark _)) (pss_one (ps_ret (pe_call GS hr2 (by rfl) D.mS D.FS.kp D.bS .nil pass0 (pa_cons (pv 0) (pa_cons (pe_ix ix_tup (pv 1) pe_int fun _ _ => rfl) pa_nil))))) pss_nil)
      (pss_one (ps_ret (pe_call GL hr3 (by rfl) D.mL D.FL.kp D.bL .nil pass0 (pa_cons (pv 0) (pa_cons (pe_ix ix_tup (pv 1) pe_int fun _ _ => rfl) pa_nil))))))), ?_⟩
    cases d with
    | set a =>
      refine ⟨_, rfl, r, _, _, _, rfl, rfl, SqT.of hd, rfl, rfl, _, rfl, ?_⟩
      refine iteP (by decide +kernel) ?_
      exact ⟨_, rfl, _, rfl, r, _, _, _, rfl, rfl, SqT.of hd, rfl, z, p, sl, dd, srs, y, a, rfl, W, k⟩
    | off n a =>
      refine ⟨_, rfl, r, _, _, _, rfl, rfl, SqT.of hd, rfl, rfl, _, rfl, ?_⟩
      refine iteQ (by decide +kernel) ?_
      refine ⟨_, rfl, r, _, _, _, rfl, rfl, SqT.of hd, rfl, rfl, _, rfl, ?_⟩
      refine iteP (by decide +kernel) ?_
      exact ⟨_, rfl, _, rfl, r, _, _, _, rfl, rfl, SqT.of hd, rfl, _, rfl, r, _, _, _, rfl, rfl, SqT.of hd, rfl, z, p, sl, dd, srs, y, n, a, rfl, W, k⟩
    | strike n =>
      refine ⟨_, rfl, r, _, _, _, rfl, rfl, SqT.of hd, rfl, rfl, _, rfl, ?_⟩
      refine iteQ (by decide +kernel) ?_
      refine ⟨_, rfl, r, _, _, _, rfl, rfl, SqT.of hd, rfl, rfl, _, rfl, ?_⟩
      refine iteQ (by decide +kernel) ?_
      refine ⟨_, rfl, r, _, _, _, rfl, rfl, SqT.of hd, rfl, rfl, _, rfl, ?_⟩
      refine iteP (by decide +kernel) ?_
      exact ⟨_, rfl, _, rfl, r, _, _, _, rfl, rfl, SqT.of hd, rfl, z, p, sl, dd, srs, y, n, rfl, W, k⟩
    | tick m =>
      obtain ⟨m0, m1⟩ := ht m rfl
      refine ⟨_, rfl, r, _, _, _, rfl, rfl, SqT.of hd, rfl, rfl, _, rfl, ?_⟩
      refine iteQ (by decide +kernel) ?_
      refine ⟨_, rfl, r, _, _, _, rfl, rfl, SqT.of hd, rfl, rfl, _, rfl, ?_⟩
      refine iteQ (by decide +kernel) ?_
      refine ⟨_, rfl, r, _, _, _, rfl, rfl, SqT.of hd, rfl, rfl, _, rfl, ?_⟩
      refine iteQ (by decide +kernel) ?_
      exact ⟨_, rfl, _, rfl, r, _, _, _, rfl, rfl, SqT.of hd, rfl, z, p, sl, dd, srs, y, m, rfl, W, m0, m1, k⟩
end
/-- what a day has between two deeds -/
theorem win_days {C z} {H : Hp} {p sl dd : Addr} {srs : List Addr} {ds : List Deed} {i : Nat} (hz : 0 < z) (hz2 : z ≤ 1000) (hl : ds.length ≤ 63) (W : Wh C z H p sl dd srs (days (ds.take i) day0)) : WIn C z H p sl dd srs (days (ds.take i) day0) :=
  ⟨hz, hz2, W, Good.days _ good0, by
    have h1 := days_len (ds.take i) day0
    have h2 : (ds.take i).length ≤ 63 := by rw [List.length_take]; omega
    have h3 : day0.ws.length = 0 := rfl
    omega⟩
/-- the new wheel's start -/
theorem made {H H1 : Hp} {C x dx sl dd : Addr} {srs : List Addr} (nx : H x = none) (ndx : H dx = none) (nex : dx ≠ x) (kp : ∀ c o, upd (upd H dx (.own x)) x (.ins C dx []) c = some o → c ≠ x → H1 c = some o)
    (fsl : upd (upd H dx (.own x)) x (.ins C dx []) sl = none) (fdd : upd (upd H dx (.own x)) x (.ins C dx []) dd = none) (fsrs : ∀ c ∈ srs, upd (upd H dx (.own x)) x (.ins C dx []) c = none) : Same H H1 ∧ Fr H x sl dd srs := by
  have fr : ∀ c, upd (upd H dx (.own x)) x (.ins C dx []) c = none → H c = none := fun c e => by
    by_cases q : c = x
    · rw [q]; exact nx
    · rw [upd_ne q] at e
      by_cases q2 : c = dx
      · rw [q2]; exact ndx
      · rw [upd_ne q2] at e; exact e
  refine ⟨fun c o e => kp c o ?_ (ne_of_none e nx), nx, fr _ fsl, fr _ fdd, fun c h => fr _ (fsrs c h)⟩
  rw [upd_ne (ne_of_none e nx), upd_ne (ne_of_none e ndx)]
  exact e
end BwP

set_option Elab.async false
set_option linter.all false
set_option maxRecDepth 100000
set_option maxHeartbeats 4000000
/-! answers. -/
namespace BwP
open PySem L2 Bw BwM PyProof.Rows
section
variable {P : Program} {w : World} {K : PySem.W.Frag} {mg : Str → Option Value} {base : Heap} {C : Addr}
theorem scAn : FnScope ["size", "deeds", "wheel", "given", "deed"] ["size", "deeds"] (defScope sAnswers) := ⟨rfl, rfl, rfl, by decide +kernel, rfl, by decide +kernel, by decide +kernel⟩
theorem ok_answers {f : Addr} {fd : FuncData} (F : Fun K "answers" "answers" sAnswers f fd) (D : Fs K mg) (M : Ms P w K mg base C) : FnOk P w K mg base CX0 6 f fd ["size", "deeds"] spAnswers := by
  have T := M.T
  have GT : FnOk P w K mg base CX0 5 D.fT D.fdT ["wheel", "deed"] (spAnswerTo C) := ok_answerTo D M
  refine F.ok scAn (fun vs H Q E h => ?_) (fun cdv A outer s H vs Q E hr h => ?_)
  · obtain ⟨z, a, rs, ds, rfl, _⟩ := h
    rfl
  · obtain ⟨z, a, rs, ds, rfl, hz, hz2, ha, hds, hdl, htk, k⟩ := h
    have hr2 : Room 2 _ := hr.mono (by decide)
    refine ⟨_, pss_cons (ps_set (i := 2) scAn.nd rfl (Or.inl rfl) (pe_make M.mI M.GI hr2 (by rfl) T.mgC M.bI .nil pass0 (pa_cons (pv 0) pa_nil)))
      (pss_cons (ps_set (i := 3) scAn.nd rfl (Or.inl rfl) (pe_lst pa_nil))
      (pss_cons (ps_for PassesOwn.never rfl (pi_list (pv 1)) (pg_name (i := 4) scAn.nd rfl (Or.inl rfl))
        (pss_one (ps_expr (pe_bm PySem.F.plainAttrs_list PySem.F.slot_list_append PySem.F.type_list_append mt_append (pv 3) (pa_cons (pe_call GT hr (by rfl) D.mT D.FT.kp D.bT .nil pass0 (pa_cons (pv 2) (pa_cons (pv 4) pa_nil))) pa_nil)))))
      (pss_one (ps_ret (pv 3))))), ?_⟩
    refine ⟨_, rfl, fun x dx nx ndx nex => ⟨x, dx, z, rfl, upd_same, hz, hz2, fun sl dd srs H1 W1 kp fsl fdd fsrs => ⟨rfl, ?_⟩⟩⟩
    obtain ⟨s1, fr1⟩ := made nx ndx nex kp fsl fdd fsrs
    refine ⟨Nat.zero_le _, fun g fg => ?_⟩
    have gs : g ≠ sl := fun q => by have := W1.hs; rw [← q, fg] at this; cases this
    have gd : g ≠ dd := fun q => by have := W1.hd; rw [← q, fg] at this; cases this
    have gp : g ≠ x := fun q => by obtain ⟨dx, ob⟩ := W1.ob; rw [← q, fg] at ob; cases ob
    have gm : g ∉ srs := fun h => by obtain ⟨rs, e⟩ := W1.lst h; rw [fg] at e; cases e
    have fgH : H g = none := s1.free fg
    have hrl : (rs.map V.ref).length = ds.length := by rw [List.length_map]; exact hds.length
    refine ⟨_, rfl, a, rfl, ⟨_, SqL.of (same_updN s1 fgH _ _ ha)⟩, for_list (K := K) (a := a) (xs := rs.map V.ref)
      (fun i σ H2 => (∃ x4 : Option V, σ = [some (.int z), some (.ref a), some (.ref x), some (.ref g), x4]) ∧ Same H H2 ∧ ∃ (srs2 : List Addr) (xs : List V), Wh C z H2 x sl dd srs2 (days (ds.take i) day0) ∧ Fr H x sl dd srs2 ∧ g ∉ srs2 ∧ H2 g = some (.lst xs) ∧ Paired (AnsW H2 sl g srs2) xs (tolds (ds.take i) day0))
      ⟨⟨none, rfl⟩, same_updN s1 fgH, srs, [], W1.same (same_upd fg), fr1, gm, upd_same, .nil⟩ (fun i σ H2 _ ⟨_, s2, _⟩ => SqL.of (s2 _ _ ha)) ?_ ?_⟩
    · rintro i v0 σ H2 hx ⟨⟨x4, rfl⟩, s2, srs2, xs, W2, fr2, gm2, hg2, an2⟩
      rw [List.getElem?_map] at hx
      cases hri : rs[i]? with
      | none => rw [hri] at hx; cases hx
      | some r =>
        rw [hri] at hx
        have ex : V.ref r = v0 := Option.some.inj hx
        subst ex
        obtain ⟨d, hdi, hd⟩ := Paired_get hds hri
        have hd2 : DeedP H2 r d := DeedP.same (fun us e => s2 r _ e) hd
        have il := (List.getElem?_eq_some_iff.mp hdi).1
        refine ⟨_, rfl, .inl ⟨rfl, _, SqL.of hg2⟩, _, rfl, _, rfl, z, x, sl, dd, srs2, _, r, d, rfl, win_days hz hz2 hdl W2, hd2, (fun m e => htk m (by rw [← e]; exact List.mem_of_getElem? hdi)), fun v H3 srs3 W3 st3 an fv => ?_⟩
        have hg3 : H3 g = some (.lst xs) := st3.keep _ _ hg2 gp gs gd gm2
        have gm3 : g ∉ srs3 := fun h => by
          rcases st3.new g h with h | h
          · exact gm2 h
          · rw [hg2] at h; cases h
        have kp4 : ∀ c o, H3 c = some o → c ≠ g → upd H3 g (.lst (xs ++ [v])) c = some o := fun c o e n => by rw [upd_ne n]; exact e
        have xl : xs.length ≤ 63 := by rw [an2.length, tolds_len, List.length_take]; omega
        refine ⟨g, _, _, rfl, rfl, hg3, small_of xl (by omega), ⟨_, rfl⟩, same_updN (fr2.same s2 st3) fgH, srs3, xs ++ [v], ?_, fr2.step s2 st3, gm3, upd_same, ?_⟩
        · rw [take_snoc hdi, days_snoc]
          exact W3.keep hg3 gs gm3 kp4
        · rw [take_snoc hdi, tolds_snoc]
          refine Paired.snoc (L2.Paired.mapP an2 fun u n h => (h.step W2 st3).keep hg3 kp4) (AnsW.keep hg3 kp4 ⟨an, fun l e => ?_⟩)
          obtain ⟨f1, f2⟩ := fv l e
          exact ⟨(fun q => by rw [q, hg2] at f1; cases f1), (fun q => by rw [q, W2.hs] at f1; cases f1), f2⟩
    · rintro σ H2 ⟨⟨x4, rfl⟩, s2, srs2, xs, W2, fr2, gm2, hg2, an2⟩
      rw [hrl, List.take_length] at an2
      exact ⟨_, rfl, k g xs H2 s2 fgH hg2 (L2.Paired.mapP an2 fun u n h => h.1)⟩
end
end BwP

set_option Elab.async false
set_option linter.all false
set_option maxRecDepth 100000
/-! sorted(d) for a dict of fewer than 64 ints. -/
namespace L2
open PySem PySem.Spec PySem.Calls PyProof.Rows
section
variable {X : Cx}
theorem vals_of_ints : ∀ {us : List Value} {ns : List Int}, IntsAre us ns → Vals (ns.map V.int) us
  | _, _, .nil => .nil
  | _, _, .cons n t h => .cons ⟨t, rfl⟩ (vals_of_ints h)
/-- sorted(d): the keys, rising -/
theorem call_sortedD (hc : X.calm = true) : CallR X (.builtin "sorted") (fun xs H Q => ∃ (a : Addr) (kvs : List (Key × V)) (ns : List Int), xs = [.ref a] ∧ H a = some (.dK kvs) ∧ (kvs.map fun kv => kV kv.1) = ns.map V.int ∧ ns.length < 64 ∧
    ∀ (l : Addr) (ns' : List Int), H l = none → ns'.Perm ns → ns'.Pairwise (fun a b : Int => a ≤ b) → Q (.ref l) (upd H l (.lst (ns'.map V.int)))) := by
  intro pins s σ H xs us Q I r h
  obtain ⟨a, kvs, ns, rfl, hH, hkv, h64, q⟩ := h
  obtain ⟨u, rfl, rx⟩ := vals1 r
  cases rx
  obtain ⟨hz, lo, vs, rel, dd⟩ := dk_of I.hok hH
  obtain ⟨ep, hat⟩ := dd.dictAt
  have hlen := rel.length
  have hln : kvs.length = ns.length := by have := congrArg List.length hkv; simpa using this
  refine Calls.call_function_entry kind_sorted plain_sorted entry_sorted (args_sorted1 _) ?_
  unfold Builtin.«sorted»
  refine wpAny_bind (m := checkCount "sorted" 1 1 _) (wpAny_pure ?_)
  refine wpAny_bind (PySem.W.kdu_collect (A := X.A.in1) (PySem.W.kdl_dict (knd := mixKind X.prog X.w) (kvs := vs) (ep := ep) lo) (I.ok.hd hc) hat (by omega) fun h' tk acc hk hacc => ?_)
  have hal : acc.toList.length = vs.length := by rw [Array.length_toList]; exact hacc.1
  have hv : Vals (ns.map V.int) acc.toList := by
    rw [← hkv]
    exact vals_keys rel hal fun j v e => hacc.2 j v (by rw [← Array.getElem?_toList]; exact e)
  have hI := intsAre_of hv
  refine wpAny_bind (wpAny_newList ?_ (by rw [hal, sizeLine_eq]; omega))
  have hoL : (h'.push (seqObj "list" acc.toList.toArray 0)).get? h'.objs.size = some (seqObj "list" acc.toList.toArray 0) := Heap.get?_push_size _ rfl
  show wpAny _ _ _ _ _ { s with heap := h'.push (seqObj "list" acc.toList.toArray 0), toks := tk }
  refine wpAny_bind (wpAny_holding (wpAny_call_entry slot_list_sort ⟨_, hoL, rfl⟩ entry_list_sort
    (list_sort_tree (s := { s with heap := h'.push (seqObj "list" acc.toList.toArray 0), toks := tk }) hoL hI (by omega) fun out ns' a1 a2 a3 => ⟨_, rfl, wpAny_pure ⟨_, rfl, ?_⟩⟩) (args_list_sort _)))
  obtain ⟨c, e⟩ := sortedHeap_at (out := out) hoL
  have I1 := I.kept (t' := tk) hk
  refine ⟨.ref h'.objs.size, _, I1.laid (t' := tk) (fun b u e1 => ?_) (Nat.le_refl _) (o := .lst (ns'.map V.int)) ?_, rfl, q _ _ (I1.hok.fresh (Nat.le_refl _)) a2 a3⟩
  · have hlt := Heap.lt_size e1
    rw [sortedHeap_old (Nat.ne_of_lt hlt) (by rw [size_push']; exact Nat.lt_succ_of_lt hlt)]
    exact Heap.get?_push_of_some _ e1
  · refine ⟨?_, out.toList, c, vals_of_ints a1, by rw [Array.toArray_toList]; exact e⟩
    rw [List.length_map, a2.length_eq, sizeLine_eq]
    omega
end
end L2

set_option Elab.async false
set_option linter.all false
set_option maxRecDepth 100000
set_option maxHeartbeats 4000000
/-! ticks_to_go, behind. -/
namespace BwP
open PySem L2 Bw BwM PyProof.Rows
abbrev scY0 : Scope := scOf sToGo 0
theorem bsY : BlkScope scY0 := ⟨rfl, by decide +kernel, by decide +kernel⟩
theorem frY : ∀ x ∈ scY0.names, x.2 = .free → (defScope sToGo).names.lookup x.1 = some .cell := by decide +kernel
theorem ndY : (["number", "self"] : List Str).Nodup := by decide +kernel
section
variable {P : Program} {w : World} {K : PySem.W.Frag} {mg : Str → Option Value} {base : Heap} {C : Addr}
theorem scY : FnScope ["self"] ["self"] (defScope sToGo) := ⟨rfl, rfl, rfl, by decide +kernel, rfl, by decide +kernel, by decide +kernel⟩
theorem ok_toGo {f : Addr} {fd : FuncData} (F : Fun K "ticks_to_go" "Wheel.ticks_to_go" sToGo f fd) (T : TxtW K mg C) (mS : mg "sorted" = none) : FnOk P w K mg base CX0 1 f fd ["self"] (spToGo C) := by
  refine F.ok scY (fun vs H Q E h => ?_) (fun cdv A outer s H vs Q E hr h => ?_)
  · obtain ⟨z, p, sl, dd, srs, y, rfl, _⟩ := h
    rfl
  · obtain ⟨z, p, sl, dd, srs, y, rfl, W, h64, k⟩ := h
    have hu := hu_of hr
    obtain ⟨dx, ob⟩ := W.wh.ob
    refine ⟨_, pss_one (ps_ret (pe_comp (N := ["number", "self"]) (τ := capσ 1 [0]) rfl (pi_list (pe_callB (call_sortedD rfl) (by rfl) mS boot_sorted (pa_cons (pe_fld (pv 0) rfl) pa_nil))) bsY frY (fun σ _ => capJ rfl rfl rfl rfl rfl)
      ⟨fun _ _ _ _ _ => pg_nameB 0 ndY rfl rfl, fun _ _ _ _ _ => pf_nil, fun _ _ _ _ _ => pe_tup (pa_cons (pvB 0 rfl rfl) (pa_cons (pe_op op_sub (pe_dget hu (pe_fldB (pvC 1 rfl rfl rfl rfl) rfl) (pvB 0 rfl rfl) (fun _ _ => rfl)) (pe_fldB (pvC 1 rfl rfl rfl rfl) rfl)) pa_nil))⟩)), ?_⟩
    refine ⟨_, rfl, p, C, dx, _, _, rfl, ob, T.cl, T.nDu, f_due _ _ _ _ _, dd, _, y.ws.map (·.1), rfl, W.wh.hd, dct_keys _, by rw [List.length_map]; exact h64, fun so ns fso pm pw => ?_⟩
    have s1 : Same H (upd H so (.lst (ns.map V.int))) := same_upd fso
    have hso : upd H so (.lst (ns.map V.int)) so = some (.lst (ns.map V.int)) := upd_same
    generalize upd H so (.lst (ns.map V.int)) = H1 at s1 hso
    have nsl : ns.length < 64 := by rw [pm.length_eq, List.length_map]; exact h64
    refine ⟨so, rfl, ⟨_, SqL.of hso⟩, comp_list (K := K) (a := so) (xs := ns.map V.int)
      (fun l i σ1 H2 => (∃ u, σ1 = [u, some (.ref p)]) ∧ H1 l = none ∧ Same H1 H2 ∧ ∃ qs : List Addr, H2 l = some (.lst (qs.map V.ref)) ∧ TupsP H2 qs ((ns.take i).map fun n => (n, tkOf y.ws n - y.now))) ?_ ?_ ?_ ?_⟩
    · intro l hl
      exact ⟨⟨none, rfl⟩, hl, same_upd hl, [], upd_same, .nil⟩
    · rintro l i σ1 H2 _ ⟨_, hl, s2, _⟩
      exact SqL.of (s2 _ _ hso)
    · rintro l i x σ1 H2 hx ⟨⟨u, rfl⟩, hl, s2, qs, hl2, tq⟩
      rw [List.getElem?_map] at hx
      cases hn : ns[i]? with
      | none => rw [hn] at hx; cases hx
      | some n =>
        rw [hn] at hx
        have ex : V.int n = x := Option.some.inj hx
        subst ex
        have hm : n ∈ y.ws.map (·.1) := pm.mem_iff.mp (List.mem_of_getElem? hn)
        obtain ⟨pr, hp, en⟩ := List.mem_map.mp hm
        have en' : pr.1 = n := en
        have ob2 := s2 _ _ (s1 _ _ ob)
        have hd2 := s2 _ _ (s1 _ _ W.wh.hd)
        have dv : valV (dct y.ws) (Sum.inl n : Key) = some (.int pr.2) := by rw [← en']; exact dct_some W.good.nd hp
        have tv : tkOf y.ws n = pr.2 := by rw [← en']; exact tkOf_in W.good.nd hp
        have lq : (qs.map V.ref).length ≤ 64 := by
          rw [List.length_map, tq.length, List.length_map, List.length_take]; omega
        refine ⟨_, rfl, _, rfl, p, C, dx, _, _, rfl, ob2, T.cl, T.nDu, f_due _ _ _ _ _, _, rfl, dd, _, rfl, (by have := DGet.k (k := Sum.inl n) hd2; rw [dv] at this; exact this),
          _, rfl, p, C, dx, _, _, rfl, ob2, T.cl, T.nNw, f_now _ _ _ _ _, _, _, rfl, rfl, (by show 2 ≤ sizeLine; decide), fun q fq => ?_⟩
        have nq : q ≠ l := Ne.symm (ne_of_none hl2 fq)
        refine ⟨qs.map V.ref, same_upd fq _ _ hl2, small_of lq (by omega), ⟨_, rfl⟩, hl, same_updN (same_updN s2 (s2.free fq)) hl, qs ++ [q], by rw [upd_same, List.map_append]; rfl, ?_⟩
        rw [take_snoc hn, List.map_append]
        refine Paired.snoc (tq.tups fun c xs e => ?_) ?_
        · rw [upd_ne (ne_of e hl2 (by intro z; cases z)), upd_ne (ne_of_none e fq)]
          exact e
        · show upd _ l _ q = some (.tup [.int n, .int (tkOf y.ws n - y.now)])
          rw [upd_ne nq, upd_same, tv]
    · rintro l σ1 H2 ⟨_, hl, s2, qs, hl2, tq⟩
      rw [List.length_map, List.take_length] at tq
      refine k l qs _ H2 (s1.trans s2) hl2 tq ?_ ?_
      · rw [← left_tk W.good.nd]
        exact pm.map _
      · unfold Rising
        rw [List.pairwise_map]
        exact pw
theorem scBe : FnScope ["size", "deeds", "wheel", "deed"] ["size", "deeds"] (defScope sBehind) := ⟨rfl, rfl, rfl, by decide +kernel, rfl, by decide +kernel, by decide +kernel⟩
theorem ok_behind {f fY : Addr} {fd fdY : FuncData} (F : Fun K "behind" "behind" sBehind f fd) (D : Fs K mg) (M : Ms P w K mg base C) (GY : FnOk P w K mg base CX0 1 fY fdY ["self"] (spToGo C)) (bY : L2.Binds K fdY ["self"] []) (mY : Meth K C "ticks_to_go" fY) : FnOk P w K mg base CX0 6 f fd ["size", "deeds"] spBehind := by
  have T := M.T
  have GT : FnOk P w K mg base CX0 5 D.fT D.fdT ["wheel", "deed"] (spAnswerTo C) := ok_answerTo D M
  refine F.ok scBe (fun vs H Q E h => ?_) (fun cdv A outer s H vs Q E hr h => ?_)
  · obtain ⟨z, a, rs, ds, rfl, _⟩ := h
    rfl
  · obtain ⟨z, a, rs, ds, rfl, hz, hz2, ha, hds, hdl, htk, k⟩ := h
    have hr2 : Room 2 _ := hr.mono (by decide)
    have hr1 : Room 1 _ := hr.mono (by decide)
    refine ⟨_, pss_cons (ps_set (i := 2) scBe.nd rfl (Or.inl rfl) (pe_make M.mI M.GI hr2 (by rfl) T.mgC M.bI .nil pass0 (pa_cons (pv 0) pa_nil)))
      (pss_cons (ps_for PassesOwn.never rfl (pi_list (pv 1)) (pg_name (i := 3) scBe.nd rfl (Or.inl rfl))
        (pss_one (ps_expr (pe_call GT hr (by rfl) D.mT D.FT.kp D.bT .nil pass0 (pa_cons (pv 2) (pa_cons (pv 3) pa_nil))))))
      (pss_one (ps_ret (pe_tup (pa_cons (pe_fld (pv 2) rfl) (pa_cons (pe_meth0 (pv 2) T.cl mY GY hr1 bY .nil pass0) pa_nil)))))), ?_⟩
    refine ⟨_, rfl, fun x dx nx ndx nex => ⟨x, dx, z, rfl, upd_same, hz, hz2, fun sl dd srs H1 W1 kp fsl fdd fsrs => ⟨rfl, ?_⟩⟩⟩
    obtain ⟨s1, fr1⟩ := made nx ndx nex kp fsl fdd fsrs
    have hrl : (rs.map V.ref).length = ds.length := by rw [List.length_map]; exact hds.length
    refine ⟨_, rfl, a, rfl, ⟨_, SqL.of (s1 _ _ ha)⟩, for_list (K := K) (a := a) (xs := rs.map V.ref)
      (fun i σ H2 => (∃ x3 : Option V, σ = [some (.int z), some (.ref a), some (.ref x), x3]) ∧ Same H H2 ∧ ∃ srs2 : List Addr, Wh C z H2 x sl dd srs2 (days (ds.take i) day0) ∧ Fr H x sl dd srs2)
      ⟨⟨none, rfl⟩, s1, srs, W1, fr1⟩ (fun i σ H2 _ ⟨_, s2, _⟩ => SqL.of (s2 _ _ ha)) ?_ ?_⟩
    · rintro i v0 σ H2 hx ⟨⟨x3, rfl⟩, s2, srs2, W2, fr2⟩
      rw [List.getElem?_map] at hx
      cases hri : rs[i]? with
      | none => rw [hri] at hx; cases hx
      | some r =>
        rw [hri] at hx
        have ex : V.ref r = v0 := Option.some.inj hx
        subst ex
        obtain ⟨d, hdi, hd⟩ := Paired_get hds hri
        have hd2 : DeedP H2 r d := DeedP.same (fun us e => s2 r _ e) hd
        refine ⟨_, rfl, _, rfl, z, x, sl, dd, srs2, _, r, d, rfl, win_days hz hz2 hdl W2, hd2, (fun m e => htk m (by rw [← e]; exact List.mem_of_getElem? hdi)), fun v H3 srs3 W3 st3 an fv => ?_⟩
        refine ⟨⟨_, rfl⟩, fr2.same s2 st3, srs3, ?_, fr2.step s2 st3⟩
        rw [take_snoc hdi, days_snoc]
        exact W3
    · rintro σ H2 ⟨⟨x3, rfl⟩, s2, srs2, W2, fr2⟩
      have Wn := win_days hz hz2 hdl W2
      rw [hrl, List.take_length] at W2 Wn
      obtain ⟨dx2, ob2⟩ := W2.ob
      have l64 : (days ds day0).ws.length < 64 := by
        have h1 := days_len ds day0
        have h3 : day0.ws.length = 0 := rfl
        omega
      refine ⟨_, rfl, x, C, dx2, _, _, rfl, ob2, T.cl, T.nSl, f_slots _ _ _ _ _, _, rfl, x, dx2, _, rfl, ob2, f_no _ _ _ _ _ (by decide +kernel) (by decide +kernel) (by decide +kernel) (by decide +kernel) (by decide +kernel),
        z, x, sl, dd, srs2, _, rfl, Wn, l64, fun wl qs ss H3 s3 hwl tq pm rg => ⟨(by show 2 ≤ sizeLine; decide), fun t ft => ?_⟩⟩
      have s4 : Same H3 (upd H3 t (.tup [.ref sl, .ref wl])) := same_upd ft
      have W4 := (W2.same s3).same s4
      exact k t sl wl srs2 qs ss _ ((s2.trans s3).trans s4) upd_same W4.hs W4.len W4.at_ (s4 _ _ hwl) (tq.same s4) pm rg
end
end BwP

set_option Elab.async false
set_option linter.all false
set_option maxRecDepth 100000
set_option maxHeartbeats 4000000
namespace BwE
open PySem L2 Bw PyProof.Rows
theorem all_mk {l : PySem.W.OpenLaw} {w : World} {K : PySem.W.Frag} {h : Heap} {mg : Str → Option Value} {fa C fMI fMW fMN fMH fMO fMG fMY fSp fTk fSb fPo fSt fGb fAt fAn fBe fLW fLA fLD fLP fLT fLR fLN fLU fLM fLaw : Addr} (X : K.In h) (G : h.Ns mainGlobals mg) (hfa : mg "law" = some (.ref fa))
    {odMI anMI odMW anMW odMN anMN odMH anMH odMO anMO odMG anMG odMY anMY odSp anSp odTk anTk odSb anSb odPo anPo odSt anSt odGb anGb odAt anAt odAn anAn odBe anBe odLW anLW odLA anLA odLD anLD odLP anLP odLT anLT odLR anLR odLN anLN odLU anLU odLM anLM odLaw anLaw : Option Addr} {slMI slMW slMN slMH slMO slMG slMY slSp slTk slSb slPo slSt slGb slAt slAn slBe slLW slLA slLD slLP slLT slLR slLN slLU slLM slLaw : Array (Option Value)} {ocMI kVMI dcMI pmMI cdMI ctMI ocMW kVMW dcMW pmMW cdMW ctMW ocMN kVMN dcMN pmMN cdMN ctMN ocMH kVMH dcMH pmMH cdMH ctMH ocMO kVMO dcMO pmMO cdMO ctMO ocMG kVMG dcMG pmMG cdMG ctMG ocMY kVMY dcMY pmMY cdMY ctMY ocSp kVSp dcSp pmSp cdSp ctSp ocTk kVTk dcTk pmTk cdTk ctTk ocSb kVSb dcSb pmSb cdSb ctSb ocPo kVPo dcPo pmPo cdPo ctPo ocSt kVSt dcSt pmSt cdSt ctSt ocGb kVGb dcGb pmGb cdGb ctGb ocAt kVAt dcAt pmAt cdAt ctAt ocAn kVAn dcAn pmAn cdAn ctAn ocBe kVBe dcBe pmBe cdBe ctBe ocLW kVLW dcLW pmLW cdLW ctLW ocLA kVLA dcLA pmLA cdLA ctLA ocLD kVLD dcLD pmLD cdLD ctLD ocLP kVLP dcLP pmLP cdLP ctLP ocLT kVLT dcLT pmLT cdLT ctLT ocLR kVLR dcLR pmLR cdLR ctLR ocLN kVLN dcLN pmLN cdLN ctLN ocLU kVLU dcLU pmLU cdLU ctLU ocLM kVLM dcLM pmLM cdLM ctLM ocLaw kVLaw dcLaw pmLaw cdLaw ctLaw : Value} {tB tT : Tok}
    (aC : PySem.W.nsIn K mainGlobals "Wheel" = some (some (.ref C)))
    (aMI : PySem.W.findIn K (.ref C) "__init__" = some (some (.ref fMI))) (iMI : PySem.W.isFn K (.ref fMI) = true) (lMI : K.lookup fMI = some ⟨ocMI, odMI, .func (PySem.W.fnOf "__init__" "Wheel.__init__" (defArgs BwP.sInit) (defBody BwP.sInit) (defScope BwP.sInit) .none kVMI dcMI pmMI anMI cdMI ctMI), slMI⟩) (cMI : PySem.W.codeIn K cdMI "Wheel.__init__" = true) (kMI : PySem.W.keepIn K (.ref fMI) = true)
    (aMW : PySem.W.findIn K (.ref C) "waits" = some (some (.ref fMW))) (iMW : PySem.W.isFn K (.ref fMW) = true) (lMW : K.lookup fMW = some ⟨ocMW, odMW, .func (PySem.W.fnOf "waits" "Wheel.waits" (defArgs BwP.sWaits) (defBody BwP.sWaits) (defScope BwP.sWaits) .none kVMW dcMW pmMW anMW cdMW ctMW), slMW⟩) (cMW : PySem.W.codeIn K cdMW "Wheel.waits" = true) (kMW : PySem.W.keepIn K (.ref fMW) = true)
    (aMN : PySem.W.findIn K (.ref C) "set_next" = some (some (.ref fMN))) (iMN : PySem.W.isFn K (.ref fMN) = true) (lMN : K.lookup fMN = some ⟨ocMN, odMN, .func (PySem.W.fnOf "set_next" "Wheel.set_next" (defArgs BwP.sSetNext) (defBody BwP.sSetNext) (defScope BwP.sSetNext) .none kVMN dcMN pmMN anMN cdMN ctMN), slMN⟩) (cMN : PySem.W.codeIn K cdMN "Wheel.set_next" = true) (kMN : PySem.W.keepIn K (.ref fMN) = true)
    (aMH : PySem.W.findIn K (.ref C) "hang" = some (some (.ref fMH))) (iMH : PySem.W.isFn K (.ref fMH) = true) (lMH : K.lookup fMH = some ⟨ocMH, odMH, .func (PySem.W.fnOf "hang" "Wheel.hang" (defArgs BwP.sHang) (defBody BwP.sHang) (defScope BwP.sHang) .none kVMH dcMH pmMH anMH cdMH ctMH), slMH⟩) (cMH : PySem.W.codeIn K cdMH "Wheel.hang" = true) (kMH : PySem.W.keepIn K (.ref fMH) = true)
    (aMO : PySem.W.findIn K (.ref C) "take_off" = some (some (.ref fMO))) (iMO : PySem.W.isFn K (.ref fMO) = true) (lMO : K.lookup fMO = some ⟨ocMO, odMO, .func (PySem.W.fnOf "take_off" "Wheel.take_off" (defArgs BwP.sTakeOff) (defBody BwP.sTakeOff) (defScope BwP.sTakeOff) .none kVMO dcMO pmMO anMO cdMO ctMO), slMO⟩) (cMO : PySem.W.codeIn K cdMO "Wheel.take_off" = true) (kMO : PySem.W.keepIn K (.ref fMO) = true)
    (aMG : PySem.W.findIn K (.ref C) "go_on" = some (some (.ref fMG))) (iMG : PySem.W.isFn K (.ref fMG) = true) (lMG : K.lookup fMG = some ⟨ocMG, odMG, .func (PySem.W.fnOf "go_on" "Wheel.go_on" (defArgs BwP.sGoOn) (defBody BwP.sGoOn) (defScope BwP.sGoOn) .none kVMG dcMG pmMG anMG cdMG ctMG), slMG⟩) (cMG : PySem.W.codeIn K cdMG "Wheel.go_on" = true) (kMG : PySem.W.keepIn K (.ref fMG) = true)
    (aMY : PySem.W.findIn K (.ref C) "ticks_to_go" = some (some (.ref fMY))) (iMY : PySem.W.isFn K (.ref fMY) = true) (lMY : K.lookup fMY = some ⟨ocMY, odMY, .func (PySem.W.fnOf "ticks_to_go" "Wheel.ticks_to_go" (defArgs BwP.sToGo) (defBody BwP.sToGo) (defScope BwP.sToGo) .none kVMY dcMY pmMY anMY cdMY ctMY), slMY⟩) (cMY : PySem.W.codeIn K cdMY "Wheel.ticks_to_go" = true) (kMY : PySem.W.keepIn K (.ref fMY) = true)
    (aSp : PySem.W.nsIn K mainGlobals "spot_for" = some (some (.ref fSp))) (lSp : K.lookup fSp = some ⟨ocSp, odSp, .func (PySem.W.fnOf "spot_for" "spot_for" (defArgs BwP.sSpot) (defBody BwP.sSpot) (defScope BwP.sSpot) .none kVSp dcSp pmSp anSp cdSp ctSp), slSp⟩) (cSp : PySem.W.codeIn K cdSp "spot_for" = true) (kSp : PySem.W.keepIn K (.ref fSp) = true)
    (aTk : PySem.W.nsIn K mainGlobals "ticked" = some (some (.ref fTk))) (lTk : K.lookup fTk = some ⟨ocTk, odTk, .func (PySem.W.fnOf "ticked" "ticked" (defArgs BwP.sTicked) (defBody BwP.sTicked) (defScope BwP.sTicked) .none kVTk dcTk pmTk anTk cdTk ctTk), slTk⟩) (cTk : PySem.W.codeIn K cdTk "ticked" = true) (kTk : PySem.W.keepIn K (.ref fTk) = true)
    (aSb : PySem.W.nsIn K mainGlobals "set_bell" = some (some (.ref fSb))) (lSb : K.lookup fSb = some ⟨ocSb, odSb, .func (PySem.W.fnOf "set_bell" "set_bell" (defArgs BwP.sSetBell) (defBody BwP.sSetBell) (defScope BwP.sSetBell) .none kVSb dcSb pmSb anSb cdSb ctSb), slSb⟩) (cSb : PySem.W.codeIn K cdSb "set_bell" = true) (kSb : PySem.W.keepIn K (.ref fSb) = true)
    (aPo : PySem.W.nsIn K mainGlobals "put_off" = some (some (.ref fPo))) (lPo : K.lookup fPo = some ⟨ocPo, odPo, .func (PySem.W.fnOf "put_off" "put_off" (defArgs BwP.sPutOff) (defBody BwP.sPutOff) (defScope BwP.sPutOff) .none kVPo dcPo pmPo anPo cdPo ctPo), slPo⟩) (cPo : PySem.W.codeIn K cdPo "put_off" = true) (kPo : PySem.W.keepIn K (.ref fPo) = true)
    (aSt : PySem.W.nsIn K mainGlobals "strike_off" = some (some (.ref fSt))) (lSt : K.lookup fSt = some ⟨ocSt, odSt, .func (PySem.W.fnOf "strike_off" "strike_off" (defArgs BwP.sStrike) (defBody BwP.sStrike) (defScope BwP.sStrike) .none kVSt dcSt pmSt anSt cdSt ctSt), slSt⟩) (cSt : PySem.W.codeIn K cdSt "strike_off" = true) (kSt : PySem.W.keepIn K (.ref fSt) = true)
    (aGb : PySem.W.nsIn K mainGlobals "let_go_by" = some (some (.ref fGb))) (lGb : K.lookup fGb = some ⟨ocGb, odGb, .func (PySem.W.fnOf "let_go_by" "let_go_by" (defArgs BwP.sGoBy) (defBody BwP.sGoBy) (defScope BwP.sGoBy) .none kVGb dcGb pmGb anGb cdGb ctGb), slGb⟩) (cGb : PySem.W.codeIn K cdGb "let_go_by" = true) (kGb : PySem.W.keepIn K (.ref fGb) = true)
    (aAt : PySem.W.nsIn K mainGlobals "answer_to" = some (some (.ref fAt))) (lAt : K.lookup fAt = some ⟨ocAt, odAt, .func (PySem.W.fnOf "answer_to" "answer_to" (defArgs BwP.sAnswerTo) (defBody BwP.sAnswerTo) (defScope BwP.sAnswerTo) .none kVAt dcAt pmAt anAt cdAt ctAt), slAt⟩) (cAt : PySem.W.codeIn K cdAt "answer_to" = true) (kAt : PySem.W.keepIn K (.ref fAt) = true)
    (aAn : PySem.W.nsIn K mainGlobals "answers" = some (some (.ref fAn))) (lAn : K.lookup fAn = some ⟨ocAn, odAn, .func (PySem.W.fnOf "answers" "answers" (defArgs BwP.sAnswers) (defBody BwP.sAnswers) (defScope BwP.sAnswers) .none kVAn dcAn pmAn anAn cdAn ctAn), slAn⟩) (cAn : PySem.W.codeIn K cdAn "answers" = true) (kAn : PySem.W.keepIn K (.ref fAn) = true)
    (aBe : PySem.W.nsIn K mainGlobals "behind" = some (some (.ref fBe))) (lBe : K.lookup fBe = some ⟨ocBe, odBe, .func (PySem.W.fnOf "behind" "behind" (defArgs BwP.sBehind) (defBody BwP.sBehind) (defScope BwP.sBehind) .none kVBe dcBe pmBe anBe cdBe ctBe), slBe⟩) (cBe : PySem.W.codeIn K cdBe "behind" = true) (kBe : PySem.W.keepIn K (.ref fBe) = true)
    (aLW : PySem.W.nsIn K mainGlobals "_law_whole" = some (some (.ref fLW))) (lLW : K.lookup fLW = some ⟨ocLW, odLW, .func (PySem.W.fnOf "_law_whole" "_law_whole" (defArgs BwL.sWhole) (defBody BwL.sWhole) (defScope BwL.sWhole) .none kVLW dcLW pmLW anLW cdLW ctLW), slLW⟩) (cLW : PySem.W.codeIn K cdLW "_law_whole" = true) (kLW : PySem.W.keepIn K (.ref fLW) = true)
    (aLA : PySem.W.nsIn K mainGlobals "_law_at" = some (some (.ref fLA))) (lLA : K.lookup fLA = some ⟨ocLA, odLA, .func (PySem.W.fnOf "_law_at" "_law_at" (defArgs BwL.sAt) (defBody BwL.sAt) (defScope BwL.sAt) .none kVLA dcLA pmLA anLA cdLA ctLA), slLA⟩) (cLA : PySem.W.codeIn K cdLA "_law_at" = true) (kLA : PySem.W.keepIn K (.ref fLA) = true)
    (aLD : PySem.W.nsIn K mainGlobals "_law_deeds" = some (some (.ref fLD))) (lLD : K.lookup fLD = some ⟨ocLD, odLD, .func (PySem.W.fnOf "_law_deeds" "_law_deeds" (defArgs BwL.sDeeds) (defBody BwL.sDeeds) (defScope BwL.sDeeds) .none kVLD dcLD pmLD anLD cdLD ctLD), slLD⟩) (cLD : PySem.W.codeIn K cdLD "_law_deeds" = true) (kLD : PySem.W.keepIn K (.ref fLD) = true)
    (aLP : PySem.W.nsIn K mainGlobals "_law_plain" = some (some (.ref fLP))) (lLP : K.lookup fLP = some ⟨ocLP, odLP, .func (PySem.W.fnOf "_law_plain" "_law_plain" (defArgs BwL.sPlain) (defBody BwL.sPlain) (defScope BwL.sPlain) .none kVLP dcLP pmLP anLP cdLP ctLP), slLP⟩) (cLP : PySem.W.codeIn K cdLP "_law_plain" = true) (kLP : PySem.W.keepIn K (.ref fLP) = true)
    (aLT : PySem.W.nsIn K mainGlobals "_law_ticked" = some (some (.ref fLT))) (lLT : K.lookup fLT = some ⟨ocLT, odLT, .func (PySem.W.fnOf "_law_ticked" "_law_ticked" (defArgs BwL.sTickL) (defBody BwL.sTickL) (defScope BwL.sTickL) .none kVLT dcLT pmLT anLT cdLT ctLT), slLT⟩) (cLT : PySem.W.codeIn K cdLT "_law_ticked" = true) (kLT : PySem.W.keepIn K (.ref fLT) = true)
    (aLR : PySem.W.nsIn K mainGlobals "_law_pairs_are" = some (some (.ref fLR))) (lLR : K.lookup fLR = some ⟨ocLR, odLR, .func (PySem.W.fnOf "_law_pairs_are" "_law_pairs_are" (defArgs BwL.sPairs) (defBody BwL.sPairs) (defScope BwL.sPairs) .none kVLR dcLR pmLR anLR cdLR ctLR), slLR⟩) (cLR : PySem.W.codeIn K cdLR "_law_pairs_are" = true) (kLR : PySem.W.keepIn K (.ref fLR) = true)
    (aLN : PySem.W.nsIn K mainGlobals "_law_answer_is" = some (some (.ref fLN))) (lLN : K.lookup fLN = some ⟨ocLN, odLN, .func (PySem.W.fnOf "_law_answer_is" "_law_answer_is" (defArgs BwL.sAns) (defBody BwL.sAns) (defScope BwL.sAns) .none kVLN dcLN pmLN anLN cdLN ctLN), slLN⟩) (cLN : PySem.W.codeIn K cdLN "_law_answer_is" = true) (kLN : PySem.W.keepIn K (.ref fLN) = true)
    (aLU : PySem.W.nsIn K mainGlobals "_law_due_of" = some (some (.ref fLU))) (lLU : K.lookup fLU = some ⟨ocLU, odLU, .func (PySem.W.fnOf "_law_due_of" "_law_due_of" (defArgs BwL.sDue) (defBody BwL.sDue) (defScope BwL.sDue) .none kVLU dcLU pmLU anLU cdLU ctLU), slLU⟩) (cLU : PySem.W.codeIn K cdLU "_law_due_of" = true) (kLU : PySem.W.keepIn K (.ref fLU) = true)
    (aLM : PySem.W.nsIn K mainGlobals "_law_mixed" = some (some (.ref fLM))) (lLM : K.lookup fLM = some ⟨ocLM, odLM, .func (PySem.W.fnOf "_law_mixed" "_law_mixed" (defArgs BwL.sMixed) (defBody BwL.sMixed) (defScope BwL.sMixed) .none kVLM dcLM pmLM anLM cdLM ctLM), slLM⟩) (cLM : PySem.W.codeIn K cdLM "_law_mixed" = true) (kLM : PySem.W.keepIn K (.ref fLM) = true)
    (aLaw : PySem.W.nsIn K mainGlobals "law" = some (some (.ref fLaw))) (lLaw : K.lookup fLaw = some ⟨ocLaw, odLaw, .func (PySem.W.fnOf "law" "law" (defArgs BwL.sLaw) (defBody BwL.sLaw) (defScope BwL.sLaw) .none kVLaw dcLaw pmLaw anLaw cdLaw ctLaw), slLaw⟩) (cLaw : PySem.W.codeIn K cdLaw "law" = true) (kLaw : PySem.W.keepIn K (.ref fLaw) = true)
    (pg : PySem.W.plainGet K C Str.empty = true) (hd : PySem.W.hasDictIn K C = true) (po : PySem.W.plainOver K C = true) (sa : PySem.W.findIn K (.ref C) "__setattr__" = some (some (.builtin "object.__setattr__"))) (mk : PySem.W.makesIn K C = true) (kc : PySem.W.keepIn K (.ref C) = true)
    (n0 : PySem.W.findIn K (.ref C) "size" = some none) (n1 : PySem.W.findIn K (.ref C) "slots" = some none) (n2 : PySem.W.findIn K (.ref C) "now" = some none) (n3 : PySem.W.findIn K (.ref C) "due" = some none) (n4 : PySem.W.findIn K (.ref C) "bells_set" = some none)
    (gB : PySem.W.nsIn K mainGlobals "NO_BELL" = some (some (.str "no bell" tB))) (gT : PySem.W.nsIn K mainGlobals "NO_TICKS" = some (some (.str "no ticks" tT)))
    (z0 : PySem.W.nsIn K mainGlobals "isinstance" = some none) (z1 : PySem.W.nsIn K mainGlobals "int" = some none) (z2 : PySem.W.nsIn K mainGlobals "bool" = some none) (z3 : PySem.W.nsIn K mainGlobals "list" = some none) (z4 : PySem.W.nsIn K mainGlobals "tuple" = some none) (z5 : PySem.W.nsIn K mainGlobals "str" = some none) (z6 : PySem.W.nsIn K mainGlobals "len" = some none) (z7 : PySem.W.nsIn K mainGlobals "range" = some none) (z8 : PySem.W.nsIn K mainGlobals "sorted" = some none) :
    ∃ fd : FuncData, (∀ (s : Shared) (v : Value), BindsTo s fd ⟨[v], []⟩ [("_law_script", v)]) ∧ ∀ base : Heap, K.In base → base.Ns mainGlobals mg → FnOk l.prog w K mg base CX0 11 fa fd ["_law_script"] (BwL.spLaw K) := by
  have e := hfa.symm.trans (PySem.W.mg_of X G aLaw)
  cases e
  have TB : BwL.TxtB mg := ⟨PySem.W.mg_none_of X G z0, PySem.W.mg_none_of X G z1, PySem.W.mg_none_of X G z2, PySem.W.mg_none_of X G z3, PySem.W.mg_none_of X G z4, PySem.W.mg_none_of X G z5, PySem.W.mg_none_of X G z6, PySem.W.mg_none_of X G z7, PySem.W.mg_none_of X G z8⟩
  have T : TxtW K mg C := ⟨⟨pg, hd, po, sa⟩, n0, n1, n2, n3, n4, PySem.W.mg_of X G aC, ⟨tB, PySem.W.mg_of X G gB⟩, ⟨tT, PySem.W.mg_of X G gT⟩, PySem.W.mg_none_of X G z7⟩
  have FMI := fun_mk (st := BwP.sInit) lMI cMI kMI
  have bMI := FMI.binds (ps := ["self", "size"]) fun _ _ _ _ _ _ us hl => match us, hl with | [_, _], _ => rfl
  have FMW := fun_mk (st := BwP.sWaits) lMW cMW kMW
  have bMW := FMW.binds (ps := ["self", "number"]) fun _ _ _ _ _ _ us hl => match us, hl with | [_, _], _ => rfl
  have FMN := fun_mk (st := BwP.sSetNext) lMN cMN kMN
  have bMN := FMN.binds (ps := ["self", "after"]) fun _ _ _ _ _ _ us hl => match us, hl with | [_, _], _ => rfl
  have FMH := fun_mk (st := BwP.sHang) lMH cMH kMH
  have bMH := FMH.binds (ps := ["self", "number", "after"]) fun _ _ _ _ _ _ us hl => match us, hl with | [_, _, _], _ => rfl
  have FMO := fun_mk (st := BwP.sTakeOff) lMO cMO kMO
  have bMO := FMO.binds (ps := ["self", "number"]) fun _ _ _ _ _ _ us hl => match us, hl with | [_, _], _ => rfl
  have FMG := fun_mk (st := BwP.sGoOn) lMG cMG kMG
  have bMG := FMG.binds (ps := ["self"]) fun _ _ _ _ _ _ us hl => match us, hl with | [_], _ => rfl
  have FMY := fun_mk (st := BwP.sToGo) lMY cMY kMY
  have bMY := FMY.binds (ps := ["self"]) fun _ _ _ _ _ _ us hl => match us, hl with | [_], _ => rfl
  have FSp := fun_mk (st := BwP.sSpot) lSp cSp kSp
  have bSp := FSp.binds (ps := ["size", "now", "after"]) fun _ _ _ _ _ _ us hl => match us, hl with | [_, _, _], _ => rfl
  have FTk := fun_mk (st := BwP.sTicked) lTk cTk kTk
  have bTk := FTk.binds (ps := ["slot"]) fun _ _ _ _ _ _ us hl => match us, hl with | [_], _ => rfl
  have FSb := fun_mk (st := BwP.sSetBell) lSb cSb kSb
  have bSb := FSb.binds (ps := ["wheel", "after"]) fun _ _ _ _ _ _ us hl => match us, hl with | [_, _], _ => rfl
  have FPo := fun_mk (st := BwP.sPutOff) lPo cPo kPo
  have bPo := FPo.binds (ps := ["wheel", "number", "after"]) fun _ _ _ _ _ _ us hl => match us, hl with | [_, _, _], _ => rfl
  have FSt := fun_mk (st := BwP.sStrike) lSt cSt kSt
  have bSt := FSt.binds (ps := ["wheel", "number"]) fun _ _ _ _ _ _ us hl => match us, hl with | [_, _], _ => rfl
  have FGb := fun_mk (st := BwP.sGoBy) lGb cGb kGb
  have bGb := FGb.binds (ps := ["wheel", "many"]) fun _ _ _ _ _ _ us hl => match us, hl with | [_, _], _ => rfl
  have FAt := fun_mk (st := BwP.sAnswerTo) lAt cAt kAt
  have bAt := FAt.binds (ps := ["wheel", "deed"]) fun _ _ _ _ _ _ us hl => match us, hl with | [_, _], _ => rfl
  have FAn := fun_mk (st := BwP.sAnswers) lAn cAn kAn
  have bAn := FAn.binds (ps := ["size", "deeds"]) fun _ _ _ _ _ _ us hl => match us, hl with | [_, _], _ => rfl
  have FBe := fun_mk (st := BwP.sBehind) lBe cBe kBe
  have bBe := FBe.binds (ps := ["size", "deeds"]) fun _ _ _ _ _ _ us hl => match us, hl with | [_, _], _ => rfl
  have FLW := fun_mk (st := BwL.sWhole) lLW cLW kLW
  have bLW := FLW.binds (ps := ["_law_found"]) fun _ _ _ _ _ _ us hl => match us, hl with | [_], _ => rfl
  have FLA := fun_mk (st := BwL.sAt) lLA cLA kLA
  have bLA := FLA.binds (ps := ["_law_script", "_law_k"]) fun _ _ _ _ _ _ us hl => match us, hl with | [_, _], _ => rfl
  have FLD := fun_mk (st := BwL.sDeeds) lLD cLD kLD
  have bLD := FLD.binds (ps := ["_law_cells"]) fun _ _ _ _ _ _ us hl => match us, hl with | [_], _ => rfl
  have FLP := fun_mk (st := BwL.sPlain) lLP cLP kLP
  have bLP := FLP.binds (ps := ["_law_waits", "_law_now", "_law_came", "_law_deed"]) fun _ _ _ _ _ _ us hl => match us, hl with | [_, _, _, _], _ => rfl
  have FLT := fun_mk (st := BwL.sTickL) lLT cLT kLT
  have bLT := FLT.binds (ps := ["_law_waits", "_law_now"]) fun _ _ _ _ _ _ us hl => match us, hl with | [_, _], _ => rfl
  have FLR := fun_mk (st := BwL.sPairs) lLR cLR kLR
  have bLR := FLR.binds (ps := ["_law_found", "_law_due"]) fun _ _ _ _ _ _ us hl => match us, hl with | [_, _], _ => rfl
  have FLN := fun_mk (st := BwL.sAns) lLN cLN kLN
  have bLN := FLN.binds (ps := ["_law_found", "_law_due"]) fun _ _ _ _ _ _ us hl => match us, hl with | [_, _], _ => rfl
  have FLU := fun_mk (st := BwL.sDue) lLU cLU kLU
  have bLU := FLU.binds (ps := ["_law_asked"]) fun _ _ _ _ _ _ us hl => match us, hl with | [_], _ => rfl
  have FLM := fun_mk (st := BwL.sMixed) lLM cLM kLM
  have bLM := FLM.binds (ps := ["_law_script"]) fun _ _ _ _ _ _ us hl => match us, hl with | [_], _ => rfl
  have FLaw := fun_mk (st := BwL.sLaw) lLaw cLaw kLaw
  have D : BwL.Defs K mg := ⟨_, _, FLW, bLW, PySem.W.mg_of X G aLW, _, _, FLA, bLA, PySem.W.mg_of X G aLA, _, _, FLD, bLD, PySem.W.mg_of X G aLD, _, _, FLP, bLP, PySem.W.mg_of X G aLP, _, _, FLT, bLT, PySem.W.mg_of X G aLT, _, _, FLR, bLR, PySem.W.mg_of X G aLR, _, _, FLN, bLN, PySem.W.mg_of X G aLN, _, _, FLU, bLU, PySem.W.mg_of X G aLU, _, _, FLM, bLM, PySem.W.mg_of X G aLM⟩
  have Ds : BwP.Fs K mg := ⟨_, _, FSb, bSb, PySem.W.mg_of X G aSb, _, _, FPo, bPo, PySem.W.mg_of X G aPo, _, _, FSt, bSt, PySem.W.mg_of X G aSt, _, _, FGb, bGb, PySem.W.mg_of X G aGb, _, _, FAt, bAt, PySem.W.mg_of X G aAt⟩
  refine ⟨PySem.W.fnOf "law" "law" (defArgs BwL.sLaw) (defBody BwL.sLaw) (defScope BwL.sLaw) .none kVLaw dcLaw pmLaw anLaw cdLaw ctLaw, fun s v => .of_eq rfl, fun base _ _ => ?_⟩
  have GH := BwP.ok_hang (P := l.prog) (w := w) (base := base) FMH T FSp bSp (PySem.W.mg_of X G aSp)
  have M : BwP.Ms l.prog w K mg base C := ⟨T, _, _, BwP.ok_init FMI T, bMI, ⟨mk, aMI, iMI, kc⟩, _, _, BwP.ok_waits FMW T, bMW, ⟨aMW, iMW, kMW⟩, _, _, BwP.ok_setNext FMN T GH bMH ⟨aMH, iMH, kMH⟩, bMN, ⟨aMN, iMN, kMN⟩, _, _, GH, bMH, ⟨aMH, iMH, kMH⟩,
    _, _, BwP.ok_takeOff FMO T, bMO, ⟨aMO, iMO, kMO⟩, _, _, BwP.ok_goOn FMG T FTk bTk (PySem.W.mg_of X G aTk), bMG, ⟨aMG, iMG, kMG⟩⟩
  exact BwL.ok_law (kA := 6) (by decide) FLaw TB D (BwP.ok_answers FAn Ds M) kAn bAn (PySem.W.mg_of X G aAn) (BwP.ok_behind FBe Ds M (BwP.ok_toGo FMY T (PySem.W.mg_none_of X G z8)) bMY ⟨aMY, iMY, kMY⟩) kBe bBe (PySem.W.mg_of X G aBe)
theorem walk {l : PySem.W.OpenLaw} {q : Program} {loose : List Str} {XP : (Str → Option Value) → Heap → Prop} {YP : World → Heap → Prop} {d : DefRec} {K : Params → PySem.W.Frag} (hn : l.most = some 63) (hdf : d.params.defaults = [])
    (hY : ∀ (w : World) (h : Heap), YP w h → (K w.params).In h)
    (F : ∀ (w : World) (mg : Str → Option Value) (fa : Addr) (h : Heap), (K w.params).In h → h.Ns mainGlobals mg → mg d.name = some (.ref fa) →
      ∃ fd : FuncData, (∀ (s : Shared) (u : Value), BindsTo s fd ⟨[u], []⟩ [("_law_script", u)]) ∧ ∀ base : Heap, (K w.params).In base → base.Ns mainGlobals mg → FnOk l.prog w (K w.params) mg base CX0 11 fa fd ["_law_script"] (BwL.spLaw (K w.params))) :
    PySem.W.WalkO q loose XP YP l.row.toRowW d [] (fun f vs => PySem.call f vs) :=
  L2.walk_of (n := 63) (k := 11) (x := "_law_script") (CX := fun _ => CX0) (sp := fun w => BwL.spLaw (K w.params)) hn (by decide) hdf ⟨rfl, by decide, by decide⟩ hY F (fun _ _ a ns hl _ hS => ⟨a, ns, rfl, hS, hl, fun _ => rfl⟩) fun _ _ _ _ _ z => z
end BwE
open PySem PySem.W PyProof.Rows
set_option maxRecDepth 100000 in
set_option maxHeartbeats 0 in
theorem PySem.Challenge.cw_bellwheel_k04_whole_any_size_holds : PySem.Challenge.rw_bellwheel_k04_whole_any_size.Holds := by
  w_on; o_law; k_head; (case hw => w_witness2)
  k_fill
  refine BwE.walk (l := PySem.Challenge.rw_bellwheel_k04_whole_any_size) rfl rfl (fun w h Y => PySem.W.kIn_of Y) ?F
  case F =>
    intro w mg fa h KX G hmg
    refine' BwE.all_mk KX G hmg ?aC ?aMI ?iMI ?lMI ?cMI ?kMI ?aMW ?iMW ?lMW ?cMW ?kMW ?aMN ?iMN ?lMN ?cMN ?kMN ?aMH ?iMH ?lMH ?cMH ?kMH ?aMO ?iMO ?lMO ?cMO ?kMO ?aMG ?iMG ?lMG ?cMG ?kMG ?aMY ?iMY ?lMY ?cMY ?kMY ?aSp ?lSp ?cSp ?kSp ?aTk ?lTk ?cTk ?kTk ?aSb ?lSb ?cSb ?kSb ?aPo ?lPo ?cPo ?kPo ?aSt ?lSt ?cSt ?kSt ?aGb ?lGb ?cGb ?kGb ?aAt ?lAt ?cAt ?kAt ?aAn ?lAn ?cAn ?kAn ?aBe ?lBe ?cBe ?kBe ?aLW ?lLW ?cLW ?kLW ?aLA ?lLA ?cLA ?kLA ?aLD ?lLD ?cLD ?kLD ?aLP ?lLP ?cLP ?kLP ?aLT ?lLT ?cLT ?kLT ?aLR ?lLR ?cLR ?kLR ?aLN ?lLN ?cLN ?kLN ?aLU ?lLU ?cLU ?kLU ?aLM ?lLM ?cLM ?kLM ?aLaw ?lLaw ?cLaw ?kLaw ?pg ?hd ?po ?sa ?mk ?kc ?n0 ?n1 ?n2 ?n3 ?n4 ?gB ?gT ?z0 ?z1 ?z2 ?z3 ?z4 ?z5 ?z6 ?z7 ?z8
    (case aC => k_is); (case aMI => k_is); (case iMI => k_is); (case lMI => k_is); (case cMI => k_is); (case kMI => k_is)
    (case aMW => k_is); (case iMW => k_is); (case lMW => k_is); (case cMW => k_is); (case kMW => k_is); (case aMN => k_is)
    (case iMN => k_is); (case lMN => k_is); (case cMN => k_is); (case kMN => k_is); (case aMH => k_is); (case iMH => k_is)
    (case lMH => k_is); (case cMH => k_is); (case kMH => k_is); (case aMO => k_is); (case iMO => k_is); (case lMO => k_is)
    (case cMO => k_is); (case kMO => k_is); (case aMG => k_is); (case iMG => k_is); (case lMG => k_is); (case cMG => k_is)
    (case kMG => k_is); (case aMY => k_is); (case iMY => k_is); (case lMY => k_is); (case cMY => k_is); (case kMY => k_is)
    (case aSp => k_is); (case lSp => k_is); (case cSp => k_is); (case kSp => k_is); (case aTk => k_is); (case lTk => k_is)
    (case cTk => k_is); (case kTk => k_is); (case aSb => k_is); (case lSb => k_is); (case cSb => k_is); (case kSb => k_is)
    (case aPo => k_is); (case lPo => k_is); (case cPo => k_is); (case kPo => k_is); (case aSt => k_is); (case lSt => k_is)
    (case cSt => k_is); (case kSt => k_is); (case aGb => k_is); (case lGb => k_is); (case cGb => k_is); (case kGb => k_is)
    (case aAt => k_is); (case lAt => k_is); (case cAt => k_is); (case kAt => k_is); (case aAn => k_is); (case lAn => k_is)
    (case cAn => k_is); (case kAn => k_is); (case aBe => k_is); (case lBe => k_is); (case cBe => k_is); (case kBe => k_is)
    (case aLW => k_is); (case lLW => k_is); (case cLW => k_is); (case kLW => k_is); (case aLA => k_is); (case lLA => k_is)
    (case cLA => k_is); (case kLA => k_is); (case aLD => k_is); (case lLD => k_is); (case cLD => k_is); (case kLD => k_is)
    (case aLP => k_is); (case lLP => k_is); (case cLP => k_is); (case kLP => k_is); (case aLT => k_is); (case lLT => k_is)
    (case cLT => k_is); (case kLT => k_is); (case aLR => k_is); (case lLR => k_is); (case cLR => k_is); (case kLR => k_is)
    (case aLN => k_is); (case lLN => k_is); (case cLN => k_is); (case kLN => k_is); (case aLU => k_is); (case lLU => k_is)
    (case cLU => k_is); (case kLU => k_is); (case aLM => k_is); (case lLM => k_is); (case cLM => k_is); (case kLM => k_is)
    (case aLaw => k_is); (case lLaw => k_is); (case cLaw => k_is); (case kLaw => k_is); (case pg => k_is); (case hd => k_is)
    (case po => k_is); (case sa => k_is); (case mk => k_is); (case kc => k_is); (case n0 => k_is); (case n1 => k_is)
    (case n2 => k_is); (case n3 => k_is); (case n4 => k_is); (case gB => k_is); (case gT => k_is); (case z0 => k_is)
    (case z1 => k_is); (case z2 => k_is); (case z3 => k_is); (case z4 => k_is); (case z5 => k_is); (case z6 => k_is)
    (case z7 => k_is); (case z8 => k_is)
