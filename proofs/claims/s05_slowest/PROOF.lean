import PyProof.Rows.All
import Wide.All
import OpenK.AllK
import Wide.FinOn
import PyProof.EqAt
import PyProof.EqKinds
import PyProof.TupleCall
import KE.BitLaws
import Open.SpecLaws
import KE.OsHead
import KE.OsGo
import PyProof.Rows.SortShellAny
import KE.KSortTupG
import KE.KNest
import KE.KLam
import KE.KMinKey
import PySem.Challenge.RW_screenbeats_s05_slowest
set_option Elab.async false
set_option linter.all false
set_option maxRecDepth 100000
/-! THE HAND LAYER, for ints, bools, texts, own classes, lists, tuples, dicts, comprehensions, walks over dicts, enumerate, zip, reversed, texts, calls, loops. Paste it whole ahead of your own text; what your proof does not reach may be deleted. -/
namespace L2
open PySem PySem.Spec PyProof.Rows

/-- a key: an int or a str -/
abbrev Key := Sum Int Str
def keyIs : Key → Value → Bool
  | .inl k, v => Value.isInt k v
  | .inr x, v => Value.isStrOf x v
def keyH (w : World) : Key → Int
  | .inl k => hashInt k
  | .inr x => hashStr w x
theorem keyIs_shape : ∀ {k : Key} {v : Value}, keyIs k v = true → (∃ i t, k = Sum.inl i ∧ v = Value.int i t) ∨ (∃ x t, k = Sum.inr x ∧ v = Value.str x t)
  | .inl i, v, h => by
    obtain ⟨t, e⟩ := Value.isInt_shape (k := i) (v := v) h
    exact .inl ⟨i, t, rfl, e⟩
  | .inr x, v, h => by
    obtain ⟨t, e⟩ := Value.isStrOf_shape (x := x) (v := v) h
    exact .inr ⟨x, t, rfl, e⟩
theorem keyIs_int (i : Int) (t : Tok) : keyIs (.inl i) (.int i t) = true := by simp [keyIs, Value.isInt]
theorem keyIs_str (x : Str) (t : Tok) : keyIs (.inr x) (.str x t) = true := by simp [keyIs, Value.isStrOf]
theorem key_ll (a b : Int) : decide ((Sum.inl a : Key) = Sum.inl b) = (a == b) := by
  by_cases e : a = b
  · subst e; simp
  · have h : ¬ (Sum.inl a : Key) = Sum.inl b := fun q => e (Sum.inl.inj q)
    rw [decide_eq_false h]
    exact (beq_eq_false_iff_ne.mpr e).symm
theorem key_rr (a b : Str) : decide ((Sum.inr a : Key) = Sum.inr b) = decide (a = b) := by
  by_cases e : a = b
  · subst e; simp
  · have h : ¬ (Sum.inr a : Key) = Sum.inr b := fun q => e (Sum.inr.inj q)
    rw [decide_eq_false h, decide_eq_false e]
theorem key_lr (a : Int) (b : Str) : decide ((Sum.inl a : Key) = Sum.inr b) = false := decide_eq_false (fun q => nomatch q)
theorem key_rl (a : Str) (b : Int) : decide ((Sum.inr a : Key) = Sum.inl b) = false := decide_eq_false (fun q => nomatch q)

def mixKind (prog : Program) (w : World) : PySem.KeyKind prog w Key where
  is := keyIs
  hash := keyH w
  inj := fun v a b ha hb => by
    rcases keyIs_shape ha with ⟨i, t, rfl, rfl⟩ | ⟨x, t, rfl, rfl⟩
    · rcases keyIs_shape hb with ⟨j, u, rfl, e⟩ | ⟨y, u, rfl, e⟩
      · injection e with e1 _; rw [e1]
      · exact nomatch e
    · rcases keyIs_shape hb with ⟨j, u, rfl, e⟩ | ⟨y, u, rfl, e⟩
      · exact nomatch e
      · injection e with e1 _; rw [e1]
  byValue := fun k v h => by
    rcases keyIs_shape h with ⟨i, t, rfl, rfl⟩ | ⟨x, t, rfl, rfl⟩ <;> rfl
  pyHash := fun hv h => by
    rcases keyIs_shape hv with ⟨i, t, rfl, rfl⟩ | ⟨x, t, rfl, rfl⟩
    · exact wpAny_pyHash_int h
    · exact wpAny_pyHash_str h
  eqBool := fun hu hv h => by
    rcases keyIs_shape hu with ⟨i, t, rfl, rfl⟩ | ⟨x, t, rfl, rfl⟩
    · rcases keyIs_shape hv with ⟨j, u, rfl, rfl⟩ | ⟨y, u, rfl, rfl⟩
      · rw [key_ll] at h; exact wpAny_eqBool_int h
      · rw [key_lr] at h; exact SeqAt.EqAt.int_str i t y u _ _ _ _ h
    · rcases keyIs_shape hv with ⟨j, u, rfl, rfl⟩ | ⟨y, u, rfl, rfl⟩
      · rw [key_rl] at h; exact SeqAt.EqAt.str_int x t j u _ _ _ _ h
      · rw [key_rr] at h; exact wpAny_eqBool_str h
  «strs» := fun k x t v h => by
    rcases keyIs_shape h with ⟨i, u, rfl, e⟩ | ⟨y, u, rfl, e⟩
    · exact nomatch e
    · injection e with e1 _
      subst e1
      cases v <;> rfl

theorem mixKind_int (prog : Program) (w : World) (i : Int) (t : Tok) : (mixKind prog w).is (.inl i) (.int i t) = true := keyIs_int i t
theorem mixKind_str (prog : Program) (w : World) (x : Str) (t : Tok) : (mixKind prog w).is (.inr x) (.str x t) = true := keyIs_str x t
end L2

namespace L2
open PySem PySem.Spec PyProof.Rows

/-- a value, without the heap -/
inductive V where
  | non | bl (b : Bool) | int (i : Int) | str (x : Str) | byt (b : Array UInt8) | flt (b : UInt64) | ref (a : Addr) | ty (n : String)
  deriving DecidableEq

def RelV : V → Value → Prop
  | .non, u => u = Value.none
  | .bl b, u => u = Value.bool b
  | .int i, u => ∃ t, u = Value.int i t
  | .str x, u => ∃ t, u = Value.str x t
  | .byt b, u => ∃ t, u = Value.bytes b t
  | .flt b, u => ∃ t, u = Value.float b t
  | .ref a, u => u = Value.ref a
  | .ty n, u => u = Value.type n

abbrev Vals : List V → List Value → Prop := Paired RelV
theorem Vals.length {xs : List V} {us : List Value} (r : Vals xs us) : xs.length = us.length := Paired.length r
theorem Vals.get : ∀ {xs : List V} {us : List Value} {i : Nat} {x : V}, Vals xs us → xs[i]? = some x → ∃ u, us[i]? = some u ∧ RelV x u
  | _, _, _, _, .nil, e => by simp at e
  | _, _, 0, _, .cons r _, e => by simp at e; subst e; exact ⟨_, rfl, r⟩
  | _, _, i + 1, x, .cons _ t, e => by
    obtain ⟨u, h1, h2⟩ := Vals.get (i := i) (x := x) t (by simpa using e)
    exact ⟨u, by simpa using h1, h2⟩
theorem Vals.set {x : V} {u : Value} (r : RelV x u) : ∀ {xs : List V} {us : List Value} (i : Nat), Vals xs us → Vals (xs.set i x) (us.set i u)
  | _, _, _, .nil => .nil
  | _, _, 0, .cons _ t => .cons r t
  | _, _, i + 1, .cons q t => .cons q (Vals.set r i t)
theorem Vals.append : ∀ {xs ys : List V} {us ws : List Value}, Vals xs us → Vals ys ws → Vals (xs ++ ys) (us ++ ws)
  | _, _, _, _, .nil, s => s
  | _, _, _, _, .cons r t, s => .cons r (Vals.append t s)
theorem Vals.take : ∀ {xs : List V} {us : List Value} (n : Nat), Vals xs us → Vals (xs.take n) (us.take n)
  | _, _, 0, _ => .nil
  | _, _, _ + 1, .nil => .nil
  | _, _, n + 1, .cons r t => .cons r (Vals.take n t)
theorem Vals.drop : ∀ {xs : List V} {us : List Value} (n : Nat), Vals xs us → Vals (xs.drop n) (us.drop n)
  | _, _, 0, r => r
  | _, _, _ + 1, .nil => .nil
  | _, _, n + 1, .cons _ t => Vals.drop n t
theorem Vals.none_of : ∀ {xs : List V} {us : List Value} {i : Nat}, Vals xs us → xs[i]? = none → us[i]? = none := fun {xs us i} r e => by
  have h1 := r.length
  have h2 : xs.length ≤ i := List.getElem?_eq_none_iff.mp e
  exact List.getElem?_eq_none_iff.mpr (by omega)

def RelO : Option V → Option Value → Prop
  | some v, some u => RelV v u
  | none, none => True
  | _, _ => False
def KV {κ : Type} : List (κ × V) → List (κ × Value) → Prop := Paired fun (p : κ × V) (q : κ × Value) => p.1 = q.1 ∧ RelV p.2 q.2

/-- a key of a dict (00_mix): an int or a text -/
def kV : Key → V
  | .inl i => .int i
  | .inr x => .str x

/-- what stands at a tracked address -/
inductive HO where
  /-- a list -/
  | lst (xs : List V)
  /-- a tuple (never changes) -/
  | tup (xs : List V)
  /-- a dict whose keys are ints and texts; one whose keys are tuples of ints and texts (the empty one is both) -/
  | dK (kvs : List (Key × V)) | dT (kvs : List (List Key × V))
  /-- a set of ints: its members, its size -/
  | set (S : Int → Bool) (n : Nat)
  /-- an instance of the class at C, its dict at dx, its attributes -/
  | ins (C dx : Addr) (fs : List (Str × V))
  /-- the dict of the instance at x -/
  | own (x : Addr)
  /-- the dict of an exception -/
  | xd (fs : List (Str × V))
  /-- a bound method, f of x -/
  | met (f x : Addr)
  /-- a range object lo, lo + 1, .. below hi -/
  | rng (lo hi : Int)
  /-- a thing that is known to the object (the script; a dict while a loop walks it): read, never written while it is so -/
  | frz (o : Obj) (u : HO)
  /-- a code object's table -/
  | tbl (ps : Array Value)
  /-- any other thing, by what is true of its one object (a def of one's own: SetO a S n := HO.ext fun h => ..) -/
  | ext (φ : Heap → Prop)

abbrev Hp := Addr → Option HO
def upd (H : Hp) (a : Addr) (o : HO) : Hp := fun b => if b = a then some o else H b
theorem upd_same {H : Hp} {a : Addr} {o : HO} : upd H a o a = some o := by unfold upd; rw [if_pos rfl]
theorem upd_ne {H : Hp} {a b : Addr} {o : HO} (h : b ≠ a) : upd H a o b = H b := by unfold upd; rw [if_neg h]
theorem ne_of_none {H : Hp} {a b : Addr} {o : HO} (h : H a = some o) (h' : H b = none) : a ≠ b := by
  intro e; subst e; rw [h] at h'; cases h'

section
variable (P : Program) (w : World)
def ObjOk (H : Hp) (h : Heap) (a : Addr) : HO → Prop
  | .lst xs => xs.length ≤ sizeLine ∧ ∃ (its : List Value) (n : Nat), Vals xs its ∧ h.get? a = some { cls := .type "list", data := .seq its.toArray n }
  | .tup xs => xs.length ≤ sizeLine ∧ ∃ its : List Value, Vals xs its ∧ IsTup h a its.toArray
  | .dK kvs => kvs.length ≤ sizeLine ∧ (a == sysModules) = false ∧ ∃ vs, KV kvs vs ∧ h.DictOf (mixKind P w) a vs
  | .dT kvs => kvs.length ≤ sizeLine ∧ (a == sysModules) = false ∧ ∃ xs : List (List Key × Addr × Value),
      Paired (fun (p : List Key × V) (q : List Key × Addr × Value) => p.1 = q.1 ∧ H q.2.1 = some (.tup (p.1.map kV)) ∧ RelV p.2 q.2.2) kvs xs ∧
      ∃ o es ep, h.get? a = some o ∧ o.ExactDict ∧ o.data = .dict es ep ∧ es.toList = xs.map (entryOfKey (tupleKind (mixKind P w))) ∧ (xs.map (·.1)).Nodup
  | .set S n => h.SetOf (intKind P w) a S n
  | .ins C dx fs => H dx = some (.own a) ∧ fs.length ≤ 1000 ∧ dx ≠ a ∧ h.get? a = some (PySem.W.instObj C dx) ∧
      ∃ mA, h.Ns1 dx mA ∧ (∀ f, RelO (fs.lookup f) (mA f)) ∧ PySem.Within mA (fs.map (·.1))
  | .own _ => ∃ o, h.get? a = some o
  | .xd fs => ∃ mA, h.Ns1 a mA ∧ ∀ f, RelO (fs.lookup f) (mA f)
  | .rng lo hi => ∃ t u v, h.get? a = some { cls := .type "range", data := .fields #[.int lo t, .int hi u, .int 1 v] }
  | .frz o u => h.get? a = some o ∧ ObjOk H h a u
  | .tbl ps => h.get? a = some { cls := .none, data := .fields ps }
  | .met f x => h.get? a = some (PySem.W.methodObj (.ref f) (.ref x))
  | .ext φ => φ h ∧ (∃ o, h.get? a = some o) ∧ ∀ h1 h2 : Heap, φ h1 → (∀ o, h1.get? a = some o → h2.get? a = some o) → φ h2
/-- the abstract heap is held -/
def HOk (H : Hp) (h : Heap) : Prop := ∀ a o, H a = some o → ObjOk P w H h a o
end

section
variable {P : Program} {w : World} {H H' : Hp} {h h' : Heap} {a : Addr} {o : HO}
theorem ObjOk.lt (x : ObjOk P w H h a o) : a < h.objs.size := by
  cases o with
  | lst xs => obtain ⟨_, _, _, _, e⟩ := x; exact Heap.lt_size e
  | tup xs => obtain ⟨_, _, _, p⟩ := x; exact p.lt
  | dK kvs => obtain ⟨_, _, _, _, o, _, _, e, _⟩ := x; exact Heap.lt_size e
  | dT kvs => obtain ⟨_, _, _, _, o, _, _, e, _⟩ := x; exact Heap.lt_size e
  | set S n => obtain ⟨o, _, _, _, e, _⟩ := x; exact Heap.lt_size e
  | ins C dx fs => obtain ⟨_, _, _, e, _⟩ := x; exact Heap.lt_size e
  | own y => obtain ⟨_, e⟩ := x; exact Heap.lt_size e
  | xd fs => obtain ⟨_, ⟨_, _, _, e, _⟩, _⟩ := x; exact Heap.lt_size e
  | rng lo hi => obtain ⟨_, _, _, e⟩ := x; exact Heap.lt_size e
  | frz ob u => obtain ⟨e, _⟩ := x; exact Heap.lt_size e
  | tbl ps => exact Heap.lt_size (show h.get? a = some _ from x)
  | met f y => exact Heap.lt_size (show h.get? a = some _ from x)
  | ext φ => obtain ⟨_, ⟨_, e⟩, _⟩ := x; exact Heap.lt_size e
theorem Paired.mapP {α β : Type} {F G : α → β → Prop} : ∀ {l₁ : List α} {l₂ : List β}, Paired F l₁ l₂ → (∀ a b, F a b → G a b) → Paired G l₁ l₂
  | _, _, .nil, _ => .nil
  | _, _, .cons r t, f => .cons (f _ _ r) (Paired.mapP t f)
/-- what an object's description leans on: its own object, its own dict, the tuples -/
theorem ObjOk.stay (x : ObjOk P w H h a o) (k : ∀ b u, (b = a ∨ H b = some (.own a)) → h.get? b = some u → h'.get? b = some u)
    (ho : ∀ b, H b = some (.own a) → H' b = some (.own a)) (ht : ∀ b xs, H b = some (.tup xs) → H' b = some (.tup xs)) : ObjOk P w H' h' a o := by
  induction o with
  | lst xs => obtain ⟨z, its, n, r, e⟩ := x; exact ⟨z, its, n, r, k _ _ (.inl rfl) e⟩
  | tup xs => obtain ⟨z, its, r, ob, e, c⟩ := x; exact ⟨z, its, r, ob, k _ _ (.inl rfl) e, c⟩
  | dK kvs => obtain ⟨z, y, vs, r, ob, es, ep, e, c⟩ := x; exact ⟨z, y, vs, r, ob, es, ep, k _ _ (.inl rfl) e, c⟩
  | dT kvs =>
    obtain ⟨z, y, xs, r, ob, es, ep, e, c⟩ := x
    exact ⟨z, y, xs, Paired.mapP r fun p q z => ⟨z.1, ht _ _ z.2.1, z.2.2⟩, ob, es, ep, k _ _ (.inl rfl) e, c⟩
  | set S n => obtain ⟨ob, es, ep, t, e, c⟩ := x; exact ⟨ob, es, ep, t, k _ _ (.inl rfl) e, c⟩
  | ins C dx fs =>
    obtain ⟨d, z, ne, e, mA, ⟨od, es, ep, e2, c⟩, r⟩ := x
    exact ⟨ho _ d, z, ne, k _ _ (.inl rfl) e, mA, ⟨od, es, ep, k _ _ (.inr d) e2, c⟩, r⟩
  | own y => obtain ⟨ob, e⟩ := x; exact ⟨ob, k _ _ (.inl rfl) e⟩
  | xd fs => obtain ⟨mA, ⟨od, es, ep, e, c⟩, r⟩ := x; exact ⟨mA, ⟨od, es, ep, k _ _ (.inl rfl) e, c⟩, r⟩
  | rng lo hi => obtain ⟨t, u, v, e⟩ := x; exact ⟨t, u, v, k _ _ (.inl rfl) e⟩
  | frz ob u ih => obtain ⟨e, q⟩ := x; exact ⟨k _ _ (.inl rfl) e, ih q⟩
  | tbl ps =>
    have e : h.get? a = some { cls := .none, data := .fields ps } := x
    show h'.get? a = some { cls := .none, data := .fields ps }
    exact k a _ (.inl rfl) e
  | met f y =>
    have e : h.get? a = some (PySem.W.methodObj (.ref f) (.ref y)) := x
    show h'.get? a = some (PySem.W.methodObj (.ref f) (.ref y))
    exact k a _ (.inl rfl) e
  | ext φ => obtain ⟨p, ⟨o, e⟩, st⟩ := x; exact ⟨st _ _ p fun o q => k _ _ (.inl rfl) q, ⟨o, k _ _ (.inl rfl) e⟩, st⟩
theorem HOk.lt (x : HOk P w H h) (e : H a = some o) : a < h.objs.size := (x a o e).lt
theorem HOk.fresh (x : HOk P w H h) (e : h.objs.size ≤ a) : H a = none := by
  cases q : H a with
  | none => rfl
  | some u => exact absurd (Nat.lt_of_lt_of_le (x.lt q) e) (Nat.lt_irrefl _)
/-- every object of the heap is kept -/
theorem HOk.kept (x : HOk P w H h) (k : ∀ b u, h.get? b = some u → h'.get? b = some u) : HOk P w H h' := fun a o e =>
  (x a o e).stay (fun b u _ q => k b u q) (fun _ q => q) fun _ _ q => q
/-- a new object is laid and tracked -/
theorem HOk.laid (x : HOk P w H h) (k : ∀ b u, h.get? b = some u → h'.get? b = some u) (hp : h.objs.size ≤ a) (new : ObjOk P w (upd H a o) h' a o) : HOk P w (upd H a o) h' := fun b u e => by
  have hn := x.fresh hp
  by_cases hb : b = a
  · subst hb; rw [upd_same] at e; cases e; exact new
  · rw [upd_ne hb] at e
    exact (x b u e).stay (fun c v _ q => k c v q) (fun c q => by rw [upd_ne (ne_of_none q hn)]; exact q) fun c xs q => by rw [upd_ne (ne_of_none q hn)]; exact q
end

/-- what may be read as u: it is u, or a known u -/
def Rd (H : Hp) (a : Addr) (u : HO) : Prop := H a = some u ∨ ∃ o, H a = some (.frz o u)
theorem Rd.of {H : Hp} {a : Addr} {u : HO} (h : H a = some u) : Rd H a u := .inl h
theorem Rd.ok {P : Program} {w : World} {H : Hp} {h : Heap} {a : Addr} {u : HO} (r : Rd H a u) (x : HOk P w H h) : ObjOk P w H h a u := by
  rcases r with r | ⟨o, r⟩
  · exact x a u r
  · obtain ⟨_, q⟩ := x a _ r
    exact q
/-- what may be written -/
def Mut : Option HO → Prop
  | some (.lst _) => True
  | some (.dK _) => True
  | some (.dT _) => True
  | some (.set _ _) => True
  | some (.ins _ _ _) => True
  | some (.ext _) => True
  | _ => False
section
variable {P : Program} {w : World} {H : Hp} {h h' : Heap} {x e : Addr} {o' : HO}
/-- the object at e is changed: x itself, or the dict of the instance x -/
theorem HOk.write (ok : HOk P w H h) (mu : Mut (H x)) (he : e = x ∨ H e = some (.own x)) (k : ∀ b u, b ≠ e → h.get? b = some u → h'.get? b = some u) (heo : ∃ u, h'.get? e = some u)
    (new : ObjOk P w (upd H x o') h' x o') : HOk P w (upd H x o') h' := fun b u q => by
  have nown : ∀ c y, H c = some (.own y) → c ≠ x := fun c y r z => by subst z; rw [r] at mu; exact mu
  have ntup : ∀ c xs, H c = some (.tup xs) → c ≠ x := fun c xs r z => by subst z; rw [r] at mu; exact mu
  by_cases hb : b = x
  · subst hb; rw [upd_same] at q; cases q; exact new
  · rw [upd_ne hb] at q
    by_cases hbe : b = e
    · have q' : H b = some (.own x) := by
        rcases he with z | z
        · exact absurd (hbe.trans z) hb
        · rw [hbe]; exact z
      rw [q] at q'; cases q'
      obtain ⟨v, hv⟩ := heo
      exact ⟨v, by rw [hbe]; exact hv⟩
    · refine (ok b u q).stay (fun c v hc r => k c v ?_ r) (fun c r => by rw [upd_ne (nown c b r)]; exact r) fun c xs r => by rw [upd_ne (ntup c xs r)]; exact r
      rcases hc with rfl | hc
      · exact hbe
      · rintro rfl
        rcases he with z | z
        · exact nown c b hc z
        · rw [hc] at z; cases z; exact hb rfl
end

/-! ### kept unless tracked; of the frames at fs (the callers') the slots may change (an exception that passes writes there); of the records at ex (iterators) nothing is said -/
structure Un (fs ex : List Addr) (H H' : Hp) (h h' : Heap) : Prop where
  keep : ∀ b o, h.get? b = some o → H b = none → b ∉ fs → b ∉ ex → h'.get? b = some o
  slot : ∀ b o, h.get? b = some o → H b = none → b ∈ fs → b ∉ ex → ∃ sl, h'.get? b = some { o with slots := sl }
  free : ∀ b o, h.get? b = some o → H b = none → b ∉ ex → H' b = none
  there : ∀ b o, h.get? b = some o → b ∉ ex → ∃ o', h'.get? b = some o'
  tups : ∀ b xs, H b = some (.tup xs) → H' b = some (.tup xs)
  frzs : ∀ b o u, H b = some (.frz o u) → H' b = some (.frz o u)
  tbls : ∀ b ps, H b = some (.tbl ps) → ∃ more, H' b = some (.tbl (ps ++ more))
section
variable {fs fs' ex ex' : List Addr} {H H1 H2 : Hp} {h h1 h2 h' : Heap} {a x e : Addr} {o : HO}
theorem Un.any (u : Un fs ex H H1 h h1) {b : Addr} {ob : Obj} (q : h.get? b = some ob) (n : H b = none) (hx : b ∉ ex) : ∃ sl, h1.get? b = some { ob with slots := sl } := by
  by_cases hb : b ∈ fs
  · exact u.slot b ob q n hb hx
  · exact ⟨ob.slots, u.keep b ob q n hb hx⟩
theorem Un.trans (a : Un fs ex H H1 h h1) (b : Un fs ex H1 H2 h1 h2) : Un fs ex H H2 h h2 where
  keep := fun c ob q n hc hx => b.keep c ob (a.keep c ob q n hc hx) (a.free c ob q n hx) hc hx
  slot := fun c ob q n hc hx => by
    obtain ⟨sl, e1⟩ := a.slot c ob q n hc hx
    obtain ⟨sl', e2⟩ := b.slot c _ e1 (a.free c ob q n hx) hc hx
    exact ⟨sl', e2⟩
  free := fun c ob q n hx => by
    obtain ⟨o', e1⟩ := a.there c ob q hx
    exact b.free c o' e1 (a.free c ob q n hx) hx
  there := fun c ob q hx => by
    obtain ⟨o', e1⟩ := a.there c ob q hx
    exact b.there c o' e1 hx
  tups := fun c xs q => b.tups c xs (a.tups c xs q)
  frzs := fun c ob xs q => b.frzs c ob xs (a.frzs c ob xs q)
  tbls := fun c ps q => by
    obtain ⟨m1, e1⟩ := a.tbls c ps q
    obtain ⟨m2, e2⟩ := b.tbls c _ e1
    exact ⟨m1 ++ m2, by rw [e2, Array.append_assoc]⟩
theorem Un.kept (k : ∀ b u, h.get? b = some u → h'.get? b = some u) : Un fs ex H H h h' :=
  ⟨fun b ob q _ _ _ => k b ob q, fun b ob q _ _ _ => ⟨ob.slots, k b ob q⟩, fun _ _ _ n _ => n, fun b ob q _ => ⟨ob, k b ob q⟩, fun _ _ q => q, fun _ _ _ q => q, fun _ ps q => ⟨#[], by rw [q]; simp⟩⟩
theorem Un.refl : Un fs ex H H h h := Un.kept fun _ _ q => q
theorem Un.laid (k : ∀ b u, h.get? b = some u → h'.get? b = some u) (hp : h.objs.size ≤ a) (hn : H a = none) : Un fs ex H (upd H a o) h h' where
  keep := fun b u q _ _ _ => k b u q
  slot := fun b u q _ _ _ => ⟨u.slots, k b u q⟩
  free := fun b u q n _ => by rw [upd_ne (Nat.ne_of_lt (Nat.lt_of_lt_of_le (Heap.lt_size q) hp))]; exact n
  there := fun b u q _ => ⟨u, k b u q⟩
  tups := fun b xs q => by rw [upd_ne (ne_of_none q hn)]; exact q
  frzs := fun b u xs q => by rw [upd_ne (ne_of_none q hn)]; exact q
  tbls := fun b ps q => ⟨#[], by rw [upd_ne (ne_of_none q hn), q]; simp⟩
theorem Un.write (mu : Mut (H x)) (he : e = x ∨ H e = some (.own x)) (k : ∀ b u, b ≠ e → h.get? b = some u → h'.get? b = some u) (heo : ∃ u, h'.get? e = some u) : Un fs ex H (upd H x o) h h' := by
  have hx : ∀ b, H b = none → b ≠ x := fun b n z => by subst z; rw [n] at mu; exact mu
  have hb : ∀ b, H b = none → b ≠ e := fun b n z => by
    subst z
    rcases he with r | r
    · exact hx b n r
    · rw [n] at r; cases r
  have hm : ∀ b u, H b = some u → ¬ Mut (some u) → b ≠ x := fun b u q nm z => by subst z; rw [q] at mu; exact nm mu
  refine ⟨fun b u q n _ _ => k b u (hb b n) q, fun b u q n _ _ => ⟨u.slots, k b u (hb b n) q⟩, fun b u q n _ => by rw [upd_ne (hx b n)]; exact n, fun b u q _ => ?_,
    fun b xs q => by rw [upd_ne (hm b _ q fun z => z)]; exact q, fun b u xs q => by rw [upd_ne (hm b _ q fun z => z)]; exact q, fun b ps q => ⟨#[], by rw [upd_ne (hm b _ q fun z => z), q]; simp⟩⟩
  by_cases hbe : b = e
  · subst hbe; exact heo
  · exact ⟨u, k b u hbe q⟩
theorem Un.mono (u : Un fs ex H H1 h h1) (hs : ∀ b ∈ fs, b ∈ fs') (hx : ∀ b ∈ ex, b ∈ ex') : Un fs' ex' H H1 h h1 :=
  ⟨fun b ob q n hb he => u.keep b ob q n (fun z => hb (hs b z)) fun z => he (hx b z), fun _ _ q n _ he => u.any q n fun z => he (hx _ z), fun b ob q n he => u.free b ob q n fun z => he (hx b z), fun b ob q he => u.there b ob q fun z => he (hx b z), u.tups, u.frzs, u.tbls⟩
end

/-! ### the heap without what is tracked -/
def trk (h : Heap) (H : Hp) : List Addr := (List.range h.objs.size).filter fun a => (H a).isSome
def hidT (h : Heap) (H : Hp) : Heap := PySem.W.hideAll h (trk h H)
theorem hidT_size (h : Heap) (H : Hp) : (hidT h H).objs.size = h.objs.size := PySem.W.hideAll_size _ _
theorem hidT_get {h : Heap} {H : Hp} {b : Addr} {o : Obj} (e : h.get? b = some o) (n : H b = none) : (hidT h H).get? b = some o :=
  PySem.W.hideAll_get _ e fun hm => by
    have q : (H b).isSome = true := (List.mem_filter.mp hm).2
    rw [n] at q; simp at q
theorem of_hidT {h : Heap} {H : Hp} {b : Addr} {o : Obj} (e : (hidT h H).get? b = some o) : h.get? b = some o ∧ H b = none := by
  have e' : h.get? b = some o := PySem.W.of_hideAll (trk h H) e
  refine ⟨e', ?_⟩
  cases q : H b with
  | none => rfl
  | some x =>
    have hm : b ∈ trk h H := List.mem_filter.mpr ⟨List.mem_range.mpr (Heap.lt_size e'), by simp [q]⟩
    have z : (hidT h H).get? b = none := PySem.W.hideAll_none (trk h H) hm
    rw [z] at e; cases e

/-! ### OpenK's ledger, filled with every new object but one -/
def allNews (g h : Heap) (L : Addr) : List (Addr × Obj) := (List.range h.objs.size).filterMap fun a => if a = L ∨ (g.get? a).isSome = true then none else (h.get? a).map fun o => (a, o)
def rest (g h : Heap) (L d : Addr) : List (Addr × Obj) := (allNews g h L).filter fun p => decide (p.1 ≠ d)
end L2

namespace L2
open PySem PySem.Spec PyProof.Rows

/-- the module's facts, over the base: the heap at the law's entry without what is tracked there -/
structure Mod (K : PySem.W.Frag) (mg : Str → Option Value) (base : Heap) : Prop where
  kin : K.In base
  glob : base.Ns mainGlobals mg
  blt : ∃ mb, base.Ns builtinsNs mb ∧ ∀ x : Str, x ≠ "__name__" → mb x = bootBuiltins x
  nolimit : base.NoLimit

/-- the context: a def's body (or a comprehension's block) running. base: fixed through the whole law; s₀, H₀: the entry; outer: the frames whose slots others may change (a def's callers); stack: all frames that run;
   ex: iterators that were made ahead of the entry and are walked here (a comprehension's); fn: the names whose cells were made at the entry (a def: all; a comprehension's block: its own); calm: not within an except suite; pn: pins that every state bears; xe: what is wanted of an exception that leaves the code -/
structure Cx where
  prog : Program
  w : World
  K : PySem.W.Frag
  mg : Str → Option Value
  base : Heap
  A : Around
  N : List Str
  s_0 : Shared
  H_0 : Hp
  env : Env
  outer : List Env
  stack : List Env
  ex : List Addr
  fn : Str → Bool
  calm : Bool
  pn : List (Addr × Obj)
  xe : Value → Shared → Prop
/-- the callers' frames -/
def frs (l : List Env) : List Addr := l.filterMap (·.frame)
abbrev Cx.fs (X : Cx) : List Addr := frs X.outer

def Vis (sc : Scope) (x : Str) : Prop := sc.names.lookup x = some .local ∨ sc.names.lookup x = some .cell ∨ sc.names.lookup x = some .free
def Loc (sc : Scope) (x : Str) : Prop := sc.names.lookup x = some .local ∨ sc.names.lookup x = some .cell
def Look (env : Env) (h : Heap) (m : Str → Option Value) (x : Str) (u : Value) : Prop :=
  (env.kindOf x = some .local ∧ m x = some u) ∨ ((env.kindOf x = some .cell ∨ env.kindOf x = some .free) ∧ ∃ c, env.cells.lookup x = some c ∧ h.IsCell c (some u))

structure Cx.Ok (X : Cx) : Prop where
  mod : Mod X.K X.mg X.base
  kind : X.env.scope.kind = .function
  glob : X.env.globals = mainGlobals
  blt : X.env.builtins = builtinsNs
  above : X.s_0.heap.objs.size ≤ X.env.locals
  inj : ∀ x y c, X.env.cells.lookup x = some c → X.env.cells.lookup y = some c → x = y
  has : ∀ x, (X.env.kindOf x = some .cell ∨ X.env.kindOf x = some .free) → ∃ c, X.env.cells.lookup x = some c
  cab : ∀ x c, X.fn x = true → X.env.cells.lookup x = some c → X.s_0.heap.objs.size ≤ c
  hd : X.calm = true → X.A.handled = none
  frames : X.A.frames = some X.stack
  stk : X.stack = X.outer ∨ (X.stack = X.env :: X.outer ∧ X.env.frame = some X.env.locals)
  exf : ∀ b ∈ X.ex, b ≠ X.env.locals ∧ ∀ x c, X.env.cells.lookup x = some c → c ≠ b
  bs : ∀ b o, X.base.get? b = some o → X.s_0.heap.get? b = some o ∧ X.H_0 b = none
  bsz : X.base.objs.size ≤ X.s_0.heap.objs.size
  noex : ∀ b o, X.base.get? b = some o → b ∉ X.ex
  exfs : ∀ b ∈ X.ex, b ∉ X.fs
  funs : X.s_0.heap.FunFrames X.base X.outer
  frf : ∀ b ∈ X.fs, X.H_0 b = none

structure Inv (X : Cx) (pins : List (Addr × Obj)) (σ : List (Option V)) (H : Hp) (s : Shared) : Prop where
  ok : X.Ok
  os : s.os = X.s_0.os
  bare : AllBare s.gens
  base : Un X.fs X.ex X.H_0 H X.s_0.heap s.heap
  loc : ∃ m, s.heap.Ns X.env.locals m ∧ ∀ (i : Nat) (x : Str) (v : V), X.N[i]? = some x → σ[i]? = some (some v) → Vis X.env.scope x → ∃ u, RelV v u ∧ Look X.env s.heap m x u
  cell : ∀ x c, X.env.cells.lookup x = some c → ∃ v, s.heap.IsCell c v
  free : H X.env.locals = none
  freeC : ∀ x c, X.env.cells.lookup x = some c → H c = none
  pin : ∀ p ∈ X.pn ++ pins, s.heap.get? p.1 = some p.2 ∧ H p.1 = none ∧ p.1 ≠ X.env.locals ∧ p.1 ∉ X.fs ∧ ∀ v, p.2.data ≠ .cell v
  hok : HOk X.prog X.w H s.heap
  len : σ.length = X.N.length

section
variable {X : Cx} {pins : List (Addr × Obj)} {σ : List (Option V)} {H H' : Hp} {s : Shared} {h' : Heap}

theorem Cx.Ok.nofr (ok : X.Ok) {b : Addr} {o : Obj} (e : X.base.get? b = some o) : b ∉ X.fs := fun hb => by
  have := (ok.funs.mem hb).1
  rw [e] at this; cases this
theorem Inv.bs (I : Inv X pins σ H s) : ∀ b o, X.base.get? b = some o → s.heap.get? b = some o ∧ H b = none := fun b o e =>
  ⟨I.base.keep b o (I.ok.bs b o e).1 (I.ok.bs b o e).2 (I.ok.nofr e) (I.ok.noex b o e), I.base.free b o (I.ok.bs b o e).1 (I.ok.bs b o e).2 (I.ok.noex b o e)⟩
theorem Inv.bk (I : Inv X pins σ H s) : ∀ b o, X.base.get? b = some o → s.heap.get? b = some o := fun b o e => (I.bs b o e).1
theorem Inv.mod (I : Inv X pins σ H s) : Mod X.K X.mg X.base := I.ok.mod
theorem Inv.kIn (I : Inv X pins σ H s) : X.K.In s.heap := I.ok.mod.kin.keeps I.bk
theorem Inv.nolimit (I : Inv X pins σ H s) : s.heap.NoLimit := I.ok.mod.nolimit.keeps I.bk
theorem Inv.lt (I : Inv X pins σ H s) : X.env.locals < s.heap.objs.size := let ⟨_, hn, _⟩ := I.loc; hn.lt
theorem Inv.sz (I : Inv X pins σ H s) : X.s_0.heap.objs.size ≤ s.heap.objs.size := Nat.le_trans I.ok.above (Nat.le_of_lt I.lt)
theorem Inv.nofs (I : Inv X pins σ H s) {a : Addr} (h : s.heap.objs.size ≤ a) : a ∉ X.fs := fun hb => by
  obtain ⟨_, o, ho, _⟩ := I.ok.funs.mem hb
  exact absurd (Nat.lt_of_lt_of_le (Heap.lt_size ho) (Nat.le_trans I.sz h)) (Nat.lt_irrefl _)
theorem Inv.cne (I : Inv X pins σ H s) : ∀ x c, X.env.cells.lookup x = some c → c ≠ X.env.locals := fun x c e z => by
  obtain ⟨v, o, ho, hd⟩ := I.cell x c e
  obtain ⟨m, ⟨o', es, ep, ho', hd', _⟩, _⟩ := I.loc
  rw [z, ho'] at ho; cases ho; rw [hd'] at hd; cases hd
theorem Inv.funs (I : Inv X pins σ H s) : s.heap.FunFrames X.base X.outer := by
  have all : ∀ (l : List Env), (∀ b ∈ frs l, b ∈ X.fs) → X.s_0.heap.FunFrames X.base l → s.heap.FunFrames X.base l := by
    intro l
    induction l with
    | nil => intro _ _; trivial
    | cons env r ih =>
      intro hs hl
      obtain ⟨hk, ⟨L, o, hf, hn, ho, hd⟩, hr⟩ := hl
      have hL : L ∈ X.fs := hs L (by unfold frs; rw [List.filterMap_cons, hf]; exact List.mem_cons_self)
      obtain ⟨sl, e⟩ := I.base.slot L o ho (I.ok.frf L hL) hL fun z => I.ok.exfs L z hL
      exact ⟨hk, ⟨L, _, hf, hn, e, hd⟩, ih (fun b hb => hs b (by unfold frs; rw [List.filterMap_cons, hf]; exact List.mem_cons_of_mem _ hb)) hr⟩
  exact all X.outer (fun _ hb => hb) I.ok.funs

/-- the frames that run, for a call -/
theorem Inv.stack (I : Inv X pins σ H s) : s.heap.FunFrames X.base X.stack := by
  rcases I.ok.stk with e | ⟨e, hf⟩
  · rw [e]; exact I.funs
  · rw [e]
    obtain ⟨m, hn, _⟩ := I.loc
    refine .cons (by rw [I.ok.kind]; decide) hf hn ?_ I.funs
    exact Heap.get?_none_of_le (Nat.le_trans I.ok.bsz I.ok.above)
theorem Inv.stkSub (I : Inv X pins σ H s) : ∀ b ∈ frs X.stack, b ∈ X.env.locals :: X.fs := fun b hb => by
  rcases I.ok.stk with e | ⟨e, hf⟩
  · rw [e] at hb; exact List.mem_cons_of_mem _ hb
  · rw [e] at hb
    unfold frs at hb
    rw [List.filterMap_cons, hf] at hb
    exact hb
theorem Inv.stkFree (I : Inv X pins σ H s) : ∀ b ∈ frs X.stack, H b = none := fun b hb => by
  rcases List.mem_cons.mp (I.stkSub b hb) with e | hb
  · rw [e]; exact I.free
  · obtain ⟨_, o, ho, _⟩ := I.ok.funs.mem hb
    exact I.base.free b o ho (I.ok.frf b hb) fun z => I.ok.exfs b z hb

/-- THE STEP: the untracked objects but the frame and the records at ch are kept (the callers' frames up to slots), the frame's map is kept, the new abstract heap is held -/
theorem Inv.step {g' : Array GenState} {t' : Nat} {d' : Drawn} {ch : List Addr} (I : Inv X pins σ H s)
    (hch : ∀ b ∈ ch, (b ∈ X.ex ∨ X.s_0.heap.objs.size ≤ b) ∧ b ≠ X.env.locals ∧ (∀ x c, X.env.cells.lookup x = some c → c ≠ b) ∧ ∀ p ∈ X.pn ++ pins, p.1 ≠ b)
    (keep : ∀ b o, b ≠ X.env.locals → b ∉ X.fs → b ∉ ch → s.heap.get? b = some o → H b = none → h'.get? b = some o)
    (slot : ∀ b o, b ≠ X.env.locals → b ∈ X.fs → b ∉ ch → s.heap.get? b = some o → H b = none → ∃ sl, h'.get? b = some { o with slots := sl }) (free : ∀ b o, b ∉ ch → s.heap.get? b = some o → H b = none → H' b = none)
    (there : ∀ b o, b ∉ ch → s.heap.get? b = some o → ∃ o', h'.get? b = some o')
    (tups : ∀ b xs, H b = some (.tup xs) → H' b = some (.tup xs)) (frzs : ∀ b o u, H b = some (.frz o u) → H' b = some (.frz o u)) (tbls : ∀ b ps, H b = some (.tbl ps) → ∃ more, H' b = some (.tbl (ps ++ more)))
    (ns : ∀ m, s.heap.Ns X.env.locals m → h'.Ns X.env.locals m) (hok : HOk X.prog X.w H' h') (hg : AllBare g') :
    Inv X pins σ H' { s with heap := h', gens := g', drawn := d', toks := t' } := by
  have neL : ∀ b o, X.s_0.heap.get? b = some o → b ≠ X.env.locals := fun b o e => Nat.ne_of_lt (Nat.lt_of_lt_of_le (Heap.lt_size e) I.ok.above)
  have neC : ∀ b o, X.s_0.heap.get? b = some o → b ∉ X.ex → b ∉ ch := fun b o e hx hb => by
    rcases (hch b hb).1 with z | z
    · exact hx z
    · exact absurd (Nat.lt_of_lt_of_le (Heap.lt_size e) z) (Nat.lt_irrefl _)
  have cellK : ∀ x c, X.env.cells.lookup x = some c → ∀ v, s.heap.IsCell c v → h'.IsCell c v := fun x c e v ⟨o, ho, hd⟩ => by
    have nch : c ∉ ch := fun z => (hch c z).2.2.1 x c e rfl
    by_cases hc : c ∈ X.fs
    · obtain ⟨sl, q⟩ := slot c o (I.cne x c e) hc nch ho (I.freeC x c e)
      exact ⟨_, q, hd⟩
    · exact ⟨o, keep c o (I.cne x c e) hc nch ho (I.freeC x c e), hd⟩
  refine ⟨I.ok, I.os, hg, ⟨fun b o e n hb hx => ?_, fun b o e n hb hx => ?_, fun b o e n hx => ?_, fun b o e hx => ?_, fun b xs e => tups b xs (I.base.tups b xs e), fun b o xs e => frzs b o xs (I.base.frzs b o xs e), fun b ps e => ?_⟩, ?_, fun x c e => ?_, ?_, fun x c e => ?_, fun p hp => ?_, hok, I.len⟩
  · exact keep b o (neL b o e) hb (neC b o e hx) (I.base.keep b o e n hb hx) (I.base.free b o e n hx)
  · obtain ⟨sl, e1⟩ := I.base.slot b o e n hb hx
    obtain ⟨sl', e2⟩ := slot b _ (neL b o e) hb (neC b o e hx) e1 (I.base.free b o e n hx)
    exact ⟨sl', e2⟩
  · obtain ⟨o', e1⟩ := I.base.there b o e hx
    exact free b o' (neC b o e hx) e1 (I.base.free b o e n hx)
  · obtain ⟨o', e1⟩ := I.base.there b o e hx
    exact there b o' (neC b o e hx) e1
  · obtain ⟨m1, e1⟩ := I.base.tbls b ps e
    obtain ⟨m2, e2⟩ := tbls b _ e1
    exact ⟨m1 ++ m2, by rw [e2, Array.append_assoc]⟩
  · obtain ⟨m, hn, hl⟩ := I.loc
    refine ⟨m, ns m hn, fun i x v e1 e2 e3 => ?_⟩
    obtain ⟨u, r, l⟩ := hl i x v e1 e2 e3
    refine ⟨u, r, ?_⟩
    rcases l with l | ⟨k, c, e, z⟩
    · exact .inl l
    · exact .inr ⟨k, c, e, cellK x c e _ z⟩
  · obtain ⟨v, z⟩ := I.cell x c e
    exact ⟨v, cellK x c e v z⟩
  · obtain ⟨m, ⟨o, _, _, ho, _⟩, _⟩ := I.loc
    exact free _ o (fun z => (hch _ z).2.1 rfl) ho I.free
  · obtain ⟨v, o, ho, hd⟩ := I.cell x c e
    exact free c o (fun z => (hch c z).2.2.1 x c e rfl) ho (I.freeC x c e)
  · obtain ⟨e, n, ne, nf, d⟩ := I.pin p hp
    have nch : p.1 ∉ ch := fun z => (hch p.1 z).2.2.2 p hp rfl
    exact ⟨keep p.1 p.2 ne nf nch e n, free p.1 p.2 nch e n, ne, nf, d⟩
/-- .. where the frame's own object is kept too -/
theorem Inv.un {t' : Nat} (I : Inv X pins σ H s) (u : Un X.fs [] H H' s.heap h') (hok : HOk X.prog X.w H' h') : Inv X pins σ H' { s with heap := h', toks := t' } := by
  obtain ⟨m, ⟨o, es, ep, ho, r⟩, _⟩ := id I.loc
  obtain ⟨sl, hL⟩ := u.any ho I.free (by simp)
  exact I.step (g' := s.gens) (d' := s.drawn) (ch := []) (fun _ z => nomatch z) (fun b o _ hb _ e n => u.keep b o e n hb (by simp)) (fun b o _ hb _ e n => u.slot b o e n hb (by simp)) (fun b o _ e n => u.free b o e n (by simp)) (fun b o _ e => u.there b o e (by simp)) u.tups u.frzs u.tbls (fun m' hm => by
    obtain ⟨o', es', ep', ho', r'⟩ := hm
    rw [ho] at ho'; cases ho'
    exact ⟨_, es', ep', hL, r'⟩) hok I.bare
/-- behind a call (or a comprehension's block): the slots of this frame may have changed too, the records at ch may have turned -/
theorem Inv.call {g' : Array GenState} {t' : Nat} {d' : Drawn} {ch : List Addr} (I : Inv X pins σ H s) (u : Un (frs X.stack) ch H H' s.heap h') (hok : HOk X.prog X.w H' h') (hg : AllBare g')
    (hch : ∀ b ∈ ch, (b ∈ X.ex ∨ X.s_0.heap.objs.size ≤ b) ∧ b ≠ X.env.locals ∧ (∀ x c, X.env.cells.lookup x = some c → c ≠ b) ∧ ∀ p ∈ X.pn ++ pins, p.1 ≠ b) :
    Inv X pins σ H' { s with heap := h', gens := g', drawn := d', toks := t' } := by
  obtain ⟨m, ⟨o, es, ep, ho, r⟩, _⟩ := id I.loc
  obtain ⟨sl, hL⟩ := u.any ho I.free fun z => (hch _ z).2.1 rfl
  exact I.step (ch := ch) hch (fun b o hL hb hc e n => u.keep b o e n (fun z => (List.mem_cons.mp (I.stkSub b z)).elim hL hb) hc) (fun b o _ _ hc e n => u.any e n hc) (fun b o hc e n => u.free b o e n hc) (fun b o hc e => u.there b o e hc) u.tups u.frzs u.tbls (fun m' hm => by
    obtain ⟨o', es', ep', ho', r'⟩ := hm
    rw [ho] at ho'; cases ho'
    exact ⟨_, es', ep', hL, r'⟩) hok hg
/-- an untracked record of ours (an iterator) has turned -/
theorem Inv.turned {t' : Nat} {it : Addr} (I : Inv X pins σ H s) (k : ∀ b o, b ≠ it → s.heap.get? b = some o → h'.get? b = some o) (hn : H it = none) (hL : it ≠ X.env.locals)
    (h1 : it ∈ X.ex ∨ X.s_0.heap.objs.size ≤ it) (h2 : ∀ x c, X.env.cells.lookup x = some c → c ≠ it) (h3 : ∀ p ∈ X.pn ++ pins, p.1 ≠ it) : Inv X pins σ H { s with heap := h', toks := t' } := by
  have nit : ∀ b u, H b = some u → b ≠ it := fun b u e z => by rw [z, hn] at e; cases e
  refine I.step (g' := s.gens) (d' := s.drawn) (ch := [it]) (fun b hb => ?_) (fun b o _ _ hc e _ => k b o (fun z => hc (by simp [z])) e) (fun b o _ _ hc e _ => ⟨o.slots, k b o (fun z => hc (by simp [z])) e⟩) (fun _ _ _ _ n => n)
    (fun b o hc e => ⟨o, k b o (fun z => hc (by simp [z])) e⟩) (fun _ _ e => e) (fun _ _ _ e => e) (fun b ps e => ⟨#[], by rw [e]; simp⟩) (fun m hm => ?_) (fun b u e => ?_) I.bare
  · have e : b = it := by simpa using hb
    subst e
    exact ⟨h1, hL, h2, h3⟩
  · obtain ⟨o, es, ep, ho, r⟩ := hm
    exact ⟨o, es, ep, k _ o (Ne.symm hL) ho, r⟩
  · refine (I.hok b u e).stay (fun c v hc q => k c v ?_ q) (fun _ q => q) fun _ _ q => q
    rcases hc with z | z
    · rw [z]; exact nit b u e
    · exact nit c _ z
theorem Inv.tok (I : Inv X pins σ H s) (t : Nat) : Inv X pins σ H { s with toks := t } := I.un (h' := s.heap) (t' := t) Un.refl I.hok
/-- all objects kept -/
theorem Inv.kept {t' : Nat} (I : Inv X pins σ H s) (k : ∀ b u, s.heap.get? b = some u → h'.get? b = some u) : Inv X pins σ H { s with heap := h', toks := t' } := I.un (Un.kept k) (I.hok.kept k)
/-- a new object laid and tracked -/
theorem Inv.laid {a : Addr} {o : HO} {t' : Nat} (I : Inv X pins σ H s) (k : ∀ b u, s.heap.get? b = some u → h'.get? b = some u) (hp : s.heap.objs.size ≤ a) (new : ObjOk X.prog X.w (upd H a o) h' a o) :
    Inv X pins σ (upd H a o) { s with heap := h', toks := t' } := I.un (Un.laid k hp (I.hok.fresh hp)) (I.hok.laid k hp new)
/-- an object written -/
theorem Inv.write {x e : Addr} {o : HO} {t' : Nat} (I : Inv X pins σ H s) (mu : Mut (H x)) (he : e = x ∨ H e = some (.own x)) (k : ∀ b u, b ≠ e → s.heap.get? b = some u → h'.get? b = some u) (heo : ∃ u, h'.get? e = some u)
    (new : ObjOk X.prog X.w (upd H x o) h' x o) : Inv X pins σ (upd H x o) { s with heap := h', toks := t' } := I.un (Un.write mu he k heo) (I.hok.write mu he k heo new)
/-- forgetting slots, pins -/
theorem Inv.weak {σ' : List (Option V)} (I : Inv X pins σ H s) (hl : σ'.length = σ.length) (w : ∀ (i : Nat) v, σ'[i]? = some (some v) → σ[i]? = some (some v)) : Inv X pins σ' H s :=
  ⟨I.ok, I.os, I.bare, I.base, let ⟨m, hn, hl'⟩ := I.loc; ⟨m, hn, fun i x v e1 e2 e3 => hl' i x v e1 (w i v e2) e3⟩, I.cell, I.free, I.freeC, I.pin, I.hok, hl.trans I.len⟩
theorem Inv.pins_of {pins' : List (Addr × Obj)} (I : Inv X pins σ H s) (h : ∀ p ∈ pins', s.heap.get? p.1 = some p.2 ∧ H p.1 = none ∧ p.1 ≠ X.env.locals ∧ p.1 ∉ X.fs ∧ ∀ v, p.2.data ≠ .cell v) : Inv X pins' σ H s :=
  ⟨I.ok, I.os, I.bare, I.base, I.loc, I.cell, I.free, I.freeC, fun p hp => (List.mem_append.mp hp).elim (fun z => I.pin p (List.mem_append_left _ z)) (h p), I.hok, I.len⟩

theorem nodup_ix {N : List Str} (hN : N.Nodup) {i j : Nat} {x : Str} (a : N[i]? = some x) (b : N[j]? = some x) : i = j := by
  obtain ⟨h1, e1⟩ := List.getElem?_eq_some_iff.mp a
  obtain ⟨h2, e2⟩ := List.getElem?_eq_some_iff.mp b
  exact (List.getElem_inj hN).mp (e1.trans e2.symm)

/-- a name is stored; what changed -/
theorem store_ok2 {M : Model} {A : Around} {E : Value → Shared → Prop} {i : Nat} {x : Str} {v : V} {u : Value} {Q : Unit → Shared → Prop} (I : Inv X pins σ H s) (hN : X.N.Nodup) (hi : X.N[i]? = some x) (hx : Loc X.env.scope x) (r : RelV v u)
    (h : ∀ s', Inv X pins (σ.set i (some v)) H s' → (∃ a, Heap.SameBut a s.heap s'.heap ∧ (a = X.env.locals ∨ X.env.cells.lookup x = some a)) → Q () s') (hf : X.fn x = true ∨ X.env.scope.names.lookup x = some .local := by first | exact .inl rfl | exact .inr rfl | assumption) : wpAny M A (storeName X.env x u) Q E s := by
  obtain ⟨m, hn, hl⟩ := id I.loc
  have hcls : (X.env.scope.kind == .class || (X.env.scope.kind == .module && X.env.locals != X.env.globals)) = false := by rw [I.ok.kind]; rfl
  have hiσ : i < σ.length := by rw [I.len]; exact (List.getElem?_eq_some_iff.mp hi).1
  have cne := I.cne
  have tracked : ∀ {a : Addr} {h' : Heap}, (∃ o, s.heap.get? a = some o ∧ H a = none) → Heap.SameBut a s.heap h' → HOk X.prog X.w H h' := fun {a h'} ha hs b ob e => by
    obtain ⟨_, _, hfree⟩ := ha
    refine (I.hok b ob e).stay (fun c w' hc q => (hs.2 c ?_).trans q) (fun _ q => q) fun _ _ q => q
    rintro rfl
    rcases hc with rfl | hc
    · rw [hfree] at e; cases e
    · rw [hfree] at hc; cases hc
  rcases hx with hk | hk
  · refine wpAny_storeName_local hk hn (fun h' hn' hs => ?_) hcls
    obtain ⟨oL, _, _, hoL, _⟩ := id hn
    refine h _ ⟨I.ok, I.os, I.bare, ⟨fun b o e n hb hx => ?_, fun b o e n hb hx => ?_, I.base.free, fun b o e hx => ?_, I.base.tups, I.base.frzs, I.base.tbls⟩, ⟨_, hn', fun j y v' e1 e2 e3 => ?_⟩, fun y c e => ?_, I.free, I.freeC, fun p hp => ?_, tracked ⟨oL, hoL, I.free⟩ hs, by simpa using I.len⟩ ⟨_, hs, .inl rfl⟩
    · exact (hs.2 b (Nat.ne_of_lt (Nat.lt_of_lt_of_le (Heap.lt_size e) I.ok.above))).trans (I.base.keep b o e n hb hx)
    · obtain ⟨sl, e1⟩ := I.base.slot b o e n hb hx
      exact ⟨sl, (hs.2 b (Nat.ne_of_lt (Nat.lt_of_lt_of_le (Heap.lt_size e) I.ok.above))).trans e1⟩
    · obtain ⟨o', e1⟩ := I.base.there b o e hx
      exact ⟨o', (hs.2 b (Nat.ne_of_lt (Nat.lt_of_lt_of_le (Heap.lt_size e) I.ok.above))).trans e1⟩
    · by_cases hj : j = i
      · subst hj
        rw [hi] at e1; cases e1
        rw [List.getElem?_set_self hiσ] at e2
        cases e2
        exact ⟨u, r, .inl ⟨hk, by simp⟩⟩
      · rw [List.getElem?_set_ne (Ne.symm hj)] at e2
        obtain ⟨u', r', q⟩ := hl j y v' e1 e2 e3
        refine ⟨u', r', ?_⟩
        rcases q with ⟨k, e⟩ | ⟨k, c, e, z⟩
        · refine .inl ⟨k, ?_⟩
          have : y ≠ x := fun e => hj (nodup_ix hN e1 (e ▸ hi))
          simp [this, e]
        · exact .inr ⟨k, c, e, z.sameBut hs (cne y c e)⟩
    · obtain ⟨w', z⟩ := I.cell y c e
      exact ⟨w', z.sameBut hs (cne y c e)⟩
    · obtain ⟨e, n, ne, nf, d⟩ := I.pin p hp
      exact ⟨(hs.2 p.1 ne).trans e, n, ne, nf, d⟩
  · have hfn : X.fn x = true := by
      rcases hf with z | z
      · exact z
      · rw [z] at hk; cases hk
    obtain ⟨c, hc⟩ := I.ok.has x (.inl hk)
    obtain ⟨w', z⟩ := I.cell x c hc
    refine wpAny_storeName_cell I.ok.kind hk hc z (fun h' hc' hs => ?_)
    obtain ⟨oc, hoc, hocd⟩ := id z
    refine h { s with heap := h' } ⟨I.ok, I.os, I.bare, ⟨fun b o e n hb hx => ?_, fun b o e n hb hx => ?_, I.base.free, fun b o e hx => ?_, I.base.tups, I.base.frzs, I.base.tbls⟩, ⟨m, hn.sameBut hs (Ne.symm (cne x c hc)), fun j y v' e1 e2 e3 => ?_⟩, fun y c' e => ?_, I.free, I.freeC, fun p hp => ?_, tracked ⟨oc, hoc, I.freeC x c hc⟩ hs, by simpa using I.len⟩ ⟨c, hs, .inr hc⟩
    · exact (hs.2 b (Nat.ne_of_lt (Nat.lt_of_lt_of_le (Heap.lt_size e) (I.ok.cab x c hfn hc)))).trans (I.base.keep b o e n hb hx)
    · obtain ⟨sl, e1⟩ := I.base.slot b o e n hb hx
      exact ⟨sl, (hs.2 b (Nat.ne_of_lt (Nat.lt_of_lt_of_le (Heap.lt_size e) (I.ok.cab x c hfn hc)))).trans e1⟩
    · obtain ⟨o', e1⟩ := I.base.there b o e hx
      exact ⟨o', (hs.2 b (Nat.ne_of_lt (Nat.lt_of_lt_of_le (Heap.lt_size e) (I.ok.cab x c hfn hc)))).trans e1⟩
    · by_cases hj : j = i
      · subst hj
        rw [hi] at e1; cases e1
        rw [List.getElem?_set_self hiσ] at e2
        cases e2
        exact ⟨u, r, .inr ⟨.inl hk, c, hc, hc'⟩⟩
      · rw [List.getElem?_set_ne (Ne.symm hj)] at e2
        obtain ⟨u', r', q⟩ := hl j y v' e1 e2 e3
        refine ⟨u', r', ?_⟩
        rcases q with q | ⟨k, c', e, z'⟩
        · exact .inl q
        · refine .inr ⟨k, c', e, z'.sameBut hs ?_⟩
          rintro rfl
          exact hj (nodup_ix hN e1 (I.ok.inj _ _ _ e hc ▸ hi))
    · by_cases hcc : c' = c
      · subst hcc; exact ⟨_, hc'⟩
      · obtain ⟨w2, z2⟩ := I.cell y c' e
        exact ⟨w2, z2.sameBut hs hcc⟩
    · obtain ⟨e, n, ne, nf, d⟩ := I.pin p hp
      refine ⟨(hs.2 p.1 ?_).trans e, n, ne, nf, d⟩
      intro q
      rw [q, hoc] at e
      have q' : oc = p.2 := Option.some.inj e
      exact d w' (by rw [← q']; exact hocd)
theorem store_ok {M : Model} {A : Around} {E : Value → Shared → Prop} {i : Nat} {x : Str} {v : V} {u : Value} {Q : Unit → Shared → Prop} (I : Inv X pins σ H s) (hN : X.N.Nodup) (hi : X.N[i]? = some x) (hx : Loc X.env.scope x) (r : RelV v u)
    (h : ∀ s', Inv X pins (σ.set i (some v)) H s' → Q () s') (hf : X.fn x = true ∨ X.env.scope.names.lookup x = some .local := by first | exact .inl rfl | exact .inr rfl | assumption) : wpAny M A (storeName X.env x u) Q E s :=
  store_ok2 I hN hi hx r (fun s' I' _ => h s' I') hf
/-- behind a call or a block, the state as it is -/
theorem Inv.call' {s' : Shared} {ch : List Addr} (I : Inv X pins σ H s) (ho : s'.os = s.os) (u : Un (frs X.stack) ch H H' s.heap s'.heap) (hok : HOk X.prog X.w H' s'.heap) (hg : AllBare s'.gens)
    (hch : ∀ b ∈ ch, (b ∈ X.ex ∨ X.s_0.heap.objs.size ≤ b) ∧ b ≠ X.env.locals ∧ (∀ x c, X.env.cells.lookup x = some c → c ≠ b) ∧ ∀ p ∈ X.pn ++ pins, p.1 ≠ b) : Inv X pins σ H' s' := by
  obtain ⟨h', g', d', t', o'⟩ := s'
  have e : o' = s.os := ho
  subst e
  exact I.call (g' := g') (t' := t') (d' := d') u hok hg hch
end

/-! ### the judgements -/
/-- an exception: its class, its own dict's address (where it has one), the abstract heap behind it -/
abbrev XK := Value → Option Addr → Hp → Prop
abbrev St := List (Option V)
abbrev VK := V → Hp → Prop
/-- an expression's reading; a test's; an argument list's -/
abbrev TE := St → Hp → VK → Prop
abbrev TT := St → Hp → (Bool → Hp → Prop) → Prop
abbrev TA := St → Hp → (List V → Hp → Prop) → Prop
/-- what is wanted behind a statement -/
structure Ends where
  nx : St → Hp → Prop
  rt : VK
  bk : St → Hp → Prop := fun _ _ => False
  ct : St → Hp → Prop := fun _ _ => False
abbrev TS := Ends → St → Hp → Prop

def EP (X : Cx) (pins : List (Addr × Obj)) (σ : St) (Q : VK) (u : Value) (s' : Shared) : Prop := ∃ v H', Inv X pins σ H' s' ∧ RelV v u ∧ Q v H'
def TP (X : Cx) (pins : List (Addr × Obj)) (σ : St) (Q : Bool → Hp → Prop) (b : Bool) (s' : Shared) : Prop := ∃ H', Inv X pins σ H' s' ∧ Q b H'
def AP (X : Cx) (pins : List (Addr × Obj)) (σ : St) (Q : List V → Hp → Prop) (us : List Value) (s' : Shared) : Prop := ∃ vs H', Inv X pins σ H' s' ∧ Vals vs us ∧ Q vs H'
def SP (X : Cx) (pins : List (Addr × Obj)) (D : Ends) (f : Flow) (s' : Shared) : Prop :=
  match f with
  | .next => ∃ σ' H', Inv X pins σ' H' s' ∧ D.nx σ' H'
  | .brk => ∃ σ' H', Inv X pins σ' H' s' ∧ D.bk σ' H'
  | .cont => ∃ σ' H', Inv X pins σ' H' s' ∧ D.ct σ' H'
  | .ret u => ∃ v σ' H', Inv X pins σ' H' s' ∧ RelV v u ∧ D.rt v H'

def PE (X : Cx) (e : Expr) (t : TE) : Prop :=
  ∀ (pins : List (Addr × Obj)) (s : Shared) (σ : St) (H : Hp) (Q : VK), Inv X pins σ H s → t σ H Q → wpAny (model X.prog X.w) X.A (eval e X.env) (EP X pins σ Q) X.xe s
def PT (X : Cx) (e : Expr) (t : TT) : Prop :=
  ∀ (pins : List (Addr × Obj)) (s : Shared) (σ : St) (H : Hp) (Q : Bool → Hp → Prop), Inv X pins σ H s → t σ H Q → wpAny (model X.prog X.w) X.A (isTrue e X.env (eval e X.env)) (TP X pins σ Q) X.xe s
/-- a test whatever its 'whole' is (and, or) -/
def PW (X : Cx) (e : Expr) (t : TT) : Prop :=
  ∀ (whole : Sem Value) (pins : List (Addr × Obj)) (s : Shared) (σ : St) (H : Hp) (Q : Bool → Hp → Prop), Inv X pins σ H s → t σ H Q → wpAny (model X.prog X.w) X.A (isTrue e X.env whole) (TP X pins σ Q) X.xe s
theorem PW.pt {X : Cx} {e : Expr} {t : TT} (h : PW X e t) : PT X e t := h _
/-- an argument list (no star), from the left -/
def PA (X : Cx) (es : List Expr) (t : TA) : Prop :=
  ∀ (pos : Pos) (pins : List (Addr × Obj)) (s : Shared) (σ : St) (H : Hp) (Q : List V → Hp → Prop), Inv X pins σ H s → t σ H Q → wpAny (model X.prog X.w) X.A (spliced (backTo pos (starEach es X.env))) (AP X pins σ Q) X.xe s
def PS (X : Cx) (st : Stmt) (t : TS) : Prop :=
  ∀ (pins : List (Addr × Obj)) (s : Shared) (σ : St) (H : Hp) (D : Ends), Inv X pins σ H s → t D σ H → wpAny (model X.prog X.w) X.A (exec st X.env) (SP X pins D) X.xe s
def PSs (X : Cx) (st : List Stmt) (t : TS) : Prop :=
  ∀ (pins : List (Addr × Obj)) (s : Shared) (σ : St) (H : Hp) (D : Ends), Inv X pins σ H s → t D σ H → wpAny (model X.prog X.w) X.A (execs st X.env) (SP X pins D) X.xe s
/-- weaken the end -/
theorem thn {α : Type} {t : Sem α} {Q Q' : α → Shared → Prop} {M : Model} {A : Around} {E : Value → Shared → Prop} {s : Shared} (h : wpAny M A t Q E s) (hQ : ∀ a s, Q a s → Q' a s) : wpAny M A t Q' E s := wpAny_mono h hQ fun _ _ x => x
end L2

namespace L2
open PySem PySem.Spec PyProof.Rows
section
variable {X : Cx}

/-! ### names and constants -/
def tVar (i : Nat) : TE := fun σ H Q => ∃ v, σ[i]? = some (some v) ∧ Q v H
def tC (v : V) : TE := fun _ H Q => Q v H
theorem pe_var {i : Nat} {x : Str} {pos : Pos} (hN : X.N[i]? = some x) (hv : Vis X.env.scope x) (hd : (x == ("__debug__" : Str)) = false := by decide) (hcd : (x == ("__classdict__" : Str)) = false := by decide) : PE X (.Name x pos) (tVar i) := by
  intro pins s σ H Q I h
  obtain ⟨v, e, h⟩ := h
  obtain ⟨m, hn, hl⟩ := I.loc
  obtain ⟨u, r, l⟩ := hl i x v hN e hv
  have fin : EP X pins σ Q u s := ⟨v, H, I, r, h⟩
  rcases l with ⟨hk, hm⟩ | ⟨hk, c, hc, hcell⟩
  · exact wpAny_Name (wpAny_loadName_local I.ok.kind hk hn hm fin) hd
  · rcases hk with hk | hk
    · exact wpAny_Name (wpAny_loadName_cell I.ok.kind hk hc hcell fin) hd
    · exact wpAny_Name (wpAny_loadName_free I.ok.kind hk hc hcell fin hcd) hd
theorem pe_int {i j pos} : PE X (.Constant (.int i) j pos) (tC (.int i)) := fun _ _ _ H _ I h => wpAny_Constant_int ⟨.int i, H, I.tok _, ⟨_, rfl⟩, h⟩
theorem pe_bl {b j pos} : PE X (.Constant (.bool b) j pos) (tC (.bl b)) := fun _ _ _ H _ I h => Constant_bool ⟨.bl b, H, I, rfl, h⟩
theorem pe_non {j pos} : PE X (.Constant .none j pos) (tC .non) := fun _ _ _ H _ I h => Constant_none ⟨.non, H, I, rfl, h⟩
/-- a global name of the def -/
def Gl (X : Cx) (x : Str) : Prop := X.env.kindOf x = some .globalImplicit
theorem ld_glob {E : Value → Shared → Prop} {pins : List (Addr × Obj)} {s : Shared} {σ : St} {H : Hp} {x : Str} {u : Value} {pos : Pos} {Q : Value → Shared → Prop} (I : Inv X pins σ H s) (hg : Gl X x) (hm : X.mg x = some u) (h : Q u s)
    (hd : (x == ("__debug__" : Str)) = false := by decide) : wpAny (model X.prog X.w) X.A (eval (.Name x pos) X.env) Q E s :=
  Calls.Name_function_global I.ok.kind hg (Calls.loadGlobal_global (by rw [I.ok.glob]; exact I.mod.glob.keeps I.bk) hm h) hd
theorem ld_blt {E : Value → Shared → Prop} {pins : List (Addr × Obj)} {s : Shared} {σ : St} {H : Hp} {x : Str} {u : Value} {pos : Pos} {Q : Value → Shared → Prop} (I : Inv X pins σ H s) (hg : Gl X x) (hm : X.mg x = none) (hv : bootBuiltins x = some u) (h : Q u s)
    (hn : x ≠ "__name__" := by decide) (hd : (x == ("__debug__" : Str)) = false := by decide) : wpAny (model X.prog X.w) X.A (eval (.Name x pos) X.env) Q E s := by
  obtain ⟨mb, h1, h2⟩ := I.mod.blt
  exact Calls.Name_function_global I.ok.kind hg (Calls.loadGlobal_builtin (by rw [I.ok.glob]; exact I.mod.glob.keeps I.bk) hm (by rw [I.ok.blt]; exact h1.keeps I.bk) ((h2 x hn).trans hv) h) hd
/-- a module's constant, a class, a function, as a value -/
theorem pe_glob {x : Str} {v : V} {u : Value} {pos : Pos} (hg : Gl X x) (hm : X.mg x = some u) (r : RelV v u) (hd : (x == ("__debug__" : Str)) = false := by decide) : PE X (.Name x pos) (tC v) :=
  fun _ _ _ H _ I h => ld_glob I hg hm ⟨v, H, I, r, h⟩ hd
/-! ### arithmetic -/
variable {a b : Expr} {ta tb : TE} {pos : Pos}
/-! ### comparisons -/
/-- a comparison as a value, as a test -/
def tB (t : TE) : TT := fun σ H Q => t σ H fun x H1 => ∃ c, x = .bl c ∧ Q c H1
/-- an expression whose value is a bool, as a test -/
theorem pt_val {e : Expr} {t : TE} (h : PE X e t) (he : ∀ whole, isTrue e X.env whole = (do let v ← whole; standAt e.pos; holding [v] (truthy v)) := by intro _; rfl) : PT X e (tB t) := by
  intro pins s σ H Q I hw
  refine isTrue_plain (thn (h pins s σ H _ I hw) fun v s1 ⟨x, H1, I1, r1, q1⟩ => ?_) (he _)
  obtain ⟨d, rfl, q⟩ := q1
  cases r1
  exact wpAny_truthy_bool ⟨H1, I1, q⟩

/-! ### and, or, not -/
variable {tA tB' : TT} {rest : List Expr}
def tAnd (t u : TT) : TT := fun σ H Q => t σ H fun c H1 => if c = true then u σ H1 Q else Q false H1
def tOr (t u : TT) : TT := fun σ H Q => t σ H fun c H1 => if c = true then Q true H1 else u σ H1 Q
def tNot (t : TT) : TT := fun σ H Q => t σ H fun c H1 => Q (!c) H1
theorem pw_and1 (ha : PT X a tA) : PW X (.BoolOp .And [a] pos) tA := by
  intro wh pins s σ H Q I h
  refine isTrue_and (thn (ha pins s σ H Q I h) fun c s1 e => ?_)
  cases c with
  | true => exact isTrue_and_nil e
  | false => exact e
theorem pw_or1 (ha : PT X a tA) : PW X (.BoolOp .Or [a] pos) tA := by
  intro wh pins s σ H Q I h
  refine isTrue_or (thn (ha pins s σ H Q I h) fun c s1 e => ?_)
  cases c with
  | false => exact isTrue_or_nil e
  | true => exact e
theorem pw_and (ha : PT X a tA) (hb : PW X (.BoolOp .And (b :: rest) pos) tB') : PW X (.BoolOp .And (a :: b :: rest) pos) (tAnd tA tB') := by
  intro wh pins s σ H Q I h
  refine isTrue_and (thn (ha pins s σ H _ I h) fun c s1 ⟨H1, I1, q1⟩ => ?_)
  cases c with
  | true => exact hb wh pins s1 σ H1 Q I1 q1
  | false => exact ⟨H1, I1, q1⟩
theorem pw_or (ha : PT X a tA) (hb : PW X (.BoolOp .Or (b :: rest) pos) tB') : PW X (.BoolOp .Or (a :: b :: rest) pos) (tOr tA tB') := by
  intro wh pins s σ H Q I h
  refine isTrue_or (thn (ha pins s σ H _ I h) fun c s1 ⟨H1, I1, q1⟩ => ?_)
  cases c with
  | true => exact ⟨H1, I1, q1⟩
  | false => exact hb wh pins s1 σ H1 Q I1 q1
theorem pt_not (ha : PT X a tA) : PT X (.UnaryOp .Not a pos) (tNot tA) := by
  intro pins s σ H Q I h
  exact isTrue_not (ha pins s σ H (fun c H1 => Q (!c) H1) I h)
/-- .. as values (bools) -/
def tAndV (ta tb : TE) : TE := fun σ H Q => ta σ H fun x H1 => ∃ c, x = .bl c ∧ if c = true then tb σ H1 Q else Q (.bl false) H1
def tOrV (ta tb : TE) : TE := fun σ H Q => ta σ H fun x H1 => ∃ c, x = .bl c ∧ if c = true then Q (.bl true) H1 else tb σ H1 Q
def tNotV (ta : TE) : TE := fun σ H Q => ta σ H fun x H1 => ∃ c, x = .bl c ∧ Q (.bl (!c)) H1
theorem pe_one {op} {t : TE} (h : PE X a t) : PE X (.BoolOp op [a] pos) t := fun pins s σ H Q I hw => BoolOp_one (h pins s σ H Q I hw)
theorem pe_and (ha : PE X a ta) (hb : PE X (.BoolOp .And (b :: rest) pos) tb) : PE X (.BoolOp .And (a :: b :: rest) pos) (tAndV ta tb) := by
  intro pins s σ H Q I h
  refine BoolOp_and (thn (ha pins s σ H _ I h) fun v s1 ⟨x, H1, I1, r1, q1⟩ => ?_)
  obtain ⟨c, rfl, q1⟩ := q1
  cases r1
  refine wpAny_truthy_bool ?_
  cases c with
  | true => exact hb pins s1 σ H1 Q I1 q1
  | false => exact ⟨.bl false, H1, I1, rfl, q1⟩
theorem pe_or (ha : PE X a ta) (hb : PE X (.BoolOp .Or (b :: rest) pos) tb) : PE X (.BoolOp .Or (a :: b :: rest) pos) (tOrV ta tb) := by
  intro pins s σ H Q I h
  refine BoolOp_or (thn (ha pins s σ H _ I h) fun v s1 ⟨x, H1, I1, r1, q1⟩ => ?_)
  obtain ⟨c, rfl, q1⟩ := q1
  cases r1
  refine wpAny_truthy_bool ?_
  cases c with
  | false => exact hb pins s1 σ H1 Q I1 q1
  | true => exact ⟨.bl true, H1, I1, rfl, q1⟩
theorem pe_not (ha : PE X a ta) : PE X (.UnaryOp .Not a pos) (tNotV ta) := by
  intro pins s σ H Q I h
  refine UnaryOp_ (thn (ha pins s σ H _ I h) fun v s1 ⟨x, H1, I1, r1, q1⟩ => ?_)
  obtain ⟨c, rfl, q1⟩ := q1
  cases r1
  exact not_of (wpAny_truthy_bool ⟨.bl (!c), H1, I1, rfl, q1⟩)
/-- a if t else b -/
def tIf (t : TT) (ta tb : TE) : TE := fun σ H Q => t σ H fun c H1 => if c = true then ta σ H1 Q else tb σ H1 Q
theorem pe_ifExp {c : Expr} (hc : PT X c tA) (ha : PE X a ta) (hb : PE X b tb) : PE X (.IfExp c a b pos) (tIf tA ta tb) := by
  intro pins s σ H Q I h
  refine wpAny_IfExp (thn (hc pins s σ H _ I h) fun d s1 ⟨H1, I1, q1⟩ => ?_)
  cases d with
  | true => exact ha pins s1 σ H1 Q I1 q1
  | false => exact hb pins s1 σ H1 Q I1 q1
end
end L2

namespace L2
open PySem PySem.Spec PyProof.Rows

/-! ### a list, a tuple that is read: tracked, frozen, or an object of the module -/
def SqL (K : PySem.W.Frag) (H : Hp) (a : Addr) (xs : List V) : Prop :=
  Rd H a (.lst xs) ∨
    ∃ (o : Obj) (its : Array Value) (n : Nat), K.lookup a = some o ∧ o.cls = .type "list" ∧ o.dict = none ∧ o.data = .seq its n ∧ its.size ≤ sizeLine ∧ Vals xs its.toList
def SqT (K : PySem.W.Frag) (H : Hp) (a : Addr) (xs : List V) : Prop :=
  Rd H a (.tup xs) ∨
    ∃ (o : Obj) (its : Array Value) (n : Nat), K.lookup a = some o ∧ o.cls = .type "tuple" ∧ o.data = .seq its n ∧ its.size ≤ sizeLine ∧ Vals xs its.toList
def absV : Value → Option V
  | .none => some .non
  | .bool b => some (.bl b)
  | .int i _ => some (.int i)
  | .str x _ => some (.str x)
  | .bytes b _ => some (.byt b)
  | .float b _ => some (.flt b)
  | .ref a => some (.ref a)
  | .type n => some (.ty n)
  | _ => none
theorem RelV.abs {x : V} {u : Value} (r : RelV x u) : absV u = some x := by
  cases x with
  | non => cases r; rfl
  | bl _ => cases r; rfl
  | int _ => obtain ⟨t, rfl⟩ := r; rfl
  | str _ => obtain ⟨t, rfl⟩ := r; rfl
  | byt _ => obtain ⟨t, rfl⟩ := r; rfl
  | flt _ => obtain ⟨t, rfl⟩ := r; rfl
  | ref _ => cases r; rfl
  | ty _ => cases r; rfl
theorem RelV.inj {x y : V} {u : Value} (r : RelV x u) (q : RelV y u) : x = y := Option.some.inj (r.abs.symm.trans q.abs)
theorem Vals.inj : ∀ {xs ys : List V} {us : List Value}, Vals xs us → Vals ys us → xs = ys
  | _, _, _, .nil, .nil => rfl
  | _, _, _, .cons r t, .cons r' t' => by rw [r.inj r', Vals.inj t t']
section
variable {X : Cx} {pins : List (Addr × Obj)} {σ : St} {H : Hp} {s : Shared} {a : Addr} {xs ys : List V}
theorem SqL.of {K : PySem.W.Frag} (h : H a = some (.lst xs)) : SqL K H a xs := .inl (.inl h)
theorem SqT.of {K : PySem.W.Frag} (h : H a = some (.tup xs)) : SqT K H a xs := .inl (.inl h)
theorem Inv.list (I : Inv X pins σ H s) (h : SqL X.K H a xs) : ∃ its : List Value, Vals xs its ∧ PlainL s.heap a its.toArray ∧ xs.length ≤ sizeLine := by
  rcases h with h | ⟨o, its, n, hk, hc, hd, hs, hz, r⟩
  · obtain ⟨z, its, n, r, e⟩ := h.ok I.hok
    exact ⟨its, r, ⟨_, n, e, rfl, rfl, rfl⟩, z⟩
  · refine ⟨its.toList, r, ⟨o, n, I.kIn a o hk, hc, hd, by simpa using hs⟩, ?_⟩
    have e := r.length
    simp only [Array.length_toList] at e
    omega
theorem Inv.tuple (I : Inv X pins σ H s) (h : SqT X.K H a xs) : ∃ its : List Value, Vals xs its ∧ IsTup s.heap a its.toArray ∧ xs.length ≤ sizeLine := by
  rcases h with h | ⟨o, its, n, hk, hc, hs, hz, r⟩
  · obtain ⟨z, its, r, p⟩ := h.ok I.hok
    exact ⟨its, r, p, z⟩
  · refine ⟨its.toList, r, ⟨o, I.kIn a o hk, hc, n, by simpa using hs⟩, ?_⟩
    have e := r.length
    simp only [Array.length_toList] at e
    omega
theorem Inv.list_inj (I : Inv X pins σ H s) (h : SqL X.K H a xs) (h' : SqL X.K H a ys) : xs = ys := by
  obtain ⟨its, r, ⟨o, n, e, _, _, d⟩, _⟩ := I.list h
  obtain ⟨its', r', ⟨o', n', e', _, _, d'⟩, _⟩ := I.list h'
  rw [e] at e'; cases e'
  rw [d] at d'
  injection d' with d1 _
  have : its = its' := by simpa using congrArg Array.toList d1
  subst this
  exact r.inj r'
theorem Inv.tuple_inj (I : Inv X pins σ H s) (h : SqT X.K H a xs) (h' : SqT X.K H a ys) : xs = ys := by
  obtain ⟨its, r, ⟨o, e, _, n, d⟩, _⟩ := I.tuple h
  obtain ⟨its', r', ⟨o', e', _, n', d'⟩, _⟩ := I.tuple h'
  rw [e] at e'; cases e'
  rw [d] at d'
  injection d' with d1 _
  have : its = its' := by simpa using congrArg Array.toList d1
  subst this
  exact r.inj r'
end

/-! ### another wish about exceptions -/
abbrev Cx.wish (X : Cx) (E : Value → Shared → Prop) : Cx := { X with xe := E }
/-- no exception leaves -/
abbrev Cx.nox (X : Cx) : Cx := X.wish fun _ _ => False
theorem Cx.Ok.wish {X : Cx} (ok : X.Ok) (E : Value → Shared → Prop) : (X.wish E).Ok :=
  ⟨ok.mod, ok.kind, ok.glob, ok.blt, ok.above, ok.inj, ok.has, ok.cab, ok.hd, ok.frames, ok.stk, ok.exf, ok.bs, ok.bsz, ok.noex, ok.exfs, ok.funs, ok.frf⟩
theorem Cx.Ok.unwish {X : Cx} {E : Value → Shared → Prop} (ok : (X.wish E).Ok) : X.Ok :=
  ⟨ok.mod, ok.kind, ok.glob, ok.blt, ok.above, ok.inj, ok.has, ok.cab, ok.hd, ok.frames, ok.stk, ok.exf, ok.bs, ok.bsz, ok.noex, ok.exfs, ok.funs, ok.frf⟩
section
variable {X : Cx} {pins : List (Addr × Obj)} {σ : St} {H : Hp} {s : Shared} {E : Value → Shared → Prop}
theorem Inv.wish (I : Inv X pins σ H s) (E : Value → Shared → Prop) : Inv (X.wish E) pins σ H s := ⟨I.ok.wish E, I.os, I.bare, I.base, I.loc, I.cell, I.free, I.freeC, I.pin, I.hok, I.len⟩
theorem Inv.unwish (I : Inv (X.wish E) pins σ H s) : Inv X pins σ H s := ⟨I.ok.unwish, I.os, I.bare, I.base, I.loc, I.cell, I.free, I.freeC, I.pin, I.hok, I.len⟩
theorem SP.unwish {D : Ends} {f : Flow} {s' : Shared} (h : SP (X.wish E) pins D f s') : SP X pins D f s' := by
  cases f with
  | next => obtain ⟨σ', H', I, q⟩ := h; exact ⟨σ', H', I.unwish, q⟩
  | brk => obtain ⟨σ', H', I, q⟩ := h; exact ⟨σ', H', I.unwish, q⟩
  | cont => obtain ⟨σ', H', I, q⟩ := h; exact ⟨σ', H', I.unwish, q⟩
  | ret u => obtain ⟨v, σ', H', I, r, q⟩ := h; exact ⟨v, σ', H', I.unwish, r, q⟩
theorem PE.nox {e : Expr} {t : TE} (h : PE X.nox e t) : PE X e t := fun pins s σ H Q I hw =>
  wpAny_mono (h pins s σ H Q (I.wish _) hw) (fun _ _ ⟨v, H', I', r, q⟩ => ⟨v, H', I'.unwish, r, q⟩) fun _ _ z => False.elim z
theorem PT.nox {e : Expr} {t : TT} (h : PT X.nox e t) : PT X e t := fun pins s σ H Q I hw =>
  wpAny_mono (h pins s σ H Q (I.wish _) hw) (fun _ _ ⟨H', I', q⟩ => ⟨H', I'.unwish, q⟩) fun _ _ z => False.elim z
theorem PSs.nox {st : List Stmt} {t : TS} (h : PSs X.nox st t) : PSs X st t := fun pins s σ H D I hw =>
  wpAny_mono (h pins s σ H D (I.wish _) hw) (fun _ _ q => q.unwish) fun _ _ z => False.elim z
end

/-! ### blocks and small statements -/
section
variable {X : Cx} {st : Stmt} {rest : List Stmt} {t u : TS} {e : Expr} {te : TE} {pos : Pos}
def tNext : TS := fun D σ H => D.nx σ H
def tSeq (t u : TS) : TS := fun D σ H => t { D with nx := u D } σ H
theorem pss_nil : PSs X [] tNext := fun _ _ σ H _ I h => wpAny_execs_nil ⟨σ, H, I, h⟩
theorem pss_cons (h1 : PS X st t) (h2 : PSs X rest u) : PSs X (st :: rest) (tSeq t u) := by
  intro pins s σ H D I h
  refine wpAny_execs_cons (thn (h1 pins s σ H { D with nx := u D } I h) fun f s1 q => ?_)
  cases f with
  | next =>
    obtain ⟨σ', H', I', q⟩ := q
    exact h2 pins s1 σ' H' D I' q
  | ret v => exact q
  | brk => exact q
  | cont => exact q
def tBreak : TS := fun D σ H => D.bk σ H
def tCont : TS := fun D σ H => D.ct σ H
theorem ps_pass : PS X (.Pass pos) tNext := fun _ _ σ H _ I h => wpAny_Pass ⟨σ, H, I, h⟩
theorem ps_break : PS X (.Break pos) tBreak := fun _ _ σ H _ I h => wpAny_Break ⟨σ, H, I, h⟩
theorem ps_continue : PS X (.Continue pos) tCont := fun _ _ σ H _ I h => wpAny_Continue ⟨σ, H, I, h⟩
/-- in a def's body nothing is shown -/
theorem Inv.quiet {pins : List (Addr × Obj)} {σ : St} {H : Hp} {s : Shared} (I : Inv X pins σ H s) : interactive X.env = false := by simp [interactive, I.ok.kind]
/-- a docstring -/
theorem ps_doc {x j pos pos'} : PS X (.Expr (.Constant (.str x) j pos) pos') tNext := fun _ s σ H _ I h => wpAny_Expr (Calls.Constant_str (show SP X _ _ .next { s with toks := s.toks + 1 } from ⟨σ, H, I.tok _, h⟩)) I.quiet
/-- an expression whose value is dropped -/
def tDrop (te : TE) : TS := fun D σ H => te σ H fun _ H1 => D.nx σ H1
theorem ps_expr (he : PE X e te) (hs : swapsWith e none pos.line X.env = pure false := by rfl) : PS X (.Expr e pos) (tDrop te) := by
  intro pins s σ H D I h
  exact wpAny_Expr_any (thn (he pins s σ H _ I h) fun v s1 ⟨x, H1, I1, r1, q1⟩ => ⟨σ, H1, I1, q1⟩) I.quiet hs
def tRet (te : TE) : TS := fun D σ H => te σ H D.rt
theorem ps_ret (he : PE X e te) : PS X (.Return (some e) pos) (tRet te) := by
  intro pins s σ H D I h
  exact wpAny_Return_some (thn (he pins s σ H _ I h) fun v s1 ⟨x, H1, I1, r1, q1⟩ => ⟨x, σ, H1, I1, r1, q1⟩)
def tIfS (c : TT) (t u : TS) : TS := fun D σ H => c σ H fun b H1 => if b = true then t D σ H1 else u D σ H1
theorem ps_if {c : Expr} {a b : List Stmt} {tc : TT} (hc : PT X c tc) (ha : PSs X a t) (hb : PSs X b u) : PS X (.If c a b pos) (tIfS tc t u) := by
  intro pins s σ H D I h
  refine wpAny_If (thn (hc pins s σ H _ I h) fun d s1 ⟨H1, I1, q1⟩ => ?_)
  cases d with
  | true => exact ha pins s1 σ H1 D I1 q1
  | false => exact hb pins s1 σ H1 D I1 q1
end

/-! ### targets -/
abbrev TG := V → St → Hp → (St → Hp → Prop) → Prop
abbrev TGs := List V → St → Hp → (St → Hp → Prop) → Prop
def PG (X : Cx) (target : Expr) (t : TG) : Prop :=
  ∀ (pins : List (Addr × Obj)) (s : Shared) (σ : St) (H : Hp) (v : V) (u : Value) (Q : St → Hp → Prop), Inv X pins σ H s → RelV v u → t v σ H Q →
    wpAny (model X.prog X.w) X.A (assign target X.env u) (fun _ s' => ∃ σ' H', Inv X pins σ' H' s' ∧ Q σ' H') X.xe s
/-- several targets, one after another -/
def PGs (X : Cx) (ts : List Expr) (t : TGs) : Prop :=
  ∀ (pins : List (Addr × Obj)) (s : Shared) (σ : St) (H : Hp) (vs : List V) (us : List Value) (Q : St → Hp → Prop), Inv X pins σ H s → Vals vs us → t vs σ H Q →
    wpAny (model X.prog X.w) X.A (assignInOrder ((assignEach ts X.env).map (·.2)) us) (fun _ s' => ∃ σ' H', Inv X pins σ' H' s' ∧ Q σ' H') X.xe s
/-- o[i] = v, by values -/
abbrev TSet := V → V → V → Hp → (Hp → Prop) → Prop
def PSet (X : Cx) (t : TSet) : Prop :=
  ∀ (pins : List (Addr × Obj)) (s : Shared) (σ : St) (H : Hp) (o i v : V) (ov iv u : Value) (Q : Hp → Prop), Inv X pins σ H s → RelV o ov → RelV i iv → RelV v u → t o i v H Q →
    wpAny (model X.prog X.w) X.A (setItem ov iv u) (fun _ s' => ∃ H', Inv X pins σ H' s' ∧ Q H') X.xe s
/-- a op= b, by values -/
abbrev TIp := V → V → Hp → VK → Prop
def PIp (X : Cx) (op : Operator) (t : TIp) : Prop :=
  ∀ (pins : List (Addr × Obj)) (s : Shared) (σ : St) (H : Hp) (x y : V) (v u : Value) (Q : VK), Inv X pins σ H s → RelV x v → RelV y u → t x y H Q →
    wpAny (model X.prog X.w) X.A (inplaceOp op v u) (EP X pins σ Q) X.xe s
section
variable {X : Cx} {pos : Pos}
def gName (i : Nat) : TG := fun v σ H Q => Q (σ.set i (some v)) H
theorem pg_name {i : Nat} {x : Str} (hN : X.N.Nodup) (hi : X.N[i]? = some x) (hx : Loc X.env.scope x) (hf : X.fn x = true ∨ X.env.scope.names.lookup x = some .local := by first | exact .inl rfl | exact .inr rfl | assumption) : PG X (.Name x pos) (gName i) := by
  intro pins s σ H v u Q I r h
  exact wpAny_assign_Name (store_ok I hN hi hx r (fun s' I' => ⟨_, H, I', h⟩) hf)
def gNil : TGs := fun vs σ H Q => vs = [] ∧ Q σ H
def gCons (t : TG) (u : TGs) : TGs := fun vs σ H Q => ∃ v r, vs = v :: r ∧ t v σ H fun σ' H' => u r σ' H' Q
theorem pgs_nil : PGs X [] gNil := by
  intro pins s σ H vs us Q I r h
  obtain ⟨e, h⟩ := h
  subst e
  cases r
  exact assignInOrder_nil ⟨σ, H, I, h⟩
theorem pgs_cons {e : Expr} {es : List Expr} {t : TG} {u : TGs} (h1 : PG X e t) (h2 : PGs X es u)
    (hs : (assignEach (e :: es) X.env).map (·.2) = assign e X.env :: (assignEach es X.env).map (·.2) := by rfl) : PGs X (e :: es) (gCons t u) := by
  intro pins s σ H vs us Q I r h
  obtain ⟨v, vr, e1, h⟩ := h
  subst e1
  cases r with
  | cons r rr =>
    rw [hs]
    refine assignInOrder_cons (thn (h1 pins s σ H _ _ _ I r h) fun _ s1 ⟨σ1, H1, I1, q1⟩ => ?_)
    exact h2 pins s1 σ1 H1 _ _ Q I1 rr q1
/-- (a, b, ..) = a tuple of that length -/
def gTup (K : PySem.W.Frag) (n : Nat) (t : TGs) : TG := fun v σ H Q => ∃ a xs, v = .ref a ∧ SqT K H a xs ∧ xs.length = n ∧ t xs σ H Q
theorem pg_tup {es : List Expr} {k : Nat} {t : TGs} {n : Nat} (hc : X.calm = true) (h : PGs X es t)
    (hn : (assignEach es X.env).length = n := by rfl) (hst : (assignEach es X.env).findIdx? (·.1) = none := by rfl) : PG X (.Tuple es k pos) (gTup X.K n t) := by
  intro pins s σ H v u Q I r hw
  obtain ⟨a, xs, e1, hq, hl, hw⟩ := hw
  subst e1
  cases r
  obtain ⟨its, rv, ht, hz⟩ := I.tuple hq
  refine assign_Tuple_tuple (I.ok.hd hc) ht (by simp [hn, ← hl, rv.length]) hst fun h' hx => ?_
  have I1 : Inv X pins σ H { s with heap := h' } := I.kept (t' := s.toks) fun b o e => hx b o (Nat.ne_of_lt (Heap.lt_size e)) e
  exact h pins _ σ H xs _ Q I1 (by simpa using rv) hw
/-- o[i] = .. -/
def gSub (to ti : TE) (t : TSet) : TG := fun v σ H Q => to σ H fun o H1 => ti σ H1 fun i H2 => t o i v H2 fun H3 => Q σ H3
theorem pg_sub {o i : Expr} {to ti : TE} {t : TSet} (ho : PE X o to) (hi : PE X i ti) (hs : PSet X t)
    (ha : ∀ v, assign (.Subscript o i pos) X.env v = (do
      let ov ← holding [v] (eval o X.env)
      let iv ← holding [v, ov] (eval i X.env)
      standAt pos
      holding [v, ov, iv] (setItem ov iv v)
      release [v, ov, iv] []) := by intro _; rfl) : PG X (.Subscript o i pos) (gSub to ti t) := by
  intro pins s σ H v u Q I r h
  rw [ha]
  refine wpAny_bind (wpAny_holding (thn (ho pins s σ H _ I h) fun ov s1 ⟨x, H1, I1, r1, q1⟩ => ?_))
  refine wpAny_bind (wpAny_holding (thn (hi pins s1 σ H1 _ I1 q1) fun iv s2 ⟨y, H2, I2, r2, q2⟩ => ?_))
  refine wpAny_bind (wpAny_standAt (wpAny_bind (wpAny_holding (thn (hs pins s2 σ H2 x y v ov iv u _ I2 r1 r2 r q2) fun _ s3 ⟨H3, I3, q3⟩ => ?_))))
  exact wpAny_release ⟨σ, H3, I3, q3⟩
/-- target = value -/
def tAsg (te : TE) (g : TG) : TS := fun D σ H => te σ H fun x H1 => g x σ H1 D.nx
theorem ps_asg {tg e : Expr} {te : TE} {g : TG} (he : PE X e te) (hg : PG X tg g) (hs : swapsWithSole [tg] e pos.line X.env = pure false := by rfl) (hw : swappedStores [tg] e X.env = pure none := by rfl)
    (h1 : (assignEach [tg] X.env).map (·.2) = [assign tg X.env] := by rfl) : PS X (.Assign [tg] e pos) (tAsg te g) := by
  intro pins s σ H D I h
  refine wpAny_Assign_stores (thn (he pins s σ H _ I h) fun v s1 ⟨x, H1, I1, r1, q1⟩ => ?_) hs hw
  rw [h1]
  exact thn (hg pins s1 σ H1 x v _ I1 r1 q1) fun _ s2 q => q
/-- name = value -/
theorem ps_set {i : Nat} {x : Str} {e : Expr} {te : TE} {pos' : Pos} (hN : X.N.Nodup) (hi : X.N[i]? = some x) (hx : Loc X.env.scope x) (he : PE X e te) (hs : swapsWith e (some (.Name x pos')) pos.line X.env = pure false := by rfl) (hf : X.fn x = true ∨ X.env.scope.names.lookup x = some .local := by first | exact .inl rfl | exact .inr rfl | assumption) :
    PS X (.Assign [.Name x pos'] e pos) (tAsg te (gName i)) := by
  intro pins s σ H D I h
  refine wpAny_Assign_Name (thn (he pins s σ H _ I h) fun v s1 ⟨y, H1, I1, r1, q1⟩ => ?_) hs
  exact store_ok I1 hN hi hx r1 (fun s2 I2 => ⟨_, H1, I2, q1⟩) hf
/-- name op= e -/
def tAug (i : Nat) (te : TE) (ti : TIp) : TS := fun D σ H => ∃ x, σ[i]? = some (some x) ∧ te σ H fun y H1 => ti x y H1 fun z H2 => D.nx (σ.set i (some z)) H2
theorem ps_aug {i : Nat} {x : Str} {e : Expr} {te : TE} {op : Operator} {ti : TIp} {pos' : Pos} (hN : X.N.Nodup) (hi : X.N[i]? = some x) (hx : Loc X.env.scope x) (he : PE X e te) (ho : PIp X op ti) (hf : X.fn x = true ∨ X.env.scope.names.lookup x = some .local := by first | exact .inl rfl | exact .inr rfl | assumption) :
    PS X (.AugAssign (.Name x pos') op e pos) (tAug i te ti) := by
  intro pins s σ H D I h
  obtain ⟨v, e1, h⟩ := h
  obtain ⟨m, hn, hl⟩ := I.loc
  have vis : Vis X.env.scope x := by rcases hx with k | k; exact .inl k; exact .inr (.inl k)
  obtain ⟨u, r, l⟩ := hl i x v hi e1 vis
  refine wpAny_AugAssign_Name ?_
  have go : wpAny (model X.prog X.w) X.A (eval e X.env) (fun w s₂ => wpAny (model X.prog X.w) X.A (inplaceOp op u w) (fun r s₃ => wpAny (model X.prog X.w) X.A (storeName X.env x r) (fun _ => SP X pins D .next) X.xe s₃) X.xe s₂) X.xe s := by
    refine thn (he pins s σ H _ I h) fun w s1 ⟨y, H1, I1, r1, q1⟩ => ?_
    refine thn (ho pins s1 σ H1 v y u w _ I1 r r1 q1) fun z s2 ⟨zv, H2, I2, r2, q2⟩ => ?_
    exact store_ok I2 hN hi hx r2 (fun s3 I3 => ⟨_, H2, I3, q2⟩) hf
  rcases l with ⟨hk, hm⟩ | ⟨hk, c, hc, hcell⟩
  · exact wpAny_loadName_local I.ok.kind hk hn hm go
  · rcases hk with hk | hk
    · exact wpAny_loadName_cell I.ok.kind hk hc hcell go
    · rcases hx with k | k
      · have : X.env.scope.names.lookup x = some .free := hk
        rw [k] at this; cases this
      · have : X.env.scope.names.lookup x = some .free := hk
        rw [k] at this; cases this
/-- ints -/
def ipI (f : Int → Int → Int) : TIp := fun x y H Q => ∃ i j, x = .int i ∧ y = .int j ∧ Q (.int (f i j)) H
theorem ip_add : PIp X .Add (ipI fun i j => i + j) := by
  intro pins s σ H x y v u Q I r1 r2 h
  obtain ⟨i, j, e1, e2, q⟩ := h
  subst e1; subst e2
  obtain ⟨t, rfl⟩ := r1
  obtain ⟨t', rfl⟩ := r2
  exact iadd_int ⟨.int _, H, I.tok _, ⟨_, rfl⟩, q⟩
end

/-! ### while -/
section
variable {X : Cx} {pos : Pos}
/-- the invariant W with its measure -/
def tWhile (c : TT) (tb : TS) : TS := fun D σ H => ∃ W : Nat → St → Hp → Prop, (∃ m, W m σ H) ∧ ∀ m σ H, W m σ H →
  c σ H fun b H1 => if b = true then ∃ N : St → Hp → Prop, (∀ σ' H', N σ' H' → ∃ m', m' < m ∧ W m' σ' H') ∧ tb { D with nx := N, ct := N, bk := D.nx } σ H1 else D.nx σ H1
theorem ps_while {c : Expr} {body : List Stmt} {tc : TT} {tb : TS} (hp : PassesOwn (model X.prog X.w) X.A X.env X.xe) (hc : PT X c tc) (hb : PSs X body tb) : PS X (.While c body [] pos) (tWhile tc tb) := by
  intro pins s σ H D I h
  obtain ⟨W, ⟨m0, w0⟩, turn⟩ := h
  refine wpAny_While (codeAny_whileLoop (fun n s' => ∃ σ' H', Inv X pins σ' H' s' ∧ W n σ' H') ?_ m0 ⟨σ, H, I, w0⟩)
  rintro n s1 ⟨σ1, H1, I1, w1⟩
  refine wpAny_passesOwn hp (thn (hc pins s1 σ1 H1 _ I1 (turn n σ1 H1 w1)) fun b s2 ⟨H2, I2, q2⟩ => ?_)
  cases b with
  | true =>
    obtain ⟨N, hN, q2⟩ := q2
    rw [if_pos rfl]
    refine wpAny_passesOwn hp (thn (hb pins s2 σ1 H2 _ I2 q2) fun f s3 q3 => ?_)
    cases f with
    | next =>
      obtain ⟨σ3, H3, I3, n3⟩ := q3
      obtain ⟨m', hm, w3⟩ := hN σ3 H3 n3
      exact ⟨m', hm, σ3, H3, I3, w3⟩
    | cont =>
      obtain ⟨σ3, H3, I3, n3⟩ := q3
      obtain ⟨m', hm, w3⟩ := hN σ3 H3 n3
      exact ⟨m', hm, σ3, H3, I3, w3⟩
    | brk => exact q3
    | ret v => exact q3
  | false =>
    rw [if_neg Bool.false_ne_true]
    exact wpAny_execs_nil ⟨σ1, H2, I2, q2⟩
end

/-! ### what a loop or a comprehension walks -/
/-- at turn i: it yields x (the heap may grow), or it stops -/
structure It where
  go : Nat → Hp → Prop
  yld : Nat → Hp → V → Hp → Prop
  stop : Nat → Hp → Prop
/-- the iterator's own objects may turn: they are not the frame's, not pinned, younger than the entry (or a comprehension's own) -/
def FpOk (X : Cx) (pins : List (Addr × Obj)) (H : Hp) (b : Addr) : Prop :=
  H b = none ∧ b ≠ X.env.locals ∧ b ∉ X.fs ∧ (b ∈ X.ex ∨ X.s_0.heap.objs.size ≤ b) ∧ (∀ x c, X.env.cells.lookup x = some c → c ≠ b) ∧ ∀ p ∈ X.pn ++ pins, p.1 ≠ b
theorem Inv.fpOk {X : Cx} {pins : List (Addr × Obj)} {σ : St} {H H' : Hp} {s : Shared} {b : Addr} (I : Inv X pins σ H s) (hb : s.heap.objs.size ≤ b) (hn : H' b = none) : FpOk X pins H' b := by
  refine ⟨hn, Nat.ne_of_gt (Nat.lt_of_lt_of_le I.lt hb), I.nofs hb, .inr (Nat.le_trans I.sz hb), fun x c e z => ?_, fun p hp z => ?_⟩
  · obtain ⟨v, q⟩ := I.cell x c e
    exact absurd (Nat.lt_of_lt_of_le q.lt (by rw [z]; exact hb)) (Nat.lt_irrefl _)
  · exact absurd (Nat.lt_of_lt_of_le (Heap.lt_size (I.pin p hp).1) (by rw [z]; exact hb)) (Nat.lt_irrefl _)
structure Turn (P : Program) (w : World) (K : PySem.W.Frag) (tg : Expr) (J : It) (fp : List Addr) (it : Addr) (tn : Nat → Heap → Prop) : Prop where
  mem : it ∈ fp
  obj : ∀ i h, tn i h → ∀ b ∈ fp, ∃ o, h.get? b = some o ∧ ∀ v, o.data ≠ .cell v
  keep : ∀ i h h', tn i h → (∀ b ∈ fp, ∀ o, h.get? b = some o → h'.get? b = some o) → tn i h'
  item : ∀ (X : Cx), X.prog = P → X.w = w → X.K = K → X.calm = true → ∀ (i : Nat) (pins : List (Addr × Obj)) (s : Shared) (σ : St) (H : Hp) (E : Value → Shared → Prop), Inv X pins σ H s → (∀ b ∈ fp, FpOk X pins H b) → tn i s.heap → J.go i H →
    wpAny (model P w) X.A (pyNext (.ref it)) (fun r s1 => ∃ u, r = some u ∧
      wpAny (model P w) X.A (letOwnedTupleGo tg (.ref it) u) (fun _ s2 => ∃ x H', Inv X pins σ H' s2 ∧ RelV x u ∧ J.yld i H x H' ∧ tn (i + 1) s2.heap ∧ ∀ b ∈ fp, H' b = none) E s1) E s
  done : ∀ (X : Cx), X.prog = P → X.w = w → X.K = K → X.calm = true → ∀ (i : Nat) (pins : List (Addr × Obj)) (s : Shared) (σ : St) (H : Hp) (E : Value → Shared → Prop), Inv X pins σ H s → (∀ b ∈ fp, FpOk X pins H b) → tn i s.heap → J.stop i H →
    wpAny (model P w) X.A (pyNext (.ref it)) (fun r s1 => r = none ∧ Inv X pins σ H s1) E s
  self : ∀ (A : Around) (i : Nat) (s : Shared) (Q : Value → Shared → Prop) (E : Value → Shared → Prop), tn i s.heap → Q (.ref it) s → wpAny (model P w) A (pyIter (.ref it)) Q E s
abbrev TI := St → Hp → (It → Hp → Prop) → Prop
/-- an iterator has come -/
def PIE (X : Cx) (pins : List (Addr × Obj)) (σ : St) (tg : Expr) (R : It → Hp → Prop) (itv : Value) (s2 : Shared) : Prop :=
  ∃ (it : Addr) (fp : List Addr) (tn : Nat → Heap → Prop) (J : It) (H' : Hp), itv = .ref it ∧ Inv X pins σ H' s2 ∧ Turn X.prog X.w X.K tg J fp it tn ∧ tn 0 s2.heap ∧ (∀ b ∈ fp, FpOk X pins H' b) ∧ R J H'
def PI (X : Cx) (tg iter : Expr) (wi : TI) : Prop :=
  ∀ (pins : List (Addr × Obj)) (s : Shared) (σ : St) (H : Hp) (R : It → Hp → Prop), Inv X pins σ H s → wi σ H R →
    wpAny (model X.prog X.w) X.A (eval iter X.env) (fun v s1 => wpAny (model X.prog X.w) X.A (pyIter v) (PIE X pins σ tg R) X.xe s1) X.xe s

/-- the step ahead of the store is nothing for an iterator that keeps no tuple -/
theorem go_of {M : Model} {A : Around} {E : Value → Shared → Prop} {s : Shared} {tg : Expr} {it : Addr} {u : Value} {o : Obj} {n : String} {vs : Array Value} {Q : Unit → Shared → Prop} (ho : s.heap.get? it = some o) (hc : o.cls = .type n) (hd : o.data = .fields vs)
    (hn : ["enumerate", "zip", "dict_itemiterator", "dict_reverseitemiterator", "odict_iterator", "itertools.zip_longest", "itertools.pairwise"].contains n = false) (hQ : Q () s) : wpAny M A (letOwnedTupleGo tg (.ref it) u) Q E s := by
  unfold letOwnedTupleGo
  cases tg <;> first
    | exact wpAny_pure hQ
    | (cases u <;> first
        | exact wpAny_pure hQ
        | (refine wpAny_bind (wpAny_load ho ?_)
           rw [hc, hd]
           show wpAny M A (if (["enumerate", "zip", "dict_itemiterator", "dict_reverseitemiterator", "odict_iterator", "itertools.zip_longest", "itertools.pairwise"].contains n && vs[0]? == some (rawInt _)) = true then _ else _) Q E s
           rw [if_neg (by intro h; rw [hn, Bool.false_and] at h; cases h)]
           exact wpAny_pure hQ))

/-- the list at a, as it stands at each turn (a loop may append to it) -/
def Itl (K : PySem.W.Frag) (a : Addr) : It :=
  ⟨fun i H => ∃ xs x, SqL K H a xs ∧ xs[i]? = some x, fun i H x H' => H' = H ∧ ∀ xs, SqL K H a xs → xs[i]? = some x, fun i H => ∃ xs, SqL K H a xs ∧ xs.length ≤ i⟩
def Itt (K : PySem.W.Frag) (a : Addr) : It :=
  ⟨fun i H => ∃ xs x, SqT K H a xs ∧ xs[i]? = some x, fun i H x H' => H' = H ∧ ∀ xs, SqT K H a xs → xs[i]? = some x, fun i H => ∃ xs, SqT K H a xs ∧ xs.length ≤ i⟩
/-- lo, lo + 1, .. (n of them) -/
def Itr (lo : Int) (n : Nat) : It := ⟨fun i _ => i < n, fun i H x H' => H' = H ∧ x = .int (lo + i), fun i _ => n ≤ i⟩
theorem turn_list {P : Program} {w : World} {K : PySem.W.Frag} {tg : Expr} (a it : Addr) : Turn P w K tg (Itl K a) [it] it (fun i h => h.IsListIter it a i) where
  mem := by simp
  obj := fun i h st b hb => by
    have e : b = it := by simpa using hb
    subst e
    obtain ⟨o, e, c, d⟩ := st
    exact ⟨o, e, fun v z => by rw [d] at z; cases z⟩
  keep := fun i h h' st k => st.at fun o e => k it (by simp) o e
  item := by
    intro X hP hw hK hc i pins s σ H E I hf st hg
    subst hP hw hK
    obtain ⟨xs, x, hq, hx⟩ := hg
    obtain ⟨its, rv, p, hz⟩ := I.list hq
    obtain ⟨u, hu, ru⟩ := rv.get hx
    obtain ⟨f0, f1, f2, f3, f4, f5⟩ := hf it (by simp)
    refine wpAny_pyNext_list_item st p.isList (x := u) (by simpa using hu) fun h' st' sb => ?_
    have I1 : Inv X pins σ H { s with heap := h' } := I.turned (t' := s.toks) (fun b o hb e => (sb.2 b hb).trans e) f0 f1 f3 f4 f5
    obtain ⟨o, e, c, d⟩ := id st'
    exact ⟨u, rfl, go_of (s := { s with heap := h' }) e c d (by decide) ⟨x, H, I1, ru, ⟨rfl, fun ys hy => by rw [I.list_inj hy hq]; exact hx⟩, st', fun b hb => (hf b hb).1⟩⟩
  done := by
    intro X hP hw hK hc i pins s σ H E I hf st hg
    subst hP hw hK
    obtain ⟨xs, hq, hx⟩ := hg
    obtain ⟨its, rv, p, hz⟩ := I.list hq
    obtain ⟨f0, f1, f2, f3, f4, f5⟩ := hf it (by simp)
    have hl := rv.length
    exact wpAny_pyNext_list_end (I.ok.hd hc) st p.isList (by simp; omega) fun h' eb => ⟨rfl, I.turned (t' := s.toks) (fun b o hb e => eb b o hb e) f0 f1 f3 f4 f5⟩
  self := fun _ _ _ _ _ st h => wpAny_pyIter_listiter st h
theorem turn_tuple {P : Program} {w : World} {K : PySem.W.Frag} {tg : Expr} (a it : Addr) : Turn P w K tg (Itt K a) [it] it (fun i h => h.IsTupleIter it a i) where
  mem := by simp
  obj := fun i h st b hb => by
    have e : b = it := by simpa using hb
    subst e
    obtain ⟨o, e, c, d⟩ := st
    exact ⟨o, e, fun v z => by rw [d] at z; cases z⟩
  keep := fun i h h' st k => st.at fun o e => k it (by simp) o e
  item := by
    intro X hP hw hK hc i pins s σ H E I hf st hg
    subst hP hw hK
    obtain ⟨xs, x, hq, hx⟩ := hg
    obtain ⟨its, rv, p, hz⟩ := I.tuple hq
    obtain ⟨u, hu, ru⟩ := rv.get hx
    obtain ⟨f0, f1, f2, f3, f4, f5⟩ := hf it (by simp)
    refine wpAny_pyNext_tuple_item st (show s.heap.IsTuple a its.toArray from p) (x := u) (by simpa using hu) fun h' st' sb => ?_
    have I1 : Inv X pins σ H { s with heap := h' } := I.turned (t' := s.toks) (fun b o hb e => (sb.2 b hb).trans e) f0 f1 f3 f4 f5
    obtain ⟨o, e, c, d⟩ := id st'
    exact ⟨u, rfl, go_of (s := { s with heap := h' }) e c d (by decide) ⟨x, H, I1, ru, ⟨rfl, fun ys hy => by rw [I.tuple_inj hy hq]; exact hx⟩, st', fun b hb => (hf b hb).1⟩⟩
  done := by
    intro X hP hw hK hc i pins s σ H E I hf st hg
    subst hP hw hK
    obtain ⟨xs, hq, hx⟩ := hg
    obtain ⟨its, rv, p, hz⟩ := I.tuple hq
    obtain ⟨f0, f1, f2, f3, f4, f5⟩ := hf it (by simp)
    have hl := rv.length
    exact wpAny_pyNext_tuple_end (I.ok.hd hc) st (show s.heap.IsTuple a its.toArray from p) (by simp; omega) fun h' eb => ⟨rfl, I.turned (t' := s.toks) (fun b o hb e => eb b o hb e) f0 f1 f3 f4 f5⟩
  self := fun _ _ _ _ _ st h => wpAny_pyIter_tupleiter st h
theorem turn_range {P : Program} {w : World} {K : PySem.W.Frag} {tg : Expr} (it : Addr) (lo : Int) (n : Nat) : Turn P w K tg (Itr lo n) [it] it (fun i h => IsRangeIter h it (lo + (i : Nat) * 1) ((n : Int) - (i : Nat)) 1) where
  mem := by simp
  obj := fun i h st b hb => by
    have e : b = it := by simpa using hb
    subst e
    exact ⟨_, st, fun v z => by
      have z' : Data.fields _ = Data.cell v := z
      cases z'⟩
  keep := fun i h h' st k => k it (by simp) _ st
  item := by
    intro X hP hw hK hc i pins s σ H E I hf st hg
    subst hP hw hK
    obtain ⟨f0, f1, f2, f3, f4, f5⟩ := hf it (by simp)
    have W := Walks.range (prog := X.prog) (w := X.w) (I.ok.hd hc) it lo 1 n
    refine W.item i s _ _ hg st fun v h' tk hv st' kk => ?_
    obtain ⟨t, rfl⟩ := hv
    have I1 : Inv X pins σ H { s with heap := h', toks := tk } := I.turned (fun b o hb e => kk b o (by simpa using hb) e) f0 f1 f3 f4 f5
    refine ⟨_, rfl, go_of (s := { s with heap := h', toks := tk }) (n := "range_iterator") st' rfl rfl (by decide) ⟨.int (lo + i), H, I1, ⟨t, ?_⟩, ⟨rfl, rfl⟩, st', fun b hb => (hf b hb).1⟩⟩
    rw [Int.mul_one]
  done := by
    intro X hP hw hK hc i pins s σ H E I hf st hg
    subst hP hw hK
    obtain ⟨f0, f1, f2, f3, f4, f5⟩ := hf it (by simp)
    exact wpAny_pyNext_range_end (I.ok.hd hc) st (by have : n ≤ i := hg; omega) fun h' eb => ⟨rfl, I.turned (t' := s.toks) (fun b o hb e => eb b o hb e) f0 f1 f3 f4 f5⟩
  self := fun _ _ _ _ _ st h => wpAny_pyIter_rangeiter st h
end L2

namespace L2
open PySem PySem.Spec PyProof.Rows
section
variable {X : Cx} {tg : Expr}
def iList (K : PySem.W.Frag) (tl : TE) : TI := fun σ H R => tl σ H fun x H1 => ∃ a, x = .ref a ∧ (∃ xs, SqL K H1 a xs) ∧ R (Itl K a) H1
def iTup (K : PySem.W.Frag) (tl : TE) : TI := fun σ H R => tl σ H fun x H1 => ∃ a, x = .ref a ∧ (∃ xs, SqT K H1 a xs) ∧ R (Itt K a) H1
theorem pi_list {l : Expr} {tl : TE} (hl : PE X l tl) : PI X tg l (iList X.K tl) := by
  intro pins s σ H R I h
  refine thn (hl pins s σ H _ I h) fun v s1 ⟨x, H1, I1, r1, q1⟩ => ?_
  obtain ⟨a, e, ⟨xs, hq⟩, q⟩ := q1
  subst e
  cases r1
  obtain ⟨its, rv, p, hz⟩ := I1.list hq
  refine wpAny_pyIter_list p.isList ?_
  refine ⟨s1.heap.objs.size, [s1.heap.objs.size], _, _, H1, rfl, I1.kept (t' := s1.toks) fun b o e => Heap.get?_push_of_some _ e, turn_list a _, ⟨_, Heap.get?_push_size _ rfl, rfl, rfl⟩, fun b hb => ?_, q⟩
  have e : b = s1.heap.objs.size := by simpa using hb
  subst e
  exact I1.fpOk (Nat.le_refl _) (I1.hok.fresh (Nat.le_refl _))
theorem pi_tup {l : Expr} {tl : TE} (hl : PE X l tl) : PI X tg l (iTup X.K tl) := by
  intro pins s σ H R I h
  refine thn (hl pins s σ H _ I h) fun v s1 ⟨x, H1, I1, r1, q1⟩ => ?_
  obtain ⟨a, e, ⟨xs, hq⟩, q⟩ := q1
  subst e
  cases r1
  obtain ⟨its, rv, p, hz⟩ := I1.tuple hq
  refine wpAny_pyIter_tuple (show s1.heap.IsTuple a its.toArray from p) ?_
  refine ⟨s1.heap.objs.size, [s1.heap.objs.size], _, _, H1, rfl, I1.kept (t' := s1.toks) fun b o e => Heap.get?_push_of_some _ e, turn_tuple a _, ⟨_, Heap.get?_push_size _ rfl, rfl, rfl⟩, fun b hb => ?_, q⟩
  have e : b = s1.heap.objs.size := by simpa using hb
  subst e
  exact I1.fpOk (Nat.le_refl _) (I1.hok.fresh (Nat.le_refl _))
/-- a range object just made, walked -/
theorem range_it {pins : List (Addr × Obj)} {σ : St} {H : Hp} {s : Shared} {R : It → Hp → Prop} {E : Value → Shared → Prop} {lo hi : Int} {t u v : Tok} {tk : Nat} (I : Inv X pins σ H s) (h1 : -(2 ^ 62) ≤ lo) (h2 : lo < 2 ^ 62) (h3 : -(2 ^ 62) ≤ hi) (h4 : hi < 2 ^ 62)
    (q : R (Itr lo (hi - lo).toNat) H) : wpAny (model X.prog X.w) X.A (pyIter (.ref s.heap.objs.size)) (PIE X pins σ tg R) E { s with heap := s.heap.push { cls := .type "range", data := .fields #[.int lo t, .int hi u, .int 1 v] }, toks := tk } := by
  refine wpAny_pyIter_range (IsRange.new ..) (small_one h1 h2 h3 h4) ?_
  have I1 : Inv X pins σ H { s with heap := s.heap.push { cls := .type "range", data := .fields #[.int lo t, .int hi u, .int 1 v] }, toks := tk } := I.kept fun b o e => Heap.get?_push_of_some _ e
  refine ⟨(s.heap.push { cls := .type "range", data := .fields #[.int lo t, .int hi u, .int 1 v] }).objs.size, [(s.heap.push { cls := .type "range", data := .fields #[.int lo t, .int hi u, .int 1 v] }).objs.size], _, _, H, rfl,
    I1.kept (t' := tk) fun b o e => Heap.get?_push_of_some _ e, turn_range _ lo (hi - lo).toNat, ?_, fun b hb => ?_, q⟩
  · have e1 : lo + ((0 : Nat) : Int) * 1 = lo := by simp
    have e2 : (((hi - lo).toNat : Nat) : Int) - ((0 : Nat) : Int) = Builtin.Range.rangeSize lo hi 1 := by rw [rangeSize_one]; split <;> omega
    show IsRangeIter _ _ (lo + ((0 : Nat) : Int) * 1) ((((hi - lo).toNat : Nat) : Int) - ((0 : Nat) : Int)) 1
    rw [e1, e2]
    exact Heap.get?_push_size _ rfl
  · have e : b = (s.heap.push { cls := .type "range", data := .fields #[.int lo t, .int hi u, .int 1 v] }).objs.size := by simpa using hb
    subst e
    exact I1.fpOk (Nat.le_refl _) (I1.hok.fresh (Nat.le_refl _))
def iRng1 (ta : TA) : TI := fun σ H R => ta σ H fun vs H1 => ∃ j : Int, vs = [.int j] ∧ -(2 ^ 62) ≤ j ∧ j < 2 ^ 62 ∧ R (Itr 0 j.toNat) H1
def iRng2 (ta : TA) : TI := fun σ H R => ta σ H fun vs H1 => ∃ i j : Int, vs = [.int i, .int j] ∧ (-(2 ^ 62) ≤ i ∧ i < 2 ^ 62 ∧ -(2 ^ 62) ≤ j ∧ j < 2 ^ 62) ∧ R (Itr i (j - i).toNat) H1
theorem pi_range1 {a : Expr} {ta : TA} {p pos : Pos} (hg : Gl X "range") (hm : X.mg "range" = none) (ha : PA X [a] ta) (hs : starEach [a] X.env = [(false, eval a X.env)] := by rfl) : PI X tg (.Call (.Name "range" p) [a] [] pos) (iRng1 ta) := by
  intro pins s σ H R I h
  refine Call_ (ld_blt I hg hm boot_range (PyProof.Rows.callWith_type1 (thn (ha pos pins s σ H _ I h) fun us s1 ⟨vs, H1, I1, r1, q1⟩ => ?_) hs rfl))
  obtain ⟨j, e, q1, q2, q⟩ := q1
  subst e
  cases r1 with
  | cons r rr =>
    cases rr
    obtain ⟨t, rfl⟩ := r
    exact call_range_1 (range_it I1 (by omega) (by omega) q1 q2 (by simpa using q))
theorem pi_range2 {a b : Expr} {ta : TA} {p pos : Pos} (hg : Gl X "range") (hm : X.mg "range" = none) (ha : PA X [a, b] ta) (hs : starEach [a, b] X.env = [(false, eval a X.env), (false, eval b X.env)] := by rfl) (hs2 : starEach [b] X.env = [(false, eval b X.env)] := by rfl) :
    PI X tg (.Call (.Name "range" p) [a, b] [] pos) (iRng2 ta) := by
  intro pins s σ H R I h
  refine Call_ (ld_blt I hg hm boot_range (PyProof.Rows.callWith_type1 (thn (ha pos pins s σ H _ I h) fun us s1 ⟨vs, H1, I1, r1, q1⟩ => ?_) (by rw [hs, hs2]) (by rw [hs2]; rfl)))
  obtain ⟨i, j, e, ⟨q1, q2, q3, q4⟩, q⟩ := q1
  subst e
  cases r1 with
  | cons r rr =>
    cases rr with
    | cons r' rr =>
      cases rr
      obtain ⟨t, rfl⟩ := r
      obtain ⟨t', rfl⟩ := r'
      exact call_range_2 (range_it I1 q1 q2 q3 q4 q)

/-! ### for -/
/-- W: the invariant by the turn and a measure; N: what the body is to reach -/
def tFor (wi : TI) (g : TG) (tb : TS) : TS := fun D σ H => wi σ H fun J H1 => ∃ W : Nat → Nat → St → Hp → Prop, (∃ m, W 0 m σ H1) ∧ ∀ i m σ H, W i m σ H →
  (J.stop i H ∧ D.nx σ H) ∨ (J.go i H ∧ ∃ N : St → Hp → Prop, (∀ σ' H', N σ' H' → ∃ m', m' < m ∧ W (i + 1) m' σ' H') ∧ ∀ x H', J.yld i H x H' → g x σ H' fun σ2 H2 => tb { D with nx := N, ct := N, bk := D.nx } σ2 H2)
/-- the records at fp as they stand -/
def pinsAt (fp : List Addr) (h : Heap) : List (Addr × Obj) := fp.filterMap fun b => (h.get? b).map fun o => (b, o)
theorem mem_pinsAt {fp : List Addr} {h : Heap} {b : Addr} {o : Obj} (hb : b ∈ fp) (e : h.get? b = some o) : (b, o) ∈ pinsAt fp h := List.mem_filterMap.mpr ⟨b, hb, by rw [e]; rfl⟩
theorem of_pinsAt {fp : List Addr} {h : Heap} {p : Addr × Obj} (hp : p ∈ pinsAt fp h) : p.1 ∈ fp ∧ h.get? p.1 = some p.2 := by
  obtain ⟨b, hb, e⟩ := List.mem_filterMap.mp hp
  cases q : h.get? b with
  | none => rw [q] at e; cases e
  | some o =>
    rw [q] at e
    have e' : (b, o) = p := Option.some.inj e
    subst e'
    exact ⟨hb, q⟩
theorem Inv.pinned {pins : List (Addr × Obj)} {σ : St} {H : Hp} {s : Shared} {fp : List Addr} (I : Inv X pins σ H s) (hf : ∀ b ∈ fp, FpOk X pins H b) (ho : ∀ b ∈ fp, ∃ o, s.heap.get? b = some o ∧ ∀ v, o.data ≠ .cell v) : Inv X (pins ++ pinsAt fp s.heap) σ H s :=
  I.pins_of fun p hp => (List.mem_append.mp hp).elim (fun z => I.pin p (List.mem_append_right _ z)) fun z => by
    obtain ⟨hb, e⟩ := of_pinsAt z
    obtain ⟨f0, f1, f2, _⟩ := hf p.1 hb
    obtain ⟨o, e', d⟩ := ho p.1 hb
    rw [e] at e'; cases e'
    exact ⟨e, f0, f1, f2, d⟩
theorem Inv.unpinned {pins pl : List (Addr × Obj)} {σ : St} {H : Hp} {s : Shared} (I : Inv X (pins ++ pl) σ H s) : Inv X pins σ H s := I.pins_of fun p hp => I.pin p (List.mem_append_right _ (List.mem_append_left _ hp))
theorem ps_for {iter : Expr} {body : List Stmt} {wi : TI} {g : TG} {tb : TS} {pos : Pos} (hp : PassesOwn (model X.prog X.w) X.A X.env X.xe) (hc : X.calm = true) (hi : PI X tg iter wi) (hg : PG X tg g) (hb : PSs X body tb)
    (hs : ∀ x, foldedSetIterable iter X.env x = pure x := by intro _; rfl) : PS X (.For tg iter body [] pos) (tFor wi g tb) := by
  intro pins s σ H D I h
  refine wpAny_For (thn (hi pins s σ H _ I h) fun v s1 h1 => thn h1 fun itv s2 h2 => ?_) hs
  obtain ⟨it, fp, tn, J, H2, e, I2, T, st2, f2, W, ⟨m0, w0⟩, turn⟩ := h2
  subst e
  -- what stays true of the iterator's objects through the loop
  have stat : ∀ {H' : Hp}, (∀ b ∈ fp, H' b = none) → ∀ b ∈ fp, FpOk X pins H' b := fun hn b hb => ⟨hn b hb, (f2 b hb).2⟩
  refine codeAny_forLoop_any (fun n s' => ∃ i σ' H', Inv X pins σ' H' s' ∧ tn i s'.heap ∧ (∀ b ∈ fp, H' b = none) ∧ W i n σ' H') ?_ m0 ⟨0, σ, H2, I2, st2, fun b hb => (f2 b hb).1, w0⟩
  rintro n s3 ⟨i, σ3, H3, I3, st3, fr3, w3⟩
  rcases turn i n σ3 H3 w3 with ⟨stop, qn⟩ | ⟨go, N, hN, step⟩
  · refine wpAny_passesOwn hp (thn (T.done X rfl rfl rfl hc i pins s3 σ3 H3 X.xe I3 (stat fr3) st3 stop) fun r s4 ⟨hr, I4⟩ => ?_)
    subst hr
    exact wpAny_execs_nil ⟨σ3, H3, I4, qn⟩
  · refine wpAny_passesOwn hp (thn (T.item X rfl rfl rfl hc i pins s3 σ3 H3 X.xe I3 (stat fr3) st3 go) fun r s4 ⟨u, hr, h4⟩ => ?_)
    subst hr
    refine wpAny_passesOwn hp (thn h4 fun _ s5 ⟨x, H5, I5, r5, y5, st5, fr5⟩ => ?_)
    have I5' := I5.pinned (stat fr5) (T.obj _ _ st5)
    refine wpAny_passesOwn hp (thn (hg _ s5 σ3 H5 x u _ I5' r5 (step x H5 y5)) fun _ s6 ⟨σ6, H6, I6, q6⟩ => ?_)
    refine wpAny_passesOwn hp (thn (hb _ s6 σ6 H6 _ I6 q6) fun f s7 q7 => ?_)
    have again : ∀ {σ7 : St} {H7 : Hp}, Inv X (pins ++ pinsAt fp s5.heap) σ7 H7 s7 → N σ7 H7 → ∃ m, m < n ∧ ∃ i σ' H', Inv X pins σ' H' s7 ∧ tn i s7.heap ∧ (∀ b ∈ fp, H' b = none) ∧ W i m σ' H' := fun {σ7 H7} I7 n7 => by
      obtain ⟨m', hm, w7⟩ := hN σ7 H7 n7
      refine ⟨m', hm, i + 1, σ7, H7, I7.unpinned, T.keep _ _ _ st5 fun b hb o e => (I7.pin (b, o) (List.mem_append_right _ (List.mem_append_right _ (mem_pinsAt hb e)))).1, fun b hb => ?_, w7⟩
      obtain ⟨o, e, d⟩ := T.obj _ _ st5 b hb
      exact (I7.pin (b, o) (List.mem_append_right _ (List.mem_append_right _ (mem_pinsAt hb e)))).2.1
    cases f with
    | next => obtain ⟨σ7, H7, I7, n7⟩ := q7; exact again I7 n7
    | cont => obtain ⟨σ7, H7, I7, n7⟩ := q7; exact again I7 n7
    | brk => obtain ⟨σ7, H7, I7, q7⟩ := q7; exact ⟨σ7, H7, I7.unpinned, q7⟩
    | ret v => obtain ⟨x7, σ7, H7, I7, r7, q7⟩ := q7; exact ⟨x7, σ7, H7, I7.unpinned, r7, q7⟩
end

/-! ### the forms one uses -/
end L2

namespace L2
open PySem PySem.Spec PyProof.Rows

abbrev R2 := V → V → Hp → VK → Prop
/-- a two-place operation on values: f is binaryOp op, inplaceOp op or compareOp op -/
def OpR (X : Cx) (f : Value → Value → Sem Value) (r : R2) : Prop :=
  ∀ (pins : List (Addr × Obj)) (s : Shared) (σ : St) (H : Hp) (x y : V) (v u : Value) (Q : VK), Inv X pins σ H s → RelV x v → RelV y u → r x y H Q →
    wpAny (model X.prog X.w) X.A (f v u) (EP X pins σ Q) X.xe s
/-- a one-place operation -/
def UnR (X : Cx) (f : Value → Sem Value) (r : V → Hp → VK → Prop) : Prop :=
  ∀ (pins : List (Addr × Obj)) (s : Shared) (σ : St) (H : Hp) (x : V) (v : Value) (Q : VK), Inv X pins σ H s → RelV x v → r x H Q →
    wpAny (model X.prog X.w) X.A (f v) (EP X pins σ Q) X.xe s
/-- a call of a value that is known (a builtin, a type) with values -/
def CallR (X : Cx) (f : Value) (r : List V → Hp → VK → Prop) : Prop :=
  ∀ (pins : List (Addr × Obj)) (s : Shared) (σ : St) (H : Hp) (xs : List V) (us : List Value) (Q : VK), Inv X pins σ H s → Vals xs us → r xs H Q →
    wpAny (model X.prog X.w) X.A (call f us) (EP X pins σ Q) X.xe s
def tOp (r : R2) (ta tb : TE) : TE := fun σ H Q => ta σ H fun x H1 => tb σ H1 fun y H2 => r x y H2 Q
def tUn (r : V → Hp → VK → Prop) (ta : TE) : TE := fun σ H Q => ta σ H fun x H1 => r x H1 Q
/-- ints in, under C, and a value out -/
def rI (C : Int → Int → Prop) (g : Int → Int → V) : R2 := fun x y H Q => ∃ i j, x = .int i ∧ y = .int j ∧ C i j ∧ Q (g i j) H
def rI0 (g : Int → Int → V) : R2 := fun x y H Q => ∃ i j, x = .int i ∧ y = .int j ∧ Q (g i j) H
def rU (g : Int → V) : V → Hp → VK → Prop := fun x H Q => ∃ i, x = .int i ∧ Q (g i) H

section
variable {X : Cx} {a b c : Expr} {ta tb tc : TE} {pos : Pos}

theorem binT (ha : PE X a ta) (hb : PE X b tb) {pins : List (Addr × Obj)} {s : Shared} {σ : St} {H : Hp} {R : V → V → Hp → Prop} (I : Inv X pins σ H s)
    (h : ta σ H fun x H1 => tb σ H1 fun y H2 => R x y H2) {Q : Value → Shared → Prop} {f : Value → Value → Sem Value}
    (hf : ∀ v u s2 x y H2, Inv X pins σ H2 s2 → RelV x v → RelV y u → R x y H2 → wpAny (model X.prog X.w) X.A (f v u) Q X.xe s2) :
    wpAny (model X.prog X.w) X.A (eval a X.env) (fun v s₁ => wpAny (model X.prog X.w) X.A (eval b X.env) (fun u s₂ => wpAny (model X.prog X.w) X.A (f v u) Q X.xe s₂) X.xe s₁) X.xe s := by
  refine thn (ha pins s σ H _ I h) fun v s1 ⟨x, H1, I1, r1, q1⟩ => ?_
  refine thn (hb pins s1 σ H1 _ I1 q1) fun u s2 ⟨y, H2, I2, r2, q2⟩ => ?_
  exact hf v u s2 x y H2 I2 r1 r2 q2

theorem pe_op {op : Operator} {r : R2} (ho : OpR X (binaryOp op) r) (ha : PE X a ta) (hb : PE X b tb) : PE X (.BinOp a op b pos) (tOp r ta tb) := by
  intro pins s σ H Q I h
  exact wpAny_BinOp (binT ha hb I h fun v u s2 x y H2 I2 rx ry q => ho pins s2 σ H2 x y v u Q I2 rx ry q)
theorem pe_un {op : UnaryOp} {r : V → Hp → VK → Prop} (ho : UnR X (unaryOp op) r) (ha : PE X a ta) : PE X (.UnaryOp op a pos) (tUn r ta) := by
  intro pins s σ H Q I h
  exact UnaryOp_ (thn (ha pins s σ H _ I h) fun v s1 ⟨x, H1, I1, r1, q1⟩ => ho pins s1 σ H1 x v Q I1 r1 q1)
/-! ### ints -/
theorem opI {f : Value → Value → Sem Value} {C : Int → Int → Prop} {g : Int → Int → Int}
    (rule : ∀ (i j : Int) (t u : Tok) (s : Shared) (Q : Value → Shared → Prop) (E : Value → Shared → Prop), C i j → Q (.int (g i j) s.toks) { s with toks := s.toks + 1 } → wpAny (model X.prog X.w) X.A (f (.int i t) (.int j u)) Q E s) :
    OpR X f (rI C fun i j => .int (g i j)) := by
  intro pins s σ H x y v u Q I rx ry h
  obtain ⟨i, j, rfl, rfl, hc, q⟩ := h
  obtain ⟨t, rfl⟩ := rx
  obtain ⟨t', rfl⟩ := ry
  exact rule i j t t' s _ _ hc ⟨.int (g i j), H, I.tok _, ⟨_, rfl⟩, q⟩
theorem opI0 {f : Value → Value → Sem Value} {g : Int → Int → Int}
    (rule : ∀ (i j : Int) (t u : Tok) (s : Shared) (Q : Value → Shared → Prop) (E : Value → Shared → Prop), Q (.int (g i j) s.toks) { s with toks := s.toks + 1 } → wpAny (model X.prog X.w) X.A (f (.int i t) (.int j u)) Q E s) :
    OpR X f (rI0 fun i j => .int (g i j)) := by
  intro pins s σ H x y v u Q I rx ry h
  obtain ⟨i, j, rfl, rfl, q⟩ := h
  obtain ⟨t, rfl⟩ := rx
  obtain ⟨t', rfl⟩ := ry
  exact rule i j t t' s _ _ ⟨.int (g i j), H, I.tok _, ⟨_, rfl⟩, q⟩
theorem opB0 {f : Value → Value → Sem Value} {g : Int → Int → Bool}
    (rule : ∀ (i j : Int) (t u : Tok) (s : Shared) (Q : Value → Shared → Prop) (E : Value → Shared → Prop), Q (.bool (g i j)) s → wpAny (model X.prog X.w) X.A (f (.int i t) (.int j u)) Q E s) :
    OpR X f (rI0 fun i j => .bl (g i j)) := by
  intro pins s σ H x y v u Q I rx ry h
  obtain ⟨i, j, rfl, rfl, q⟩ := h
  obtain ⟨t, rfl⟩ := rx
  obtain ⟨t', rfl⟩ := ry
  exact rule i j t t' s _ _ ⟨.bl (g i j), H, I, rfl, q⟩

def CMul (i j : Int) : Prop := (-(2 ^ 64) < i ∧ i < 2 ^ 64) ∨ (-(2 ^ 64) < j ∧ j < 2 ^ 64)
theorem CMul.ok {i j : Int} (h : CMul i j) : IntMulOk i j := by
  rcases h with ⟨h1, h2⟩ | ⟨h1, h2⟩
  · exact .of_left (intBits_le_64 h1 h2)
  · exact .of_right (intBits_le_64 h1 h2)
theorem op_add : OpR X (binaryOp .Add) (rI0 fun i j => .int (i + j)) := opI0 fun _ _ _ _ _ _ _ q => add_int q
theorem op_sub : OpR X (binaryOp .Sub) (rI0 fun i j => .int (i - j)) := opI0 fun _ _ _ _ _ _ _ q => sub_int q
theorem op_mul : OpR X (binaryOp .Mult) (rI CMul fun i j => .int (i * j)) := opI fun _ _ _ _ _ _ _ hc q => mul_int q hc.ok
/-- % by a positive divisor of any size -/
theorem op_mod : OpR X (binaryOp .Mod) (rI (fun _ j => 0 < j) fun i j => .int (i % j)) := opI fun i j _ _ _ _ _ hc q => by
  have h1 : (0 : Int) < j := hc
  exact mod_int' (by omega) (by rw [Int.fmod_eq_emod_of_nonneg i (by omega)]; exact q)
theorem unI {f : Value → Sem Value} {g : Int → Int}
    (rule : ∀ (i : Int) (t : Tok) (s : Shared) (Q : Value → Shared → Prop) (E : Value → Shared → Prop), Q (.int (g i) s.toks) { s with toks := s.toks + 1 } → wpAny (model X.prog X.w) X.A (f (.int i t)) Q E s) :
    UnR X f (rU fun i => .int (g i)) := by
  intro pins s σ H x v Q I rx h
  obtain ⟨i, rfl, q⟩ := h
  obtain ⟨t, rfl⟩ := rx
  exact rule i t s _ _ ⟨.int (g i), H, I.tok _, ⟨_, rfl⟩, q⟩
theorem un_neg : UnR X (unaryOp .USub) (rU fun i => .int (-i)) := unI fun _ _ _ _ _ q => neg_int q
/-! ### bools among ints: n += (a < b) -/
end

/-! ### comparisons -/
section
variable {X : Cx} {a b c : Expr} {ta tb tc : TE} {pos : Pos}
theorem fin_bl {pins : List (Addr × Obj)} {σ : St} {H : Hp} {s : Shared} {Q : VK} {k k' : Bool} (I : Inv X pins σ H s) (q : Q (.bl k) H) (e : k = k') : EP X pins σ Q (.bool k') s := by
  subst e
  exact ⟨.bl k, H, I, rfl, q⟩
theorem op_lt : OpR X (compareOp .Lt) (rI0 fun i j => .bl (decide (i < j))) := opB0 fun _ _ _ _ _ _ _ q => lt_int q
theorem op_le : OpR X (compareOp .LtE) (rI0 fun i j => .bl (decide (i ≤ j))) := opB0 fun _ _ _ _ _ _ _ q => le_int q
theorem op_gt : OpR X (compareOp .Gt) (rI0 fun i j => .bl (decide (j < i))) := opB0 fun _ _ _ _ _ _ _ q => gt_int q
theorem op_ge : OpR X (compareOp .GtE) (rI0 fun i j => .bl (decide (j ≤ i))) := opB0 fun _ _ _ _ _ _ _ q => ge_int q
/-- is None, is not None: the right side a value none -/
theorem op_isN : OpR X (compareOp .Is) (fun x y H Q => y = .non ∧ Q (.bl (decide (x = .non))) H) := by
  intro pins s σ H x y v u Q I rx ry h
  obtain ⟨rfl, q⟩ := h
  cases ry
  refine is_none_gen (fin_bl I q ?_)
  cases x <;> first
    | (cases rx; rfl)
    | (obtain ⟨t, rfl⟩ := rx; rfl)
/-- two rules for one operation: by cases -/
theorem OpR.or {f : Value → Value → Sem Value} {r r' : R2} (h : OpR X f r) (h' : OpR X f r') : OpR X f (fun x y H Q => r x y H Q ∨ r' x y H Q) := by
  intro pins s σ H x y v u Q I rx ry q
  rcases q with q | q
  · exact h pins s σ H x y v u Q I rx ry q
  · exact h' pins s σ H x y v u Q I rx ry q

theorem nomark (b : Expr) {op : CmpOp} (h : op ≠ .In := by decide) (h2 : op ≠ .NotIn := by decide) : behindInMarks op b = false := by
  have e1 : (op == CmpOp.In) = false := by cases op <;> first | rfl | exact absurd rfl h
  have e2 : (op == CmpOp.NotIn) = false := by cases op <;> first | rfl | exact absurd rfl h2
  cases b <;> simp [behindInMarks, e1, e2]
/-- a comparison as a value; hm: nomark b, or (for in, not in) by with_unfolding_all rfl -/
theorem pe_cmpR {op : CmpOp} {r : R2} (ho : OpR X (compareOp op) r) (ha : PE X a ta) (hb : PE X b tb) (hm : behindInMarks op b = false) : PE X (.Compare a [op] [b] pos) (tOp r ta tb) := by
  intro pins s σ H Q I h
  exact wpAny_Compare1 (binT ha hb I h fun v u s2 x y H2 I2 rx ry q => ho pins s2 σ H2 x y v u Q I2 rx ry q) hm
/-- a reading of a value as a test -/
def tTest (t : TE) : TT := fun σ H Q => t σ H fun x H' => ∃ k, x = .bl k ∧ Q k H'
theorem pt_cmpR {op : CmpOp} {r : R2} (ho : OpR X (compareOp op) r) (ha : PE X a ta) (hb : PE X b tb) (hm : behindInMarks op b = false) : PT X (.Compare a [op] [b] pos) (tTest (tOp r ta tb)) := by
  intro pins s σ H Q I h
  refine wpAny_isTrue_Compare1 (thn (ha pins s σ H _ I h) fun v s1 ⟨x, H1, I1, r1, q1⟩ => thn (hb pins s1 σ H1 _ I1 q1) fun u s2 ⟨y, H2, I2, r2, q2⟩ =>
    thn (ho pins s2 σ H2 x y v u _ I2 r1 r2 q2) fun c s3 ⟨z, H3, I3, r3, k, e, q3⟩ => ?_) hm
  subst e
  cases r3
  exact wpAny_truthy_bool ⟨H3, I3, q3⟩
/-- a op1 b op2 c -/
def tChain (r r' : R2) (ta tb tc : TE) : TE := fun σ H Q => ta σ H fun x H1 => tb σ H1 fun y H2 => r x y H2 fun z H3 => ∃ k, z = .bl k ∧
  (if k = true then tc σ H3 fun w' H4 => r' y w' H4 Q else Q (.bl false) H3)
theorem pe_chain {op op' : CmpOp} {r r' : R2} (ho : OpR X (compareOp op) r) (ho' : OpR X (compareOp op') r') (ha : PE X a ta) (hb : PE X b tb) (hc : PE X c tc)
    (hm : lastMarks [op, op'] [b, c] = false := by with_unfolding_all rfl) : PE X (.Compare a [op, op'] [b, c] pos) (tChain r r' ta tb tc) := by
  intro pins s σ H Q I h
  refine Compare_chain (thn (ha pins s σ H _ I h) fun v s1 ⟨x, H1, I1, r1, q1⟩ => chain_link (thn (hb pins s1 σ H1 _ I1 q1) fun u s2 ⟨y, H2, I2, r2, q2⟩ =>
    thn (ho pins s2 σ H2 x y v u _ I2 r1 r2 q2) fun d s3 ⟨z, H3, I3, r3, k, e, q3⟩ => ?_)) hm
  subst e
  cases r3
  refine wpAny_truthy_bool ?_
  cases k with
  | false => exact ite_ff ⟨.bl false, H3, I3, rfl, q3⟩
  | true => exact ite_tt (chain_last (thn (hc pins s3 σ H3 _ I3 q3) fun w' s4 ⟨z', H4, I4, r4, q4⟩ => ho' pins s4 σ H4 y z' u w' Q I4 r2 r4 q4))
theorem pt_chain {op op' : CmpOp} {r r' : R2} (ho : OpR X (compareOp op) r) (ho' : OpR X (compareOp op') r') (ha : PE X a ta) (hb : PE X b tb) (hc : PE X c tc)
    (hm : lastMarks [op, op'] [b, c] = false := by with_unfolding_all rfl) : PT X (.Compare a [op, op'] [b, c] pos) (tTest (tChain r r' ta tb tc)) := by
  intro pins s σ H Q I h
  refine isTrue_chain (thn (ha pins s σ H _ I h) fun v s1 ⟨x, H1, I1, r1, q1⟩ => test_link (thn (hb pins s1 σ H1 _ I1 q1) fun u s2 ⟨y, H2, I2, r2, q2⟩ =>
    thn (ho pins s2 σ H2 x y v u _ I2 r1 r2 q2) fun d s3 ⟨z, H3, I3, r3, k, e, q3⟩ => ?_)) hm
  subst e
  cases r3
  refine wpAny_truthy_bool ?_
  cases k with
  | false =>
    obtain ⟨k', e', q'⟩ := q3
    cases e'
    exact ite_ff ⟨H3, I3, q'⟩
  | true =>
    refine ite_tt (test_last (thn (hc pins s3 σ H3 _ I3 q3) fun w' s4 ⟨z', H4, I4, r4, q4⟩ => thn (ho' pins s4 σ H4 y z' u w' _ I4 r2 r4 q4) fun d' s5 ⟨z2, H5, I5, r5, k2, e2, q5⟩ => ?_))
    subst e2
    cases r5
    exact wpAny_truthy_bool ⟨H5, I5, q5⟩

/-! ### truth -/
theorem line63 : (sizeLine : Nat) < 2 ^ 63 := by rw [sizeLine_eq]; decide
/-! ### strs and bytes -/
/-! ### scalar builtins, by CallR -/
theorem vals1 {x : V} {us : List Value} (r : Vals [x] us) : ∃ u, us = [u] ∧ RelV x u := by
  cases r with
  | cons r1 r2 => cases r2; exact ⟨_, rfl, r1⟩
theorem vals2 {x y : V} {us : List Value} (r : Vals [x, y] us) : ∃ u w', us = [u, w'] ∧ RelV x u ∧ RelV y w' := by
  cases r with
  | cons r1 r2 =>
    cases r2 with
    | cons r3 r4 => cases r4; exact ⟨_, _, rfl, r1, r3⟩
theorem call_abs : CallR X (.builtin "abs") (fun xs H Q => ∃ i, xs = [.int i] ∧ Q (.int (if i < 0 then -i else i)) H) := by
  intro pins s σ H xs us Q I r h
  obtain ⟨i, rfl, q⟩ := h
  obtain ⟨u, rfl, t, rfl⟩ := vals1 r
  exact call_abs_int fun u tk => ⟨.int (if i < 0 then -i else i), H, I.tok _, ⟨_, rfl⟩, q⟩
theorem call_max2 (hc : X.calm = true) : CallR X (.builtin "max") (fun xs H Q => ∃ i j, xs = [.int i, .int j] ∧ Q (.int (if j > i then j else i)) H) := by
  intro pins s σ H xs us Q I r h
  obtain ⟨i, j, rfl, q⟩ := h
  obtain ⟨u, w', rfl, ⟨t, rfl⟩, ⟨t', rfl⟩⟩ := vals2 r
  refine max_two_ints (I.ok.hd hc) fun h' tk k => ⟨_, H, I.kept k, ?_, q⟩
  by_cases hj : j > i
  · rw [if_pos hj, if_pos hj]; exact ⟨_, rfl⟩
  · rw [if_neg hj, if_neg hj]; exact ⟨_, rfl⟩
theorem call_min2 (hc : X.calm = true) : CallR X (.builtin "min") (fun xs H Q => ∃ i j, xs = [.int i, .int j] ∧ Q (.int (if j < i then j else i)) H) := by
  intro pins s σ H xs us Q I r h
  obtain ⟨i, j, rfl, q⟩ := h
  obtain ⟨u, w', rfl, ⟨t, rfl⟩, ⟨t', rfl⟩⟩ := vals2 r
  refine min_two_ints (I.ok.hd hc) fun h' tk k => ⟨_, H, I.kept k, ?_, q⟩
  by_cases hj : j < i
  · rw [if_pos hj, if_pos hj]; exact ⟨_, rfl⟩
  · rw [if_neg hj, if_neg hj]; exact ⟨_, rfl⟩
end
end L2

namespace L2
open PySem PySem.Spec PyProof.Rows

/-! ### an instance, its attributes a map -/
structure ObjM (h : Heap) (x dx C : Addr) (mA : Str → Option Value) : Prop where
  obj : h.get? x = some (PySem.W.instObj C dx)
  ns : h.Ns1 dx mA
  ne : dx ≠ x

theorem lookIn_ns {h : Heap} {dx : Addr} {mA : Str → Option Value} (n : h.Ns1 dx mA) : ∃ od, h.get? dx = some od ∧ ∀ name, PySem.W.lookIn name od = some (mA name) := by
  obtain ⟨o, es, ep, ho, hd, hk, _, hm⟩ := n
  refine ⟨o, ho, fun name => ?_⟩
  have e := hm name
  unfold nsFind findBy at e
  rw [← Array.find?_toList] at e
  unfold PySem.W.lookIn
  rw [hd]
  dsimp only
  split
  · rename_i y q
    rw [q] at e
    exact congrArg some e
  · rename_i q
    rw [q] at e
    have a : es.toList.any (·.refKey) = false := by
      rw [List.any_eq_false]
      intro y hy
      obtain ⟨z, t, hkey⟩ := hk y (Array.mem_toList_iff.mp hy)
      simp [DictEntry.refKey, hkey]
    have a' : ¬ es.toList.any (·.refKey) = true := by rw [a]; exact Bool.false_ne_true
    rw [if_neg a']
    exact congrArg some e

theorem ObjM.look {h : Heap} {x dx C : Addr} {mA : Str → Option Value} (I : ObjM h x dx C mA) : ∃ od, PySem.W.InstAt h x (PySem.W.instObj C dx) C (some od) ∧ ∀ name, PySem.W.lookIn name od = some (mA name) :=
  let ⟨od, ho, hl⟩ := lookIn_ns I.ns
  ⟨od, ⟨I.obj, rfl, rfl, ho⟩, hl⟩

section
variable {prog : Program} {w : World} {A : Around} {E : Value → Shared → Prop} {s : Shared} {K : PySem.W.Frag} {x dx C f : Addr} {mA : Str → Option Value} {name : Str} {v : Value}

theorem get_map {expr : Bool} {Q : Value → Shared → Prop} (X : K.In s.heap) (I : ObjM s.heap x dx C mA) (hg : PySem.W.plainGet K C name = true) (hh : PySem.W.hasDictIn K C = true)
    (ha : PySem.W.findIn K (.ref C) name = some none) (hv : mA name = some v) (hv' : PySem.W.handedIn v = true) (h : Q v { s with toks := s.toks + 1 }) :
    wpAny (model prog w) A (getAttr (.ref x) name expr) Q E s := by
  obtain ⟨od, J, hl⟩ := I.look
  exact PySem.W.get_value X J (PySem.W.plainGet_of hg).1 (PySem.W.findObj_own hh ha rfl (by rw [hl, hv])) hv' h

theorem get_meth {pl : Sem Bool} {Q : Value × List Value → Shared → Prop} (X : K.In s.heap) (I : ObjM s.heap x dx C mA) (hg : PySem.W.plainGet K C name = true)
    (hf : PySem.W.findIn K (.ref C) name = some (some (.ref f))) (ht : PySem.W.isFn K (.ref f) = true) (hv : mA name = none) (h : Q (.ref f, [.ref x]) s) :
    wpAny (model prog w) A (getMethod (.ref x) name pl) Q E s := by
  obtain ⟨od, J, hl⟩ := I.look
  exact PySem.W.method_fn X J (PySem.W.plainGet_of hg).1 (PySem.W.plainGet_of hg).2 hf (beq_iff_eq.mp ht) (by show (PySem.W.lookIn name od).map (·.isSome) = some false; rw [hl, hv]; rfl) h

theorem set_map {ns : List Str} {Q : Unit → Shared → Prop} (X : K.In s.heap) (I : ObjM s.heap x dx C mA)
    (hs : PySem.W.findIn K (.ref C) "__setattr__" = some (some (.builtin "object.__setattr__"))) (hp : PySem.W.plainOver K C = true) (ht : PySem.W.takerIn K C name = some none) (hh : PySem.W.hasDictIn K C = true)
    (hw : PySem.Within mA ns) (hsz : ns.length ≤ sizeLine)
    (h : ∀ h', ObjM h' x dx C (fun y => if y = name then some v else mA y) → Heap.SameBut dx s.heap h' → Q () { s with heap := h', toks := s.toks + 2 }) :
    wpAny (model prog w) A (setAttr (.ref x) name v) Q E s := by
  obtain ⟨od, J, hl⟩ := I.look
  refine PySem.W.set_plain X J hs (PySem.W.osa_open (s := { s with toks := s.toks + 1 }) (r := none) X J hp ht fun b => ?_)
  obtain ⟨cd, hc, hd'⟩ := PySem.W.any_some hh
  have hx : s.heap.get? x = some ⟨.ref C, some dx, .plain, #[]⟩ := I.obj
  refine wpAny_bind (wpAny_pure (wpAny_bind (wpAny_bind (wpAny_loadPart hx (wpAny_bind (PySem.W.Looks.here (s := { s with toks := s.toks + 1 }) (PySem.W.looks_clsIn X hc) ?_))))))
  rw [hd']
  refine wpAny_pure (a := some dx) (wpAny_bind (wpAny_pure (wpAny_bind ?_)))
  refine wpAny_nsSet1 (s := { s with toks := s.toks + 1 }) I.ns fun h' hn2 hs2 => ?_
  obtain ⟨oD, esD, epD, hoD, hdD, hcD⟩ := hn2.count (PySem.Within.cons name v hw)
  refine wpAny_bind (wpAny_lookBehind hoD (by rw [hdD]; exact pastItsLine_dict (Nat.le_trans hcD (by rw [List.length_cons]; omega))) ?_)
  exact wpAny_pure (h _ ⟨(hs2.2 _ (Ne.symm I.ne)).trans I.obj, hn2, I.ne⟩ hs2)

/-- C(..): the dict at the heap's end, the instance behind it; then its __init__ -/
theorem make_map {R : Result → Shared → Prop} {vs : List Value} {kw : List (Str × Value)} (X : K.In s.heap) (hm : PySem.W.makesIn K C = true)
    (hi : PySem.W.findIn K (.ref C) "__init__" = some (some (.ref f))) (hf : PySem.W.typeIn K (.ref f) = some (.type "function"))
    (h : codeAny (model prog w) (A.under (.builtin "type.__call__" ⟨.ref C :: vs, kw⟩)) (.call (.ref f) ⟨.ref (s.heap.objs.size + 1) :: vs, kw⟩) (PySem.W.InitBack (s.heap.objs.size + 1) R)
      { s with heap := (s.heap.push PySem.W.emptyDict).push (PySem.W.instObj C s.heap.objs.size) }) :
    codeAny (model prog w) A (.call (.ref C) ⟨vs, kw⟩) R s := by
  obtain ⟨hh, g, d, t, os⟩ := s
  exact PySem.W.make_core (PySem.W.makes_of X hm) (PySem.W.looks_findIn X hi) (fun self => PySem.W.bind_fn X self hf) (.inl rfl) h
end

/-! ### the attributes as a list of pairs -/
def putF (f : Str) (v : V) : List (Str × V) → List (Str × V)
  | [] => [(f, v)]
  | (g, x) :: r => if g = f then (g, v) :: r else (g, x) :: putF f v r
theorem lookup_putF (f g : Str) (v : V) : ∀ fs : List (Str × V), (putF f v fs).lookup g = if g = f then some v else fs.lookup g
  | [] => by
    show List.lookup g [(f, v)] = _
    by_cases h : g = f
    · have hb : (g == f) = true := beq_iff_eq.mpr h
      simp only [List.lookup, hb, if_pos h]
    · have hb : (g == f) = false := beq_eq_false_iff_ne.mpr h
      simp only [List.lookup, hb, if_neg h]
  | (k, x) :: r => by
    have ih := lookup_putF f g v r
    rw [show putF f v ((k, x) :: r) = (if k = f then (k, v) :: r else (k, x) :: putF f v r) from rfl]
    by_cases hk : k = f
    · rw [if_pos hk]
      by_cases h : g = k
      · have hb : (g == k) = true := beq_iff_eq.mpr h
        simp only [List.lookup, hb, if_pos (h.trans hk)]
      · have hb : (g == k) = false := beq_eq_false_iff_ne.mpr h
        simp only [List.lookup, hb, if_neg (fun e : g = f => h (e.trans hk.symm))]
    · rw [if_neg hk]
      by_cases h : g = k
      · have hb : (g == k) = true := beq_iff_eq.mpr h
        simp only [List.lookup, hb, if_neg (fun e : g = f => hk (h.symm.trans e))]
      · have hb : (g == k) = false := beq_eq_false_iff_ne.mpr h
        simp only [List.lookup, hb]
        exact ih
theorem keys_putF (f : Str) (v : V) : ∀ fs : List (Str × V), f ∈ (putF f v fs).map (·.1) ∧ ∀ g, g ∈ fs.map (·.1) → g ∈ (putF f v fs).map (·.1)
  | [] => ⟨by simp [putF], fun g h => by simp at h⟩
  | (k, x) :: r => by
    obtain ⟨i1, i2⟩ := keys_putF f v r
    rw [show putF f v ((k, x) :: r) = (if k = f then (k, v) :: r else (k, x) :: putF f v r) from rfl]
    by_cases hk : k = f
    · rw [if_pos hk]
      subst hk
      exact ⟨by simp, fun g h => by simpa using h⟩
    · rw [if_neg hk]
      refine ⟨?_, fun g h => ?_⟩
      · rw [List.map_cons]
        exact List.mem_cons_of_mem _ i1
      · rw [List.map_cons] at h ⊢
        rcases List.mem_cons.mp h with e | e
        · exact List.mem_cons.mpr (.inl e)
        · exact List.mem_cons_of_mem _ (i2 g e)
theorem length_putF (f : Str) (v : V) : ∀ fs : List (Str × V), (putF f v fs).length ≤ fs.length + 1
  | [] => by simp [putF]
  | (k, x) :: r => by
    have ih := length_putF f v r
    rw [show putF f v ((k, x) :: r) = (if k = f then (k, v) :: r else (k, x) :: putF f v r) from rfl]
    by_cases hk : k = f
    · rw [if_pos hk, List.length_cons, List.length_cons]; omega
    · rw [if_neg hk, List.length_cons, List.length_cons]; omega

theorem RelO.some_of {v : V} {o : Option Value} (r : RelO (some v) o) : ∃ u, o = some u ∧ RelV v u := by
  cases o with
  | none => exact (show False from r).elim
  | some u => exact ⟨u, rfl, r⟩
theorem RelO.none_of {o : Option Value} (r : RelO none o) : o = none := by
  cases o with
  | none => rfl
  | some u => exact (show False from r).elim
theorem handed_of {v : V} {u : Value} (r : RelV v u) : PySem.W.handedIn u = true := by
  cases v with
  | non => cases (show u = Value.none from r); rfl
  | bl b => cases (show u = Value.bool b from r); rfl
  | int i => obtain ⟨t, e⟩ := (show ∃ t, u = Value.int i t from r); cases e; rfl
  | str x => obtain ⟨t, e⟩ := (show ∃ t, u = Value.str x t from r); cases e; rfl
  | byt b => obtain ⟨t, e⟩ := (show ∃ t, u = Value.bytes b t from r); cases e; rfl
  | flt b => obtain ⟨t, e⟩ := (show ∃ t, u = Value.float b t from r); cases e; rfl
  | ref a => cases (show u = Value.ref a from r); rfl
  | ty n => cases (show u = Value.type n from r); rfl

section
variable {P : Program} {w : World} {H H' : Hp} {h h' : Heap} {a C dx : Addr} {fs fs' : List (Str × V)}
theorem ins_get (hok : HOk P w H h) (e : H a = some (.ins C dx fs)) : ∃ mA, ObjM h a dx C mA ∧ (∀ f, RelO (fs.lookup f) (mA f)) ∧ PySem.Within mA (fs.map (·.1)) ∧ fs.length ≤ 1000 ∧ H dx = some (.own a) := by
  obtain ⟨d, z, ne, ob, mA, n, r, q⟩ := (show ObjOk P w H h a (.ins C dx fs) from hok a _ e)
  exact ⟨mA, ⟨ob, n, ne⟩, r, q, z, d⟩
end

/-! ### what of the text a class must have -/
structure Cls (K : PySem.W.Frag) (C : Addr) : Prop where
  pg : PySem.W.plainGet K C Str.empty = true
  hd : PySem.W.hasDictIn K C = true
  po : PySem.W.plainOver K C = true
  sa : PySem.W.findIn K (.ref C) "__setattr__" = some (some (.builtin "object.__setattr__"))
theorem Cls.get {K : PySem.W.Frag} {C : Addr} (c : Cls K C) (f : Str) : PySem.W.plainGet K C f = true := c.pg
/-- no class of it has the name -/
def NoAttr (K : PySem.W.Frag) (C : Addr) (f : Str) : Prop := PySem.W.findIn K (.ref C) f = some none
theorem NoAttr.taker {K : PySem.W.Frag} {C : Addr} {f : Str} (n : NoAttr K C f) : PySem.W.takerIn K C f = some none := by
  unfold PySem.W.takerIn
  rw [show PySem.W.findIn K (.ref C) f = some none from n]
  rfl
/-- a method: a plain def of the class or of one above it -/
structure Meth (K : PySem.W.Frag) (C : Addr) (m : Str) (f : Addr) : Prop where
  at_ : PySem.W.findIn K (.ref C) m = some (some (.ref f))
  fn : PySem.W.isFn K (.ref f) = true
  kp : PySem.W.keepIn K (.ref f) = true

section
variable {X : Cx} {pins : List (Addr × Obj)} {σ : St} {H : Hp} {s : Shared} {a C dx : Addr} {fs : List (Str × V)} {f : Str} {v : V} {A : Around} {E : Value → Shared → Prop}

theorem getattr_ok {b : Bool} {Q : Value → Shared → Prop} (I : Inv X pins σ H s) (e : H a = some (.ins C dx fs)) (c : Cls X.K C) (n : NoAttr X.K C f) (l : fs.lookup f = some v)
    (h : ∀ u s', Inv X pins σ H s' → RelV v u → Q u s') : wpAny (model X.prog X.w) A (getAttr (.ref a) f b) Q E s := by
  obtain ⟨mA, O, r, _, _, _⟩ := ins_get I.hok e
  obtain ⟨u, hu, ru⟩ := RelO.some_of (v := v) (o := mA f) (by rw [← l]; exact r f)
  exact get_map I.kIn O (c.get f) c.hd n hu (handed_of ru) (h u _ (I.tok _) ru)

theorem getmeth_ok {m : Str} {g : Addr} {pl : Sem Bool} {Q : Value × List Value → Shared → Prop} (I : Inv X pins σ H s) (e : H a = some (.ins C dx fs)) (c : Cls X.K C) (k : Meth X.K C m g) (l : fs.lookup m = none)
    (h : Q (.ref g, [.ref a]) s) : wpAny (model X.prog X.w) A (getMethod (.ref a) m pl) Q E s := by
  obtain ⟨mA, O, r, _, _, _⟩ := ins_get I.hok e
  have hn : mA m = none := RelO.none_of (by rw [← l]; exact r m)
  exact get_meth I.kIn O (c.get m) k.at_ k.fn hn h

theorem setattr_ok {y : V} {u : Value} {Q : Unit → Shared → Prop} (I : Inv X pins σ H s) (e : H a = some (.ins C dx fs)) (c : Cls X.K C) (n : NoAttr X.K C f) (hl : fs.length < 1000) (ry : RelV y u)
    (h : ∀ s', Inv X pins σ (upd H a (.ins C dx (putF f y fs))) s' → Q () s') : wpAny (model X.prog X.w) A (setAttr (.ref a) f u) Q E s := by
  obtain ⟨mA, O, r, wi, _, ho⟩ := ins_get I.hok e
  have hz : (fs.map (·.1)).length ≤ sizeLine := by rw [List.length_map, sizeLine_eq]; omega
  refine set_map I.kIn O c.sa c.po n.taker c.hd wi hz fun h' O' sb => h _ ?_
  have hd : ∃ o, h'.get? dx = some o := let ⟨o, _, _, e', _⟩ := O'.ns; ⟨o, e'⟩
  refine I.write (x := a) (e := dx) (by rw [e]; exact True.intro) (.inr ho) (fun b q hb z => (sb.2 b hb).trans z) hd ?_
  refine ⟨by rw [upd_ne O.ne]; exact ho, ?_, O.ne, O'.obj, _, O'.ns, fun g => ?_, fun g hg => ?_⟩
  · have := length_putF f y fs; omega
  · show RelO ((putF f y fs).lookup g) (if g = f then some u else mA g)
    rw [lookup_putF]
    by_cases q : g = f
    · rw [if_pos q, if_pos q]; exact ry
    · rw [if_neg q, if_neg q]; exact r g
  · by_cases q : g = f
    · rw [q]; exact (keys_putF f y fs).1
    · refine (keys_putF f y fs).2 g (wi g fun z => hg ?_)
      show (if g = f then some u else mA g) = none
      rw [if_neg q]; exact z

/-- a new instance, tracked, without attributes -/
theorem Inv.made (I : Inv X pins σ H s) : Inv X pins σ (upd (upd H s.heap.objs.size (.own (s.heap.objs.size + 1))) (s.heap.objs.size + 1) (.ins C s.heap.objs.size []))
    { s with heap := (s.heap.push PySem.W.emptyDict).push (PySem.W.instObj C s.heap.objs.size) } := by
  have e1 : (s.heap.push PySem.W.emptyDict).get? s.heap.objs.size = some PySem.W.emptyDict := Heap.get?_push_size s.heap rfl
  have e2 : ((s.heap.push PySem.W.emptyDict).push (PySem.W.instObj C s.heap.objs.size)).get? (s.heap.objs.size + 1) = some (PySem.W.instObj C s.heap.objs.size) := by
    have := Heap.get?_push_size (s.heap.push PySem.W.emptyDict) (o := PySem.W.instObj C s.heap.objs.size) rfl
    rwa [Heap.size_push] at this
  have e3 : (s.heap.push PySem.W.emptyDict).Ns s.heap.objs.size (fun _ => none) := ⟨PySem.W.emptyDict, #[], _, e1, rfl, (fun e he => absurd he (by simp)), fun _ => rfl⟩
  have I1 := I.laid (a := s.heap.objs.size) (o := .own (s.heap.objs.size + 1)) (h' := s.heap.push PySem.W.emptyDict) (t' := s.toks) (fun b u q => Heap.get?_push_of_some _ q) (Nat.le_refl _) ⟨_, e1⟩
  refine I1.laid (a := s.heap.objs.size + 1) (o := .ins C s.heap.objs.size []) (t' := s.toks) (fun b u q => Heap.get?_push_of_some _ q) (Nat.le_of_eq (Heap.size_push _ _)) ?_
  have ne : s.heap.objs.size ≠ s.heap.objs.size + 1 := Nat.ne_of_lt (Nat.lt_succ_self _)
  refine ⟨by rw [upd_ne ne, upd_same], Nat.zero_le _, ne, e2, fun _ => none, (Heap.Ns1.of_empty e3).at fun o q => Heap.get?_push_of_some _ q, fun _ => True.intro, fun y hy => absurd rfl hy⟩

/-- e.f where nothing but the object is asked: through attributeBase (super) and the last hold -/
theorem attr_of {prog : Program} {w : World} {env : Env} {e : Expr} {f : Str} {pos : Pos} {s : Shared} {Q : Value → Shared → Prop} (hb : attributeBase e f env (eval e env) = eval e env)
    (h : wpAny (model prog w) A (eval e env) (fun o s₁ => wpAny (model prog w) A (getAttr o f true) Q E s₁) E s) : wpAny (model prog w) A (eval (.Attribute e f pos) env) Q E s :=
  Attribute_any_ h (by rw [arm_eval_Attribute, hb])
end

/-! ### readings and rules -/
/-- e.f, an attribute of the instance -/
def tFld (K : PySem.W.Frag) (ta : TE) (f : Str) : TE := fun σ H Q => ta σ H fun x H1 => ∃ a C dx fs v, x = .ref a ∧ H1 a = some (.ins C dx fs) ∧ Cls K C ∧ NoAttr K C f ∧ fs.lookup f = some v ∧ Q v H1
/-- e.f = value -/
def sFld (K : PySem.W.Frag) (ta tv : TE) (f : Str) : TS := fun D σ H => tv σ H fun y H1 => ta σ H1 fun x H2 => ∃ a C dx fs, x = .ref a ∧ H2 a = some (.ins C dx fs) ∧ Cls K C ∧ NoAttr K C f ∧ fs.length < 1000 ∧
  D.nx σ (upd H2 a (.ins C dx (putF f y fs)))
section
variable {X : Cx} {o e value : Expr} {f : Str} {pos pos' tpos : Pos} {ta tv : TE}
theorem pe_fld (he : PE X e ta) (hb : attributeBase e f X.env (eval e X.env) = eval e X.env) : PE X (.Attribute e f pos) (tFld X.K ta f) := by
  intro pins s σ H Q I h
  refine attr_of hb (thn (he pins s σ H _ I h) fun u s1 ⟨x, H1, I1, rx, a, C, dx, fs, v, ex, ea, c, n, l, q⟩ => ?_)
  subst ex
  obtain rfl : u = Value.ref a := rx
  exact getattr_ok I1 ea c n l fun u' s2 I2 ru => ⟨v, H1, I2, ru, q⟩
theorem ps_fld (ha : PE X o ta) (hv : PE X value tv) (hs : swapsWith value (some (.Attribute o f pos')) pos.line X.env = pure false) : PS X (.Assign [.Attribute o f pos'] value pos) (sFld X.K ta tv f) := by
  intro pins s σ H D I h
  refine plainObj_wpAny_Assign_Attribute (thn (hv pins s σ H _ I h) fun u s1 ⟨y, H1, I1, ry, q⟩ => thn (ha pins s1 σ H1 _ I1 q) fun ov s2 ⟨x, H2, I2, rx, a, C, dx, fs, ex, ea, c, n, l, q2⟩ => ?_) hs
  subst ex
  obtain rfl : ov = Value.ref a := rx
  exact setattr_ok I2 ea c n l ry fun s3 I3 => ⟨σ, _, I3, q2⟩
end

/-! ### isinstance -/
section
variable {X : Cx} {pins : List (Addr × Obj)} {σ : St} {H : Hp} {s : Shared} {A : Around} {E : Value → Shared → Prop} {Q : Value → Shared → Prop} {c : Value} {b : Bool}
end
end L2

namespace L2
open PySem PySem.Spec PyProof.Rows

/-! ### room -/
structure Room (k : Nat) (A : Around) : Prop where
  hd : A.handled = none
  dp : A.depth + 3 * k + 5 < recursionLimit
  un : A.units + 16 * k + 200 < cLine
theorem Room.mono {j k : Nat} {A : Around} (r : Room k A) (h : j ≤ k) : Room j A := ⟨r.hd, by have := r.dp; omega, by have := r.un; omega⟩
theorem Room.deeper {k : Nat} {A : Around} (r : Room (k + 1) A) (env : Env) : Room k (A.deeper env) :=
  ⟨r.hd, by have := r.dp; show A.depth + 1 + 3 * k + 5 < _; omega, by have := r.un; show A.units + 3 + 16 * k + 200 < _; omega⟩
theorem Room.in1 {k : Nat} {A : Around} (r : Room (k + 1) A) : Room k A.in1 :=
  ⟨r.hd, by have := r.dp; show A.depth + 3 * k + 5 < _; omega, by have := r.un; show A.units + 1 + 16 * k + 200 < _; omega⟩
theorem make_depth {A : Around} {C : Addr} {us : List Value} {kw : List (Str × Value)} : (A.under (.builtin "type.__call__" ⟨.ref C :: us, kw⟩)).depth = A.depth + 1 := by
  first | rfl | simp [Around.under, Code.weight, Code.isCreation, Code.isGuard, Code.isCaller, Code.frames, Code.isFrame, guardIds]
theorem make_units {A : Around} {C : Addr} {us : List Value} {kw : List (Str × Value)} : (A.under (.builtin "type.__call__" ⟨.ref C :: us, kw⟩)).units = A.units + 1 := by
  first | rfl | simp [Around.under, Code.cUnits, Code.frames, Code.isFrame]
theorem Room.make {k : Nat} {A : Around} (r : Room (k + 1) A) (C : Addr) (us : List Value) (kw : List (Str × Value)) : Room k (A.under (.builtin "type.__call__" ⟨.ref C :: us, kw⟩)) :=
  ⟨r.hd, by have := r.dp; rw [make_depth]; omega, by have := r.un; rw [make_units]; omega⟩
theorem Room.depth {k : Nat} {A : Around} (r : Room k A) : A.depth < recursionLimit := by have := r.dp; omega
theorem Room.units {k : Nat} {A : Around} (r : Room k A) : A.units + 64 < cLine := by have := r.un; omega
/-! ### argument lists and displays -/
def tNil : TA := fun _ H Q => Q [] H
def tCons (ta : TE) (tr : TA) : TA := fun σ H Q => ta σ H fun x H1 => tr σ H1 fun xs H2 => Q (x :: xs) H2
section
variable {X : Cx} {e : Expr} {es : List Expr} {te : TE} {t : TA} {pos : Pos}
theorem pa_nil : PA X [] tNil := fun _ _ _ _ H Q I h => Calls.spliced_nil ⟨[], H, I, .nil, h⟩
theorem pa_cons (ha : PE X e te) (hr : PA X es t) (hs : starEach (e :: es) X.env = (false, eval e X.env) :: starEach es X.env := by rfl) : PA X (e :: es) (tCons te t) := by
  intro pos pins s σ H Q I h
  rw [hs]
  show wpAny _ _ (spliced ((false, eval e X.env) :: backTo pos (starEach es X.env))) _ _ s
  refine Calls.spliced_cons (thn (ha pins s σ H _ I h) fun u s1 ⟨x, H1, I1, r1, q1⟩ => ?_)
  exact thn (hr pos pins s1 σ H1 _ I1 q1) fun us s2 ⟨xs, H2, I2, r2, q2⟩ => ⟨x :: xs, H2, I2, .cons r1 r2, q2⟩

/-- a tuple, a list of written items -/
def tTup (t : TA) : TE := fun σ H Q => t σ H fun xs H1 => xs.length ≤ sizeLine ∧ ∀ p, H1 p = none → Q (.ref p) (upd H1 p (.tup xs))
def tLst (t : TA) : TE := fun σ H Q => t σ H fun xs H1 => xs.length ≤ sizeLine ∧ ∀ p, H1 p = none → Q (.ref p) (upd H1 p (.lst xs))
theorem pe_tup {x1} (h : PA X es t) : PE X (.Tuple es x1 pos) (tTup t) := by
  intro pins s σ H Q I hq
  refine wpAny_Tuple_spliced (thn (h pos pins s σ H _ I hq) fun us s1 ⟨xs, H1, I1, r, z, q⟩ => ⟨by rw [← r.length]; exact z, ?_⟩)
  have hf : H1 s1.heap.objs.size = none := I1.hok.fresh (Nat.le_refl _)
  refine ⟨.ref s1.heap.objs.size, upd H1 s1.heap.objs.size (.tup xs), I1.laid (t' := s1.toks) (fun b u e => Heap.get?_push_of_some _ e) (Nat.le_refl _) ?_, rfl, q _ hf⟩
  exact ⟨z, us, r, ⟨_, Heap.get?_push_size _ rfl, rfl, _, rfl⟩⟩
theorem pe_lst (h : PA X es t) : PE X (.List es pos) (tLst t) := by
  intro pins s σ H Q I hq
  refine wpAny_List_spliced (thn (h pos pins s σ H _ I hq) fun us s1 ⟨xs, H1, I1, r, z, q⟩ => ⟨by rw [← r.length]; exact z, ?_⟩)
  have hf : H1 s1.heap.objs.size = none := I1.hok.fresh (Nat.le_refl _)
  refine ⟨.ref s1.heap.objs.size, upd H1 s1.heap.objs.size (.lst xs), I1.laid (t' := s1.toks) (fun b u e => Heap.get?_push_of_some _ e) (Nat.le_refl _) ?_, rfl, q _ hf⟩
  exact ⟨z, us, 0, r, Heap.get?_push_size _ rfl⟩
end

/-! ### what a def promises -/
/-- a def's promise: the bound arguments in the parameters' order, the heap, the wanted end, the wanted exception -/
abbrev Sp := List V → Hp → VK → XK → Prop
/-- how an exception lies behind a call (file 08 gives it): the callers' frames, abstract heap and state ahead of the call, the wish, the exception, the state -/
abbrev CXT := List Env → Hp → Shared → XK → Value → Shared → Prop

/-- the state at a call -/
structure Env0 (P : Program) (w : World) (K : PySem.W.Frag) (mg : Str → Option Value) (base : Heap) (A : Around) (outer : List Env) (s : Shared) (H : Hp) : Prop where
  frames : A.frames = some outer
  mod : Mod K mg base
  bs : ∀ b o, base.get? b = some o → s.heap.get? b = some o ∧ H b = none
  bsz : base.objs.size ≤ s.heap.objs.size
  funs : s.heap.FunFrames base outer
  frf : ∀ b ∈ frs outer, H b = none
  hok : HOk P w H s.heap
  bare : AllBare s.gens
/-- a call's end -/
def CE (outer : List Env) (P : Program) (w : World) (H : Hp) (s : Shared) (Q : VK) (u : Value) (s' : Shared) : Prop :=
  ∃ v H', s'.os = s.os ∧ AllBare s'.gens ∧ Un (frs outer) [] H H' s.heap s'.heap ∧ HOk P w H' s'.heap ∧ RelV v u ∧ Q v H'
def CR (CX : CXT) (outer : List Env) (P : Program) (w : World) (H : Hp) (s : Shared) (Q : VK) (E : XK) (r : Result) (s' : Shared) : Prop :=
  match r with
  | .ok (.ret u) => CE outer P w H s Q u s'
  | .ok _ => False
  | .error e => CX outer H s E e s'
structure FnOk (P : Program) (w : World) (K : PySem.W.Frag) (mg : Str → Option Value) (base : Heap) (CX : CXT) (k : Nat) (f : Addr) (fd : FuncData) (ps : List Str) (sp : Sp) : Prop where
  len : ∀ vs H Q E, sp vs H Q E → vs.length = ps.length
  run : ∀ (A : Around) (outer : List Env) (s : Shared) (H : Hp) (args : Args) (us : List Value) (vs : List V) (Q : VK) (E : XK), Room k A → Env0 P w K mg base A outer s H → BindsTo s fd args (ps.zip us) → Vals vs us → sp vs H Q E →
    codeAny (model P w) A (.call (.ref f) args) (CR CX outer P w H s Q E) s
theorem FnOk.mono {P : Program} {w : World} {K : PySem.W.Frag} {mg : Str → Option Value} {base : Heap} {CX : CXT} {j k : Nat} {f : Addr} {fd : FuncData} {ps : List Str} {sp : Sp} (F : FnOk P w K mg base CX j f fd ps sp) (h : j ≤ k) :
    FnOk P w K mg base CX k f fd ps sp := ⟨F.len, fun A outer s H args us vs Q E hr => F.run A outer s H args us vs Q E (hr.mono h)⟩
theorem Env0.make {P : Program} {w : World} {K : PySem.W.Frag} {mg : Str → Option Value} {base : Heap} {A : Around} {outer : List Env} {s : Shared} {H : Hp} (e : Env0 P w K mg base A outer s H) (C : Addr) (us : List Value) (kw : List (Str × Value)) :
    Env0 P w K mg base (A.under (.builtin "type.__call__" ⟨.ref C :: us, kw⟩)) outer s H := ⟨by first | exact e.frames | (simpa [Around.under, Code.envs, Code.isFrame, pushEnvs] using e.frames), e.mod, e.bs, e.bsz, e.funs, e.frf, e.hok, e.bare⟩
theorem Env0.in1 {P : Program} {w : World} {K : PySem.W.Frag} {mg : Str → Option Value} {base : Heap} {A : Around} {outer : List Env} {s : Shared} {H : Hp} (e : Env0 P w K mg base A outer s H) :
    Env0 P w K mg base A.in1 outer s H := ⟨e.frames, e.mod, e.bs, e.bsz, e.funs, e.frf, e.hok, e.bare⟩

section
variable {X : Cx} {pins : List (Addr × Obj)} {σ : St} {H : Hp} {s s' : Shared}
/-- from a body: what a callee wants -/
theorem Inv.env0 (I : Inv X pins σ H s) : Env0 X.prog X.w X.K X.mg X.base X.A X.stack s H :=
  ⟨I.ok.frames, I.ok.mod, I.bs, Nat.le_trans I.ok.bsz I.sz, I.stack, I.stkFree, I.hok, I.bare⟩
/-- behind a call -/
theorem Inv.after {Q : VK} {u : Value} (I : Inv X pins σ H s) (h : CE X.stack X.prog X.w H s Q u s') : EP X pins σ Q u s' := by
  obtain ⟨v, H', os, bare, un, hok, r, q⟩ := h
  obtain ⟨hh, g, d, t, os'⟩ := s'
  obtain rfl : os' = s.os := os
  exact ⟨v, H', I.call (h' := hh) (g' := g) (d' := d) (t' := t) (ch := []) un hok bare (fun b z => absurd z (by simp)), r, q⟩
end

/-! ### calls -/
/-- f(..): the written arguments, then the defaults dvs; E: what is wanted of an exception -/
def tCall (sp : Sp) (dvs : List V) (E : XK) (t : TA) : TE := fun σ H Q => t σ H fun vs H1 => sp (vs ++ dvs) H1 Q E
/-- o.m(..) of an instance of the class at C -/
def tMeth (C : Addr) (m : Str) (sp : Sp) (dvs : List V) (E : XK) (ta : TE) (t : TA) : TE := fun σ H Q => ta σ H fun x H1 => ∃ a dx fs, x = .ref a ∧ H1 a = some (.ins C dx fs) ∧ fs.lookup m = none ∧
  t σ H1 fun vs H2 => sp (x :: (vs ++ dvs)) H2 Q E
/-- C(..): a new instance and its dict, then __init__ -/
def tMake (C : Addr) (sp : Sp) (dvs : List V) (E : XK) (t : TA) : TE := fun σ H Q => t σ H fun vs H1 => ∀ x dx, H1 x = none → H1 dx = none → dx ≠ x →
  sp (.ref x :: (vs ++ dvs)) (upd (upd H1 dx (.own x)) x (.ins C dx [])) (fun v H2 => v = .non ∧ Q (.ref x) H2) E

/-- how the parameters are bound: us the positional arguments, kw the keywords' values by name, ds the defaults that fill up -/
def Binds (K : PySem.W.Frag) (fd : FuncData) (ps : List Str) (ds : List Value) : Prop :=
  ∀ (s : Shared) (us : List Value), K.In s.heap → (us ++ ds).length = ps.length → BindsTo s fd ⟨us, []⟩ (ps.zip (us ++ ds))
/-- every parameter is given -/
theorem Binds.all {K : PySem.W.Frag} {fd : FuncData} {ps : List Str} (h : ∀ us : List Value, us.length = ps.length → bindArgs fd ⟨us, []⟩ = pure (ps.zip us)) : Binds K fd ps [] := fun s us _ hl => by
  rw [List.append_nil] at hl ⊢
  exact .of_eq (h us hl)

/-- an exception of a callee reaches what this body wants of exceptions -/
def Passes (CX : CXT) (X : Cx) (E : XK) : Prop := ∀ (pins : List (Addr × Obj)) (σ : St) (H : Hp) (s : Shared) (e : Value) (s' : Shared), Inv X pins σ H s → CX X.stack H s E e s' → X.xe e s'

section
variable {X : Cx} {CX : CXT} {k : Nat} {f C : Addr} {fd : FuncData} {ps : List Str} {sp : Sp} {dvs : List V} {ds : List Value} {E : XK} {x m : Str} {p pos apos : Pos} {e o : Expr} {es : List Expr} {ta : TE} {t : TA}

/-- the callee runs -/
theorem run_fn {pins : List (Addr × Obj)} {σ : St} {H : Hp} {s : Shared} {Q : VK} {us : List Value} {vs : List V} (F : FnOk X.prog X.w X.K X.mg X.base CX k f fd ps sp) (hr : Room k X.A) (hb : Binds X.K fd ps ds) (hd : Vals dvs ds) (hx : Passes CX X E)
    (I : Inv X pins σ H s) (r : Vals vs us) (h : sp (vs ++ dvs) H Q E) : wpAny (model X.prog X.w) X.A (call (.ref f) us) (EP X pins σ Q) X.xe s := by
  have r2 : Vals (vs ++ dvs) (us ++ ds) := r.append hd
  have hl : (us ++ ds).length = ps.length := by rw [← r2.length]; exact F.len _ _ _ _ h
  refine wpAny_call (codeAny_mono (F.run X.A X.stack s H ⟨us, []⟩ (us ++ ds) (vs ++ dvs) Q E hr I.env0 (hb s us I.kIn hl) r2 h) fun r s' hq => ?_)
  cases r with
  | error e => exact hx pins σ H s e s' I hq
  | ok fl =>
    cases fl with
    | ret u => exact I.after hq
    | next => exact False.elim hq
    | brk => exact False.elim hq
    | cont => exact False.elim hq

theorem pe_call (F : FnOk X.prog X.w X.K X.mg X.base CX k f fd ps sp) (hr : Room k X.A) (hg : Gl X x) (hm : X.mg x = some (.ref f)) (hk : PySem.W.keepIn X.K (.ref f) = true) (hb : Binds X.K fd ps ds) (hd : Vals dvs ds) (hx : Passes CX X E)
    (ha : PA X (e :: es) t) (hdb : (x == ("__debug__" : Str)) = false := by decide) (he : starEach (e :: es) X.env = (false, eval e X.env) :: starEach es X.env := by rfl) (hpl : (backTo pos (starEach es X.env)).any (·.1) = false := by rfl) :
    PE X (.Call (.Name x p) (e :: es) [] pos) (tCall sp dvs E t) := by
  intro pins s σ H Q I h
  refine wpAny_Call_Name_kw (ld_glob I hg hm ?_ hdb)
  refine PySem.W.callWith_K (h₀ := X.base) I.ok.mod.kin hk (thn (ha pos pins s σ H _ I h) fun us s1 ⟨vs, H1, I1, r, q⟩ => ⟨I1.kIn, ?_⟩) he hpl
  exact run_fn F hr hb hd hx I1 r q
/-- o.m(e, ..) -/
theorem pe_meth {pl : Sem Bool} (he : PE X o ta) (c : Cls X.K C) (hm : Meth X.K C m f) (F : FnOk X.prog X.w X.K X.mg X.base CX k f fd ps sp) (hr : Room k X.A) (hb : Binds X.K fd ps ds) (hd : Vals dvs ds) (hx : Passes CX X E) (ha : PA X (e :: es) t)
    (hst : starEach (e :: es) X.env = (false, eval e X.env) :: starEach es X.env := by rfl) (hpl : (backTo pos (starEach es X.env)).any (·.1) = false := by rfl)
    (ht : eval (.Call (.Attribute o m apos) (e :: es) [] pos) X.env = (do
      let ov ← eval o X.env
      standAt apos.atName
      let (f, first) ← holding [ov] (getMethod ov m pl)
      callWith pos f first (backTo pos (starEach (e :: es) X.env)) (backToKw pos (keywordEach [] X.env))) := by rfl) :
    PE X (.Call (.Attribute o m apos) (e :: es) [] pos) (tMeth C m sp dvs E ta t) := by
  intro pins s σ H Q I h
  refine PySem.W.methodCall_KW (pl := pl) (thn (he pins s σ H _ I h) fun u s1 ⟨x, H1, I1, rx, a, dx, fs, ex, ea, l, q⟩ => ?_) ht
  subst ex
  obtain rfl : u = Value.ref a := rx
  refine getmeth_ok I1 ea c hm l ?_
  refine PySem.W.callWith_K (first := [.ref a]) (h₀ := X.base) I.ok.mod.kin hm.kp (thn (ha pos pins s1 σ H1 _ I1 q) fun us s2 ⟨vs, H2, I2, r, q2⟩ => ⟨I2.kIn, ?_⟩) hst hpl
  exact run_fn (us := .ref a :: us) (vs := .ref a :: vs) F hr hb hd hx I2 (.cons rfl r) q2
/-- what a class must have to be made -/
structure Mk (K : PySem.W.Frag) (C f : Addr) : Prop where
  makes : PySem.W.makesIn K C = true
  init : PySem.W.findIn K (.ref C) "__init__" = some (some (.ref f))
  fn : PySem.W.isFn K (.ref f) = true
  kp : PySem.W.keepIn K (.ref C) = true

theorem run_make {pins : List (Addr × Obj)} {σ : St} {H : Hp} {s : Shared} {Q : VK} {us : List Value} {vs : List V} (M : Mk X.K C f) (F : FnOk X.prog X.w X.K X.mg X.base CX k f fd ps sp) (hr : Room (k + 1) X.A) (hb : Binds X.K fd ps ds) (hd : Vals dvs ds)
    (hx : Passes CX X E) (I : Inv X pins σ H s) (r : Vals vs us)
    (h : ∀ x dx, H x = none → H dx = none → dx ≠ x → sp (.ref x :: (vs ++ dvs)) (upd (upd H dx (.own x)) x (.ins C dx [])) (fun v H2 => v = .non ∧ Q (.ref x) H2) E) :
    wpAny (model X.prog X.w) X.A (call (.ref C) us) (EP X pins σ Q) X.xe s := by
  have hq := h (s.heap.objs.size + 1) s.heap.objs.size (I.hok.fresh (Nat.le_succ _)) (I.hok.fresh (Nat.le_refl _)) (Nat.ne_of_lt (Nat.lt_succ_self _))
  have I2 := Inv.made (C := C) I
  have r2 : Vals (V.ref (s.heap.objs.size + 1) :: (vs ++ dvs)) (Value.ref (s.heap.objs.size + 1) :: (us ++ ds)) := .cons rfl (r.append hd)
  have hl : (Value.ref (s.heap.objs.size + 1) :: us ++ ds).length = ps.length := by
    have e := r2.length
    rw [F.len _ _ _ _ hq] at e
    exact e.symm
  refine wpAny_call (make_map (f := f) I.kIn M.makes M.init (beq_iff_eq.mp M.fn) (codeAny_mono (F.run _ X.stack _ _ ⟨Value.ref (s.heap.objs.size + 1) :: us, []⟩ (Value.ref (s.heap.objs.size + 1) :: (us ++ ds)) _ _ E (hr.make C us [])
    (I2.env0.make C us []) (hb _ (Value.ref (s.heap.objs.size + 1) :: us) I2.kIn hl) r2 hq) fun r s' hq' => ?_))
  cases r with
  | error e => exact hx pins σ _ _ e s' I2 hq'
  | ok fl =>
    cases fl with
    | ret u =>
      obtain ⟨v, H', I3, rv, ev, q3⟩ := I2.after hq'
      subst ev
      exact ⟨rv, ⟨V.ref (s.heap.objs.size + 1), H', I3, rfl, q3⟩⟩
    | next => exact False.elim hq'
    | brk => exact False.elim hq'
    | cont => exact False.elim hq'
theorem pe_make (M : Mk X.K C f) (F : FnOk X.prog X.w X.K X.mg X.base CX k f fd ps sp) (hr : Room (k + 1) X.A) (hg : Gl X x) (hm : X.mg x = some (.ref C)) (hb : Binds X.K fd ps ds) (hd : Vals dvs ds) (hx : Passes CX X E)
    (ha : PA X (e :: es) t) (hdb : (x == ("__debug__" : Str)) = false := by decide) (he : starEach (e :: es) X.env = (false, eval e X.env) :: starEach es X.env := by rfl) (hpl : (backTo pos (starEach es X.env)).any (·.1) = false := by rfl) :
    PE X (.Call (.Name x p) (e :: es) [] pos) (tMake C sp dvs E t) := by
  intro pins s σ H Q I h
  refine wpAny_Call_Name_kw (ld_glob I hg hm ?_ hdb)
  refine PySem.W.callWith_K (h₀ := X.base) I.ok.mod.kin M.kp (thn (ha pos pins s σ H _ I h) fun us s1 ⟨vs, H1, I1, r, q⟩ => ⟨I1.kIn, ?_⟩) he hpl
  exact run_make M F hr hb hd hx I1 r q
end

/-! ### keywords -/
section
variable {X : Cx} {CX : CXT} {k : Nat} {f C : Addr} {fd : FuncData} {ps ks : List Str} {sp : Sp} {E : XK} {x m : Str} {p pos apos kpos : Pos} {e o : Expr} {es : List Expr} {kws : List Keyword} {te ta : TE} {t tk : TA} {nm : Option Str}
variable {g : List Value → List Value → List Value} {gV : List V → List V → List V}
end

/-! ### a def's body keeps its promise -/
/-- names: the parameters first -/
structure FnScope (N P : List Str) (sc : Scope) : Prop where
  kind : sc.kind = .function
  co : sc.isCoroutine = false
  gen : sc.isGenerator = false
  nd : N.Nodup
  pre : N.take P.length = P
  par : ∀ x ∈ P, sc.names.lookup x = some .local ∨ sc.names.lookup x = some .cell
  nofree : ∀ y ∈ sc.names, y.2 ≠ .free

theorem bindL_out {kindOf : Str → Option NameKind} {x : Str} : ∀ {binds : List (Str × Value)} {m : Str → Option Value}, (∀ v, (x, v) ∉ binds) → bindL kindOf binds m x = m x
  | [], _, _ => rfl
  | (n, v) :: r, m, h => by
    unfold bindL
    rw [bindL_out fun w hw => h w (List.mem_cons_of_mem _ hw)]
    split
    · have : x ≠ n := by rintro rfl; exact h v List.mem_cons_self
      simp [this]
    · rfl
theorem bindC_out {kindOf : Str → Option NameKind} {x : Str} : ∀ {binds : List (Str × Value)} {m : Str → Option Value}, (∀ v, (x, v) ∉ binds) → bindC kindOf binds m x = m x
  | [], _, _ => rfl
  | (n, v) :: r, m, h => by
    unfold bindC
    rw [bindC_out fun w hw => h w (List.mem_cons_of_mem _ hw)]
    split
    · rfl
    · have : x ≠ n := by rintro rfl; exact h v List.mem_cons_self
      simp [this]
theorem bindL_get {kindOf : Str → Option NameKind} {x : Str} {v : Value} : ∀ {P : List Str} {vs : List Value} {i : Nat} {m : Str → Option Value}, P.Nodup → P[i]? = some x → vs[i]? = some v → kindOf x = some .local →
    bindL kindOf (P.zip vs) m x = some v
  | [], _, _, _, _, h, _, _ => by simp at h
  | _ :: _, [], _, _, _, _, h, _ => by simp at h
  | p :: P, w :: vs, 0, m, nd, h1, h2, hk => by
    simp at h1 h2; subst h1; subst h2
    show bindL kindOf ((p, w) :: P.zip vs) m p = _
    unfold bindL
    rw [bindL_out fun v hv => (List.nodup_cons.mp nd).1 (List.of_mem_zip hv).1, if_pos hk]
    simp
  | p :: P, w :: vs, i + 1, m, nd, h1, h2, hk => by
    show bindL kindOf ((p, w) :: P.zip vs) m x = _
    unfold bindL
    exact bindL_get (i := i) (List.nodup_cons.mp nd).2 (by simpa using h1) (by simpa using h2) hk
theorem bindC_get {kindOf : Str → Option NameKind} {x : Str} {v : Value} : ∀ {P : List Str} {vs : List Value} {i : Nat} {m : Str → Option Value}, P.Nodup → P[i]? = some x → vs[i]? = some v → kindOf x ≠ some .local →
    bindC kindOf (P.zip vs) m x = some v
  | [], _, _, _, _, h, _, _ => by simp at h
  | _ :: _, [], _, _, _, _, h, _ => by simp at h
  | p :: P, w :: vs, 0, m, nd, h1, h2, hk => by
    simp at h1 h2; subst h1; subst h2
    show bindC kindOf ((p, w) :: P.zip vs) m p = _
    unfold bindC
    rw [bindC_out fun v hv => (List.nodup_cons.mp nd).1 (List.of_mem_zip hv).1, if_neg hk]
    simp
  | p :: P, w :: vs, i + 1, m, nd, h1, h2, hk => by
    show bindC kindOf ((p, w) :: P.zip vs) m x = _
    unfold bindC
    exact bindC_get (i := i) (List.nodup_cons.mp nd).2 (by simpa using h1) (by simpa using h2) hk

/-- the names' values at the entry -/
def start (N : List Str) (vs : List V) : St := vs.map some ++ List.replicate (N.length - vs.length) none

/-- the context of a def's body, at its entry; an exception leaves the frame, then lies as CX says -/
def cxOf (CX : CXT) (P : Program) (w : World) (K : PySem.W.Frag) (mg : Str → Option Value) (base : Heap) (N : List Str) (qual : Str) (scope : Scope) (f : Addr) (cd : Value) (A : Around) (outer : List Env) (s : Shared) (H : Hp) (E : XK) : Cx where
  prog := P
  w := w
  K := K
  mg := mg
  base := base
  A := A.deeper (envOfC qual scope s.heap.objs.size f cd)
  N := N
  s_0 := s
  H_0 := H
  env := envOfC qual scope s.heap.objs.size f cd
  outer := outer
  stack := envOfC qual scope s.heap.objs.size f cd :: outer
  ex := []
  calm := true
  fn := fun _ => true
  pn := []
  xe := fun e s' => wpAny (model P w) (A.deeper (envOfC qual scope s.heap.objs.size f cd)) (leaving (envOfC qual scope s.heap.objs.size f cd) e) (fun _ s'' => CX outer H s E e s'') (fun e' s'' => CX outer H s E e' s'') s'

theorem cell_has {sc : Scope} {n : Nat} {x : Str} (h : sc.names.lookup x = some .cell) : ∃ c, (cellsFrom n sc.names []).lookup x = some c := by
  have q := PySem.W.cellsFrom_some sc.names n [] (.inl h)
  exact Option.isSome_iff_exists.mp q

theorem inv_start {CX : CXT} {P : Program} {w : World} {K : PySem.W.Frag} {mg : Str → Option Value} {base : Heap} {N ps : List Str} {qual : Str} {scope : Scope} {f : Addr} {cd : Value} {A : Around} {outer : List Env} {s s1 : Shared} {H : Hp} {E : XK} {us : List Value} {vs : List V}
    (S : FnScope N ps scope) (hd : A.handled = none) (e0 : Env0 P w K mg base A outer s H) (hl : vs.length = ps.length) (r : Vals vs us)
    (x : InCallC s s.heap.objs.size (bindL (envOfC qual scope s.heap.objs.size f cd).kindOf (ps.zip us) fun _ => none) (cellsFrom (s.heap.objs.size + 1) scope.names []) (bindC (envOfC qual scope s.heap.objs.size f cd).kindOf (ps.zip us) fun _ => none) s1) :
    Inv (cxOf CX P w K mg base N qual scope f cd A outer s H E) [] (start N vs) H s1 := by
  have hpl : ps.length ≤ N.length := by have := congrArg List.length S.pre; rw [List.length_take] at this; omega
  obtain ⟨h1, tk, rfl, hk⟩ := x.done
  have noA : ∀ b : Addr, b ∉ (cxOf CX P w K mg base N qual scope f cd A outer s H E).ex := fun b z => absurd (show b ∈ ([] : List Addr) from z) (by simp)
  refine ⟨⟨e0.mod, S.kind, rfl, rfl, Nat.le_refl _, fun y z c h1 h2 => ?_, fun y hy => ?_, fun y c _ h => ?_, fun _ => hd, Around.frames_deeper e0.frames, .inr ⟨rfl, rfl⟩, fun b z => absurd z (noA b), e0.bs, e0.bsz, fun b _ _ => noA b, fun b z => absurd z (noA b), e0.funs, e0.frf⟩,
    rfl, e0.bare, Un.kept hk, ⟨_, x.toInCall.ns, fun i y v h1 h2 h3 => ?_⟩, fun y c h => ⟨_, x.cell y c h⟩, e0.hok.fresh (Nat.le_refl _), fun y c h => ?_, fun p hp => absurd (show p ∈ ([] : List (Addr × Obj)) from hp) (by simp), e0.hok.kept hk, ?_⟩
  · exact name_of_addr x.apart (PySem.mem_of_lookup h1) (PySem.mem_of_lookup h2)
  · have hy : scope.names.lookup y = some .cell ∨ scope.names.lookup y = some .free := hy
    rcases hy with hy | hy
    · exact cell_has hy
    · exact absurd rfl (S.nofree _ (PySem.mem_of_lookup hy))
  · exact Nat.le_of_lt (x.above y c (PySem.mem_of_lookup h))
  · have hi : i < vs.length := by
      unfold start at h2
      by_cases hi : i < vs.length
      · exact hi
      · rw [List.getElem?_append_right (by simpa using hi)] at h2
        rw [List.getElem?_replicate] at h2
        split at h2 <;> cases h2
    have ha : vs[i]? = some v := by
      unfold start at h2
      rw [List.getElem?_append_left (by simpa using hi), List.getElem?_map] at h2
      cases e : vs[i]? with
      | none => rw [e] at h2; cases h2
      | some a => rw [e] at h2; cases h2; rfl
    obtain ⟨u, hu, rv⟩ := r.get ha
    have hp : ps[i]? = some y := by
      rw [← S.pre, List.getElem?_take_of_lt (by omega)]; exact h1
    have ndP : ps.Nodup := by rw [← S.pre]; exact S.nd.sublist (List.take_sublist _ _)
    refine ⟨u, rv, ?_⟩
    rcases S.par y (List.mem_of_getElem? hp) with k | k
    · exact .inl ⟨k, bindL_get ndP hp hu k⟩
    · obtain ⟨c, e⟩ := cell_has (n := s.heap.objs.size + 1) k
      refine .inr ⟨.inl k, c, e, ?_⟩
      have q := x.cell y c e
      rw [bindC_get ndP hp hu (by show scope.names.lookup y ≠ _; rw [k]; decide)] at q
      exact q
  · exact e0.hok.fresh (Nat.le_of_lt (x.above y c (PySem.mem_of_lookup h)))
  · unfold start
    show _ = N.length
    rw [List.length_append, List.length_map, List.length_replicate]
    omega

/-- THE RULE: a def (or a method) of the text, by its body. The body's reading t is chosen for each entry; it is run at the parameters' values -/
theorem fn_of {CX : CXT} {P : Program} {w : World} {K : PySem.W.Frag} {mg : Str → Option Value} {base : Heap} {k : Nat} {f : Addr} {name qual : Str} {params : Arguments} {body : List Stmt} {scope : Scope} {dV kV doc pm cdv ct oc : Value} {an od : Option Addr}
    {osl : Array (Option Value)} {N ps : List Str} {sp : Sp} (lk : K.lookup f = some ⟨oc, od, .func (PySem.W.fnOf name qual params body scope dV kV doc pm an cdv ct), osl⟩) (hcd : PySem.W.codeIn K cdv qual = true) (S : FnScope N ps scope)
    (len : ∀ vs H Q E, sp vs H Q E → vs.length = ps.length)
    (hbody : ∀ (A : Around) (outer : List Env) (s : Shared) (H : Hp) (vs : List V) (Q : VK) (E : XK), Room k (A.deeper (envOfC qual scope s.heap.objs.size f cdv)) → sp vs H Q E →
      ∃ t, PSs (cxOf CX P w K mg base N qual scope f cdv A outer s H E) body t ∧ t { nx := fun _ H' => Q .non H', rt := Q } (start N vs) H) :
    FnOk P w K mg base CX (k + 1) f (PySem.W.fnOf name qual params body scope dV kV doc pm an cdv ct) ps sp := by
  refine ⟨len, fun A outer s H args us vs Q E hr e0 hb r hsp => ?_⟩
  have hl := len _ _ _ _ hsp
  have KX : K.In s.heap := e0.mod.kin.keeps fun b o e => (e0.bs b o e).1
  have lim : s.heap.NoLimit := e0.mod.nolimit.keeps fun b o e => (e0.bs b o e).1
  have hkind : ∀ y ∈ ps.zip us, scope.names.lookup y.1 = some .local ∨ (scope.names.lookup y.1 = some .cell ∧ ((cellsFrom (s.heap.objs.size + 1) scope.names []).lookup y.1).isSome = true) := fun ⟨n, v⟩ hy => by
    rcases S.par n (List.of_mem_zip hy).1 with q | q
    · exact .inl q
    · exact .inr ⟨q, PySem.W.cellsFrom_some _ _ _ (.inl q)⟩
  refine codeAny_call_function hr.depth (KX _ _ lk) rfl S.co S.gen rfl (PySem.W.codeRec_of KX hcd) (hb _ _ _ _ ?_)
  refine wpAny_newFunctionEnv_cells S.kind hkind fun env he s1 x => ?_
  subst he
  refine ⟨lim.keeps x.toInCall.keep, codeAny_func ?_⟩
  obtain ⟨t, ht, hq⟩ := hbody A outer s H vs Q E (hr.deeper _) hsp
  have I : Inv (cxOf CX P w K mg base N qual scope f cdv A outer s H E) [] (start N vs) H s1 := inv_start S hr.hd e0 hl r x
  refine wpAny_mono (ht [] s1 (start N vs) H _ I hq) (fun fl s' hs => ?_) fun e s' hs => hs
  have fin : ∀ {σ' : St} {H' : Hp} {v : V} {u : Value}, Inv (cxOf CX P w K mg base N qual scope f cdv A outer s H E) [] σ' H' s' → RelV v u → Q v H' → CE outer P w H s Q u s' :=
    fun {σ' H' v u} J rv q => ⟨v, H', J.os, J.bare, J.base, J.hok, rv, q⟩
  cases fl with
  | ret u =>
    obtain ⟨v, σ', H', J, rv, q⟩ := hs
    exact fin J rv q
  | next =>
    obtain ⟨σ', H', J, q⟩ := hs
    exact fin (v := V.non) (u := Value.none) J rfl q
  | brk =>
    obtain ⟨_, _, _, q⟩ := hs
    exact False.elim q
  | cont =>
    obtain ⟨_, _, _, q⟩ := hs
    exact False.elim q
end L2

namespace L2
open PySem PySem.Spec PyProof.Rows
section
variable {X : Cx} {x : Str} {p pos : Pos} {e : Expr} {es : List Expr} {t : TA} {id T : String} {r : List V → Hp → VK → Prop}

def tCB (r : List V → Hp → VK → Prop) (t : TA) : TE := fun σ H Q => t σ H fun vs H1 => r vs H1 Q
/-- f(e, ..), f a built-in function -/
theorem pe_callB (hc : CallR X (.builtin id) r) (hg : Gl X x) (hm : X.mg x = none) (hv : bootBuiltins x = some (.builtin id)) (ha : PA X (e :: es) t) (hn : x ≠ "__name__" := by decide) (hdb : (x == ("__debug__" : Str)) = false := by decide)
    (he : starEach (e :: es) X.env = (false, eval e X.env) :: starEach es X.env := by rfl) (hpl : (backTo pos (starEach es X.env)).any (·.1) = false := by rfl) : PE X (.Call (.Name x p) (e :: es) [] pos) (tCB r t) := by
  intro pins s σ H Q I h
  refine wpAny_Call_Name_kw (ld_blt I hg hm hv ?_ hn hdb)
  exact PyProof.Rows.callWith_builtin1 (thn (ha pos pins s σ H _ I h) fun us s1 ⟨vs, H1, I1, r1, q1⟩ => hc pins s1 σ H1 vs us Q I1 r1 q1) he hpl
/-- T(e, ..), T a built-in type -/
theorem pe_callTy (hc : CallR X (.type T) r) (hg : Gl X x) (hm : X.mg x = none) (hv : bootBuiltins x = some (.type T)) (ha : PA X (e :: es) t) (hn : x ≠ "__name__" := by decide) (hdb : (x == ("__debug__" : Str)) = false := by decide)
    (he : starEach (e :: es) X.env = (false, eval e X.env) :: starEach es X.env := by rfl) (hpl : (backTo pos (starEach es X.env)).any (·.1) = false := by rfl) : PE X (.Call (.Name x p) (e :: es) [] pos) (tCB r t) := by
  intro pins s σ H Q I h
  refine wpAny_Call_Name_kw (ld_blt I hg hm hv ?_ hn hdb)
  exact PyProof.Rows.callWith_type1 (thn (ha pos pins s σ H _ I h) fun us s1 ⟨vs, H1, I1, r1, q1⟩ => hc pins s1 σ H1 vs us Q I1 r1 q1) he hpl
end
end L2

namespace HT
open PySem PyProof.Rows

/-- t < u of tuples of ints -/
def lexLt : List Int → List Int → Bool
  | [], [] => false
  | [], _ :: _ => true
  | _ :: _, [] => false
  | x :: xs, y :: ys => if x = y then lexLt xs ys else decide (x < y)
section
open PySem.SeqAt
open PySem.AutoSeq1 (wpAny_loadPart')
open PySem.MeetsSeq PySem.MeetsSeq2 PySem.MeetsSeq3

end

section
variable {prog : Program} {w : World} {A : Around} {E : Value → Shared → Prop} {s : Shared}

/-! ### t[a:b], not the whole -/
/-- a slice's bound as a place among n (d where it is left out) -/
def sIx (n d : Nat) : Option Int → Nat
  | none => d
  | some v => if v < 0 then (v + (n : Int)).toNat else min v.toNat n
end
end HT

namespace L2
open PySem PySem.Spec PyProof.Rows

/-! ### the parts of a slice -/
abbrev TO := St → Hp → (Option Int → Hp → Prop) → Prop
section
variable {X : Cx} {e : Expr} {te : TE} {lo hi : Option Expr} {tl th : TO} {pos p2 : Pos}

/-- what a slice of a value is, by values: the slice object stands at sl -/
def SlR (X : Cx) (r : V → Option Int → Option Int → Hp → VK → Prop) : Prop :=
  ∀ (pins : List (Addr × Obj)) (s : Shared) (σ : St) (H : Hp) (x : V) (v vl vu : Value) (lo hi : Option Int) (sl : Addr) (Q : VK), Inv X pins σ H s → RelV x v → s.heap.IsSliceOf sl vl vu .none → IsPart vl lo → IsPart vu hi → r x lo hi H Q →
    ∃ T id, typeLookup (.type T) "__getitem__" = pure (some (.builtin id)) ∧ s.TypeIs v T ∧ wpAny (model X.prog X.w) X.A (getItem v (.ref sl)) (EP X pins σ Q) X.xe s
theorem SlR.or {r r' : V → Option Int → Option Int → Hp → VK → Prop} (h : SlR X r) (h' : SlR X r') : SlR X (fun x lo hi H Q => r x lo hi H Q ∨ r' x lo hi H Q) := by
  intro pins s σ H x v vl vu lo hi sl Q I rx hs pl pu q
  rcases q with q | q
  · exact h pins s σ H x v vl vu lo hi sl Q I rx hs pl pu q
  · exact h' pins s σ H x v vl vu lo hi sl Q I rx hs pl pu q
/-! ### t < u, t + u -/
end
end L2

namespace L2
open PySem PySem.Spec PyProof.Rows

/-! ### places -/
/-- the place that an index of any sign means -/
def ixN (n : Nat) (i : Int) : Option Nat := if 0 ≤ i then (if i < n then some i.toNat else none) else if -(n : Int) ≤ i then some (i + n).toNat else none
def atI {α : Type} (xs : List α) (i : Int) : Option α := (ixN xs.length i).bind fun j => xs[j]?
theorem ixN_seq {n : Nat} {i : Int} {j : Nat} (h : ixN n i = some j) : seqIndex? i n = some j ∧ j < n ∧ -(n : Int) ≤ i ∧ i < n := by
  unfold ixN at h
  by_cases h0 : 0 ≤ i
  · rw [if_pos h0] at h
    by_cases h1 : i < n
    · rw [if_pos h1] at h
      have e : i.toNat = j := Option.some.inj h
      exact ⟨by rw [seqIndex_of h0 h1, e], by omega, by omega, h1⟩
    · rw [if_neg h1] at h; cases h
  · rw [if_neg h0] at h
    by_cases h1 : -(n : Int) ≤ i
    · rw [if_pos h1] at h
      have e : (i + n).toNat = j := Option.some.inj h
      exact ⟨by rw [seqIndex_neg (by omega) h1, e], by omega, h1, by omega⟩
    · rw [if_neg h1] at h; cases h
theorem atI_get {α : Type} {xs : List α} {i : Int} {v : α} (h : atI xs i = some v) : ∃ j, seqIndex? i xs.length = some j ∧ xs[j]? = some v ∧ j < xs.length ∧ -(xs.length : Int) ≤ i ∧ i < xs.length := by
  unfold atI at h
  cases e : ixN xs.length i with
  | none => rw [e] at h; cases h
  | some j =>
    rw [e] at h
    obtain ⟨h1, h2, h3, h4⟩ := ixN_seq e
    exact ⟨j, h1, h, h2, h3, h4⟩
theorem atI_nat {α : Type} {xs : List α} {j : Nat} {v : α} (h : xs[j]? = some v) : atI xs (j : Int) = some v := by
  have hj : j < xs.length := (List.getElem?_eq_some_iff.mp h).1
  have e : ixN xs.length (j : Int) = some j := by
    unfold ixN
    rw [if_pos (by omega), if_pos (by omega)]; simp
  unfold atI; rw [e]; exact h
/-! ### what may be subscripted -/
/-- what stands as an index of a plain subscript -/
def PlainIx (b : Expr) : Prop := ∀ o i, subscripted b false o i = operate [o, i] (getItem o i)
/-- a subscript by values -/
def IxR (X : Cx) (r : R2) : Prop :=
  ∀ (value slice : Expr) (pins : List (Addr × Obj)) (s : Shared) (σ : St) (H : Hp) (x y : V) (v u : Value) (Q : VK), Inv X pins σ H s → RelV x v → RelV y u → r x y H Q →
    subscripted slice false v u = operate [v, u] (getItem v u) → wpAny (model X.prog X.w) X.A (subscriptTail value slice v u) (EP X pins σ Q) X.xe s
/-- a call of a builtin's method by values: the receiver, the arguments -/
def MtR (X : Cx) (id : String) (r : V → List V → Hp → VK → Prop) : Prop :=
  ∀ (pins : List (Addr × Obj)) (s : Shared) (σ : St) (H : Hp) (x : V) (xs : List V) (v : Value) (us : List Value) (Q : VK), Inv X pins σ H s → RelV x v → Vals xs us → r x xs H Q →
    wpAny (model X.prog X.w) X.A (call (.builtin id) (v :: us)) (EP X pins σ Q) X.xe s
section
variable {X : Cx} {a b : Expr} {ta tb : TE} {pos : Pos}
theorem IxR.or {r r' : R2} (h : IxR X r) (h' : IxR X r') : IxR X (fun x y H Q => r x y H Q ∨ r' x y H Q) := by
  intro value slice pins s σ H x y v u Q I rx ry q hs
  rcases q with q | q
  · exact h value slice pins s σ H x y v u Q I rx ry q hs
  · exact h' value slice pins s σ H x y v u Q I rx ry q hs
theorem MtR.or {id : String} {r r' : V → List V → Hp → VK → Prop} (h : MtR X id r) (h' : MtR X id r') : MtR X id (fun x xs H Q => r x xs H Q ∨ r' x xs H Q) := by
  intro pins s σ H x xs v us Q I rx rs q
  rcases q with q | q
  · exact h pins s σ H x xs v us Q I rx rs q
  · exact h' pins s σ H x xs v us Q I rx rs q
/-- a[b] -/
theorem pe_ix {r : R2} (hr : IxR X r) (ha : PE X a ta) (hb : PE X b tb) (hs : PlainIx b) : PE X (.Subscript a b pos) (tOp r ta tb) := by
  intro pins s σ H Q I h
  exact Subscript_ (binT ha hb I h fun v u s2 x y H2 I2 rx ry q => hr a b pins s2 σ H2 x y v u Q I2 rx ry q (hs _ _))

def rIxL (K : PySem.W.Frag) : R2 := fun x y H Q => ∃ p xs i v, x = .ref p ∧ y = .int i ∧ SqL K H p xs ∧ atI xs i = some v ∧ Q v H
def rIxT (K : PySem.W.Frag) : R2 := fun x y H Q => ∃ p xs i v, x = .ref p ∧ y = .int i ∧ SqT K H p xs ∧ atI xs i = some v ∧ Q v H
theorem ix_list : IxR X (rIxL X.K) := by
  intro value slice pins s σ H x y v u Q I rx ry h hs
  obtain ⟨p, xs, i, z, rfl, rfl, hq, he, q⟩ := h
  cases rx
  obtain ⟨t, rfl⟩ := ry
  obtain ⟨its, r, pl, hz⟩ := I.list hq
  obtain ⟨j, h1, h2, h3, h4, h5⟩ := atI_get he
  obtain ⟨w, ew, rw'⟩ := r.get h2
  have hl := r.length
  have hn := line63
  have fin : EP X pins σ Q w s := ⟨z, H, I, rw', q⟩
  by_cases h0 : 0 ≤ i
  · have hj : i.toNat = j := by
      rw [seqIndex_of h0 h5] at h1
      exact Option.some.inj h1
    exact item_listR pl.isList h0 (by omega) (by rw [hj]; simpa using ew) fin hs
  · have hj : (i + (its.toArray.size : Int)).toNat = j := by
      rw [seqIndex_neg (by omega) h4] at h1
      rw [List.size_toArray, ← hl]
      exact Option.some.inj h1
    exact subscriptTail_builtinR (x := w) pl.isList.typeIs slot_list_getitem.lookup
      (wpAny_getItem_list_neg (Q := fun r s' => r = w ∧ EP X pins σ Q r s') pl.isList (by omega) (by rw [List.size_toArray] <;> omega) (by omega) (by rw [hj]; simpa using ew) ⟨rfl, fin⟩) hs
theorem ix_tup : IxR X (rIxT X.K) := by
  intro value slice pins s σ H x y v u Q I rx ry h hs
  obtain ⟨p, xs, i, z, rfl, rfl, hq, he, q⟩ := h
  cases rx
  obtain ⟨t, rfl⟩ := ry
  obtain ⟨its, r, pl, hz⟩ := I.tuple hq
  obtain ⟨j, h1, h2, h3, h4, h5⟩ := atI_get he
  obtain ⟨w, ew, rw'⟩ := r.get h2
  have hl := r.length
  have hn := line63
  have fin : EP X pins σ Q w s := ⟨z, H, I, rw', q⟩
  exact subscriptTail_builtinR (x := w) pl.typeIs slot_tuple_getitem.lookup
    (getItem_tuple (j := j) (Q := fun r s' => r = w ∧ EP X pins σ Q r s') pl (by omega) (by omega) (by rw [List.size_toArray, ← hl]; exact h1) (by simpa using ew) ⟨rfl, fin⟩) hs
/-! ### xs[i] = v, any sign -/
/-- the list's object behind a store -/
theorem mapSeq_set (its : List Value) (n j : Nat) (u : Value) : Obj.mapSeq (·.setIfInBounds j u) { cls := .type "list", data := .seq its.toArray n } = { cls := .type "list", data := .seq (its.set j u).toArray n } := by
  simp [Obj.mapSeq]
theorem Inv.lst {pins : List (Addr × Obj)} {σ : St} {H : Hp} {s : Shared} {p : Addr} {xs : List V} (I : Inv X pins σ H s) (h : H p = some (.lst xs)) :
    ∃ (its : List Value) (n : Nat), Vals xs its ∧ s.heap.get? p = some { cls := .type "list", data := .seq its.toArray n } ∧ xs.length ≤ sizeLine := by
  obtain ⟨z, its, n, r, e⟩ := I.hok p _ h
  exact ⟨its, n, r, e, z⟩
/-- the list at p is written by an update of its object -/
theorem Inv.lstUpd {pins : List (Addr × Obj)} {σ : St} {H : Hp} {s : Shared} {p : Addr} {xs ys : List V} {its its' : List Value} {n n' : Nat} {f : Obj → Obj} (I : Inv X pins σ H s) (h : H p = some (.lst xs))
    (ho : s.heap.get? p = some { cls := .type "list", data := .seq its.toArray n }) (hf : f { cls := .type "list", data := .seq its.toArray n } = { cls := .type "list", data := .seq its'.toArray n' }) (r : Vals ys its') (hz : ys.length ≤ sizeLine) (t : Nat) :
    Inv X pins σ (upd H p (.lst ys)) { s with heap := s.heap.update p f, toks := t } := by
  have e : (s.heap.update p f).get? p = some { cls := .type "list", data := .seq its'.toArray n' } := by
    rw [Heap.get?_update_self f ho (by rw [hf] <;> rfl), hf]
  refine I.write (x := p) (e := p) (by rw [h]; trivial) (.inl rfl) (fun b u hb q => (Heap.get?_update_other _ _ (Ne.symm hb)).trans q) ⟨_, e⟩ ?_
  exact ⟨hz, its', n', r, e⟩
def rSetL : V → V → V → Hp → (Hp → Prop) → Prop := fun o i v H Q => ∃ p xs k j, o = .ref p ∧ i = .int k ∧ H p = some (.lst xs) ∧ ixN xs.length k = some j ∧ Q (upd H p (.lst (xs.set j v)))
theorem set_list : PSet X rSetL := by
  intro pins s σ H o i v ov iv u Q I ro ri rv h
  obtain ⟨p, xs, k, j, rfl, rfl, hp, hj, q⟩ := h
  cases ro
  obtain ⟨t, rfl⟩ := ri
  obtain ⟨its, n, r, ho, hz⟩ := I.lst hp
  obtain ⟨h1, h2, h3, h4⟩ := ixN_seq hj
  have hl := r.length
  have hn := line63
  have I' : Inv X pins σ (upd H p (.lst (xs.set j v))) { s with heap := s.heap.update p (Obj.mapSeq (·.setIfInBounds j u)) } :=
    I.lstUpd hp ho (mapSeq_set its n j u) (r.set rv j) (by rw [List.length_set]; exact hz) s.toks
  by_cases h0 : 0 ≤ k
  · have hk : k.toNat = j := by
      rw [seqIndex_of h0 h4] at h1
      exact Option.some.inj h1
    exact PySem.W.ki_setAt ho h0 (by omega) (by rw [List.size_toArray, ← hl]; exact h4) (by rw [hk]; exact ⟨_, I', q⟩)
  · have hk : (k + (its.toArray.size : Int)).toNat = j := by
      rw [seqIndex_neg (by omega) h3] at h1
      rw [List.size_toArray, ← hl]
      exact Option.some.inj h1
    exact PySem.W.ki_setBack ho (by omega) (by rw [List.size_toArray, ← hl]; exact h3) (by omega) (by rw [hk]; exact ⟨_, I', q⟩)

/-! ### slices -/
/-! ### in, not in: flat items -/
/-! ### len, list(x), tuple(x) of any list or tuple that is read -/
theorem call_len_seq : CallR X (.builtin "len") (fun xs H Q => ∃ p ys, xs = [.ref p] ∧ (SqL X.K H p ys ∨ SqT X.K H p ys) ∧ Q (.int ys.length) H) := by
  intro pins s σ H xs us Q I r h
  obtain ⟨p, ys, rfl, hq, q⟩ := h
  obtain ⟨u, rfl, rx⟩ := vals1 r
  cases rx
  have hn := line63
  rcases hq with hq | hq
  · obtain ⟨its, r', pl, hz⟩ := I.list hq
    have hlen := r'.length
    exact Calls.call_len_list pl.isList (by simp only [List.size_toArray] <;> omega) ⟨.int ys.length, H, I.tok _, ⟨s.toks + 1, by rw [List.size_toArray, hlen]⟩, q⟩
  · obtain ⟨its, r', pl, hz⟩ := I.tuple hq
    have hlen := r'.length
    exact len_tuple pl (by simp only [List.size_toArray] <;> omega) ⟨.int ys.length, H, I.tok _, ⟨s.toks + 1, by rw [List.size_toArray, hlen]⟩, q⟩
theorem CallR.or {f : Value} {r r' : List V → Hp → VK → Prop} (h : CallR X f r) (h' : CallR X f r') : CallR X f (fun xs H Q => r xs H Q ∨ r' xs H Q) := by
  intro pins s σ H xs us Q I rs q
  rcases q with q | q
  · exact h pins s σ H xs us Q I rs q
  · exact h' pins s σ H xs us Q I rs q
theorem call_list_of : CallR X (.type "list") (fun xs H Q => ∃ p ys, xs = [.ref p] ∧ (SqL X.K H p ys ∨ SqT X.K H p ys) ∧ ∀ l, H l = none → Q (.ref l) (upd H l (.lst ys))) := by
  intro pins s σ H xs us Q I r h
  obtain ⟨p, ys, rfl, hq, q⟩ := h
  obtain ⟨u, rfl, rx⟩ := vals1 r
  cases rx
  have fin : ∀ (its : List Value), Vals ys its → ys.length ≤ sizeLine → ∀ (h' : Heap) (c' : Nat), (∀ b o', s.heap.get? b = some o' → h'.get? b = some o') →
      h'.get? s.heap.objs.size = some { cls := .type "list", dict := none, data := .seq its.toArray c', slots := #[] } → EP X pins σ Q (.ref s.heap.objs.size) { s with heap := h' } := fun its r' hz h' c' kp e =>
    ⟨.ref s.heap.objs.size, _, I.laid (t' := s.toks) kp (Nat.le_refl _) (show ObjOk X.prog X.w _ h' _ (.lst ys) from ⟨hz, its, c', r', e⟩), rfl, q _ (I.hok.fresh (Nat.le_refl _))⟩
  rcases hq with hq | hq
  · obtain ⟨its, r', pl, hz⟩ := I.list hq
    have hlen := r'.length
    obtain ⟨o, ho, hc, n, hd⟩ := pl.isList
    exact call_list_seq p (.inl rfl) ho hc hd (fun h' c' kp e => fin its r' hz h' c' kp e) (by simp only [List.size_toArray] <;> omega)
  · obtain ⟨its, r', pl, hz⟩ := I.tuple hq
    have hlen := r'.length
    obtain ⟨o, ho, hc, n, hd⟩ := pl
    exact call_list_seq p (.inr rfl) ho hc hd (fun h' c' kp e => fin its r' hz h' c' kp e) (by simp only [List.size_toArray] <;> omega)
/-! ### the call of a builtin's method: o.m(..) -/
/-- the value is of that builtin type -/
def tyV (K : PySem.W.Frag) (T : String) (x : V) (H : Hp) : Prop := match x with
  | .str _ => T = "str"
  | .int _ => T = "int"
  | .ref p => (T = "list" ∧ ∃ xs, SqL K H p xs) ∨ (T = "tuple" ∧ ∃ o, K.lookup p = some o ∧ o.cls = .type "tuple" ∧ o.dict = none) ∨
      (T = "dict" ∧ ((∃ kvs, H p = some (.dK kvs)) ∨ ∃ kvs, H p = some (.dT kvs))) ∨ (T = "set" ∧ ∃ S n, H p = some (.set S n))
  | _ => False
theorem tyV_is {pins : List (Addr × Obj)} {σ : St} {H : Hp} {s : Shared} {T : String} {x : V} {v : Value} (I : Inv X pins σ H s) (r : RelV x v) (ty : tyV X.K T x H) :
    s.TypeIs v T ∧ ∀ a, v = .ref a → ∃ ob, s.heap.get? a = some ob ∧ ob.dict = none := by
  cases x with
  | str z =>
    obtain ⟨t, rfl⟩ := r
    cases (show T = "str" from ty)
    exact ⟨typeIs_str s z t, fun _ e => nomatch e⟩
  | int i =>
    obtain ⟨t, rfl⟩ := r
    cases (show T = "int" from ty)
    exact ⟨typeIs_int s i t, fun _ e => nomatch e⟩
  | ref p =>
    cases r
    rcases ty with ⟨rfl, xs, hq⟩ | ⟨rfl, o, hk, hc, hd⟩ | ⟨rfl, hk⟩ | ⟨rfl, S, n, hk⟩
    · obtain ⟨its, _, pl, _⟩ := I.list hq
      refine ⟨pl.isList.typeIs, fun a e => ?_⟩
      cases e
      obtain ⟨o, n, e, c, hd, _⟩ := pl
      exact ⟨o, e, hd⟩
    · refine ⟨⟨o, I.kIn p o hk, hc⟩, fun a e => ?_⟩
      cases e
      exact ⟨o, I.kIn _ o hk, hd⟩
    · have z : ∃ o, s.heap.get? p = some o ∧ o.ExactDict := by
        rcases hk with ⟨kvs, hk⟩ | ⟨kvs, hk⟩
        · obtain ⟨_, _, _, _, o, _, _, e, ex, _⟩ := I.hok p _ hk
          exact ⟨o, e, ex⟩
        · obtain ⟨_, _, _, _, o, _, _, e, ex, _⟩ := I.hok p _ hk
          exact ⟨o, e, ex⟩
      obtain ⟨o, e, ex⟩ := z
      refine ⟨⟨o, e, ex.1⟩, fun a e2 => ?_⟩
      cases e2
      exact ⟨o, e, ex.2.1⟩
    · obtain ⟨o, _, _, _, e, ex, _⟩ := I.hok p _ hk
      refine ⟨⟨o, e, ex.1⟩, fun a e2 => ?_⟩
      cases e2
      exact ⟨o, e, ex.2.1⟩
  | _ => exact False.elim ty
def tBM (K : PySem.W.Frag) (T : String) (r : V → List V → Hp → VK → Prop) (to : TE) (t : TA) : TE := fun σ H Q => to σ H fun x H1 => tyV K T x H1 ∧ t σ H1 fun xs H2 => r x xs H2 Q
variable {o e : Expr} {es : List Expr} {to : TE} {t : TA} {name : Str} {apos cpos : Pos} {T id : String} {r : V → List V → Hp → VK → Prop}
theorem pe_bm (pa : PlainAttrs T) (slot : Slot T name id) (hty : typeOf (.builtin id) = pure (.type "method_descriptor")) (hm : MtR X id r) (ho : PE X o to) (ha : PA X (e :: es) t)
    (hbase : attributeBase o name X.env (eval o X.env) = eval o X.env := by rfl)
    (hfew : ((backTo cpos (starEach (e :: es) X.env)).all (fun x => !x.1) && (backToKw cpos (keywordEach [] X.env)).all (fun x => x.1.isSome)
      && decide ((e :: es).length + ([] : List Keyword).length + (if ([] : List Keyword).isEmpty then 0 else 1) < 30)) = true := by rfl)
    (hline : (apos.endLine == cpos.line) = true := by rfl) (hs : starEach (e :: es) X.env = (false, eval e X.env) :: starEach es X.env := by rfl) (hplain : (backTo cpos (starEach es X.env)).any (·.1) = false := by rfl) :
    PE X (.Call (.Attribute o name apos) (e :: es) [] cpos) (tBM X.K T r to t) := by
  intro pins s σ H Q I h
  refine wpAny_Call_method_late hbase hfew hline rfl (thn (ho pins s σ H _ I h) fun v s1 ⟨x, H1, I1, r1, ty, q1⟩ => ?_)
  obtain ⟨h1, h2⟩ := tyV_is I1 r1 ty
  refine ⟨T, id, pa, slot, hty, h1, h2, ?_⟩
  have hA := ha cpos pins s1 σ H1 _ I1 q1
  rw [hs] at hA ⊢
  refine Calls.callWith_builtin (by show (false || (backTo cpos (starEach es X.env)).any (·.1)) = false; rw [hplain] <;> rfl) (Calls.evalArgs_plain ?_)
  exact thn hA fun us s2 ⟨vs, H2, I2, r2, q2⟩ => hm pins s2 σ H2 x vs v us Q I2 r1 r2 q2
/- xs.append(e), list.index on a module's tuple .. are MtR facts of 06m -/
end
end L2

namespace L2
open PySem PySem.Spec PyProof.Rows

def MtM (X : Cx) (id : String) (r : V → List V → Hp → VK → Prop) : Prop :=
  ∀ (pins : List (Addr × Obj)) (s : Shared) (σ : St) (H : Hp) (x : V) (xs : List V) (v : Value) (us : List Value) (Q : VK), Inv X pins σ H s → RelV x v → Vals xs us → r x xs H Q →
    wpAny (model X.prog X.w) X.A (call (.builtin id) (v :: us)) (EP X pins σ Q) X.xe s

/-! ### lists of values -/
theorem Vals.one : ∀ {x : V} {us : List Value}, Vals [x] us → ∃ u, us = [u] ∧ RelV x u
  | _, _, .cons r .nil => ⟨_, rfl, r⟩
theorem Vals.two : ∀ {x y : V} {us : List Value}, Vals [x, y] us → ∃ u v, us = [u, v] ∧ RelV x u ∧ RelV y v
  | _, _, _, .cons r (.cons q .nil) => ⟨_, _, rfl, r, q⟩
theorem Vals.zero : ∀ {us : List Value}, Vals [] us → us = []
  | _, .nil => rfl
theorem Vals.dropLast {xs : List V} {us : List Value} (h : Vals xs us) : Vals xs.dropLast us.dropLast := by
  induction h with
  | nil => exact .nil
  | cons r t ih =>
    cases t with
    | nil => exact .nil
    | cons q t' => exact .cons r ih
theorem Vals.rep {xs : List V} {us : List Value} (h : Vals xs us) : ∀ k : Nat, Vals (List.replicate k xs).flatten (List.replicate k us).flatten
  | 0 => .nil
  | k + 1 => by
    rw [List.replicate_succ, List.replicate_succ, List.flatten_cons, List.flatten_cons]
    exact Vals.append h (Vals.rep h k)
theorem foldl_rep (its : List Value) : ∀ (k : Nat) (acc : List Value),
    List.foldl (fun x1 x2 => x1 ++ x2) acc.toArray (List.replicate k its.toArray) = (acc ++ (List.replicate k its).flatten).toArray
  | 0, acc => by simp
  | k + 1, acc => by
    have e : acc.toArray ++ its.toArray = (acc ++ its).toArray := by simp
    have e2 : (acc ++ its) ++ (List.replicate k its).flatten = acc ++ (List.replicate (k + 1) its).flatten := by
      rw [List.replicate_succ, List.flatten_cons, List.append_assoc]
    rw [← e2, ← foldl_rep its k (acc ++ its), ← e, List.replicate_succ, List.foldl_cons]

section
variable {X : Cx} {pins : List (Addr × Obj)} {σ : St} {H : Hp} {s : Shared} {l b : Addr} {xs ys zs : List V}

/-! ### the two steps: a tracked list is rewritten, a new list is laid -/
theorem Inv.lset {its its' : List Value} {n : Nat} {f : Array Value → Array Value} {t' : Nat} (I : Inv X pins σ H s) (hH : H l = some (.lst xs))
    (e : s.heap.get? l = some { cls := .type "list", data := .seq its.toArray n }) (hf : f its.toArray = its'.toArray) (hv : Vals ys its') (hz : ys.length ≤ sizeLine) :
    Inv X pins σ (upd H l (.lst ys)) { s with heap := s.heap.update l (Obj.mapSeq f), toks := t' } := by
  have q := PySem.IsL.update e f
  rw [hf] at q
  refine I.write (x := l) (e := l) (by rw [hH]; exact trivial) (.inl rfl) (fun b' u hb hu => (Heap.get?_update_other s.heap (Obj.mapSeq f) (Ne.symm hb)).trans hu) ⟨_, q⟩ ?_
  exact ⟨hz, its', _, hv, q⟩
theorem Inv.lnew {its : List Value} {t' : Nat} (I : Inv X pins σ H s) (hv : Vals ys its) (hz : ys.length ≤ sizeLine) :
    Inv X pins σ (upd H s.heap.objs.size (.lst ys)) { s with heap := s.heap.push { cls := .type "list", data := .seq its.toArray }, toks := t' } :=
  I.laid (fun _ _ q => Heap.get?_push_of_some _ q) (Nat.le_refl _) ⟨hz, its, 0, hv, Heap.get?_push_size _ rfl⟩
theorem Inv.fresh (I : Inv X pins σ H s) : H s.heap.objs.size = none := I.hok.fresh (Nat.le_refl _)
theorem Inv.lstM (I : Inv X pins σ H s) (hH : H l = some (.lst xs)) : xs.length ≤ sizeLine ∧ ∃ (its : List Value) (n : Nat), Vals xs its ∧ xs.length = its.length ∧ s.heap.get? l = some { cls := .type "list", data := .seq its.toArray n } := by
  obtain ⟨z, its, n, r, e⟩ := I.hok l _ hH
  exact ⟨z, its, n, r, r.length, e⟩

theorem notLongL {n : Nat} (h : n ≤ sizeLine) : Builtin.List.listTooLong n = false := by
  unfold Builtin.List.listTooLong
  exact decide_eq_false (by omega)
end

section
variable {X : Cx}

/-! ### methods -/
def rAppend : V → List V → Hp → VK → Prop := fun x vs H Q => ∃ l xs y, x = .ref l ∧ vs = [y] ∧ H l = some (.lst xs) ∧ xs.length < sizeLine ∧ Q .non (upd H l (.lst (xs ++ [y])))
theorem mt_append : MtM X "list.append" rAppend := by
  intro pins s σ H x vs v us Q I rx rv h
  obtain ⟨l, xs, y, rfl, rfl, hH, hz, q⟩ := h
  cases rx
  obtain ⟨u, rfl, ru⟩ := rv.one
  obtain ⟨z, its, n, r, hl, e⟩ := I.lstM hH
  refine call_meets F.slot_list_append ⟨_, e, rfl⟩ F.entry_list_append (F.args_list_append_2 _ _) (PySem.list_append l its.toArray n u (by rw [List.size_toArray]; omega)) ⟨e, ?_⟩
  refine ⟨.non, _, I.lset (its' := its ++ [u]) hH e (by simp) (r.append (.cons ru .nil)) ?_, rfl, q⟩
  rw [List.length_append, List.length_singleton]
  omega

/-! ### list + list, list += list, list * int -/
/-- a list times an int (a negative one is nothing) -/
def rRep : R2 := fun x y H Q => ∃ l k xs, x = .ref l ∧ y = .int k ∧ H l = some (.lst xs) ∧ -(2 ^ 63) ≤ k ∧ k < 2 ^ 63 ∧ xs.length * k.toNat ≤ sizeLine ∧
  ∀ p, H p = none → Q (.ref p) (upd H p (.lst (List.replicate k.toNat xs).flatten))
theorem len_rep {α : Type} (xs : List α) (k : Nat) : (List.replicate k xs).flatten.length = k * xs.length := by
  induction k with
  | zero => simp
  | succ k ih => rw [List.replicate_succ, List.flatten_cons, List.length_append, ih, Nat.succ_mul, Nat.add_comm]
theorem op_rep : OpR X (binaryOp .Mult) rRep := by
  intro pins s σ H x y v u Q I rx ry h
  obtain ⟨l, k, xs, rfl, rfl, hH, h1, h2, hz, q⟩ := h
  cases rx
  obtain ⟨t, rfl⟩ := ry
  obtain ⟨z, its, n, r, hl, e⟩ := I.lstM hH
  have hlen : its.toArray.size * k.toNat ≤ sizeLine := by rw [List.size_toArray, ← hl]; exact hz
  have hcap : ¬ its.toArray.size * k.toNat > (2 ^ 63 - 1) / 8 := by
    have : (sizeLine : Nat) ≤ (2 ^ 63 - 1) / 8 := by decide
    omega
  have hfit : ¬ (!Builtin.List.listFitsIndex k) = true := by
    rw [fitsIndex_both h1 h2]
    exact Bool.false_ne_true
  have hlong : ¬ Builtin.List.listTooLong (its.toArray.size * k.toNat) = true := by
    rw [notLongL hlen]
    exact Bool.false_ne_true
  have hnew : List.foldl (fun x1 x2 => x1 ++ x2) #[] (List.replicate (if its.toArray.isEmpty = true then 0 else k.toNat) its.toArray) = (List.replicate k.toNat its).flatten.toArray := by
    have f0 : ∀ m : Nat, List.foldl (fun x1 x2 => x1 ++ x2) #[] (List.replicate m its.toArray) = (List.replicate m its).flatten.toArray := fun m => by
      have := foldl_rep its m []
      rw [List.nil_append] at this
      exact this
    rw [f0]
    cases its with
    | nil => simp
    | cons a r' => rw [if_neg (by simp)]
  refine wpAny_binaryOp_repeat_ref (T := "list") (U := "int") (by decide) ⟨_, e, rfl⟩ (fun s' => typeIs_int s' k t) noFill_list_mul F.fills_int_mul F.slot_int_rmul repeat_list F.slot_int_index.lookup
    (call_meets F.slot_int_rmul (typeIs_int s k t) F.entry_int_rmul (F.args_int_rmul_2 _ _) (int___rmul___int_list k t l its.toArray n)
      ⟨e, rfl, ⟨_, e, rfl⟩, call_meets F.slot_list_mul ⟨_, e, rfl⟩ F.entry_list_mul (F.args_list_mul_2 _ _) (AutoListH.list___mul___list_int_3 l its.toArray n k t hfit hcap hlong) ⟨e, ?_⟩⟩)
  rw [hnew]
  exact ⟨.ref _, _, I.lnew (t' := s.toks) (r.rep k.toNat) (by rw [len_rep, Nat.mul_comm]; exact hz), rfl, q _ I.fresh⟩

/-! ### del xs[i] -/
end

/-! ### xs[a:b] = ys -/
section
variable {prog : Program} {w : World} {A : Around} {E : Value → Shared → Prop} {s : Shared}
set_option maxRecDepth 100000 in
end

section
variable {X : Cx}
end
end L2

namespace L2
open PySem PySem.Spec PyProof.Rows

theorem Vals.ints : ∀ {ns : List Int} {us : List Value}, Vals (ns.map V.int) us → IntsAre us ns
  | [], us, h => by
    rw [List.map_nil] at h
    cases h
    exact IntsAre.nil
  | n :: ns, us, h => by
    rw [List.map_cons] at h
    cases h with
    | cons r t =>
      obtain ⟨k, rfl⟩ := r
      exact IntsAre.cons n k (Vals.ints t)
theorem vals_of_ints : ∀ {us : List Value} {ns : List Int}, IntsAre us ns → Vals (ns.map V.int) us
  | _, _, .nil => by rw [List.map_nil]; exact Paired.nil
  | _, _, .cons n t h => by rw [List.map_cons]; exact Paired.cons (show RelV (V.int n) (Value.int n t) from ⟨t, rfl⟩) (vals_of_ints h)
theorem Vals.bls : ∀ {bs : List Bool} {us : List Value}, Vals (bs.map V.bl) us → us = bs.map Value.bool
  | [], us, h => by
    rw [List.map_nil] at h
    cases h
    rfl
  | b :: bs, us, h => by
    rw [List.map_cons] at h
    cases h with
    | cons r t =>
      cases r
      rw [Vals.bls t, List.map_cons]
theorem Vals.ref1 {a : Addr} {us : List Value} (r : Vals [V.ref a] us) : us = [Value.ref a] := by
  cases r with
  | cons r t =>
    cases t
    cases r
    rfl
/-! ### the library's walks over a list of ints, kept objects alone -/
section
variable {prog : Program} {w : World} {A : Around} {E : Value → Shared → Prop} {s : Shared} {l : Addr} {its : List Value} {ns : List Int} {Q : Value → Shared → Prop}
theorem sum_raw (hh : A.handled = none) (hl : s.heap.IsList l its.toArray) (hi : IntsAre its ns)
    (h : ∀ h' tk t', (∀ b o, s.heap.get? b = some o → h'.get? b = some o) → Q (.int ns.sum t') { s with heap := h', toks := tk }) : wpAny (model prog w) A (call (.builtin "sum") [.ref l]) Q E s := by
  obtain ⟨xs, e⟩ := hi.allInts.items
  have hn : numsOf (intItems xs).toList = ns := by rw [← e]; exact hi.numsOf
  rw [nums_intItems] at hn
  rw [e] at hl
  refine PySem.sum_intListG hh hl fun h' tk t' hk => ?_
  have := h h' tk t' hk
  rw [preSum_eq, List.take_of_length_le (by simp), hn]; exact this
theorem max_raw (hh : A.handled = none) (hl : s.heap.IsList l its.toArray) (hi : IntsAre its ns) (hne : 0 < ns.length)
    (h : ∀ h' tk M t', (∀ b o, s.heap.get? b = some o → h'.get? b = some o) → M ∈ ns → (∀ a, a ∈ ns → a ≤ M) → Q (.int M t') { s with heap := h', toks := tk }) : wpAny (model prog w) A (call (.builtin "max") [.ref l]) Q E s := by
  obtain ⟨xs, e⟩ := hi.allInts.items
  have hn : numsOf (intItems xs).toList = ns := by rw [← e]; exact hi.numsOf
  rw [nums_intItems] at hn
  subst hn
  rw [e] at hl
  have hsz : 0 < xs.size := by simpa using hne
  refine PySem.max_intList hh hl hsz fun v h' tk hv hk => ?_
  obtain ⟨t, rfl⟩ := intItems_at hv
  obtain ⟨h1, h2⟩ := argBest_gt (numAt xs) (xs.size - 1)
  refine h h' tk _ t hk ?_ fun a ha => ?_
  · rw [numAt_eq]; exact PySem.getD_mem (by rw [List.length_map, Array.length_toList]; omega)
  · obtain ⟨j, hj, rfl⟩ := mem_getD ha
    rw [List.length_map, Array.length_toList] at hj
    rw [← numAt_eq]; exact h2 j (by omega)
theorem min_raw (hh : A.handled = none) (hl : s.heap.IsList l its.toArray) (hi : IntsAre its ns) (hne : 0 < ns.length)
    (h : ∀ h' tk M t', (∀ b o, s.heap.get? b = some o → h'.get? b = some o) → M ∈ ns → (∀ a, a ∈ ns → M ≤ a) → Q (.int M t') { s with heap := h', toks := tk }) : wpAny (model prog w) A (call (.builtin "min") [.ref l]) Q E s := by
  obtain ⟨xs, e⟩ := hi.allInts.items
  have hn : numsOf (intItems xs).toList = ns := by rw [← e]; exact hi.numsOf
  rw [nums_intItems] at hn
  subst hn
  rw [e] at hl
  have hsz : 0 < xs.size := by simpa using hne
  refine PySem.min_intList hh hl hsz fun v h' tk hv hk => ?_
  obtain ⟨t, rfl⟩ := intItems_at hv
  obtain ⟨h1, h2⟩ := argBest_lt (numAt xs) (xs.size - 1)
  refine h h' tk _ t hk ?_ fun a ha => ?_
  · rw [numAt_eq]; exact PySem.getD_mem (by rw [List.length_map, Array.length_toList]; omega)
  · obtain ⟨j, hj, rfl⟩ := mem_getD ha
    rw [List.length_map, Array.length_toList] at hj
    rw [← numAt_eq]; exact h2 j (by omega)
end

/-! ### the calls, by values (CallR of 03t; MtR of 06l) -/
section
variable {X : Cx}
/-- sum(xs) of a list of ints -/
def rSum (K : PySem.W.Frag) : List V → Hp → VK → Prop := fun vs H Q => ∃ (a : Addr) (ns : List Int), vs = [V.ref a] ∧ SqL K H a (ns.map V.int) ∧ Q (.int ns.sum) H
/-- max(xs), min(xs) of a list of ints -/
def rMax (K : PySem.W.Frag) : List V → Hp → VK → Prop := fun vs H Q => ∃ (a : Addr) (ns : List Int), vs = [V.ref a] ∧ SqL K H a (ns.map V.int) ∧ 0 < ns.length ∧ ∀ m, m ∈ ns → (∀ y, y ∈ ns → y ≤ m) → Q (.int m) H
def rMin (K : PySem.W.Frag) : List V → Hp → VK → Prop := fun vs H Q => ∃ (a : Addr) (ns : List Int), vs = [V.ref a] ∧ SqL K H a (ns.map V.int) ∧ 0 < ns.length ∧ ∀ m, m ∈ ns → (∀ y, y ∈ ns → m ≤ y) → Q (.int m) H
theorem cr_sum (hc : X.calm = true) : CallR X (.builtin "sum") (rSum X.K) := by
  intro pins s σ H vs us Q I r h
  obtain ⟨a, ns, rfl, hs, q⟩ := h
  obtain ⟨its, rv, hl, _⟩ := I.list hs
  rw [Vals.ref1 r]
  exact sum_raw (I.ok.hd hc) hl.isList rv.ints fun h' tk t' hk => ⟨.int _, H, I.kept hk, ⟨_, rfl⟩, q⟩
theorem cr_max (hc : X.calm = true) : CallR X (.builtin "max") (rMax X.K) := by
  intro pins s σ H vs us Q I r h
  obtain ⟨a, ns, rfl, hs, hne, q⟩ := h
  obtain ⟨its, rv, hl, _⟩ := I.list hs
  rw [Vals.ref1 r]
  exact max_raw (I.ok.hd hc) hl.isList rv.ints hne fun h' tk m t' hk h1 h2 => ⟨.int _, H, I.kept hk, ⟨_, rfl⟩, q m h1 h2⟩
theorem cr_min (hc : X.calm = true) : CallR X (.builtin "min") (rMin X.K) := by
  intro pins s σ H vs us Q I r h
  obtain ⟨a, ns, rfl, hs, hne, q⟩ := h
  obtain ⟨its, rv, hl, _⟩ := I.list hs
  rw [Vals.ref1 r]
  exact min_raw (I.ok.hd hc) hl.isList rv.ints hne fun h' tk m t' hk h1 h2 => ⟨.int _, H, I.kept hk, ⟨_, rfl⟩, q m h1 h2⟩

/-! sorted, sort (fewer than 64 items: the library's own bound) -/
end

/-! ### list.index, flat items -/
section
variable {X : Cx}
end

/-! ### type(x) of an own instance; is, is not of a module's class -/
section
variable {X : Cx}
end

/-! ### any(xs), all(xs) of a list of bools -/
theorem iter_any {prog : Program} {w : World} {A : Around} {E : Value → Shared → Prop} {s : Shared} {l : Addr} {items : Array Value} {Q : Value → Shared → Prop} (hl : s.heap.IsList l items)
    (h : ∀ s₂ : Shared, s₂ = { s with heap := s.heap.push { cls := .type "list_iterator", data := .fields #[.ref l, .int 0 0] } } →
      (s₂.heap.IsListIter s.heap.objs.size l 0 ∧ s₂.heap.IsList l items) → l ≠ s.heap.objs.size → Q (.ref s.heap.objs.size) s₂) : wpAny (model prog w) A (pyIter (.ref l)) Q E s := by
  have hlt : l < s.heap.objs.size := by obtain ⟨_, e, _⟩ := hl; exact Heap.lt_size e
  exact wpAny_pyIter_list hl (h _ rfl ⟨⟨_, Heap.get?_push_size _ rfl, rfl, rfl⟩, hl.push _⟩ (Nat.ne_of_lt hlt))
theorem truth_bools {prog : Program} {w : World} {A : Around} {bs : List Bool} {its : List Value} (e : its = bs.map Value.bool) :
    TruthOf prog w A (fun i v => its.toArray[i]? = some v) (fun i => bs.getD i false) := fun i v s Q E hv hq => by
  have hv' : its[i]? = some v := by simpa using hv
  rw [e, List.getElem?_map] at hv'
  obtain ⟨b, hb, rfl⟩ := Option.map_eq_some_iff.mp hv'
  have hg : bs.getD i false = b := by rw [List.getD_eq_getElem?_getD, hb] <;> rfl
  have hq' : Q (bs.getD i false) s := hq
  rw [hg] at hq'
  exact wpAny_truthy_bool hq'
theorem any_range : ∀ bs : List Bool, (List.range bs.length).any (fun i => bs.getD i false) = bs.any id
  | [] => rfl
  | b :: bs => by
    rw [List.length_cons, List.range_succ_eq_map, List.any_cons, List.any_map, List.any_cons, ← any_range bs]
    all_goals rfl
theorem all_range : ∀ bs : List Bool, (List.range bs.length).all (fun i => bs.getD i false) = bs.all id
  | [] => rfl
  | b :: bs => by
    rw [List.length_cons, List.range_succ_eq_map, List.all_cons, List.all_map, List.all_cons, ← all_range bs]
    all_goals rfl
section
variable {X : Cx}
def rAny (K : PySem.W.Frag) : List V → Hp → VK → Prop := fun vs H Q => ∃ (a : Addr) (bs : List Bool), vs = [V.ref a] ∧ SqL K H a (bs.map V.bl) ∧ Q (.bl (bs.any id)) H
def rAll (K : PySem.W.Frag) : List V → Hp → VK → Prop := fun vs H Q => ∃ (a : Addr) (bs : List Bool), vs = [V.ref a] ∧ SqL K H a (bs.map V.bl) ∧ Q (.bl (bs.all id)) H
theorem cr_any (hc : X.calm = true) : CallR X (.builtin "any") (rAny X.K) := by
  intro pins s σ H vs us Q I r h
  obtain ⟨a, bs, rfl, hs, q⟩ := h
  obtain ⟨its, rv, hl, _⟩ := I.list hs
  rw [Vals.ref1 r]
  have hb := rv.bls
  refine call_any_walk (iter_any hl.isList fun s₂ e2 st hne => ?_)
  subst e2
  refine ⟨_, _, _, _, _, _, _, rfl, Walks.list (A := X.A.in1) (I.ok.hd hc) _ a hne its.toArray, st, truth_bools hb, fun h' tk hk => ?_⟩
  refine ⟨.bl _, H, I.kept fun b o eo => hk b o (fun hmem => ?_) (Heap.get?_push_of_some _ eo), ?_, q⟩
  · rcases List.mem_cons.mp hmem with e1 | hmem
    · exact absurd (e1 ▸ Heap.lt_size eo) (Nat.lt_irrefl _)
    · cases hmem
  · show Value.bool _ = Value.bool _
    rw [← any_range, hb, List.size_toArray, List.length_map]
theorem cr_all (hc : X.calm = true) : CallR X (.builtin "all") (rAll X.K) := by
  intro pins s σ H vs us Q I r h
  obtain ⟨a, bs, rfl, hs, q⟩ := h
  obtain ⟨its, rv, hl, _⟩ := I.list hs
  rw [Vals.ref1 r]
  have hb := rv.bls
  refine call_all_walk (iter_any hl.isList fun s₂ e2 st hne => ?_)
  subst e2
  refine ⟨_, _, _, _, _, _, _, rfl, Walks.list (A := X.A.in1) (I.ok.hd hc) _ a hne its.toArray, st, truth_bools hb, fun h' tk hk => ?_⟩
  refine ⟨.bl _, H, I.kept fun b o eo => hk b o (fun hmem => ?_) (Heap.get?_push_of_some _ eo), ?_, q⟩
  · rcases List.mem_cons.mp hmem with e1 | hmem
    · exact absurd (e1 ▸ Heap.lt_size eo) (Nat.lt_irrefl _)
    · cases hmem
  · show Value.bool _ = Value.bool _
    rw [← all_range, hb, List.size_toArray, List.length_map]
end

/-! ### == and != of data at any depth: none, bools, ints, texts, lists, tuples -/
mutual
inductive Dp (K : PySem.W.Frag) (H : Hp) : V → PyData → Prop
  | non : Dp K H .non .none
  | bl (b : Bool) : Dp K H (.bl b) (.bool b)
  | int (i : Int) : Dp K H (.int i) (.int i)
  | str (x : Str) : Dp K H (.str x) (.str x)
  | lst {a : Addr} {xs : List V} {ds : List PyData} : SqL K H a xs → DpAll K H xs ds → Dp K H (.ref a) (.list ds)
  | tup {a : Addr} {xs : List V} {ds : List PyData} : SqT K H a xs → DpAll K H xs ds → Dp K H (.ref a) (.tuple ds)
inductive DpAll (K : PySem.W.Frag) (H : Hp) : List V → List PyData → Prop
  | nil : DpAll K H [] []
  | cons {v : V} {vs : List V} {d : PyData} {ds : List PyData} : Dp K H v d → DpAll K H vs ds → DpAll K H (v :: vs) (d :: ds)
end
section
variable {X : Cx} {pins : List (Addr × Obj)} {σ : St} {H : Hp} {s : Shared}
mutual
theorem Dp.reads (I : Inv X pins σ H s) : ∀ (d : PyData) (v : V) (u : Value), Dp X.K H v d → RelV v u → ∃ as, Reads s.heap u d as
  | .none, _, _, h, r => by
    cases h
    cases r
    exact ⟨_, Reads.none⟩
  | .bool b, _, _, h, r => by
    cases h
    cases r
    exact ⟨_, Reads.bool b⟩
  | .int i, _, _, h, r => by
    cases h
    obtain ⟨t, rfl⟩ := r
    exact ⟨_, Reads.int i t⟩
  | .str x, _, _, h, r => by
    cases h
    obtain ⟨t, rfl⟩ := r
    exact ⟨_, Reads.str x t⟩
  | .list ds, _, _, h, r => by
    cases h with
    | lst hs ha =>
      cases r
      obtain ⟨its, rv, ⟨o, n, ho, hc, _, hd⟩, _⟩ := I.list hs
      obtain ⟨as, hr⟩ := Dp.readsAll I ds _ its ha rv
      exact ⟨_, Reads.list ho hc hd hr⟩
  | .tuple ds, _, _, h, r => by
    cases h with
    | tup hs ha =>
      cases r
      obtain ⟨its, rv, ⟨o, ho, hc, n, hd⟩, _⟩ := I.tuple hs
      obtain ⟨as, hr⟩ := Dp.readsAll I ds _ its ha rv
      exact ⟨_, Reads.tuple ho hc hd hr⟩
  | .dict _, _, _, h, _ => by cases h
theorem Dp.readsAll (I : Inv X pins σ H s) : ∀ (ds : List PyData) (vs : List V) (us : List Value), DpAll X.K H vs ds → Vals vs us → ∃ as, ReadsAll s.heap us ds as
  | [], _, _, h, r => by
    cases h
    cases r
    exact ⟨_, ReadsAll.nil⟩
  | d :: ds, _, _, h, r => by
    cases h with
    | cons h1 h2 =>
      cases r with
      | cons r1 r2 =>
        obtain ⟨as, q1⟩ := Dp.reads I d _ _ h1 r1
        obtain ⟨bs, q2⟩ := Dp.readsAll I ds _ _ h2 r2
        exact ⟨_, ReadsAll.cons q1 q2⟩
end
end
section
variable {X : Cx}
def rEqD (K : PySem.W.Frag) : R2 := fun x y H Q => ∃ d e, Dp K H x d ∧ Dp K H y e ∧ SeqAt.shaped d = true ∧ SeqAt.shaped e = true ∧ Q (.bl (PyData.eqv d e)) H
def rNeD (K : PySem.W.Frag) : R2 := fun x y H Q => ∃ d e, Dp K H x d ∧ Dp K H y e ∧ SeqAt.shaped d = true ∧ SeqAt.shaped e = true ∧ Q (.bl (!PyData.eqv d e)) H
theorem op_eqD (hu : X.A.units + 64 < cLine) : OpR X (compareOp .Eq) (rEqD X.K) := by
  intro pins s σ H x y v u Q I rx ry h
  obtain ⟨d, e, hd, he, sd, se, q⟩ := h
  obtain ⟨as, r1⟩ := Dp.reads I d x v hd rx
  obtain ⟨bs, r2⟩ := Dp.reads I e y u he ry
  exact SeqAt.compareEq_shaped r1 r2 sd se hu ⟨.bl _, H, I, rfl, q⟩
theorem op_neD (hu : X.A.units + 64 < cLine) : OpR X (compareOp .NotEq) (rNeD X.K) := by
  intro pins s σ H x y v u Q I rx ry h
  obtain ⟨d, e, hd, he, sd, se, q⟩ := h
  obtain ⟨as, r1⟩ := Dp.reads I d x v hd rx
  obtain ⟨bs, r2⟩ := Dp.reads I e y u he ry
  exact SeqAt.compareNe_shaped r1 r2 sd se hu ⟨.bl _, H, I, rfl, q⟩
end
end L2

namespace L2
open PySem PySem.Spec PyProof.Rows
abbrev CellAt (h : Heap) (c : Addr) (v : Option Value) : Prop := h.IsCell c v
def relS (scope sc : Scope) : Scope :=
  { scope with names := scope.names.map fun (n, k) => if (k == .free && sc.kind == .function && sc.names.lookup n == some .cell) then (n, .cell) else (n, k) }

def cloFrom (cells : List (Str × Addr)) : List (Str × NameKind) → List (Str × Addr) → List (Str × Addr)
  | [], acc => acc
  | (n, k) :: r, acc => if k == .free then cloFrom cells r ((n, (cells.lookup n).getD 0) :: acc) else cloFrom cells r acc

theorem closure_loop (env : Env) (f : Str × NameKind → List (Str × Addr) → Sem (ForInStep (List (Str × Addr))))
    (hf : ∀ n k c, f (n, k) c = if k == .free then (do let a ← cellOf env n; pure (.yield ((n, a) :: c))) else pure (.yield c)) :
    ∀ (names : List (Str × NameKind)) (acc : List (Str × Addr)), (∀ y ∈ names, y.2 = .free → ∃ c, env.cells.lookup y.1 = some c) → forIn names acc f = pure (cloFrom env.cells names acc)
  | [], acc, _ => by rw [List.forIn_nil]; rfl
  | (n, k) :: r, acc, h => by
    rw [List.forIn_cons, hf]
    have ih := fun acc => closure_loop env f hf r acc fun y hy => h y (List.mem_cons_of_mem _ hy)
    unfold cloFrom
    by_cases hk : (k == NameKind.free) = true
    · rw [if_pos hk, if_pos hk]
      obtain ⟨c, hc⟩ := h (n, k) List.mem_cons_self (by simpa using hk)
      have e : cellOf env n = pure c := by unfold cellOf; rw [hc]
      rw [e]
      have e2 : (env.cells.lookup n).getD 0 = c := by rw [hc]; rfl
      rw [e2]
      exact ih _
    · rw [if_neg hk, if_neg hk]
      exact ih _
theorem closure_ok {scope : Scope} {env : Env} (h : ∀ y ∈ scope.names, y.2 = .free → ∃ c, env.cells.lookup y.1 = some c) : closureFor scope env = pure (cloFrom env.cells scope.names []) := by
  simp only [closureFor]
  rw [closure_loop env _ (fun n k c => rfl) scope.names [] h]
  rfl

theorem mem_lookup {α : Type} : ∀ {l : List (Str × α)} {n : Str} {c : α}, (n, c) ∈ l → ∃ c', l.lookup n = some c'
  | (k, v) :: r, n, c, h => by
    rw [List.lookup_cons]
    cases hb : n == k with
    | true => exact ⟨_, rfl⟩
    | false =>
      rcases List.mem_cons.mp h with e | h
      · cases e; simp at hb
      · exact mem_lookup h

theorem cloFrom_mem {cells : List (Str × Addr)} : ∀ {names : List (Str × NameKind)} {acc : List (Str × Addr)} {n : Str} {c : Addr}, (n, c) ∈ cloFrom cells names acc → (n, c) ∈ acc ∨ ((n, .free) ∈ names ∧ c = (cells.lookup n).getD 0)
  | [], _, _, _, h => .inl h
  | (m, k) :: r, acc, n, c, h => by
    unfold cloFrom at h
    split at h
    · rename_i hk
      have hk : k = .free := by simpa using hk
      rcases cloFrom_mem h with h | ⟨h1, h2⟩
      · rcases List.mem_cons.mp h with e | h
        · cases e; exact .inr ⟨hk ▸ List.mem_cons_self, rfl⟩
        · exact .inl h
      · exact .inr ⟨List.mem_cons_of_mem _ h1, h2⟩
    · rcases cloFrom_mem h with h | ⟨h1, h2⟩
      · exact .inl h
      · exact .inr ⟨List.mem_cons_of_mem _ h1, h2⟩
theorem cloFrom_acc {cells : List (Str × Addr)} : ∀ {names : List (Str × NameKind)} {acc : List (Str × Addr)} {p : Str × Addr}, p ∈ acc → p ∈ cloFrom cells names acc
  | [], _, _, h => h
  | (m, k) :: r, acc, p, h => by
    unfold cloFrom
    split
    · exact cloFrom_acc (List.mem_cons_of_mem _ h)
    · exact cloFrom_acc h
theorem cloFrom_has {cells : List (Str × Addr)} : ∀ {names : List (Str × NameKind)} {acc : List (Str × Addr)} {n : Str}, (n, .free) ∈ names → (n, (cells.lookup n).getD 0) ∈ cloFrom cells names acc
  | (m, k) :: r, acc, n, h => by
    unfold cloFrom
    rcases List.mem_cons.mp h with e | h
    · cases e
      exact cloFrom_acc List.mem_cons_self
    · split
      · exact cloFrom_has h
      · exact cloFrom_has h

theorem cells_mem : ∀ {names : List (Str × NameKind)} {h : Heap} {acc : List (Str × Addr)} {x : Str} {c : Addr}, (x, c) ∈ cellsFrom h.objs.size names acc →
    (x, c) ∈ acc ∨ ((x, .cell) ∈ names ∧ h.objs.size ≤ c ∧ CellAt (pushCells h names) c none)
  | [], _, _, _, _, h => .inl h
  | (n, k) :: r, h, acc, x, c, hm => by
    unfold cellsFrom at hm
    unfold pushCells
    split at hm
    · rename_i hk
      rw [if_pos hk]
      have hk : k = .cell := by simpa using hk
      rw [← Heap.size_push h { cls := .type "cell", data := .cell none }] at hm
      rcases cells_mem hm with hm | ⟨h1, h2, h3⟩
      · rcases List.mem_cons.mp hm with e | hm
        · cases e
          exact .inr ⟨hk ▸ List.mem_cons_self, Nat.le_refl _, _, pushCells_keeps r _ _ _ (Heap.get?_push_size _ rfl), rfl⟩
        · exact .inl hm
      · rw [Heap.size_push] at h2
        exact .inr ⟨List.mem_cons_of_mem _ h1, Nat.le_of_succ_le h2, h3⟩
    · rename_i hk
      rw [if_neg hk]
      rcases cells_mem hm with hm | ⟨h1, h2, h3⟩
      · exact .inl hm
      · exact .inr ⟨List.mem_cons_of_mem _ h1, h2, h3⟩
theorem cells_acc : ∀ {names : List (Str × NameKind)} {n : Nat} {acc : List (Str × Addr)} {p : Str × Addr}, p ∈ acc → p ∈ cellsFrom n names acc
  | [], _, _, _, h => h
  | (m, k) :: r, n, acc, p, h => by
    unfold cellsFrom
    split
    · exact cells_acc (List.mem_cons_of_mem _ h)
    · exact cells_acc h
theorem cells_has : ∀ {names : List (Str × NameKind)} {n : Nat} {acc : List (Str × Addr)} {x : Str}, (x, .cell) ∈ names → ∃ c, (x, c) ∈ cellsFrom n names acc
  | (m, k) :: r, n, acc, x, h => by
    unfold cellsFrom
    rcases List.mem_cons.mp h with e | h
    · cases e
      exact ⟨n, cells_acc List.mem_cons_self⟩
    · split
      · exact cells_has h
      · exact cells_has h
theorem cells_inj : ∀ {names : List (Str × NameKind)} {h : Heap} {acc : List (Str × Addr)} {x y : Str} {c : Addr}, (∀ p ∈ acc, p.2 < h.objs.size) → (∀ x y c, (x, c) ∈ acc → (y, c) ∈ acc → x = y) →
    (x, c) ∈ cellsFrom h.objs.size names acc → (y, c) ∈ cellsFrom h.objs.size names acc → x = y
  | [], _, _, _, _, _, _, hi, h1, h2 => hi _ _ _ h1 h2
  | (n, k) :: r, h, acc, x, y, c, hl, hi, h1, h2 => by
    unfold cellsFrom at h1 h2
    split at h1
    · rename_i hk
      rw [if_pos hk] at h2
      rw [← Heap.size_push h { cls := .type "cell", data := .cell none }] at h1 h2
      refine cells_inj (h := h.push _) (fun p hp => ?_) (fun x y c a b => ?_) h1 h2
      · rw [Heap.size_push]
        rcases List.mem_cons.mp hp with rfl | hp
        · exact Nat.lt_succ_self _
        · exact Nat.lt_succ_of_lt (hl p hp)
      · rcases List.mem_cons.mp a with e | a <;> rcases List.mem_cons.mp b with e' | b
        · cases e; cases e'; rfl
        · cases e; exact absurd (hl _ b) (Nat.lt_irrefl _)
        · cases e'; exact absurd (hl _ a) (Nat.lt_irrefl _)
        · exact hi _ _ _ a b
    · rename_i hk
      rw [if_neg hk] at h2
      exact cells_inj hl hi h1 h2

theorem newEnv_comp {M : Model} {A : Around} {E : Value → Shared → Prop} {s : Shared} {scope : Scope} {globals : Addr} {closure : List (Str × Addr)} {qual : Str} {func : Option Addr} {code : Value} {around : Env} {builtins : Addr} {Q : Env → Shared → Prop}
    (h : Q (newEnv scope s.heap.objs.size globals (cellsFrom (s.heap.objs.size + 1) scope.names closure) qual func code (some around) builtins)
      { s with heap := pushCells (s.heap.push { cls := .type "dict", data := .dict #[] }) scope.names }) :
    wpAny M A (newFunctionEnv scope globals closure [] qual func code (some around) builtins) Q E s := by
  simp only [newFunctionEnv, Option.isSome_some, if_true]
  refine wpAny_bind (wpAny_alloc ?_)
  refine wpAny_bind (wpAny_layCells _ (fun n k c => rfl) scope.names closure _ _ ?_)
  rw [show ({ s with heap := s.heap.push { cls := .type "dict", data := .dict #[] } } : Shared).heap.objs.size = s.heap.objs.size + 1 from Heap.size_push ..]
  rw [List.forIn_nil]
  exact wpAny_bind (wpAny_pure (wpAny_pure h))

/-- every name of the written scope, in the scope that runs -/
theorem lookup_relS {sc : Scope} : ∀ {names : List (Str × NameKind)} {x : Str} {k : NameKind},
    (names.map fun (n, k) => if (k == NameKind.free && sc.kind == .function && sc.names.lookup n == some .cell) then (n, NameKind.cell) else (n, k)).lookup x = some k →
    ∃ k', names.lookup x = some k' ∧ (k = k' ∨ (k' = .free ∧ k = .cell))
  | [], _, _, h => by simp at h
  | (n, k₀) :: r, x, k, h => by
    have ih := @lookup_relS sc r x k
    have h' : List.lookup x ((if (k₀ == NameKind.free && sc.kind == .function && sc.names.lookup n == some .cell) = true then (n, NameKind.cell) else (n, k₀)) :: (r.map _)) = some k := h
    cases hx : x == n with
    | true =>
      simp only [List.lookup_cons, hx]
      by_cases hc : (k₀ == NameKind.free && sc.kind == .function && sc.names.lookup n == some .cell) = true
      · rw [if_pos hc] at h'
        simp only [List.lookup_cons, hx] at h'
        cases h'
        simp only [Bool.and_eq_true, beq_iff_eq] at hc
        exact ⟨k₀, rfl, .inr ⟨hc.1.1, rfl⟩⟩
      · rw [if_neg hc] at h'
        simp only [List.lookup_cons, hx] at h'
        cases h'
        exact ⟨_, rfl, .inl rfl⟩
    | false =>
      simp only [List.lookup_cons, hx]
      by_cases hc : (k₀ == NameKind.free && sc.kind == .function && sc.names.lookup n == some .cell) = true
      · rw [if_pos hc] at h'
        simp only [List.lookup_cons, hx] at h'
        exact ih h'
      · rw [if_neg hc] at h'
        simp only [List.lookup_cons, hx] at h'
        exact ih h'
/-- the names of a comprehension's block: its own (with their places in N), or captured -/
structure BlkOk (N : List Str) (sc scope : Scope) (own : List (Str × Nat)) : Prop where
  kind : scope.kind = .function
  uniq : ∀ y ∈ scope.names, scope.names.lookup y.1 = some y.2
  ix : ∀ p ∈ own, N[p.2]? = some p.1
  free : ∀ y ∈ scope.names, y.2 = .free → sc.names.lookup y.1 = some .cell ∨ sc.names.lookup y.1 = some .free
  own : ∀ y ∈ scope.names, y.2 = .local ∨ y.2 = .cell → y.1 ∈ own.map (·.1) ∨ y.1 ∉ N
/-- the slots of the block's own names forgotten -/
def wipe (σ : St) : List Nat → St
  | [] => σ
  | v :: vs => (wipe σ vs).set v none
theorem wipe_length (σ : St) : ∀ vs : List Nat, (wipe σ vs).length = σ.length
  | [] => rfl
  | v :: vs => by unfold wipe; rw [List.length_set, wipe_length σ vs]
theorem wipe_some {σ : St} {i : Nat} {x : V} : ∀ {vs : List Nat}, (wipe σ vs)[i]? = some (some x) → σ[i]? = some (some x) ∧ i ∉ vs
  | [], h => ⟨h, by simp⟩
  | v :: vs, h => by
    unfold wipe at h
    by_cases hi : v = i
    · subst hi
      by_cases hv : v < (wipe σ vs).length
      · rw [List.getElem?_set_self hv] at h; cases h
      · rw [List.getElem?_eq_none (by simpa using hv)] at h; cases h
    · rw [List.getElem?_set_ne hi] at h
      obtain ⟨h1, h2⟩ := wipe_some h
      exact ⟨h1, by simp only [List.mem_cons, not_or]; exact ⟨fun e => hi e.symm, h2⟩⟩

/-- the context of a block that starts at s, its iterator's objects at fp -/
abbrev Cx.blk (X : Cx) (s : Shared) (H : Hp) (scope : Scope) (cenv : Env) (fp : List Addr) : Cx := { X with s_0 := s, H_0 := H, env := cenv, outer := X.stack, ex := fp, fn := fun x => scope.names.lookup x == some .cell, pn := [], xe := fun _ _ => False }
section
variable {X : Cx} {pins : List (Addr × Obj)} {σ : St} {H : Hp} {s : Shared}
theorem block_start {scope : Scope} {own : List (Str × Nat)} {fp : List Addr} (I : Inv X pins σ H s) (ok : BlkOk X.N X.env.scope scope own) (hN : X.N.Nodup) (hfp : ∀ b ∈ fp, FpOk X pins H b ∧ b < s.heap.objs.size) :
    Inv (X.blk s H scope (compEnvC scope (cellsFrom (s.heap.objs.size + 1) scope.names (cloFrom X.env.cells scope.names [])) s.heap.objs.size X.env) fp) [] (wipe σ (own.map (·.2))) H { s with heap := pushCells (s.heap.push { cls := .type "dict", data := .dict #[] }) scope.names } := by
  have hfree : ∀ y ∈ scope.names, y.2 = .free → ∃ c, X.env.cells.lookup y.1 = some c := fun y hy e => by
    rcases ok.free y hy e with k | k
    · exact I.ok.has _ (.inl k)
    · exact I.ok.has _ (.inr k)
  generalize hcenv : compEnvC scope (cellsFrom (s.heap.objs.size + 1) scope.names (cloFrom X.env.cells scope.names [])) s.heap.objs.size X.env = cenv
  have kp : ∀ b o, s.heap.get? b = some o → (pushCells (s.heap.push { cls := .type "dict", data := .dict #[] }) scope.names).get? b = some o := fun b o e => pushCells_keeps _ _ _ _ (Heap.get?_push_of_some _ e)
  have hL : cenv.locals = s.heap.objs.size := by rw [← hcenv]; rfl
  have hcl : cenv.cells = cellsFrom (s.heap.objs.size + 1) scope.names (cloFrom X.env.cells scope.names []) := by rw [← hcenv]; rfl
  have hsc : cenv.scope = relS scope X.env.scope := by rw [← hcenv]; rfl
  rw [← Heap.size_push s.heap { cls := .type "dict", data := .dict #[] }] at hcl
  have cm : ∀ {y c}, (y, c) ∈ cloFrom X.env.cells scope.names [] → X.env.cells.lookup y = some c ∧ c < s.heap.objs.size := fun {y c} hm => by
    rcases cloFrom_mem hm with hm | ⟨h1, rfl⟩
    · cases hm
    · obtain ⟨c, hc⟩ := hfree _ h1 rfl
      rw [hc]
      obtain ⟨w, z⟩ := I.cell _ _ hc
      exact ⟨rfl, z.lt⟩
  have mem : ∀ {y c}, cenv.cells.lookup y = some c → (X.env.cells.lookup y = some c ∧ c < s.heap.objs.size) ∨ (s.heap.objs.size + 1 ≤ c ∧ CellAt (pushCells (s.heap.push { cls := .type "dict", data := .dict #[] }) scope.names) c none) := fun {y c} e => by
    rw [hcl] at e
    rcases cells_mem (PySem.mem_of_lookup e) with hm | ⟨_, h2, h3⟩
    · exact .inl (cm hm)
    · rw [Heap.size_push] at h2; exact .inr ⟨h2, h3⟩
  have look : ∀ {y}, scope.names.lookup y = some .free → ∃ c, cenv.cells.lookup y = some c ∧ X.env.cells.lookup y = some c := fun {y} hl => by
    have hy : (y, NameKind.free) ∈ scope.names := PySem.mem_of_lookup hl
    obtain ⟨c', e'⟩ := mem_lookup (cells_acc (names := scope.names) (n := (s.heap.push { cls := .type "dict", data := .dict #[] }).objs.size) (cloFrom_has (cells := X.env.cells) (acc := []) hy))
    rw [← hcl] at e'
    refine ⟨c', e', ?_⟩
    rw [hcl] at e'
    rcases cells_mem (PySem.mem_of_lookup e') with hm | ⟨h1, _, _⟩
    · exact (cm hm).1
    · have := ok.uniq _ h1
      rw [hl] at this; cases this
  have okB : (X.blk s H scope cenv fp).Ok := by
    refine ⟨I.ok.mod, by show cenv.scope.kind = _; rw [hsc]; exact ok.kind, by show cenv.globals = _; rw [← hcenv]; exact I.ok.glob, by show cenv.builtins = _; rw [← hcenv]; exact I.ok.blt, by show s.heap.objs.size ≤ cenv.locals; rw [hL]; exact Nat.le_refl _,
      fun y z c e1 e2 => ?_, fun y hy => ?_, fun y c z e => ?_, I.ok.hd, I.ok.frames, .inl rfl, fun b hb => ⟨?_, fun y c e z => ?_⟩, I.bs, Nat.le_trans I.ok.bsz I.sz, fun b o e hb => ?_, fun b hb z => ?_, I.stack, I.stkFree⟩
    · have e1 : cenv.cells.lookup y = some c := e1
      have e2 : cenv.cells.lookup z = some c := e2
      rw [hcl] at e1 e2
      refine cells_inj (fun p hp => ?_) (fun y z c a b => I.ok.inj y z c (cm a).1 (cm b).1) (PySem.mem_of_lookup e1) (PySem.mem_of_lookup e2)
      rw [Heap.size_push]
      exact Nat.lt_succ_of_lt (cm (y := p.1) (c := p.2) hp).2
    · show ∃ c, cenv.cells.lookup y = some c
      have key : ∀ k, cenv.kindOf y = some k → (k = .cell ∨ k = .free) → ∃ c, cenv.cells.lookup y = some c := fun k hk hk' => by
        unfold Env.kindOf at hk
        rw [hsc] at hk
        obtain ⟨k', e, r⟩ := lookup_relS hk
        have : k' = .cell ∨ k' = .free := by
          rcases r with rfl | ⟨rfl, _⟩
          · exact hk'
          · exact .inr rfl
        rcases this with rfl | rfl
        · obtain ⟨c, hm⟩ := cells_has (n := (s.heap.push { cls := .type "dict", data := .dict #[] }).objs.size) (acc := cloFrom X.env.cells scope.names []) (PySem.mem_of_lookup e)
          obtain ⟨c', e'⟩ := mem_lookup hm
          exact ⟨c', by rw [hcl]; exact e'⟩
        · obtain ⟨c, h1, _⟩ := look e
          exact ⟨c, h1⟩
      rcases hy with hy | hy
      · exact key _ hy (.inl rfl)
      · exact key _ hy (.inr rfl)
    · have z : (scope.names.lookup y == some NameKind.cell) = true := z
      have z : scope.names.lookup y = some .cell := by simpa using z
      have e : cenv.cells.lookup y = some c := e
      rw [hcl] at e
      rcases cells_mem (PySem.mem_of_lookup e) with hm | ⟨_, h2, _⟩
      · rcases cloFrom_mem hm with hm | ⟨h1, _⟩
        · cases hm
        · have q := ok.uniq _ h1
          rw [z] at q; cases q
      · rw [Heap.size_push] at h2
        exact Nat.le_of_succ_le h2
    · show b ≠ cenv.locals
      rw [hL]; exact Nat.ne_of_lt (hfp b hb).2
    · have e : cenv.cells.lookup y = some c := e
      rcases mem e with ⟨h1, _⟩ | ⟨h1, _⟩
      · exact (hfp b hb).1.2.2.2.2.1 y c h1 z
      · have h2 : s.heap.objs.size + 1 ≤ b := by rw [← z]; exact h1
        exact absurd (Nat.lt_of_lt_of_le (hfp b hb).2 (Nat.le_of_succ_le h2)) (Nat.lt_irrefl _)
    · rcases (hfp b hb).1.2.2.2.1 with z | z
      · exact I.ok.noex b o e z
      · exact absurd (Nat.lt_of_lt_of_le (Heap.lt_size e) (Nat.le_trans I.ok.bsz z)) (Nat.lt_irrefl _)
    · rcases List.mem_cons.mp (I.stkSub b z) with z | z
      · exact (hfp b hb).1.2.1 z
      · exact (hfp b hb).1.2.2.1 z
  refine ⟨okB, rfl, I.bare, Un.kept kp, ⟨fun _ => none, ?_, fun i y av e1 e2 e3 => ?_⟩, fun y c e => ?_, ?_, fun y c e => ?_, fun p hp => ?_, I.hok.kept kp, by rw [wipe_length]; exact I.len⟩
  · show Heap.Ns _ cenv.locals _
    rw [hL]
    exact Heap.Ns.keeps (Heap.Ns.new ..) fun b o e => pushCells_keeps _ _ _ _ e
  · obtain ⟨e2, hne⟩ := wipe_some e2
    have hfr : scope.names.lookup y = some .free ∧ (cenv.kindOf y = some .cell ∨ cenv.kindOf y = some .free) := by
      have key : ∀ k, cenv.scope.names.lookup y = some k → k = .local ∨ k = .cell ∨ k = .free → scope.names.lookup y = some .free ∧ (cenv.kindOf y = some .cell ∨ cenv.kindOf y = some .free) := fun k hk hk' => by
        have hk0 := hk
        rw [hsc] at hk
        obtain ⟨k', e, r⟩ := lookup_relS hk
        have no : ¬ (k' = .local ∨ k' = .cell) := fun hh => by
          rcases ok.own _ (PySem.mem_of_lookup e) hh with e' | e'
          · obtain ⟨p, hp, hpy⟩ := List.mem_map.mp e'
            have e3 := ok.ix p hp
            have : p.1 = y := hpy
            rw [this] at e3
            exact hne (List.mem_map.mpr ⟨p, hp, nodup_ix hN e3 e1⟩)
          · exact e' (List.mem_of_getElem? e1)
        rcases r with rfl | ⟨rfl, rfl⟩
        · rcases hk' with rfl | rfl | rfl
          · exact absurd (.inl rfl) no
          · exact absurd (.inr rfl) no
          · exact ⟨e, .inr hk0⟩
        · exact ⟨e, .inl hk0⟩
      have e3 : Vis cenv.scope y := e3
      rcases e3 with e3 | e3 | e3
      · exact key _ e3 (.inl rfl)
      · exact key _ e3 (.inr (.inl rfl))
      · exact key _ e3 (.inr (.inr rfl))
    obtain ⟨m, hn, hl⟩ := I.loc
    have hvis : Vis X.env.scope y := (ok.free _ (PySem.mem_of_lookup hfr.1) rfl).elim (fun k => .inr (.inl k)) (fun k => .inr (.inr k))
    obtain ⟨w, r, q⟩ := hl i y av e1 e2 hvis
    refine ⟨w, r, .inr ⟨hfr.2, ?_⟩⟩
    obtain ⟨c, h1, h2⟩ := look hfr.1
    rcases q with ⟨k, _⟩ | ⟨_, c', e', z⟩
    · have k : X.env.scope.names.lookup y = some .local := k
      rcases ok.free _ (PySem.mem_of_lookup hfr.1) rfl with k' | k' <;> rw [show X.env.scope.names.lookup y = _ from k'] at k <;> cases k
    · rw [h2] at e'; cases e'
      exact ⟨c, h1, z.keeps kp⟩
  · have e : cenv.cells.lookup y = some c := e
    rcases mem e with ⟨h1, _⟩ | ⟨_, z⟩
    · obtain ⟨w, z⟩ := I.cell y c h1
      exact ⟨w, z.keeps kp⟩
    · exact ⟨_, z⟩
  · show H cenv.locals = none
    rw [hL]; exact I.hok.fresh (Nat.le_refl _)
  · have e : cenv.cells.lookup y = some c := e
    rcases mem e with ⟨h1, _⟩ | ⟨h1, _⟩
    · exact I.freeC y c h1
    · exact I.hok.fresh (Nat.le_of_succ_le h1)
  · exact absurd (show p ∈ ([] : List (Addr × Obj)) ++ [] from hp) (by simp)

/-- an item appended to a tracked list -/
theorem app_ok {E : Value → Shared → Prop} {D : Addr} {xs : List V} {y : V} {v : Value} {Q : Value → Shared → Prop} (I : Inv X pins σ H s) (hD : H D = some (.lst xs)) (hz : xs.length < sizeLine) (r : RelV y v)
    (h : ∀ s', Inv X pins σ (upd H D (.lst (xs ++ [y]))) s' → Q .none s') : wpAny (model X.prog X.w) X.A (call (.builtin "list.append") [.ref D, v]) Q E s := by
  obtain ⟨hz', its, n, ri, e⟩ := I.hok D _ hD
  have hl := ri.length
  refine append_at (hsz := by rw [List.size_toArray]; omega) e fun h' sb ho' => ?_
  refine h { s with heap := h' } (I.write (t' := s.toks) (by rw [hD]; trivial) (.inl rfl) (fun b u hb q => (sb.2 b hb).trans q) ⟨_, ho'⟩ ⟨by rw [List.length_append]; exact hz, its ++ [v], n + 1, ri.append (.cons r .nil), ?_⟩)
  rw [ho']
  simp

/-- a clause's tests -/
def PTs (X : Cx) (ifs : List Expr) (t : TT) : Prop :=
  ∀ (pins : List (Addr × Obj)) (s : Shared) (σ : St) (H : Hp) (Q : Bool → Hp → Prop), Inv X pins σ H s → t σ H Q →
    wpAny (model X.prog X.w) X.A (forIn ifs true fun c r => if r = true then do let ok ← isTrue c X.env (eval c X.env); pure (ForInStep.yield ok) else pure (ForInStep.yield r)) (TP X pins σ Q) X.xe s
def tYes : TT := fun _ H Q => Q true H
theorem pts_nil : PTs X [] tYes := fun _ _ _ H _ I h => wpAny_tests_nil ⟨H, I, h⟩
theorem pts_one {c : Expr} {t : TT} (h : PT X c t) : PTs X [c] t := fun pins s σ H Q I hw => wpAny_tests_one (h pins s σ H Q I hw)
end

theorem thnF {α : Type} {t : Sem α} {Q Q' : α → Shared → Prop} {M : Model} {A : Around} {E : Value → Shared → Prop} {s : Shared} (h : wpAny M A t Q (fun _ _ => False) s) (hQ : ∀ a s, Q a s → Q' a s) : wpAny M A t Q' E s := wpAny_mono h hQ fun _ _ z => False.elim z

/-- the loop of a list comprehension's block, the target of any form (codeAny_compLoop_tests asks a target that no tuple goes to; statement and proof follow it, PyProof/CompMap.lean:41-61, with the step letOwnedTupleGo kept) -/
theorem compLoop_any {prog : Program} {w : World} {A : Around} {R : Result → Shared → Prop} {s : Shared} {elt target iter : Expr} {ifs : List Expr} {scope : Scope} {pos : Pos} {it acc : Value} {env : Env} (I : Nat → Shared → Prop)
    (turn : ∀ n s, I n s → wpAny (model prog w) A (pyNext it) (fun r s₁ => match r with
      | none => R (.ok .next) s₁
      | some v => wpAny (model prog w) A (letOwnedTupleGo target it v) (fun _ s₁' => wpAny (model prog w) A (assign target env v) (fun _ s₂ =>
          wpAny (model prog w) A (forIn ifs true fun c r => if r = true then do let ok ← isTrue c env (eval c env); pure (ForInStep.yield ok) else pure (ForInStep.yield r)) (fun ok s₃ =>
            if ok = true then wpAny (model prog w) A (eval elt env) (fun x s₄ =>
              wpAny (model prog w) A (call (.builtin "list.append") [acc, x]) (fun _ s₅ => ∃ m, m < n ∧ I m s₅) (notedBy (model prog w) A env fun e s' => R (.error e) s') s₄) (notedBy (model prog w) A env fun e s' => R (.error e) s') s₃
            else ∃ m, m < n ∧ I m s₃) (notedBy (model prog w) A env fun e s' => R (.error e) s') s₂) (notedBy (model prog w) A env fun e s' => R (.error e) s') s₁') (notedBy (model prog w) A env fun e s' => R (.error e) s') s₁) (notedBy (model prog w) A env fun e s' => R (.error e) s') s)
    (n : Nat) (h : I n s) :
    codeAny (model prog w) A (.compLoop (.ListComp elt [⟨target, iter, ifs, 0⟩] scope pos) 0 it acc env) R s := by
  refine codeAny_loop rfl I (fun n s hI => ?_) n h
  show wpAny _ A ((compTurn (.ListComp elt [⟨target, iter, ifs, 0⟩] scope pos) 0 it acc env).onRaise (fun x => do noteFrame x env; theTreesLotGoes x)) _ _ s
  refine wpAny_noted ?_
  rw [compTurn_list]
  refine wpAny_bind (wpAny_standAt (wpAny_bind (wpAny_mono (turn n s hI) (fun r s₁ h₁ => ?_) fun _ _ h' => h')))
  cases r with
  | none => exact wpAny_pure h₁
  | some v =>
    refine wpAny_bind (wpAny_mono h₁ (fun _ s₁' h₁' => ?_) fun _ _ h' => h')
    refine wpAny_bind (wpAny_mono h₁' (fun _ s₂ h₂ => wpAny_bind (wpAny_mono h₂ (fun ok s₃ h₃ => ?_) fun _ _ h' => h')) fun _ _ h' => h')
    cases ok with
    | false => exact wpAny_pure ⟨rfl, h₃⟩
    | true =>
      exact wpAny_bind (wpAny_bind (wpAny_mono h₃ (fun x s₄ h₄ => wpAny_bind (wpAny_mono h₄ (fun _ s₅ h₅ => wpAny_pure (wpAny_pure ⟨rfl, h₅⟩)) fun _ _ h' => h')) fun _ _ h' => h'))

section
variable {X : Cx}
/-- [elt for target in iter if ..]: D the new list; W by the turn and a measure, Nx what a turn is to reach -/
def tLc (wi : TI) (g : TG) (tt : TT) (te : TE) (vs : List Nat) : TE := fun σ H Q => wi σ H fun J H1 => ∀ D, H1 D = none → ∃ W : Nat → Nat → Hp → Prop, (∃ m, W 0 m (upd H1 D (.lst []))) ∧ ∀ i m H, W i m H →
  (J.stop i H ∧ Q (.ref D) H) ∨ (J.go i H ∧ ∃ Nx : Hp → Prop, (∀ H', Nx H' → ∃ m', m' < m ∧ W (i + 1) m' H') ∧ ∀ x H', J.yld i H x H' → g x (wipe σ vs) H' fun σ2 H2 => wipe σ2 vs = wipe σ vs ∧ tt σ2 H2 fun b H3 =>
    if b = true then te σ2 H3 fun y H4 => ∃ acc, H4 D = some (.lst acc) ∧ acc.length < sizeLine ∧ Nx (upd H4 D (.lst (acc ++ [y]))) else Nx H3)
theorem lc_core {pins : List (Addr × Obj)} {s : Shared} {σ : St} {H : Hp} {Q : VK} {elt tg iter : Expr} {ifs : List Expr} {scope : Scope} {own : List (Str × Nat)} {pos pos' : Pos} {wi : TI} {g : TG} {tt : TT} {te : TE} {use : Option (Value → Sem Unit)} {Qf : Value → Shared → Prop}
    (hc : X.calm = true) (hN : X.N.Nodup) (I : Inv X pins σ H s) (hi : PI X tg iter wi) (ok : BlkOk X.N X.env.scope scope own)
    (hg : ∀ (s : Shared) (H : Hp) (C : Addr) (cl : List (Str × Addr)) (fp : List Addr), PG (X.blk s H scope (compEnvC scope cl C X.env) fp) tg g) (ht : ∀ (s : Shared) (H : Hp) (C : Addr) (cl : List (Str × Addr)) (fp : List Addr), PTs (X.blk s H scope (compEnvC scope cl C X.env) fp) ifs tt)
    (he : ∀ (s : Shared) (H : Hp) (C : Addr) (cl : List (Str × Addr)) (fp : List Addr), PE (X.blk s H scope (compEnvC scope cl C X.env) fp) elt te) (hs : ∀ x, foldedSetIterable iter X.env x = pure x)
    (h : tLc wi g tt te (own.map (·.2)) σ H Q)
    (hRR : ∀ D C s' m H', Inv X pins σ H' s' → Q (.ref D) H' → s'.heap.Ns C m → FpOk X pins H' C → compPost (model X.prog X.w) X.A X.xe use Qf (.ref D) C (.ok .next) s') :
    wpAny (model X.prog X.w) X.A (comprehension (.ListComp elt [⟨tg, iter, ifs, 0⟩] scope pos) scope X.env pos' (newList []) false (eval iter X.env) use) Qf X.xe s := by
  have hfree : ∀ y ∈ scope.names, y.2 = .free → ∃ c, X.env.cells.lookup y.1 = some c := fun y hy e => by
    rcases ok.free y hy e with k | k
    · exact I.ok.has _ (.inl k)
    · exact I.ok.has _ (.inr k)
  refine wpAny_comprehension_free (use := use) rfl hs (closure_ok hfree) ok.kind (fun y hy e => by rw [ok.uniq y hy, e])
    (thn (hi pins s σ H _ I h) fun xv s1 hx => thn hx fun itv s2 h2 => ?_)
  obtain ⟨it, fp, tn, J, H2, e, I2, T, st2, f2, q⟩ := h2
  subst e
  refine wpAny_newObj_type (newEnv_comp ?_) (by show 0 ≤ sizeLine; decide)
  generalize hD : s2.heap.objs.size = D
  have hDn : H2 D = none := I2.hok.fresh (Nat.le_of_eq hD)
  obtain ⟨W, ⟨m0, w0⟩, turn⟩ := q D hDn
  -- the new list
  generalize hs3 : ({ s2 with heap := s2.heap.push { cls := .type "list", data := .seq ([] : List Value).toArray } } : Shared) = s3
  have I3 : Inv X pins σ (upd H2 D (.lst [])) s3 := by
    rw [← hs3]
    refine I2.laid (t' := s2.toks) (fun b o e => Heap.get?_push_of_some _ e) (Nat.le_of_eq hD) ⟨Nat.zero_le _, [], 0, .nil, ?_⟩
    rw [← hD]
    exact Heap.get?_push_size _ rfl
  have h3 : s3.heap = s2.heap.push { cls := .type "list", data := .seq ([] : List Value).toArray } := by rw [← hs3]
  have sz : ∀ b ∈ fp, b < s2.heap.objs.size := fun b hb => by
    obtain ⟨o, e, _⟩ := T.obj _ _ st2 b hb
    exact Heap.lt_size e
  have f3 : ∀ b ∈ fp, FpOk X pins (upd H2 D (.lst [])) b ∧ b < s3.heap.objs.size := fun b hb => by
    have hlt := sz b hb
    refine ⟨⟨?_, (f2 b hb).2⟩, by rw [h3, Heap.size_push]; exact Nat.lt_succ_of_lt hlt⟩
    rw [upd_ne (by rw [← hD]; exact Nat.ne_of_lt hlt)]
    exact (f2 b hb).1
  have st3 : tn 0 s3.heap := T.keep _ _ _ st2 fun b _ o e => by rw [h3]; exact Heap.get?_push_of_some _ e
  have I4 := block_start I3 ok hN f3
  have pg := hg s3 (upd H2 D (.lst [])) s3.heap.objs.size (cellsFrom (s3.heap.objs.size + 1) scope.names (cloFrom X.env.cells scope.names [])) fp
  have pt := ht s3 (upd H2 D (.lst [])) s3.heap.objs.size (cellsFrom (s3.heap.objs.size + 1) scope.names (cloFrom X.env.cells scope.names [])) fp
  have pe := he s3 (upd H2 D (.lst [])) s3.heap.objs.size (cellsFrom (s3.heap.objs.size + 1) scope.names (cloFrom X.env.cells scope.names [])) fp
  show codeAny _ _ (.compStart (.ListComp elt [⟨tg, iter, ifs, 0⟩] scope pos) 0 (.ref it) (.ref D) (compEnvC scope (cellsFrom (s3.heap.objs.size + 1) scope.names (cloFrom X.env.cells scope.names [])) s3.heap.objs.size X.env)) (compPost (model X.prog X.w) X.A X.xe use Qf (.ref D) s3.heap.objs.size) { s3 with heap := pushCells (s3.heap.push { cls := .type "dict", data := .dict #[] }) scope.names }
  have nfp : ∀ b ∈ fp, (upd H2 D (.lst [])) b = none := fun b hb => (f3 b hb).1.1
  generalize hce : compEnvC scope (cellsFrom (s3.heap.objs.size + 1) scope.names (cloFrom X.env.cells scope.names [])) s3.heap.objs.size X.env = ce at I4 pg pt pe ⊢
  have cL : ce.locals = s3.heap.objs.size := by subst hce; rfl
  generalize hH3 : upd H2 D (.lst []) = H3 at I3 I4 pg pt pe w0 nfp f3
  generalize hs4 : ({ s3 with heap := pushCells (s3.heap.push { cls := .type "dict", data := .dict #[] }) scope.names } : Shared) = s4 at I4 ⊢
  have st4 : tn 0 s4.heap := T.keep _ _ _ st3 fun b _ o e => by rw [← hs4]; exact pushCells_keeps _ _ _ _ (Heap.get?_push_of_some _ e)
  have stat : ∀ {σ' : St} {H' : Hp} {s' : Shared}, Inv (X.blk s3 H3 scope ce fp) [] σ' H' s' → (∀ b ∈ fp, H' b = none) → ∀ b ∈ fp, FpOk (X.blk s3 H3 scope ce fp) [] H' b := fun {σ' H' s'} I' hn b hb =>
    ⟨hn b hb, (I'.ok.exf b hb).1, I'.ok.exfs b hb, .inl hb, fun x c e => (I'.ok.exf b hb).2 x c e, fun p hp => absurd (show p ∈ ([] : List (Addr × Obj)) ++ [] from hp) (by simp)⟩
  have loop : codeAny (model X.prog X.w) X.A (.compLoop (.ListComp elt [⟨tg, iter, ifs, 0⟩] scope pos) 0 (.ref it) (.ref D) ce) (compPost (model X.prog X.w) X.A X.xe use Qf (.ref D) s3.heap.objs.size) s4 := by
    refine compLoop_any (fun n s' => ∃ i H', Inv (X.blk s3 H3 scope ce fp) [] (wipe σ (own.map (·.2))) H' s' ∧ tn i s'.heap ∧ (∀ b ∈ fp, H' b = none) ∧ W i n H') ?_ m0 ⟨0, H3, I4, st4, nfp, w0⟩
    rintro n s5 ⟨i, H5, I5, st5, n5, w5⟩
    rcases turn i n H5 w5 with ⟨stop, qq⟩ | ⟨go, Nx, hNx, step⟩
    · have td := T.done (X.blk s3 H3 scope ce fp) rfl rfl rfl hc i [] s5 _ H5 (fun _ _ => False) I5 (stat I5 n5) st5 stop
      refine thnF td fun r s6 ⟨hr, I6⟩ => ?_
      subst hr
      -- back in the def's context
      have I7 : Inv X pins σ H5 s6 := I3.call' (ch := fp) I6.os I6.base I6.hok I6.bare fun b hb => ⟨(f3 b hb).1.2.2.2.1, (f3 b hb).1.2.1, (f3 b hb).1.2.2.2.2.1, (f3 b hb).1.2.2.2.2.2⟩
      have nC : H5 s3.heap.objs.size = none := by
        have z : H5 ce.locals = none := I6.free
        rw [cL] at z
        exact z
      obtain ⟨m, hn, _⟩ := I6.loc
      have hn : s6.heap.Ns ce.locals m := hn
      rw [cL] at hn
      exact hRR D s3.heap.objs.size s6 m H5 I7 qq hn (I3.fpOk (Nat.le_refl _) nC)
    · have ti := T.item (X.blk s3 H3 scope ce fp) rfl rfl rfl hc i [] s5 _ H5 (fun _ _ => False) I5 (stat I5 n5) st5 go
      refine thnF ti fun r s6 ⟨u, hr, h6⟩ => ?_
      subst hr
      refine thnF h6 fun _ s7 ⟨x, H7, I7, r7, y7, st7, n7⟩ => ?_
      have I7' := I7.pinned (stat I7 n7) (T.obj _ _ st7)
      refine thnF (pg _ s7 _ H7 x u _ I7' r7 (step x H7 y7)) fun _ s8 ⟨σ8, H8, I8, hw8, q8⟩ => ?_
      refine thnF (pt _ s8 σ8 H8 _ I8 q8) fun b s9 ⟨H9, I9, q9⟩ => ?_
      -- the turn's end
      have fin : ∀ {s' : Shared} {H' : Hp}, Inv (X.blk s3 H3 scope ce fp) ([] ++ pinsAt fp s7.heap) σ8 H' s' → Nx H' → ∃ m, m < n ∧ ∃ i H', Inv (X.blk s3 H3 scope ce fp) [] (wipe σ (own.map (·.2))) H' s' ∧ tn i s'.heap ∧ (∀ b ∈ fp, H' b = none) ∧ W i m H' := fun {s' H'} I' nx => by
        obtain ⟨m', hm, w'⟩ := hNx H' nx
        have pin' : ∀ b ∈ fp, ∀ o, s7.heap.get? b = some o → s'.heap.get? b = some o ∧ H' b = none := fun b hb o e =>
          let z := I'.pin (b, o) (List.mem_append_right _ (List.mem_append_right _ (mem_pinsAt hb e)))
          ⟨z.1, z.2.1⟩
        have hl : (wipe σ (own.map (·.2))).length = σ8.length := by rw [← hw8, wipe_length]
        refine ⟨m', hm, i + 1, H', (I'.unpinned (pins := [])).weak hl (fun j v e => ?_), T.keep _ _ _ st7 fun b hb o e => (pin' b hb o e).1, fun b hb => ?_, w'⟩
        · rw [← hw8] at e
          exact (wipe_some e).1
        · obtain ⟨o, e, _⟩ := T.obj _ _ st7 b hb
          exact (pin' b hb o e).2
      cases b with
      | false =>
        simp only [Bool.false_eq_true, if_false] at q9 ⊢
        exact fin I9 q9
      | true =>
        simp only [if_true] at q9 ⊢
        refine thnF (pe _ s9 σ8 H9 _ I9 q9) fun z s10 ⟨yv, H10, I10, r10, acc, hD10, hz10, nx⟩ => ?_
        exact app_ok (X := X.blk s3 H3 scope ce fp) I10 hD10 hz10 r10 fun s11 I11 => fin I11 nx
  exact codeAny_compStart_list loop (T.self X.A 0 _ _ _ st4 loop)
/-- as a value -/
theorem pe_lc {elt tg iter : Expr} {ifs : List Expr} {scope : Scope} {own : List (Str × Nat)} {pos : Pos} {wi : TI} {g : TG} {tt : TT} {te : TE} (hc : X.calm = true) (hN : X.N.Nodup) (hi : PI X tg iter wi) (ok : BlkOk X.N X.env.scope scope own)
    (hg : ∀ (s : Shared) (H : Hp) (C : Addr) (cl : List (Str × Addr)) (fp : List Addr), PG (X.blk s H scope (compEnvC scope cl C X.env) fp) tg g) (ht : ∀ (s : Shared) (H : Hp) (C : Addr) (cl : List (Str × Addr)) (fp : List Addr), PTs (X.blk s H scope (compEnvC scope cl C X.env) fp) ifs tt)
    (he : ∀ (s : Shared) (H : Hp) (C : Addr) (cl : List (Str × Addr)) (fp : List Addr), PE (X.blk s H scope (compEnvC scope cl C X.env) fp) elt te) (hs : ∀ x, foldedSetIterable iter X.env x = pure x := by intro _; rfl) :
    PE X (.ListComp elt [⟨tg, iter, ifs, 0⟩] scope pos) (tLc wi g tt te (own.map (·.2))) := by
  intro pins s σ H Q I h
  rw [eval_ListComp]
  refine lc_core hc hN I hi ok hg ht he hs h fun D C s' m H' I' q hn f => ⟨m, hn, fun h'' sb => ?_⟩
  obtain ⟨f0, f1, f2, f3, f4, f5⟩ := f
  exact ⟨.ref D, H', I'.turned (t' := s'.toks) (fun b o hb e => (sb.2 b hb).trans e) f0 f1 f3 f4 f5, rfl, q⟩
/-- name = [..] on one line, the name a local -/
theorem ps_setLc {i : Nat} {y : Str} {py : Pos} {elt tg iter : Expr} {ifs : List Expr} {scope : Scope} {own : List (Str × Nat)} {pos spos : Pos} {wi : TI} {g : TG} {tt : TT} {te : TE} (hc : X.calm = true) (hN : X.N.Nodup) (hy : X.N[i]? = some y) (hyl : X.env.scope.names.lookup y = some .local)
    (hsw : swapsWith (.ListComp elt [⟨tg, iter, ifs, 0⟩] scope pos) (some (.Name y py)) spos.line X.env = pure true) (hi : PI X tg iter wi) (ok : BlkOk X.N X.env.scope scope own)
    (hg : ∀ (s : Shared) (H : Hp) (C : Addr) (cl : List (Str × Addr)) (fp : List Addr), PG (X.blk s H scope (compEnvC scope cl C X.env) fp) tg g) (ht : ∀ (s : Shared) (H : Hp) (C : Addr) (cl : List (Str × Addr)) (fp : List Addr), PTs (X.blk s H scope (compEnvC scope cl C X.env) fp) ifs tt)
    (he : ∀ (s : Shared) (H : Hp) (C : Addr) (cl : List (Str × Addr)) (fp : List Addr), PE (X.blk s H scope (compEnvC scope cl C X.env) fp) elt te) (hs : ∀ x, foldedSetIterable iter X.env x = pure x := by intro _; rfl) :
    PS X (.Assign [.Name y py] (.ListComp elt [⟨tg, iter, ifs, 0⟩] scope pos) spos) (tAsg (tLc wi g tt te (own.map (·.2))) (gName i)) := by
  intro pins s σ H D I h
  rw [exec_Assign_Name_used _ _ _ _ hsw]
  refine wpAny_bind (wpAny_standAt (wpAny_bind ?_))
  show wpAny _ X.A (do let _ ← comprehension (.ListComp elt [⟨tg, iter, ifs, 0⟩] scope pos) scope X.env (firstIterPos [⟨tg, iter, ifs, 0⟩] pos) (newList []) false (eval iter X.env) (some (assign (.Name y py) X.env))) _ _ s
  have h : tLc wi g tt te (own.map (·.2)) σ H (fun x H1 => gName i x σ H1 D.nx) := h
  refine wpAny_bind (thn (lc_core (Qf := fun _ s' => SP X pins D .next s') hc hN I hi ok hg ht he hs h fun L C s' m H' I' q hn f => ?_) fun _ s' hq => wpAny_pure (wpAny_pure hq))
  show wpAny _ _ (assign (.Name y py) X.env (.ref L)) _ _ _
  refine wpAny_assign_Name (store_ok2 (v := V.ref L) I' hN hy (.inl hyl) rfl (fun s2 I2 ⟨a, sb, ha⟩ => ?_) (.inr hyl))
  obtain ⟨f0, f1, f2, f3, f4, f5⟩ := f
  have haC : C ≠ a := by
    rcases ha with z | z
    · rw [z]; exact f1
    · exact fun e => f4 y a z e.symm
  refine ⟨m, hn.sameBut sb haC, fun h3 sb3 => ?_⟩
  exact ⟨_, H', I2.turned (t' := s2.toks) (fun b o hb e => (sb3.2 b hb).trans e) f0 f1 f3 f4 f5, q⟩
end

/-! ### the forms one uses -/
def blkC (N : List Str) (sc scope : Scope) (own : List (Str × Nat)) : Bool :=
  (match scope.kind with | .function => true | _ => false) && (scope.names.all fun y => decide (scope.names.lookup y.1 = some y.2)) && (own.all fun p => decide (N[p.2]? = some p.1)) &&
    (scope.names.all fun y => match y.2 with
      | .free => (match sc.names.lookup y.1 with | some .cell => true | some .free => true | _ => false)
      | .local => decide (y.1 ∈ own.map (·.1)) || decide (y.1 ∉ N)
      | .cell => decide (y.1 ∈ own.map (·.1)) || decide (y.1 ∉ N)
      | _ => true)
theorem blkOk_by {N : List Str} {sc scope : Scope} {own : List (Str × Nat)} (h : blkC N sc scope own = true) : BlkOk N sc scope own := by
  unfold blkC at h
  simp only [Bool.and_eq_true, List.all_eq_true, decide_eq_true_eq] at h
  obtain ⟨⟨⟨h1, h2⟩, h3⟩, h4⟩ := h
  refine ⟨?_, h2, h3, fun y hy e => ?_, fun y hy e => ?_⟩
  · split at h1
    · assumption
    · cases h1
  · have q := h4 y hy
    simp only [e] at q
    split at q <;> first | exact .inl (by assumption) | exact .inr (by assumption) | cases q
  · have q := h4 y hy
    rcases e with e | e <;> (simp only [e, Bool.or_eq_true, decide_eq_true_eq] at q; exact q)
end L2

namespace L2
open PySem PySem.Spec PyProof.Rows

section
variable {prog : Program} {w : World} {A : Around} {R : Result → Shared → Prop} {s : Shared} {elt t0 i0 t1 i1 : Expr} {ifs0 ifs1 : List Expr} {scope : Scope} {pos : Pos} {it acc : Value} {env : Env}
end

section
variable {X : Cx}
end
end L2

namespace L2
open PySem PySem.Spec PyProof.Rows

/-! ### lists of pairs as tables -/
section
variable {κ : Type} [DecidableEq κ]
def valV (kvs : List (κ × V)) (k : κ) : Option V := (kvs.find? fun kv => decide (kv.1 = k)).map (·.2)
/-- in its place, or at the end -/
def putK (kvs : List (κ × V)) (k : κ) (v : V) : List (κ × V) :=
  if (kvs.any fun kv => decide (kv.1 = k)) = true then kvs.map (fun kv => if kv.1 = k then (kv.1, v) else kv) else kvs ++ [(k, v)]
def dropK (kvs : List (κ × V)) (k : κ) : List (κ × V) := kvs.filter fun kv => decide (kv.1 ≠ k)

theorem valV_pos {p : κ × V} {r : List (κ × V)} {k : κ} (e : p.1 = k) : valV (p :: r) k = some p.2 := by simp [valV, List.find?_cons, e]
theorem valV_neg {p : κ × V} {r : List (κ × V)} {k : κ} (e : ¬ p.1 = k) : valV (p :: r) k = valV r k := by simp [valV, List.find?_cons, e]
theorem valV_any (k : κ) : ∀ kvs : List (κ × V), (kvs.any fun kv => decide (kv.1 = k)) = (valV kvs k).isSome
  | [] => rfl
  | p :: r => by
    rw [List.any_cons]
    by_cases e : p.1 = k
    · simp only [valV_pos e, decide_eq_true e, Bool.true_or, Option.isSome_some]
    · rw [valV_neg e, decide_eq_false e, Bool.false_or]; exact valV_any k r
theorem RelO.isSome_eq {o : Option V} {u : Option Value} (r : RelO o u) : o.isSome = u.isSome := by
  cases o with
  | none => cases u with
    | none => rfl
    | some _ => exact (show False from r).elim
  | some _ => cases u with
    | none => exact (show False from r).elim
    | some _ => rfl
theorem RelO.getD {o : Option V} {u : Option Value} {d : V} {d' : Value} (r : RelO o u) (rd : RelV d d') : RelV (o.getD d) (u.getD d') := by
  cases o with
  | none => cases u with
    | none => exact rd
    | some _ => exact (show False from r).elim
  | some _ => cases u with
    | none => exact (show False from r).elim
    | some _ => exact r

/-- raw tables of the same keys -/
theorem KV.val {kvs : List (κ × V)} {vs : List (κ × Value)} (r : KV kvs vs) (k : κ) : RelO (valV kvs k) (valueAt vs k) := by
  unfold KV at r
  induction r with
  | nil => exact True.intro
  | @cons p q ps qs h t ih =>
    obtain ⟨h1, h2⟩ := h
    by_cases e : p.1 = k
    · have e' : q.1 = k := h1.symm.trans e
      have b : valueAt (q :: qs) k = some q.2 := by simp [valueAt, List.find?_cons, e']
      rw [valV_pos e, b]; exact h2
    · have e' : ¬ q.1 = k := fun z => e (h1.trans z)
      have b : valueAt (q :: qs) k = valueAt qs k := by simp [valueAt, List.find?_cons, e']
      rw [valV_neg e, b]; exact ih
theorem KV.any {kvs : List (κ × V)} {vs : List (κ × Value)} (r : KV kvs vs) (k : κ) : (kvs.any fun kv => decide (kv.1 = k)) = vs.any fun kv => decide (kv.1 = k) := by
  unfold KV at r
  induction r with
  | nil => rfl
  | cons h t ih => rw [List.any_cons, List.any_cons, ih, h.1]
theorem KV.repl {kvs : List (κ × V)} {vs : List (κ × Value)} (r : KV kvs vs) (k : κ) {y : V} {u : Value} (ry : RelV y u) :
    KV (kvs.map fun kv => if kv.1 = k then (kv.1, y) else kv) (vs.map fun kv => if kv.1 = k then (kv.1, u) else kv) := by
  unfold KV at r ⊢
  induction r with
  | nil => exact .nil
  | @cons p q ps qs h t ih =>
    rw [List.map_cons, List.map_cons]
    refine .cons ?_ ih
    obtain ⟨h1, h2⟩ := h
    by_cases e : p.1 = k
    · rw [if_pos e, if_pos (h1.symm.trans e)]; exact ⟨h1, ry⟩
    · rw [if_neg e, if_neg (fun z => e (h1.trans z))]; exact ⟨h1, h2⟩
theorem KV.put {kvs : List (κ × V)} {vs : List (κ × Value)} (r : KV kvs vs) (k : κ) {y : V} {u : Value} (ry : RelV y u) : KV (putK kvs k y) (stored vs k u) := by
  unfold putK stored
  rw [r.any k]
  by_cases e : (vs.any fun kv => decide (kv.1 = k)) = true
  · rw [if_pos e, if_pos e]; exact r.repl k ry
  · rw [if_neg e, if_neg e]; exact Paired.snoc r ⟨rfl, ry⟩
theorem KV.drop {kvs : List (κ × V)} {vs : List (κ × Value)} (r : KV kvs vs) (k : κ) : KV (dropK kvs k) (without vs k) := by
  unfold KV at r ⊢
  unfold dropK without
  induction r with
  | nil => exact .nil
  | @cons p q ps qs h t ih =>
    obtain ⟨h1, h2⟩ := h
    rw [List.filter_cons, List.filter_cons]
    by_cases e : p.1 = k
    · have a : ¬ decide (p.1 ≠ k) = true := by simp [e]
      have b : ¬ decide (q.1 ≠ k) = true := by simp [h1.symm.trans e]
      rw [if_neg a, if_neg b]; exact ih
    · have e' : ¬ q.1 = k := fun z => e (h1.trans z)
      have a : decide (p.1 ≠ k) = true := by simp [e]
      have b : decide (q.1 ≠ k) = true := by simp [e']
      rw [if_pos a, if_pos b]; exact .cons ⟨h1, h2⟩ ih
theorem KV.keys {kvs : List (κ × V)} {vs : List (κ × Value)} (r : KV kvs vs) : kvs.map (·.1) = vs.map (·.1) := by
  unfold KV at r
  induction r with
  | nil => rfl
  | cons h t ih => rw [List.map_cons, List.map_cons, ih, h.1]
theorem KV.length {kvs : List (κ × V)} {vs : List (κ × Value)} (r : KV kvs vs) : kvs.length = vs.length := Paired.length r
end


/-! ### a tracked dict, its keys ints and texts or tuples of these -/
theorem kV_is {P : Program} {w : World} {k : Key} {u : Value} (r : RelV (kV k) u) : (mixKind P w).is k u = true := by
  cases k with
  | inl i => obtain ⟨t, e⟩ := (show ∃ t, u = Value.int i t from r); subst e; exact mixKind_int P w i t
  | inr x => obtain ⟨t, e⟩ := (show ∃ t, u = Value.str x t from r); subst e; exact mixKind_str P w x t
theorem items_are {P : Program} {w : World} : ∀ {ks : List Key} {us : List Value}, Vals (ks.map kV) us → ItemsAre (mixKind P w) ks us
  | [], _, r => by rw [List.map_nil] at r; cases r; exact .nil
  | k :: ks, _, r => by
    rw [List.map_cons] at r
    cases r with
    | cons h t => exact .cons (kV_is h) (items_are t)

/-- raw entries of a dict with tuple keys -/
abbrev KT (H : Hp) : List (List Key × V) → List (List Key × Addr × Value) → Prop := Paired fun p q => p.1 = q.1 ∧ H q.2.1 = some (.tup (p.1.map kV)) ∧ RelV p.2 q.2.2
theorem KT.val {H : Hp} {kvs : List (List Key × V)} {xs : List (List Key × Addr × Value)} (r : KT H kvs xs) (k : List Key) : RelO (valV kvs k) ((atKey xs k).map (·.2)) := by
  induction r with
  | nil => exact True.intro
  | @cons p q ps qs h t ih =>
    obtain ⟨h1, _, h2⟩ := h
    by_cases e : p.1 = k
    · have e' : q.1 = k := h1.symm.trans e
      have b : atKey (q :: qs) k = some q.2 := by simp [atKey, List.find?_cons, e']
      rw [valV_pos e, b]; exact h2
    · have e' : ¬ q.1 = k := fun z => e (h1.trans z)
      have b : atKey (q :: qs) k = atKey qs k := by simp [atKey, List.find?_cons, e']
      rw [valV_neg e, b]; exact ih
theorem KT.repl {H : Hp} {kvs : List (List Key × V)} {xs : List (List Key × Addr × Value)} (r : KT H kvs xs) (k : List Key) {y : V} {u : Value} (ry : RelV y u) :
    KT H (kvs.map fun kv => if kv.1 = k then (kv.1, y) else kv) (xs.map (putAt k u)) := by
  induction r with
  | nil => exact .nil
  | @cons p q ps qs h t ih =>
    rw [List.map_cons, List.map_cons]
    refine .cons ?_ ih
    obtain ⟨h1, h2, h3⟩ := h
    unfold putAt
    by_cases e : p.1 = k
    · rw [if_pos e, if_pos (h1.symm.trans e)]; exact ⟨h1, h2, ry⟩
    · rw [if_neg e, if_neg (fun z => e (h1.trans z))]; exact ⟨h1, h2, h3⟩
theorem KT.put {H : Hp} {kvs : List (List Key × V)} {xs : List (List Key × Addr × Value)} (r : KT H kvs xs) (k : List Key) {b : Addr} {y : V} {u : Value} (hb : H b = some (.tup (k.map kV))) (ry : RelV y u) :
    KT H (putK kvs k y) (storedH xs k b u) := by
  have e : (kvs.any fun kv => decide (kv.1 = k)) = (atKey xs k).isSome := by
    rw [valV_any, (r.val k).isSome_eq, Option.isSome_map]
  unfold putK storedH
  rw [e]
  by_cases q : (atKey xs k).isSome = true
  · rw [if_pos q, if_pos q]; exact r.repl k ry
  · rw [if_neg q, if_neg q]; exact Paired.snoc r ⟨rfl, hb, ry⟩
theorem KT.keeps {H H' : Hp} {kvs : List (List Key × V)} {xs : List (List Key × Addr × Value)} (r : KT H kvs xs) (ht : ∀ b ys, H b = some (.tup ys) → H' b = some (.tup ys)) : KT H' kvs xs :=
  Paired.mapP r fun _ _ z => ⟨z.1, ht _ _ z.2.1, z.2.2⟩

section
variable {P : Program} {w : World} {H : Hp} {h : Heap} {a : Addr}
theorem rd_of {u : HO} (ok : HOk P w H h) (e : Rd H a u) : ObjOk P w H h a u := e.ok ok
theorem dk_rd {kvs : List (Key × V)} (ok : HOk P w H h) (e : Rd H a (.dK kvs)) : kvs.length ≤ sizeLine ∧ (a == sysModules) = false ∧ ∃ vs, KV kvs vs ∧ h.DictOf (mixKind P w) a vs :=
  show ObjOk P w H h a (.dK kvs) from rd_of ok e
/-- a tracked tuple of ints and texts is a key -/
theorem key_of {ks : List Key} (ok : HOk P w H h) (e : H a = some (.tup (ks.map kV))) : (tupleKind (mixKind P w)).is h ks a := by
  obtain ⟨_, its, r, o, h1, h2, n, h3⟩ := (show ObjOk P w H h a (.tup (ks.map kV)) from ok a _ e)
  exact ⟨o, its.toArray, n, h1, h2, h3, by simpa using items_are r⟩
theorem dt_rd {kvs : List (List Key × V)} (ok : HOk P w H h) (e : Rd H a (.dT kvs)) : kvs.length ≤ sizeLine ∧ (a == sysModules) = false ∧
    ∃ xs, KT H kvs xs ∧ h.DictOfH (tupleKind (mixKind P w)) a xs := by
  obtain ⟨z, y, xs, r, o, es, ep, h1, h2, h3, h4, h5⟩ := (show ObjOk P w H h a (.dT kvs) from rd_of ok e)
  refine ⟨z, y, xs, r, o, es, ep, h1, h2, h3, h4, fun x hx => ?_, h5⟩
  have all : ∀ {l : List (List Key × V)} {m : List (List Key × Addr × Value)}, KT H l m → ∀ x ∈ m, (tupleKind (mixKind P w)).is h x.1 x.2.1 := by
    intro l m q
    induction q with
    | nil => intro x hx; exact nomatch hx
    | @cons p q ps qs hq t ih =>
      intro x hx
      rcases List.mem_cons.mp hx with e | hx
      · subst e
        exact key_of ok (by rw [← hq.1]; exact hq.2.1)
      · exact ih x hx
  exact all r x hx
end

/-- what the dict at a holds at the key y -/
def DGet (H : Hp) (a : Addr) (y : V) (r : Option V) : Prop :=
  (∃ kvs k, Rd H a (.dK kvs) ∧ y = kV k ∧ r = valV kvs k) ∨ ∃ kvs k b, Rd H a (.dT kvs) ∧ y = .ref b ∧ H b = some (.tup (k.map kV)) ∧ r = valV kvs k
/-- the heap behind a[y] = v -/
def DPut (H : Hp) (a : Addr) (y v : V) (H' : Hp) : Prop :=
  (∃ kvs k, H a = some (.dK kvs) ∧ y = kV k ∧ kvs.length < sizeLine ∧ H' = upd H a (.dK (putK kvs k v))) ∨
  ∃ kvs k b, H a = some (.dT kvs) ∧ y = .ref b ∧ H b = some (.tup (k.map kV)) ∧ kvs.length < sizeLine ∧ H' = upd H a (.dT (putK kvs k v))
theorem DGet.k {H : Hp} {a : Addr} {kvs : List (Key × V)} {k : Key} (e : H a = some (.dK kvs)) : DGet H a (kV k) (valV kvs k) := .inl ⟨kvs, k, .inl e, rfl, rfl⟩
theorem DGet.t {H : Hp} {a b : Addr} {kvs : List (List Key × V)} {k : List Key} (e : H a = some (.dT kvs)) (eb : H b = some (.tup (k.map kV))) : DGet H a (.ref b) (valV kvs k) := .inr ⟨kvs, k, b, .inl e, rfl, eb, rfl⟩
theorem DPut.k {H : Hp} {a : Addr} {kvs : List (Key × V)} {k : Key} {v : V} (e : H a = some (.dK kvs)) (hl : kvs.length < sizeLine) : DPut H a (kV k) v (upd H a (.dK (putK kvs k v))) := .inl ⟨kvs, k, e, rfl, hl, rfl⟩
theorem DPut.t {H : Hp} {a b : Addr} {kvs : List (List Key × V)} {k : List Key} {v : V} (e : H a = some (.dT kvs)) (eb : H b = some (.tup (k.map kV))) (hl : kvs.length < sizeLine) :
    DPut H a (.ref b) v (upd H a (.dT (putK kvs k v))) := .inr ⟨kvs, k, b, e, rfl, eb, hl, rfl⟩


section
variable {X : Cx} {pins : List (Addr × Obj)} {σ : St} {H : Hp} {s : Shared} {a : Addr} {y v : V} {u r : Value} {o : Option V} {A : Around} {E : Value → Shared → Prop}

/-- y in d -/
theorem d_in {Q : Value → Shared → Prop} (hu : A.units + 1 < cLine) (I : Inv X pins σ H s) (g : DGet H a y o) (ry : RelV y u) (h : ∀ s', Inv X pins σ H s' → Q (.bool o.isSome) s') :
    wpAny (model X.prog X.w) A (compareOp .In u (.ref a)) Q E s := by
  rcases g with ⟨kvs, k, e, ey, l⟩ | ⟨kvs, k, b, e, ey, eb, l⟩
  · subst ey
    obtain ⟨z, hd, vs, rel, dd⟩ := dk_rd I.hok e
    refine wpAny_in_of (kV_is ry) hd dd.mapOf ?_
    rw [← (rel.val k).isSome_eq, ← l]
    exact h _ (I.tok _)
  · subst ey
    cases (show u = Value.ref b from ry)
    obtain ⟨z, hd, xs, rel, dd⟩ := dt_rd I.hok e
    refine wpAny_in_heap (tupleKind_room_in1 hu) (key_of I.hok eb) hd dd ?_
    have q := (rel.val k).isSome_eq
    rw [Option.isSome_map] at q
    rw [← q, ← l]
    exact h _ (I.tok _)
end

section
variable {X : Cx} {pins : List (Addr × Obj)} {σ : St} {H : Hp} {s : Shared} {a : Addr} {kvs : List (Key × V)} {k : Key} {u : Value} {A : Around} {E : Value → Shared → Prop}
/-- len(d) -/
theorem d_len {Q : Value → Shared → Prop} (I : Inv X pins σ H s) (e : Rd H a (.dK kvs)) (h : ∀ t s', Inv X pins σ H s' → Q (.int kvs.length t) s') : wpAny (model X.prog X.w) A (call (.builtin "len") [.ref a]) Q E s := by
  obtain ⟨z, hd, vs, rel, dd⟩ := dk_rd I.hok e
  refine call_len_dict hd dd (by rw [← rel.length]; rw [sizeLine_eq] at z; omega) ?_
  rw [← rel.length]
  exact h _ _ (I.tok _)
end


/-! ### readings and rules -/
section
variable {X : Cx} {o i e value : Expr} {pos pos' tpos : Pos} {td ty tv : TE}
end


/-! ### displays -/
section
variable {X : Cx} {pos : Pos}
end

/-! ### methods -/
section
variable {X : Cx} {pins : List (Addr × Obj)} {σ : St} {H : Hp} {s : Shared} {a : Addr} {y d : V} {u r : Value} {o : Option V} {A : Around} {E : Value → Shared → Prop}
end

section
variable {X : Cx} {o e f : Expr} {apos cpos : Pos} {td ty tx : TE}
end

/-! ### dict(d): a copy -/
section
variable {X : Cx} {pins : List (Addr × Obj)} {σ : St} {H : Hp} {s : Shared} {a : Addr} {kvs : List (Key × V)} {A : Around} {E : Value → Shared → Prop}
end


section
variable {X : Cx} {pins : List (Addr × Obj)} {σ : St} {H : Hp} {s : Shared} {a : Addr} {y : V} {u : Value} {A : Around} {E : Value → Shared → Prop}
end
end L2

namespace L2
open PySem PySem.Spec PyProof.Rows

section
variable {prog : Program} {w : World} {A : Around} {E : Value → Shared → Prop}
end

section
variable {X : Cx}
end
end L2

namespace L2
open PySem PySem.Spec PyProof.Rows

section
variable {X : Cx} {pins : List (Addr × Obj)} {σ : St} {H : Hp} {s : Shared} {h' : Heap}
/-- several records of ours have turned -/
theorem Inv.turnedL {t' : Nat} {ch : List Addr} (I : Inv X pins σ H s) (k : ∀ b o, b ∉ ch → s.heap.get? b = some o → h'.get? b = some o) (hf : ∀ b ∈ ch, FpOk X pins H b) : Inv X pins σ H { s with heap := h', toks := t' } := by
  have nit : ∀ b u, H b = some u → b ∉ ch := fun b u e z => by
    have q := (hf b z).1
    rw [q] at e; cases e
  refine I.step (g' := s.gens) (d' := s.drawn) (ch := ch) (fun b hb => ⟨(hf b hb).2.2.2.1, (hf b hb).2.1, (hf b hb).2.2.2.2.1, (hf b hb).2.2.2.2.2⟩) (fun b o _ _ hc e _ => k b o hc e) (fun b o _ _ hc e _ => ⟨o.slots, k b o hc e⟩)
    (fun _ _ _ _ n => n) (fun b o hc e => ⟨o, k b o hc e⟩) (fun _ _ e => e) (fun _ _ _ e => e) (fun b ps e => ⟨#[], by rw [e]; simp⟩) (fun m hm => ?_) (fun b u e => ?_) I.bare
  · obtain ⟨o, es, ep, ho, r⟩ := hm
    exact ⟨o, es, ep, k _ o (fun z => (hf _ z).2.1 rfl) ho, r⟩
  · refine (I.hok b u e).stay (fun c v hc q => k c v ?_ q) (fun _ q => q) fun _ _ q => q
    rcases hc with z | z
    · rw [z]; exact nit b u e
    · exact nit c _ z
/-- .. and one new object is laid -/
theorem Inv.turnedNew {t' : Nat} {ch : List Addr} {T : Addr} {ob : HO} (I : Inv X pins σ H s) (k : ∀ b o, b ∉ ch → s.heap.get? b = some o → h'.get? b = some o) (hf : ∀ b ∈ ch, FpOk X pins H b) (hT : s.heap.objs.size ≤ T)
    (new : ObjOk X.prog X.w (upd H T ob) h' T ob) : Inv X pins σ (upd H T ob) { s with heap := h', toks := t' } := by
  have hn : H T = none := I.hok.fresh hT
  have nit : ∀ b u, H b = some u → b ∉ ch := fun b u e z => by
    have q := (hf b z).1
    rw [q] at e; cases e
  refine I.step (g' := s.gens) (d' := s.drawn) (ch := ch) (fun b hb => ⟨(hf b hb).2.2.2.1, (hf b hb).2.1, (hf b hb).2.2.2.2.1, (hf b hb).2.2.2.2.2⟩) (fun b o _ _ hc e _ => k b o hc e) (fun b o _ _ hc e _ => ⟨o.slots, k b o hc e⟩)
    (fun b o _ e n => ?_) (fun b o hc e => ⟨o, k b o hc e⟩) (fun b xs e => ?_) (fun b o u e => ?_) (fun b ps e => ⟨#[], ?_⟩) (fun m hm => ?_) (fun b u e => ?_) I.bare
  · rw [upd_ne (Nat.ne_of_lt (Nat.lt_of_lt_of_le (Heap.lt_size e) hT))]; exact n
  · rw [upd_ne (ne_of_none e hn)]; exact e
  · rw [upd_ne (ne_of_none e hn)]; exact e
  · rw [upd_ne (ne_of_none e hn), e]; simp
  · obtain ⟨o, es, ep, ho, r⟩ := hm
    exact ⟨o, es, ep, k _ o (fun z => (hf _ z).2.1 rfl) ho, r⟩
  · by_cases hb : b = T
    · subst hb
      rw [upd_same] at e
      cases e
      exact new
    · rw [upd_ne hb] at e
      refine (I.hok b u e).stay (fun c v hc q => k c v ?_ q) (fun c q => by rw [upd_ne (ne_of_none q hn)]; exact q) fun c xs q => by rw [upd_ne (ne_of_none q hn)]; exact q
      rcases hc with z | z
      · rw [z]; exact nit b u e
      · exact nit c _ z

/-! ### locking a thing while a statement runs -/
theorem Inv.lock {d : Addr} {u : HO} (I : Inv X pins σ H s) (h : H d = some u) (mu : Mut (some u)) : ∃ od, Inv X pins σ (upd H d (.frz od u)) s := by
  have x := I.hok d u h
  have ex : ∃ od, s.heap.get? d = some od := by
    cases u with
    | lst xs => obtain ⟨_, _, _, _, e⟩ := x; exact ⟨_, e⟩
    | dK kvs => obtain ⟨_, _, _, _, o, _, _, e, _⟩ := x; exact ⟨o, e⟩
    | dT kvs => obtain ⟨_, _, _, _, o, _, _, e, _⟩ := x; exact ⟨o, e⟩
    | set S n => obtain ⟨o, _, _, _, e, _⟩ := x; exact ⟨o, e⟩
    | ins C dx fs => obtain ⟨_, _, _, e, _⟩ := x; exact ⟨_, e⟩
    | ext φ => obtain ⟨_, ⟨_, e⟩, _⟩ := x; exact ⟨_, e⟩
    | _ => exact False.elim mu
  obtain ⟨od, e⟩ := ex
  have new : ObjOk X.prog X.w (upd H d (.frz od u)) s.heap d (.frz od u) := by
    refine ⟨e, x.stay (fun b v _ q => q) (fun b q => ?_) fun b xs q => ?_⟩
    · rw [upd_ne (fun z => by rw [z, h] at q; cases q; exact mu)]; exact q
    · rw [upd_ne (fun z => by rw [z, h] at q; cases q; exact mu)]; exact q
  exact ⟨od, I.write (x := d) (e := d) (t' := s.toks) (h' := s.heap) (by rw [h]; exact mu) (.inl rfl) (fun b v _ q => q) ⟨od, e⟩ new⟩
end
section
variable {X : Cx}
/-! ### one iterator just laid -/
theorem pi_one {tg : Expr} {pins : List (Addr × Obj)} {σ : St} {H : Hp} {s : Shared} {R : It → Hp → Prop} {J : It} {tn : Nat → Heap → Prop} {tk : Nat} (I : Inv X pins σ H s) (o : Obj)
    (T : Turn X.prog X.w X.K tg J [s.heap.objs.size] s.heap.objs.size tn) (st : tn 0 (s.heap.push o)) (q : R J H) : PIE X pins σ tg R (.ref s.heap.objs.size) { s with heap := s.heap.push o, toks := tk } := by
  refine ⟨s.heap.objs.size, [s.heap.objs.size], tn, J, H, rfl, I.kept fun b ob e => Heap.get?_push_of_some _ e, T, st, fun b hb => ?_, q⟩
  have e : b = s.heap.objs.size := by simpa using hb
  subst e
  exact I.fpOk (Nat.le_refl _) (I.hok.fresh (Nat.le_refl _))
end

/-! ### range with a step -/
/-- lo, lo + c, .. (n of them) -/
def Itc (lo c : Int) (n : Nat) : It := ⟨fun i _ => i < n, fun i H x H' => H' = H ∧ x = .int (lo + (i : Nat) * c), fun i _ => n ≤ i⟩
theorem turn_rangeC {P : Program} {w : World} {K : PySem.W.Frag} {tg : Expr} (it : Addr) (lo c : Int) (n : Nat) : Turn P w K tg (Itc lo c n) [it] it (fun i h => IsRangeIter h it (lo + (i : Nat) * c) ((n : Int) - (i : Nat)) c) where
  mem := by simp
  obj := fun i h st b hb => by
    have e : b = it := by simpa using hb
    subst e
    exact ⟨_, st, fun v z => nomatch z⟩
  keep := fun i h h' st k => k it (by simp) _ st
  item := by
    intro X hP hw hK hc i pins s σ H E I hf st hg
    subst hP hw hK
    obtain ⟨f0, f1, f2, f3, f4, f5⟩ := hf it (by simp)
    have W := Walks.range (prog := X.prog) (w := X.w) (I.ok.hd hc) it lo c n
    refine W.item i s _ _ hg st fun v h' tk hv st' kk => ?_
    obtain ⟨t, rfl⟩ := hv
    have I1 : Inv X pins σ H { s with heap := h', toks := tk } := I.turned (fun b o hb e => kk b o (by simpa using hb) e) f0 f1 f3 f4 f5
    exact ⟨_, rfl, go_of (s := { s with heap := h', toks := tk }) (n := "range_iterator") st' rfl rfl (by decide) ⟨.int (lo + (i : Nat) * c), H, I1, ⟨t, rfl⟩, ⟨rfl, rfl⟩, st', fun b hb => (hf b hb).1⟩⟩
  done := by
    intro X hP hw hK hc i pins s σ H E I hf st hg
    subst hP hw hK
    obtain ⟨f0, f1, f2, f3, f4, f5⟩ := hf it (by simp)
    exact wpAny_pyNext_range_end (I.ok.hd hc) st (by have : n ≤ i := hg; omega) fun h' eb => ⟨rfl, I.turned (t' := s.toks) (fun b o hb e => eb b o hb e) f0 f1 f3 f4 f5⟩
  self := fun A i s Q E st h => wpAny_pyIter_rangeiter st h
/-- range(i, j, c): small bounds, n items -/
def RgC (i j c : Int) (n : Nat) : Prop := c ≠ 0 ∧ c.natAbs < 1073741824 ∧ Builtin.Range.small i j c = true ∧ Builtin.Range.rangeSize i j c = n
def iRng3 (ta : TA) : TI := fun σ H R => ta σ H fun vs H1 => ∃ (i j c : Int) (n : Nat), vs = [.int i, .int j, .int c] ∧ RgC i j c n ∧ R (Itc i c n) H1
section
variable {X : Cx} {tg : Expr}
theorem pi_range3 {a b c : Expr} {ta : TA} {p pos : Pos} (hg : Gl X "range") (hm : X.mg "range" = none) (ha : PA X [a, b, c] ta)
    (hs : starEach [a, b, c] X.env = (false, eval a X.env) :: starEach [b, c] X.env := by rfl) (hpl : (backTo pos (starEach [b, c] X.env)).any (·.1) = false := by rfl) :
    PI X tg (.Call (.Name "range" p) [a, b, c] [] pos) (iRng3 ta) := by
  intro pins s σ H R I h
  refine Call_ (ld_blt I hg hm boot_range (PyProof.Rows.callWith_type1 (thn (ha pos pins s σ H _ I h) fun us s1 ⟨vs, H1, I1, r1, q1⟩ => ?_) hs hpl))
  obtain ⟨i, j, k, n, e, ⟨c0, c1, c2, c3⟩, q⟩ := q1
  subst e
  cases r1 with
  | cons r rr =>
    cases rr with
    | cons r' rr =>
      cases rr with
      | cons r'' rr =>
        cases rr
        obtain ⟨t, rfl⟩ := r
        obtain ⟨t', rfl⟩ := r'
        obtain ⟨t'', rfl⟩ := r''
        refine call_range_3 c0 ?_ (.inl (PyProof.noPylong_small c1))
        refine wpAny_pyIter_range (IsRange.new ..) c2 ?_
        have I2 : Inv X pins σ H1 { s1 with heap := s1.heap.push { cls := .type "range", data := .fields #[.int i t, .int j t', .int k t''] } } := I1.kept (t' := s1.toks) fun b o e => Heap.get?_push_of_some _ e
        refine pi_one (tk := s1.toks) I2 _ (turn_rangeC _ i k n) ?_ q
        have e1 : i + ((0 : Nat) : Int) * k = i := by simp
        have e2 : (n : Int) - ((0 : Nat) : Int) = Builtin.Range.rangeSize i j k := by rw [c3]; simp
        show IsRangeIter _ _ (i + ((0 : Nat) : Int) * k) ((n : Int) - ((0 : Nat) : Int)) k
        rw [e1, e2]
        exact Heap.get?_push_size _ rfl
end
/-! ### reversed(list) -/
section
variable {X : Cx} {tg : Expr}
end

/-! ### a str -/
/-! ### a dict's keys: any dict's entries -/
section
variable {prog : Program} {w : World} {A : Around} {E : Value → Shared → Prop} {s : Shared}
end

/-! ### a locked dict -/
section
variable {X : Cx} {pins : List (Addr × Obj)} {σ : St} {H : Hp} {s : Shared} {d : Addr} {o : Obj}
end

section
variable {P : Program} {w : World} {K : PySem.W.Frag} {tg : Expr} {d : Addr} {o : Obj} {es : Array DictEntry} {ep : Nat}
end

/-! ### for k in d, d.keys(), d.values(), d.items() -/
section
variable {X : Cx} {tg e : Expr} {td : TE} {apos cpos : Pos}
end

/-! ### enumerate(list) -/
/-- the list at a as it stands at each turn, each item in a new pair -/
def Ite (K : PySem.W.Frag) (a : Addr) : It :=
  ⟨fun i H => ∃ (xs : List V) (x : V), SqL K H a xs ∧ xs[i]? = some x, fun i H v H' => ∃ T x, v = .ref T ∧ H T = none ∧ H' = upd H T (.tup [.int (i : Nat), x]) ∧ ∀ xs, SqL K H a xs → xs[i]? = some x, fun i H => ∃ xs : List V, SqL K H a xs ∧ xs.length ≤ i⟩
theorem turn_enum {P : Program} {w : World} {K : PySem.W.Frag} {elts : List Expr} {kk : Nat} {tpos : Pos} (a e it : Addr) :
    Turn P w K (.Tuple elts kk tpos) (Ite K a) [e, it] e (fun i h => (∃ old, IsEnum h e it ((i : Nat) : Int) old) ∧ h.IsListIter it a i ∧ e ≠ it) where
  mem := by simp
  obj := fun i h st b hb => by
    obtain ⟨⟨old, he⟩, ⟨o, ho, hc, hd⟩, _⟩ := st
    have e' : b = e ∨ b = it := by simpa using hb
    rcases e' with z | z
    · rw [z]; exact ⟨_, he, fun v q => nomatch q⟩
    · rw [z]; exact ⟨o, ho, fun v q => by rw [hd] at q; cases q⟩
  keep := fun i h h' st k => let ⟨⟨old, he⟩, hi, hne⟩ := st; ⟨⟨old, k e (by simp) _ he⟩, hi.at fun o q => k it (by simp) o q, hne⟩
  item := by
    intro X hP hw hK hc i pins s σ H E I hf st hg
    subst hP hw hK
    obtain ⟨⟨old, he⟩, hit, hne⟩ := st
    obtain ⟨xs, x, hq, hx⟩ := hg
    obtain ⟨its, rv, p, hz⟩ := I.list hq
    obtain ⟨u, hu, ru⟩ := rv.get hx
    have hel : e < s.heap.objs.size := Heap.lt_size he
    have hil : it < s.heap.objs.size := by obtain ⟨_, q, _⟩ := hit; exact Heap.lt_size q
    refine wpAny_pyNext_enum_item he hit p.isList (x := u) (by simpa using hu) hne fun h' ho hit' hT hsz hk => ?_
    refine ⟨_, rfl, wpAny_letOwnedTupleGo_enum (s := { s with heap := h', toks := s.toks + 1 }) ho fun h'' he' sb => ?_⟩
    have hT2 : h''.get? s.heap.objs.size = some { cls := .type "tuple", data := .seq #[.int i s.toks, u] } := (sb.2 _ (Nat.ne_of_gt hel)).trans hT
    have new : ObjOk X.prog X.w (upd H s.heap.objs.size (.tup [.int (i : Nat), x])) h'' s.heap.objs.size (.tup [.int (i : Nat), x]) :=
      ⟨by show 2 ≤ sizeLine; decide, [.int i s.toks, u], .cons ⟨_, rfl⟩ (.cons ru .nil), ⟨_, hT2, rfl, _, rfl⟩⟩
    have I1 : Inv X pins σ (upd H s.heap.objs.size (.tup [.int (i : Nat), x])) { s with heap := h'', toks := s.toks + 1 } :=
      I.turnedNew (ch := [e, it]) (fun b ob hb q => (sb.2 b (fun z => hb (by simp [z]))).trans (hk b ob (fun z => hb (by simp [z])) (fun z => hb (by simp [z])) q)) hf (Nat.le_refl _) new
    refine ⟨.ref s.heap.objs.size, _, I1, rfl, ⟨_, x, rfl, I.hok.fresh (Nat.le_refl _), rfl, fun ys hy => by rw [I.list_inj hy hq]; exact hx⟩, ⟨⟨u, ?_⟩, hit'.at fun o q => (sb.2 it (Ne.symm hne)).trans q, hne⟩, fun b hb => ?_⟩
    · have e1 : ((i + 1 : Nat) : Int) = (i : Int) + 1 := by omega
      rw [e1]; exact he'
    · have hb' : b < s.heap.objs.size := by
        have e' : b = e ∨ b = it := by simpa using hb
        rcases e' with z | z
        · rw [z]; exact hel
        · rw [z]; exact hil
      rw [upd_ne (Nat.ne_of_lt hb')]
      exact (hf b hb).1
  done := by
    intro X hP hw hK hc i pins s σ H E I hf st hg
    subst hP hw hK
    obtain ⟨⟨old, he⟩, hit, hne⟩ := st
    obtain ⟨xs, hq, hx⟩ := hg
    obtain ⟨its, rv, p, hz⟩ := I.list hq
    obtain ⟨f0, f1, f2, f3, f4, f5⟩ := hf it (by simp)
    have hl := rv.length
    exact wpAny_pyNext_enum_end (I.ok.hd hc) he hit p.isList (by simp; omega) fun h' eb => ⟨rfl, I.turned (t' := s.toks) (fun b o hb q => eb b o hb q) f0 f1 f3 f4 f5⟩
  self := fun A i s Q E st h => let ⟨⟨_, he⟩, _⟩ := st; wpAny_pyIter_enum he h
def iEnum (K : PySem.W.Frag) (ta : TA) : TI := fun σ H R => ta σ H fun vs H1 => ∃ a xs, vs = [.ref a] ∧ SqL K H1 a xs ∧ R (Ite K a) H1
theorem pi_enum {X : Cx} {e : Expr} {ta : TA} {p pos tpos : Pos} {elts : List Expr} {kk : Nat} (hg : Gl X "enumerate") (hm : X.mg "enumerate" = none) (ha : PA X [e] ta) (hs : starEach [e] X.env = [(false, eval e X.env)] := by rfl) :
    PI X (.Tuple elts kk tpos) (.Call (.Name "enumerate" p) [e] [] pos) (iEnum X.K ta) := by
  intro pins s σ H R I h
  refine Call_ (ld_blt I hg hm boot_enumerate (PyProof.Rows.callWith_type1 (thn (ha pos pins s σ H _ I h) fun us s1 ⟨vs, H1, I1, r1, q1⟩ => ?_) hs rfl))
  obtain ⟨a, xs, ex, hq, q⟩ := q1
  subst ex
  cases r1 with
  | cons r rr =>
    cases rr
    cases r
    obtain ⟨its, rv, p', hz⟩ := I1.list hq
    refine call_enumerate_list p'.isList fun h' he hit hsz hk => wpAny_pyIter_enum he ?_
    have I2 : Inv X pins σ H1 { s1 with heap := h' } := I1.kept (t' := s1.toks) hk
    refine ⟨s1.heap.objs.size + 1, [s1.heap.objs.size + 1, s1.heap.objs.size], _, _, H1, rfl, I2, turn_enum a (s1.heap.objs.size + 1) s1.heap.objs.size, ⟨⟨.none, he⟩, hit, Nat.succ_ne_self _⟩, fun b hb => ?_, q⟩
    have e' : b = s1.heap.objs.size + 1 ∨ b = s1.heap.objs.size := by simpa using hb
    have hle : s1.heap.objs.size ≤ b := by
      rcases e' with z | z
      · rw [z]; exact Nat.le_add_right _ _
      · rw [z]; exact Nat.le_refl _
    exact I1.fpOk hle (I1.hok.fresh hle)
/-! ### zip(list, list) -/
theorem boot_zip5 : bootBuiltins "zip" = some (.type "zip") := by decide +kernel
/-- the lists at a and b as they stand at each turn, the items in new pairs -/
def Itz (K : PySem.W.Frag) (a b : Addr) : It :=
  ⟨fun i H => ∃ (xs ys : List V) (x y : V), SqL K H a xs ∧ SqL K H b ys ∧ xs[i]? = some x ∧ ys[i]? = some y,
    fun i H v H' => ∃ T x y, v = .ref T ∧ H T = none ∧ H' = upd H T (.tup [x, y]) ∧ (∀ xs, SqL K H a xs → xs[i]? = some x) ∧ ∀ ys, SqL K H b ys → ys[i]? = some y,
    fun i H => ∃ xs ys : List V, SqL K H a xs ∧ SqL K H b ys ∧ (xs.length ≤ i ∨ ys.length ≤ i)⟩
theorem turn_zip {P : Program} {w : World} {K : PySem.W.Frag} {elts : List Expr} {kk : Nat} {tpos : Pos} {a b z TI TO i1 i2 : Addr} (D : ZipApart z TI TO i1 i2 a b) :
    Turn P w K (.Tuple elts kk tpos) (Itz K a b) [z, TI, TO, i1, i2] z (fun i h => IsZip h z TI TO .none ∧ IsPair h TI (.ref i1) (.ref i2) ∧ (∃ x y, IsPair h TO x y) ∧ h.IsListIter i1 a i ∧ h.IsListIter i2 b i) where
  mem := by simp
  obj := fun i h st c hc => by
    obtain ⟨hz, hTI, ⟨x, y, hTO⟩, ⟨o1, e1, _, d1⟩, ⟨o2, e2, _, d2⟩⟩ := st
    have e' : c = z ∨ c = TI ∨ c = TO ∨ c = i1 ∨ c = i2 := by simpa using hc
    rcases e' with q | q | q | q | q
    · rw [q]; exact ⟨_, hz, fun v q => nomatch q⟩
    · rw [q]; exact ⟨_, hTI, fun v q => nomatch q⟩
    · rw [q]; exact ⟨_, hTO, fun v q => nomatch q⟩
    · rw [q]; exact ⟨o1, e1, fun v q => by rw [d1] at q; cases q⟩
    · rw [q]; exact ⟨o2, e2, fun v q => by rw [d2] at q; cases q⟩
  keep := fun i h h' st k => by
    obtain ⟨hz, hTI, ⟨x, y, hTO⟩, h1, h2⟩ := st
    exact ⟨k z (by simp) _ hz, k TI (by simp) _ hTI, ⟨x, y, k TO (by simp) _ hTO⟩, h1.at fun o q => k i1 (by simp) o q, h2.at fun o q => k i2 (by simp) o q⟩
  item := by
    intro X hP hw hK hc i pins s σ H E I hf st hg
    subst hP hw hK
    obtain ⟨hz, hTI, ⟨x0, y0, hTO⟩, h1, h2⟩ := st
    obtain ⟨xs, ys, x, y, hqx, hqy, hx, hy⟩ := hg
    obtain ⟨its, rv, p, _⟩ := I.list hqx
    obtain ⟨its2, rv2, p2, _⟩ := I.list hqy
    obtain ⟨u, hu, ru⟩ := rv.get hx
    obtain ⟨u2, hu2, ru2⟩ := rv2.get hy
    have hzl : z < s.heap.objs.size := Heap.lt_size hz
    refine wpAny_pyNext_zip_item D hz hTI hTO h1 h2 p.isList p2.isList (x := u) (y := u2) (by simpa using hu) (by simpa using hu2) fun h' z' TO' h1' h2' hT hsz hk => ?_
    refine ⟨_, rfl, wpAny_letOwnedTupleGo_zip (s := { s with heap := h' }) z' fun h'' z'' sb => ?_⟩
    have hT2 : h''.get? s.heap.objs.size = some { cls := .type "tuple", data := .seq #[u, u2] } := (sb.2 _ (Nat.ne_of_gt hzl)).trans hT
    have new : ObjOk X.prog X.w (upd H s.heap.objs.size (.tup [x, y])) h'' s.heap.objs.size (.tup [x, y]) :=
      ⟨by show 2 ≤ sizeLine; decide, [u, u2], .cons ru (.cons ru2 .nil), ⟨_, hT2, rfl, _, rfl⟩⟩
    have I1 : Inv X pins σ (upd H s.heap.objs.size (.tup [x, y])) { s with heap := h'' } :=
      I.turnedNew (t' := s.toks) (ch := [z, TI, TO, i1, i2]) (fun c o hb q => (sb.2 c (fun q' => hb (by simp [q']))).trans (hk c o (fun q' => hb (by simp [q'])) (fun q' => hb (by simp [q'])) (fun q' => hb (by simp [q'])) (fun q' => hb (by simp [q'])) q)) hf (Nat.le_refl _) new
    refine ⟨.ref s.heap.objs.size, _, I1, rfl, ⟨_, x, y, rfl, I.hok.fresh (Nat.le_refl _), rfl, fun l hl => by rw [I.list_inj hl hqx]; exact hx, fun l hl => by rw [I.list_inj hl hqy]; exact hy⟩, ⟨z'', ?_, ⟨u, u2, ?_⟩, ?_, ?_⟩, fun c hcm => ?_⟩
    · exact (sb.2 _ D.TIz).trans (hk _ _ D.TIz D.TITO D.TIi1 D.TIi2 hTI)
    · exact (sb.2 _ D.TOz).trans TO'
    · exact h1'.at fun o q => (sb.2 _ D.i1z).trans q
    · exact h2'.at fun o q => (sb.2 _ D.i2z).trans q
    · have hlt : c < s.heap.objs.size := by
        have e' : c = z ∨ c = TI ∨ c = TO ∨ c = i1 ∨ c = i2 := by simpa using hcm
        rcases e' with q | q | q | q | q
        · rw [q]; exact hzl
        · rw [q]; exact Heap.lt_size hTI
        · rw [q]; exact Heap.lt_size hTO
        · rw [q]; obtain ⟨_, e1, _⟩ := h1; exact Heap.lt_size e1
        · rw [q]; obtain ⟨_, e2, _⟩ := h2; exact Heap.lt_size e2
      rw [upd_ne (Nat.ne_of_lt hlt)]
      exact (hf c hcm).1
  done := by
    intro X hP hw hK hc i pins s σ H E I hf st hg
    subst hP hw hK
    obtain ⟨hz, hTI, ⟨x0, y0, hTO⟩, h1, h2⟩ := st
    obtain ⟨xs, ys, hqx, hqy, hend⟩ := hg
    obtain ⟨its, rv, p, _⟩ := I.list hqx
    obtain ⟨its2, rv2, p2, _⟩ := I.list hqy
    have l1 := rv.length
    have l2 := rv2.length
    have he : its.toArray[i]? = none ∨ its2.toArray[i]? = none := by
      rcases hend with q | q
      · exact .inl (by simp; omega)
      · exact .inr (by simp; omega)
    exact wpAny_pyNext_zip_end (I.ok.hd hc) D hz hTI hTO h1 h2 p.isList p2.isList he fun h' hk => ⟨rfl, I.turnedL (t' := s.toks) (ch := [z, TI, TO, i1, i2]) (fun c o hb q =>
      hk c o (fun q' => hb (by simp [q'])) (fun q' => hb (by simp [q'])) (fun q' => hb (by simp [q'])) (fun q' => hb (by simp [q'])) q) hf⟩
  self := fun A i s Q E st h => wpAny_pyIter_zip st.1 h
def iZip (K : PySem.W.Frag) (ta : TA) : TI := fun σ H R => ta σ H fun vs H1 => ∃ a b xs ys, vs = [.ref a, .ref b] ∧ SqL K H1 a xs ∧ SqL K H1 b ys ∧ R (Itz K a b) H1
theorem pi_zip {X : Cx} {e e2 : Expr} {ta : TA} {p pos tpos : Pos} {elts : List Expr} {kk : Nat} (hg : Gl X "zip") (hm : X.mg "zip" = none) (ha : PA X [e, e2] ta)
    (hs : starEach [e, e2] X.env = (false, eval e X.env) :: starEach [e2] X.env := by rfl) (hpl : (backTo pos (starEach [e2] X.env)).any (·.1) = false := by rfl) :
    PI X (.Tuple elts kk tpos) (.Call (.Name "zip" p) [e, e2] [] pos) (iZip X.K ta) := by
  intro pins s σ H R I h
  refine Call_ (ld_blt I hg hm boot_zip5 (PyProof.Rows.callWith_type1 (thn (ha pos pins s σ H _ I h) fun us s1 ⟨vs, H1, I1, r1, q1⟩ => ?_) hs hpl))
  obtain ⟨a, b, xs, ys, ex, hqx, hqy, q⟩ := q1
  subst ex
  cases r1 with
  | cons r rr =>
    cases rr with
    | cons r' rr =>
      cases rr
      cases r
      cases r'
      obtain ⟨its, rv, p1, _⟩ := I1.list hqx
      obtain ⟨its2, rv2, p2, _⟩ := I1.list hqy
      have la : a < s1.heap.objs.size := p1.lt
      have lb : b < s1.heap.objs.size := p2.lt
      refine call_zip_2 p1.isList p2.isList fun h' hz hTI hTO h1 h2 hsz hk => wpAny_pyIter_zip hz ?_
      have I2 : Inv X pins σ H1 { s1 with heap := h' } := I1.kept (t' := s1.toks) hk
      refine ⟨s1.heap.objs.size + 4, [s1.heap.objs.size + 4, s1.heap.objs.size + 2, s1.heap.objs.size + 3, s1.heap.objs.size, s1.heap.objs.size + 1], _, _, H1, rfl, I2, turn_zip (PySem.W.ktu_apart s1.heap.objs.size a b la lb), ⟨hz, hTI, ⟨_, _, hTO⟩, h1, h2⟩, fun c hcm => ?_, q⟩
      have e' : c = s1.heap.objs.size + 4 ∨ c = s1.heap.objs.size + 2 ∨ c = s1.heap.objs.size + 3 ∨ c = s1.heap.objs.size ∨ c = s1.heap.objs.size + 1 := by simpa using hcm
      have hle : s1.heap.objs.size ≤ c := by
        rcases e' with z | z | z | z | z
        · rw [z]; exact Nat.le_add_right _ _
        · rw [z]; exact Nat.le_add_right _ _
        · rw [z]; exact Nat.le_add_right _ _
        · rw [z]; exact Nat.le_refl _
        · rw [z]; exact Nat.le_add_right _ _
      exact I1.fpOk hle (I1.hok.fresh hle)
end L2

section 
namespace Bits
open PySem PyProof.Rows

end Bits
end 

section 
namespace TL
open PySem PySem.Builtin PySem.Builtin.Str PySem.StrLaws

abbrev tl (x : Str) : List Nat := x.cps.toList
/-! ### the list functions -/
/-- S stands at the head of l -/
def pre (S l : List Nat) : Bool := l.take S.length == S
/-- what stands before the first S, and behind it -/
def par (S : List Nat) : List Nat → List Nat → Option (List Nat × List Nat)
  | _, [] => none
  | acc, c :: r => if pre S (c :: r) = true then some (acc, (c :: r).drop S.length) else par S (acc ++ [c]) r

/-! ### the model's split and partition are these -/
/-! ### computing spl and par -/
/-! ### digits -/
/-! ### words: x.split() -/
end TL
end 

namespace L2
open PySem PySem.Spec PyProof.Rows

section
variable {X : Cx} {pins : List (Addr × Obj)} {σ : St} {H : Hp} {s : Shared} {Q : VK}
end

section
variable {X : Cx}

/-! ### of a text alone -/
/-! ### of a text and a text -/
end

section
variable {X : Cx} {o e : Expr} {to te : TE}
end
end L2

namespace L2
open PySem PySem.Spec PyProof.Rows

section
variable {X : Cx}
end

/-! ### slices of a text -/
theorem IsPart.raw {v : Value} {o : Option Int} (p : IsPart v o) : ∃ l : Option (Int × Tok), v = partValue l ∧ l.map (·.1) = o := by
  cases p with
  | none => exact ⟨none, rfl, rfl⟩
  | int i t => exact ⟨some (i, t), rfl, rfl⟩

end L2

namespace Att
open PySem PySem.W PySem.Calls PyProof.Rows

/-! ### the script -/
theorem ints_of_wellAll {P : Params} {h : Heap} : ∀ (ns : List Int) (vs : List Value), WellAll P h vs (ns.map WData.int) → IntsAre vs ns := by
  intro ns
  induction ns with
  | nil =>
    intro vs w
    rw [List.map_nil] at w
    cases w
    exact .nil
  | cons n ns ih =>
    intro vs w
    rw [List.map_cons] at w
    cases w with
    | cons a b =>
      cases a
      exact .cons _ _ (ih _ b)

theorem script_of {l : OpenLaw} {n : Nat} (hn : l.most = some n) {P : Params} {h : Heap} {args : List WData} {vals : List Value}
    (hpre : l.row.toRowW.claim.pre args = true) (hwl : WellAll P h vals args) :
    ∃ a vs ns, vals = [Value.ref a] ∧ args = [WData.list (ns.map WData.int)] ∧ h.get? a = some { cls := .type "list", data := .seq vs.toArray } ∧ IntsAre vs ns ∧ ns.length ≤ n := by
  have hsh : WShape.hasAll [] args [.list .int] = true := (pre_splitW hpre).1
  have hc : l.pre.holds [] { args := args } = true := (pre_splitW hpre).2
  obtain ⟨d, r, rfl, h1, h2⟩ := hasAllW_cons hsh
  obtain rfl := hasAllW_nil h2
  obtain ⟨xs, rfl, h3⟩ := hasW_list h1
  obtain ⟨ns, rfl⟩ := items_int h3
  have hlen : ns.length ≤ n := by
    unfold OpenLaw.pre at hc
    have h4 : (WTm.not (.lt (.lit (.int (n : Int))) (.len (.arg 0)))).holds [] { args := [.list (ns.map .int)] } = true := by
      have h4 := (holds_andW hc).1
      rw [hn] at h4
      exact h4
    have h5 := condW_of h4 (w_not (w_lt w_lit (w_len_list (w_arg rfl))))
    rw [List.length_map] at h5
    refine Nat.le_of_not_lt fun q => ?_
    have q' : (n : Int) < ((ns.length : Nat) : Int) := by omega
    first
      | (rw [decide_eq_true q'] at h5; exact absurd h5 (by decide))
      | (simp at h5; omega)
  cases hwl with
  | cons w1 w2 =>
    cases w2
    cases w1 with
    | list ho hall => exact ⟨_, _, ns, rfl, rfl, ho, ints_of_wellAll ns _ hall, hlen⟩

theorem post_true (l : OpenLaw) (args : List WData) : l.row.toRowW.claim.post args (.bool true) args = true :=
  postW_of (r := l.row.toRowW) (X := (true == true))
    (show WShape.has [] (.bool true) .bool = true by first | rfl | decide | simp [WShape.has, WShape.arms, WShape.armsAll])
    (show (WTm.eq .res (.lit (.bool true))).value [] { args := args, res := some (.bool true), after := args } = some (.bool (true == true)) from w_eq_bool (w_res rfl) w_lit) rfl

/-! ### the attachment: holds_open's last premise (the goal 'hc' behind k_head) from a wpAny of the law's body -/
/-- the same from a codeAny of the CALL (for a layer whose function contracts speak of calls) -/
theorem attach_call {l : OpenLaw} {n : Nat} {q : Program} {loose : List Str} {XP : (Str → Option Value) → Heap → Prop} {YP : World → Heap → Prop} {d : DefRec}
    (hn : l.most = some n) (hdf : d.params.defaults = [])
    (call : ∀ (w : World) (s₀ s₁ : Shared) (mg mb : Str → Option Value) (fa : Addr) (o : Obj) (pm cd doc : Value) (a : Addr) (vs : List Value) (ns : List Int),
      Ground q loose [] XP w s₀ mg mb s₁.heap → YP w s₁.heap →
      s₁.heap.get? fa = some o → o.data = .func (docDef d.name d.params d.body d.scope pm cd doc) → s₁.heap.CodeRec cd d.name → mg d.name = some (.ref fa) →
      s₁.heap.get? a = some { cls := .type "list", data := .seq vs.toArray } → IntsAre vs ns → ns.length ≤ n → s₁.gens = #[] →
      codeAny (model l.prog w) callerA (.call (.ref fa) ⟨[.ref a], []⟩) (fun r s' => r = .ok (.ret (.bool true)) ∧ OldK s₁.heap s'.heap ∧ s'.os = s₁.os ∧ AllBare s'.gens) s₁) :
    WalkO q loose XP YP l.row.toRowW d [] (fun f vs => PySem.call f vs) := by
  intro w s₀ s₁ mg mb G Y fa o pm cd doc dV kV ho hd hcd hD hmg hg args vals as hpre hlay hrd hwl hlo
  obtain rfl : dV = .none := Dflts.none hD hdf
  obtain rfl : kV = .none := Dflts.noKw hD
  obtain ⟨a, vs, ns, rfl, rfl, hobj, hints, hlen⟩ := script_of hn hpre hwl
  refine enter_call (codeAny_mono (call w s₀ s₁ mg mb fa o pm cd doc a vs ns G Y ho (fd_plain hd) hcd hmg hobj hints hlen hg) fun r s' hq => ?_)
  obtain ⟨rfl, h2, h3, h4⟩ := hq
  exact ⟨.inl ⟨.bool true, .bool true, [], rfl, fun _ => rfl, .bool true, post_true l _, fun _ => ⟨List.Pairwise.nil, fun _ hm => (nomatch hm)⟩⟩, h2, h3, h4⟩

/-! ### rules over ANY heap (no ledger) from facts about the written part K: the library's own take a ledger (News) for what they write -/
section
variable {prog : Program} {w : World} {A : Around} {E : Value → Shared → Prop} {s : Shared} {K : Frag}

/-! the whole heap as the ledger: makes every rule that writes through a ledger a rule over any heap -/
end
end Att

namespace L2
open PySem PySem.Spec PyProof.Rows

theorem vals_ints : ∀ {vs : List Value} {ns : List Int}, IntsAre vs ns → Vals (ns.map V.int) vs
  | _, _, .nil => .nil
  | _, _, .cons n t h => .cons ⟨t, rfl⟩ (vals_ints h)

/-- nothing is tracked but the script, known to the object (or it is an object of the module) -/
def Only (H : Hp) : Prop := ∀ b, H b = none ∨ ∃ o xs, H b = some (.frz o (.lst xs))

/-- THE HEAD: the law's promise, at the heap behind the top. F, the promise of the law's def, may use that base is part of the heap (so K.In base, base.Ns mainGlobals mg stand in Mod) -/
theorem law_call {P : Program} {w : World} {K : PySem.W.Frag} {mg mb : Str → Option Value} {CX : CXT} {k : Nat} {fa a : Addr} {fd : FuncData} {x : Str} {sp : Sp} {s₁ : Shared} {vs : List Value} {ns : List Int}
    (KX : K.In s₁.heap) (hns : s₁.heap.Ns mainGlobals mg) (hb : s₁.heap.Ns builtinsNs mb) (hbb : ∀ x : Str, x ≠ "__name__" → mb x = bootBuiltins x) (hlim : s₁.heap.NoLimit) (hg : s₁.gens = #[])
    (ha : s₁.heap.get? a = some { cls := .type "list", data := .seq vs.toArray }) (hi : IntsAre vs ns) (hl : ns.length ≤ sizeLine) (hr : Room k callerA)
    (F : ∀ base : Heap, K.In base → base.Ns mainGlobals mg → FnOk P w K mg base CX k fa fd [x] sp) (hbind : ∀ (s : Shared) (u : Value), BindsTo s fd ⟨[u], []⟩ [(x, u)])
    (hsp : ∀ H : Hp, Only H → SqL K H a (ns.map V.int) → sp [.ref a] H (fun v _ => v = .bl true) fun _ _ _ => False)
    (hCX : ∀ H e s', CX [] H s₁ (fun _ _ _ => False) e s' → False) :
    codeAny (model P w) callerA (.call (.ref fa) ⟨[.ref a], []⟩) (fun r s' => r = .ok (.ret (.bool true)) ∧ OldK s₁.heap s'.heap ∧ s'.os = s₁.os ∧ AllBare s'.gens) s₁ := by
  have rv := vals_ints hi
  have lenV := hi.length
  -- from an abstract heap in which nothing but the script may be tracked
  have core : ∀ H : Hp, Only H → SqL K H a (ns.map V.int) → HOk P w H s₁.heap → (∀ b, H b ≠ none → b = a) → (H a ≠ none → K.lookup a = none) →
      codeAny (model P w) callerA (.call (.ref fa) ⟨[.ref a], []⟩) (fun r s' => r = .ok (.ret (.bool true)) ∧ OldK s₁.heap s'.heap ∧ s'.os = s₁.os ∧ AllBare s'.gens) s₁ := by
    intro H hO hS hok hA hK
    have base_of : ∀ {b : Addr} {o : Obj}, s₁.heap.get? b = some o → H b = none → (hidT s₁.heap H).get? b = some o := fun e n => hidT_get e n
    have noA : ∀ {b : Addr} {o : Obj} {es : Array DictEntry} {ep : Nat}, s₁.heap.get? b = some o → o.data = .dict es ep → H b = none := fun {b o es ep} e d => by
      cases q : H b with
      | none => rfl
      | some u =>
        have e' : b = a := hA b (by rw [q]; simp)
        subst e'
        rw [ha] at e; cases e
        have d' : Data.seq vs.toArray _ = Data.dict es ep := d
        cases d'
    have nsK : ∀ {b : Addr} {m : Str → Option Value}, s₁.heap.Ns b m → (hidT s₁.heap H).Ns b m := fun {b m} ⟨o, es, ep, e, d, r⟩ => ⟨o, es, ep, base_of e (noA e d), d, r⟩
    have hKb : K.In (hidT s₁.heap H) := fun b o e => base_of (KX b o e) (by
      cases q : H b with
      | none => rfl
      | some u =>
        have e' : b = a := hA b (by rw [q]; simp)
        subst e'
        rw [hK (by rw [q]; simp)] at e; cases e)
    have hM : Mod K mg (hidT s₁.heap H) := ⟨hKb, nsK hns, ⟨mb, nsK hb, hbb⟩, let ⟨mc, h1, h2⟩ := hlim; ⟨mc, nsK h1, h2⟩⟩
    have e0 : Env0 P w K mg (hidT s₁.heap H) callerA [] s₁ H := ⟨rfl, hM, fun b o e => of_hidT e, Nat.le_of_eq (hidT_size _ _), trivial, fun b hb => absurd (show b ∈ ([] : List Addr) from hb) (by simp), hok, .of_eq hg⟩
    refine codeAny_mono ((F _ hKb (nsK hns)).run callerA [] s₁ H ⟨[.ref a], []⟩ [.ref a] [.ref a] _ _ hr e0 (hbind s₁ (.ref a)) (.cons rfl .nil) (hsp H hO hS)) fun r s' h => ?_
    cases r with
    | error e => exact (hCX H e s' h).elim
    | ok fl =>
      cases fl with
      | next => exact False.elim h
      | brk => exact False.elim h
      | cont => exact False.elim h
      | ret u =>
        obtain ⟨v, H', os, bare, un, hok', r', q⟩ := h
        have q' : v = .bl true := q
        subst q'
        obtain rfl : u = Value.bool true := r'
        refine ⟨rfl, OldK.of_keep fun b o e => ?_, os, bare⟩
        cases q : H b with
        | none => exact un.keep b o e q (by intro z; exact absurd (show b ∈ ([] : List Addr) from z) (by simp)) (by simp)
        | some u =>
          rcases hO b with z | ⟨ob, xs, z⟩
          · rw [q] at z; cases z
          · have z2 := un.frzs b ob _ z
            obtain ⟨e1, _⟩ := hok b _ z
            obtain ⟨e2, _⟩ := hok' b _ z2
            rw [e] at e1; cases e1
            exact e2
  cases hk : K.lookup a with
  | some o =>
    -- the script is one of the module's own objects
    have e := KX a o hk
    rw [ha] at e
    cases e
    refine core (fun _ => none) (fun _ => .inl rfl) (.inr ⟨_, vs.toArray, _, hk, rfl, rfl, rfl, by rw [List.size_toArray, lenV]; exact hl, by simpa using rv⟩) (fun b u z => by have z' : (none : Option HO) = some u := z; cases z') (fun b z => absurd rfl z) fun z => absurd rfl z
  | none =>
    refine core (fun b => if b = a then some (.frz { cls := .type "list", data := .seq vs.toArray } (.lst (ns.map V.int))) else none) (fun b => ?_) (.inl (.inr ⟨{ cls := .type "list", data := .seq vs.toArray }, if_pos rfl⟩)) (fun b u z => ?_) (fun b z => ?_) fun _ => hk
    · by_cases hb : b = a
      · exact .inr ⟨_, _, if_pos hb⟩
      · exact .inl (if_neg hb)
    · by_cases hb : b = a
      · have z' := (if_pos hb).symm.trans z
        cases z'
        subst hb
        exact ⟨ha, by rw [List.length_map]; exact hl, vs, _, rv, ha⟩
      · have z' := (if_neg hb).symm.trans z
        cases z'
    · by_cases hb : b = a
      · exact hb
      · exact absurd (if_neg hb) z
end L2

namespace L2
open PySem PySem.Spec PyProof.Rows

abbrev KOf {K : PySem.W.Frag} {h : Heap} (_ : K.In h) : PySem.W.Frag := K

/-- the goal that k_head leaves (case hc), from the law's promise. F gives the function object fd (K's own) once, then the promise over every base -/
theorem walk_of {l : PySem.W.OpenLaw} {n k : Nat} {q : Program} {loose : List Str} {XP : (Str → Option Value) → Heap → Prop} {YP : World → Heap → Prop} {d : DefRec} {K : Params → PySem.W.Frag} {CX : World → CXT} {sp : World → Sp} {x : Str}
    (hn : l.most = some n) (hn2 : n ≤ sizeLine) (hdf : d.params.defaults = []) (hr : Room k callerA)
    (hY : ∀ (w : World) (h : Heap), YP w h → (K w.params).In h)
    (F : ∀ (w : World) (mg : Str → Option Value) (fa : Addr) (h : Heap), (K w.params).In h → h.Ns mainGlobals mg → mg d.name = some (.ref fa) →
      ∃ fd : FuncData, (∀ (s : Shared) (u : Value), BindsTo s fd ⟨[u], []⟩ [(x, u)]) ∧
        ∀ base : Heap, (K w.params).In base → base.Ns mainGlobals mg → FnOk l.prog w (K w.params) mg base (CX w) k fa fd [x] (sp w))
    (hsp : ∀ (w : World) (H : Hp) (a : Addr) (ns : List Int), ns.length ≤ n → Only H → SqL (K w.params) H a (ns.map V.int) → sp w [.ref a] H (fun v _ => v = .bl true) fun _ _ _ => False)
    (hCX : ∀ (w : World) (H : Hp) (s : Shared) (e : Value) (s' : Shared), CX w [] H s (fun _ _ _ => False) e s' → False) :
    PySem.W.WalkO q loose XP YP l.row.toRowW d [] (fun f vs => PySem.call f vs) := by
  refine Att.attach_call hn hdf fun w s₀ s₁ mg mb fa o pm cd doc a vs ns G Y ho hd hcd hmg hobj hints hlen hg => ?_
  have KX := hY w _ Y
  obtain ⟨fd, hb, hF⟩ := F w mg fa _ KX G.T.g hmg
  exact law_call KX G.T.g G.T.b G.T.builtins G.T.nolimit hg hobj hints (Nat.le_trans hlen hn2) hr hF hb (fun H hO hS => hsp w H a ns hlen hO hS) fun H e s' => hCX w H s₁ e s'
end L2

/- THE LAST THEOREM (shape; LID, My.* are yours):
   My.Adr: a structure of the addresses that your layer names (classes, functions); My.Txt K t: a structure (Prop) of the equations over K;
   My.txt_mk : {K} {implicit addresses ..} (e1 : nsIn K mainGlobals "law" = some (some (.ref f))) (e2 : K.lookup f = some ⟨oc, od, .func (fnOf "law" "law" params body scope dV kV doc pm an cdv ct), sl⟩) (e3 : codeIn K cdv "law" = true) .. : ∃ t, My.Txt K t

set_option maxRecDepth 100000 in
set_option maxHeartbeats 0 in
theorem PySem.Challenge.cw_LID_holds : PySem.Challenge.rw_LID.Holds := by
  w_on; o_law; k_head; (case hw => w_witness2)
  k_fill
  refine L2.walk_of (l := PySem.Challenge.rw_LID) (n := 63) (k := 40) (x := "script") (CX := fun w => ..) (sp := fun _ => My.sp_law) rfl (by decide) rfl ⟨rfl, by decide, by decide⟩ (fun w h Y => PySem.W.kIn_of Y) ?F ?S ?C
  case F =>
    intro w mg fa h KX G hmg
    have T : ∃ t, My.Txt (L2.KOf KX) t := by
      dsimp only [L2.KOf]                          -- K must stand as «<heap const> w.params» for k_is
      refine' My.txt_mk ?e1 ?e2 ?e3 ..
      (case e1 => PySem.W.k_is)                    -- in the order: a name -> its address -> its object -> its parts
      (case e2 => PySem.W.k_is)
      ..
    obtain ⟨t, T⟩ := T
    have e0 := hmg.symm.trans (PySem.W.mg_of KX G T.law)
    cases e0                                       -- fa is the law's own address
    exact ⟨_, fun s u => .of_eq rfl, fun base kb nb => My.law_fn T kb nb⟩     -- if «.of_eq rfl» comes too early: refine' ⟨_, ?b, fun base kb nb => My.law_fn T kb nb⟩; exact fun s u => .of_eq rfl
  case S => exact fun w H a ns hl hO hS => ..
  case C => exact ..
(the tactic k_is has no namespace: write k_is) -/

/-! SHORT WORDS over the layer: a def of the text, its body, what a loop and a test want. -/
namespace L2
open PySem PySem.Spec PyProof.Rows

/-! ### the text by places -/
def defArgs (s : Stmt) : Arguments := match s with
  | .FunctionDef _ a _ _ _ _ _ _ _ _ => a
  | _ => { posonlyargs := [], args := [], vararg := none, kwonlyargs := [], kw_defaults := [], kwarg := none, defaults := [] }
def defBody (s : Stmt) : List Stmt := match s with
  | .FunctionDef _ _ b _ _ _ _ _ _ _ => b
  | _ => []
def defScope (s : Stmt) : Scope := match s with
  | .FunctionDef _ _ _ _ _ _ sc _ _ _ => sc
  | _ => { kind := .function, names := [], isGenerator := false, isCoroutine := false }

/-! ### no exception leaves a def -/
abbrev CX0 : CXT := fun _ _ _ _ _ _ => False
abbrev E0 : XK := fun _ _ _ => False
theorem pass0 {X : Cx} : Passes CX0 X E0 := fun _ _ _ _ _ _ _ h => h.elim

/-! ### a def (or method) of the text as it stands behind the top -/
structure Fun (K : PySem.W.Frag) (x qual : Str) (st : Stmt) (f : Addr) (fd : FuncData) : Prop where
  ex : ∃ (oc : Value) (od : Option Addr) (kV doc pm : Value) (an : Option Addr) (cdv ct : Value) (osl : Array (Option Value)),
    fd = PySem.W.fnOf x qual (defArgs st) (defBody st) (defScope st) .none kV doc pm an cdv ct ∧ K.lookup f = some ⟨oc, od, .func fd, osl⟩ ∧ PySem.W.codeIn K cdv qual = true
  kp : PySem.W.keepIn K (.ref f) = true
section
variable {P : Program} {w : World} {K : PySem.W.Frag} {mg : Str → Option Value} {base : Heap}
/-- THE RULE for a def: its body as a term of rules, and the reading of that term -/
theorem Fun.ok {x qual : Str} {st : Stmt} {f : Addr} {fd : FuncData} {N ps : List Str} {k : Nat} {sp : Sp} (F : Fun K x qual st f fd) (S : FnScope N ps (defScope st)) (len : ∀ vs H Q E, sp vs H Q E → vs.length = ps.length)
    (hbody : ∀ (cdv : Value) (A : Around) (outer : List Env) (s : Shared) (H : Hp) (vs : List V) (Q : VK) (E : XK), Room k (A.deeper (envOfC qual (defScope st) s.heap.objs.size f cdv)) → sp vs H Q E →
      ∃ t, PSs (cxOf CX0 P w K mg base N qual (defScope st) f cdv A outer s H E).nox (defBody st) t ∧ t { nx := fun _ H' => Q .non H', rt := Q } (start N vs) H) : FnOk P w K mg base CX0 (k + 1) f fd ps sp := by
  obtain ⟨oc, od, kV, doc, pm, an, cdv, ct, osl, rfl, lk, hcd⟩ := F.ex
  refine fn_of lk hcd S len fun A outer s H vs Q E hr hsp => ?_
  obtain ⟨t, h, q⟩ := hbody cdv A outer s H vs Q E hr hsp
  exact ⟨t, h.nox, q⟩
/-- how its arguments bind (no defaults): h is «fun _ _ _ _ _ _ us hl => match us, hl with | [_, _], _ => rfl», one _ a parameter -/
theorem Fun.binds {x qual : Str} {st : Stmt} {f : Addr} {fd : FuncData} {ps : List Str} (F : Fun K x qual st f fd)
    (h : ∀ (kV doc pm : Value) (an : Option Addr) (cdv ct : Value) (us : List Value), us.length = ps.length → bindArgs (PySem.W.fnOf x qual (defArgs st) (defBody st) (defScope st) .none kV doc pm an cdv ct) ⟨us, []⟩ = pure (ps.zip us)) : Binds K fd ps [] := by
  obtain ⟨oc, od, kV, doc, pm, an, cdv, ct, osl, rfl, lk, hcd⟩ := F.ex
  exact .all (h kV doc pm an cdv ct)
theorem fun_mk {x qual : Str} {st : Stmt} {f : Addr} {oc : Value} {od an : Option Addr} {osl : Array (Option Value)} {kV doc pm cdv ct : Value} (l : K.lookup f = some ⟨oc, od, .func (PySem.W.fnOf x qual (defArgs st) (defBody st) (defScope st) .none kV doc pm an cdv ct), osl⟩)
    (c : PySem.W.codeIn K cdv qual = true) (k : PySem.W.keepIn K (.ref f) = true) : Fun K x qual st f (PySem.W.fnOf x qual (defArgs st) (defBody st) (defScope st) .none kV doc pm an cdv ct) := ⟨⟨oc, od, kV, doc, pm, an, cdv, ct, osl, rfl, l, c⟩, k⟩
end
/-! ### expressions in short: the name that stands in the i-th slot -/
section
variable {X : Cx}
end

/-! ### tests -/
theorem iteF {A B : Prop} (h : B) : if false = true then A else B := by
  rw [if_neg Bool.false_ne_true]
  exact h
theorem iteT {A B : Prop} (h : A) : if true = true then A else B := by
  rw [if_pos rfl]
  exact h
/-! ### heaps -/
/-- all that was tracked is as it was -/
def Same (H H' : Hp) : Prop := ∀ b o, H b = some o → H' b = some o
theorem Same.refl (H : Hp) : Same H H := fun _ _ h => h
theorem Same.trans {H H1 H2 : Hp} (a : Same H H1) (b : Same H1 H2) : Same H H2 := fun c o h => b c o (a c o h)
theorem Same.free {H H' : Hp} (e : Same H H') {l : Addr} (h : H' l = Option.none) : H l = Option.none := by
  cases q : H l with
  | none => rfl
  | some o =>
    rw [e l o q] at h
    cases h
theorem Same.seq {K : PySem.W.Frag} {H H' : Hp} {a : Addr} {xs : List V} (e : Same H H') (h : SqL K H a xs) : SqL K H' a xs := by
  rcases h with (h | ⟨o, h⟩) | h
  · exact .inl (.inl (e _ _ h))
  · exact .inl (.inr ⟨o, e _ _ h⟩)
  · exact .inr h

/-! ### a dict's pairs: keys that differ -/
section
variable {κ : Type} [DecidableEq κ]
end
/-! ### lists -/
/-- a new instance and its __init__ leave all that was tracked as it was -/
theorem Same.made {H H1 : Hp} {x dx C : Addr} (nx : H x = Option.none) (nd : H dx = Option.none) (k : ∀ b o, (upd (upd H dx (.own x)) x (.ins C dx [])) b = some o → b ≠ x → H1 b = some o) : Same H H1 := fun b o e =>
  k b o (by rw [upd_ne (ne_of_none e nx), upd_ne (ne_of_none e nd)]; exact e) (ne_of_none e nx)
end L2

section
set_option Elab.async false
set_option linter.all false
set_option maxRecDepth 100000
set_option maxHeartbeats 2000000
namespace L2
open PySem PySem.Spec PyProof.Rows
open PySem.W (WData Codec OpenSpec Well WellAll ReadsW ReadsAllW)
/-! ### an answer as data -/
mutual
/-- x stands for the datum d, lists and tuples all the way -/
inductive Dw (K : PySem.W.Frag) (H : Hp) : V → WData → Prop
  | non : Dw K H .non .none
  | bl (b : Bool) : Dw K H (.bl b) (.bool b)
  | int (i : Int) : Dw K H (.int i) (.int i)
  | str (x : Str) : Dw K H (.str x) (.str x)
  | byt (b : Array UInt8) : Dw K H (.byt b) (.bytes b.toList)
  | lst {a : Addr} {xs : List V} {ds : List WData} : SqL K H a xs → DwAll K H xs ds → Dw K H (.ref a) (.list ds)
  | tup {a : Addr} {xs : List V} {ds : List WData} : SqT K H a xs → DwAll K H xs ds → Dw K H (.ref a) (.tuple ds)
inductive DwAll (K : PySem.W.Frag) (H : Hp) : List V → List WData → Prop
  | nil : DwAll K H [] []
  | cons {v : V} {vs : List V} {d : WData} {ds : List WData} : Dw K H v d → DwAll K H vs ds → DwAll K H (v :: vs) (d :: ds)
end
theorem dw_ints {K : PySem.W.Frag} {H : Hp} : ∀ ns : List Int, DwAll K H (ns.map V.int) (ns.map WData.int)
  | [] => .nil
  | n :: r => .cons (.int n) (dw_ints r)
theorem ints_dw {K : PySem.W.Frag} {H : Hp} : ∀ (ns : List Int) (xs : List V), DwAll K H xs (ns.map WData.int) → xs = ns.map V.int
  | [], xs, h => by
    cases h
    rfl
  | n :: r, xs, h => by
    cases h with
    | cons h1 h2 =>
      cases h1
      rw [ints_dw r _ h2] <;> rfl
section
variable {P : Program} {w : World} {K : PySem.W.Frag} {H : Hp} {h : Heap} {R : PySem.W.WRecords} {cl : Str → Option Addr}
theorem sqL_at {a : Addr} {xs : List V} (hok : HOk P w H h) (KX : K.In h) (q : SqL K H a xs) : ∃ (its : List Value) (o : Obj) (n : Nat), Vals xs its ∧ h.get? a = some o ∧ o.cls = .type "list" ∧ o.data = .seq its.toArray n := by
  rcases q with q | ⟨o, its, n, e, hc, _, hd, _, hv⟩
  · obtain ⟨_, its, n, hv, e⟩ := (show ObjOk P w H h a (.lst xs) from q.ok hok)
    exact ⟨its, _, n, hv, e, rfl, rfl⟩
  · exact ⟨its.toList, o, n, hv, KX _ _ e, hc, by simp [hd]⟩
theorem sqT_at {a : Addr} {xs : List V} (hok : HOk P w H h) (KX : K.In h) (q : SqT K H a xs) : ∃ (its : List Value) (o : Obj) (n : Nat), Vals xs its ∧ h.get? a = some o ∧ o.cls = .type "tuple" ∧ o.data = .seq its.toArray n := by
  rcases q with q | ⟨o, its, n, e, hc, hd, _, hv⟩
  · obtain ⟨_, its, hv, o, e, hc, n, hd⟩ := (show ObjOk P w H h a (.tup xs) from q.ok hok)
    exact ⟨its, o, n, hv, e, hc, hd⟩
  · exact ⟨its.toList, o, n, hv, KX _ _ e, hc, by simp [hd]⟩
mutual
theorem Dw.reads (hok : HOk P w H h) (KX : K.In h) : ∀ (d : WData) (v : V) (u : Value), Dw K H v d → RelV v u → ∃ as, ReadsW R cl h u d as
  | .none, _, _, x, r => by
    cases x
    cases r
    exact ⟨_, ReadsW.none⟩
  | .bool b, _, _, x, r => by
    cases x
    cases r
    exact ⟨_, ReadsW.bool b⟩
  | .int i, _, _, x, r => by
    cases x
    obtain ⟨t, rfl⟩ := r
    exact ⟨_, ReadsW.int i t⟩
  | .str s, _, _, x, r => by
    cases x
    obtain ⟨t, rfl⟩ := r
    exact ⟨_, ReadsW.str s t⟩
  | .bytes b, _, _, x, r => by
    cases x
    obtain ⟨t, rfl⟩ := r
    exact ⟨_, ReadsW.bytes _ t⟩
  | .list ds, _, _, x, r => by
    cases x with
    | lst hs ha =>
      cases r
      obtain ⟨its, o, n, rv, ho, hc, hd⟩ := sqL_at hok KX hs
      obtain ⟨as, hr⟩ := Dw.readsAll hok KX ds _ its ha rv
      exact ⟨_, ReadsW.list ho hc hd hr⟩
  | .tuple ds, _, _, x, r => by
    cases x with
    | tup hs ha =>
      cases r
      obtain ⟨its, o, n, rv, ho, hc, hd⟩ := sqT_at hok KX hs
      obtain ⟨as, hr⟩ := Dw.readsAll hok KX ds _ its ha rv
      exact ⟨_, ReadsW.tuple ho hc hd hr⟩
  | .float _, _, _, x, _ => by cases x
  | .dict _, _, _, x, _ => by cases x
  | .bytearray _, _, _, x, _ => by cases x
  | .set _, _, _, x, _ => by cases x
  | .frozenset _, _, _, x, _ => by cases x
  | .obj _ _, _, _, x, _ => by cases x
theorem Dw.readsAll (hok : HOk P w H h) (KX : K.In h) : ∀ (ds : List WData) (vs : List V) (us : List Value), DwAll K H vs ds → Vals vs us → ∃ as, ReadsAllW R cl h us ds as
  | [], _, _, x, r => by
    cases x
    cases r
    exact ⟨_, ReadsAllW.nil⟩
  | d :: ds, _, _, x, r => by
    cases x with
    | cons h1 h2 =>
      cases r with
      | cons r1 r2 =>
        obtain ⟨as, q1⟩ := Dw.reads hok KX d _ _ h1 r1
        obtain ⟨bs, q2⟩ := Dw.readsAll hok KX ds _ _ h2 r2
        exact ⟨_, ReadsAllW.cons q1 q2⟩
end
end
/-! ### the arguments -/
mutual
/-- data that a codec tells -/
def plW : WData → Bool
  | .none => true
  | .bool _ => true
  | .int _ => true
  | .str _ => true
  | .bytes _ => true
  | .list xs => plWs xs
  | .tuple xs => plWs xs
  | _ => false
def plWs : List WData → Bool
  | [] => true
  | x :: r => plW x && plWs r
end
theorem plWs_map {α : Type} {f : α → WData} (h : ∀ a, plW (f a) = true) : ∀ l : List α, plWs (l.map f) = true
  | [] => rfl
  | x :: r => by
    show (plW (f x) && plWs (r.map f)) = true
    rw [h x, plWs_map h r] <;> rfl
theorem pl_enc : ∀ (c : Codec) (a : c.denote), plW (c.enc a) = true
  | .unit, _ => rfl
  | .bool, _ => rfl
  | .int _ _, _ => rfl
  | .nat _ _, _ => rfl
  | .u8, _ => rfl
  | .bytes _ _, _ => rfl
  | .text _ _ _ _, _ => rfl
  | .list _ _ c, a => plWs_map (fun x => pl_enc c x) a
  | .pair c d, a => by
    show (plW (c.enc a.1) && (plW (d.enc a.2) && true)) = true
    rw [pl_enc c a.1, pl_enc d a.2] <;> rfl
  | .triple c d e, a => by
    show (plW (c.enc a.1) && (plW (d.enc a.2.1) && (plW (e.enc a.2.2) && true))) = true
    rw [pl_enc c a.1, pl_enc d a.2.1, pl_enc e a.2.2] <;> rfl
  | .option c, none => rfl
  | .option c, some x => pl_enc c x
theorem pl_encAll : ∀ (cs : List Codec) (a : Codec.denoteAll cs), plWs (Codec.encAll cs a) = true
  | [], _ => rfl
  | c :: cs, a => by
    show (plW (c.enc a.1) && plWs (Codec.encAll cs a.2)) = true
    rw [pl_enc c a.1, pl_encAll cs a.2] <;> rfl
theorem weight_mem : ∀ {xs : List WData} {d : WData}, d ∈ xs → d.weight ≤ WData.weightAll xs
  | [], d, h => absurd h (by simp)
  | x :: r, d, h => by
    show d.weight ≤ x.weight + 1 + WData.weightAll r
    rcases List.mem_cons.mp h with e | m
    · rw [e]
      omega
    · have z := weight_mem m
      omega
def toV : Value → V
  | .none => .non
  | .bool b => .bl b
  | .int i _ => .int i
  | .str x _ => .str x
  | .bytes b _ => .byt b
  | .ref a => .ref a
  | _ => .non
/-- a value of the arguments, its objects among A -/
def OkU (A : List Addr) : Value → Prop
  | .none => True
  | .bool _ => True
  | .int _ _ => True
  | .str _ _ => True
  | .bytes _ _ => True
  | .ref a => a ∈ A
  | _ => False
theorem OkU.mono {A B : List Addr} (h : ∀ a ∈ A, a ∈ B) : ∀ {u : Value}, OkU A u → OkU B u := fun {u} x => by
  cases u with
  | ref a => exact h a x
  | none => trivial
  | bool b => trivial
  | int i t => trivial
  | str s t => trivial
  | bytes b t => trivial
  | _ => exact False.elim x
theorem relV_toV {A : List Addr} {u : Value} (x : OkU A u) : RelV (toV u) u := by
  cases u with
  | ref a => rfl
  | none => rfl
  | bool b => rfl
  | int i t => exact ⟨t, rfl⟩
  | str s t => exact ⟨t, rfl⟩
  | bytes b t => exact ⟨t, rfl⟩
  | _ => exact False.elim x
theorem vals_toV {A : List Addr} : ∀ {vs : List Value}, (∀ u ∈ vs, OkU A u) → Vals (vs.map toV) vs
  | [], _ => .nil
  | u :: r, h => .cons (relV_toV (h u (List.mem_cons_self ..))) (vals_toV fun x hx => h x (List.mem_cons_of_mem _ hx))
/-- an object of the arguments -/
def ArgOb (h : Heap) (A : List Addr) (a : Addr) : Prop := ∃ vs : List Value, vs.length ≤ sizeLine ∧ (∀ u ∈ vs, OkU A u) ∧
  (h.get? a = some { cls := .type "list", data := .seq vs.toArray } ∨ h.get? a = some { cls := .type "tuple", data := .seq vs.toArray })
theorem ArgOb.mono {h : Heap} {A B : List Addr} {a : Addr} (k : ∀ a ∈ A, a ∈ B) (x : ArgOb h A a) : ArgOb h B a := by
  obtain ⟨vs, h1, h2, h3⟩ := x
  exact ⟨vs, h1, fun u hu => (h2 u hu).mono k, h3⟩
theorem wellAll_len {P : Params} {h : Heap} : ∀ {vs : List Value} {ds : List WData}, WellAll P h vs ds → vs.length = ds.length
  | _, _, .nil => rfl
  | _, _, .cons _ b => by
    show _ + 1 = _ + 1
    rw [wellAll_len b]
theorem well_list {P : Params} {h : Heap} {v : Value} {ds : List WData} (x : Well P h v (.list ds)) : ∃ (a : Addr) (vs : List Value), v = .ref a ∧ h.get? a = some { cls := .type "list", data := .seq vs.toArray } ∧ WellAll P h vs ds := by
  cases x with
  | list ho hall => exact ⟨_, _, rfl, ho, hall⟩
theorem well_tuple {P : Params} {h : Heap} {v : Value} {ds : List WData} (x : Well P h v (.tuple ds)) : ∃ (a : Addr) (vs : List Value), v = .ref a ∧ h.get? a = some { cls := .type "tuple", data := .seq vs.toArray } ∧ WellAll P h vs ds := by
  cases x with
  | tuple ho hall => exact ⟨_, _, rfl, ho, hall⟩
theorem well_cons {P : Params} {h : Heap} {us : List Value} {d : WData} {ds : List WData} (x : WellAll P h us (d :: ds)) : ∃ (v : Value) (vs : List Value), us = v :: vs ∧ Well P h v d ∧ WellAll P h vs ds := by
  cases x with
  | cons a b => exact ⟨_, _, rfl, a, b⟩
theorem line_of {n : Nat} (h : n ≤ 1048576) : n ≤ sizeLine := Nat.le_trans h (by decide)
section
variable {P : Params} {h : Heap}
mutual
theorem area_one : ∀ (d : WData) (v : Value), Well P h v d → plW d = true → d.weight ≤ 1048576 → ∃ A : List Addr, OkU A v ∧ ∀ a ∈ A, ArgOb h A a
  | .none, _, x, _, _ => by
    cases x
    exact ⟨[], trivial, fun a m => absurd m (by simp)⟩
  | .bool b, _, x, _, _ => by
    cases x
    exact ⟨[], trivial, fun a m => absurd m (by simp)⟩
  | .int i, _, x, _, _ => by
    cases x
    exact ⟨[], trivial, fun a m => absurd m (by simp)⟩
  | .str s, _, x, _, _ => by
    cases x
    exact ⟨[], trivial, fun a m => absurd m (by simp)⟩
  | .bytes b, _, x, _, _ => by
    cases x
    exact ⟨[], trivial, fun a m => absurd m (by simp)⟩
  | .list ds, _, x, p, z => by
    obtain ⟨a, vs, rfl, ho, hall⟩ := well_list x
    have z2 : WData.weightAll ds ≤ 1048576 := z
    obtain ⟨A, h1, h2⟩ := area_all ds _ hall p fun d hd => Nat.le_trans (weight_mem hd) z2
    have k : ∀ b ∈ A, b ∈ a :: A := fun b hb => List.mem_cons_of_mem _ hb
    refine ⟨a :: A, List.mem_cons_self .., fun b hb => ?_⟩
    rcases List.mem_cons.mp hb with e | m
    · rw [e]
      exact ⟨vs, line_of (by rw [wellAll_len hall]; exact Nat.le_trans (PySem.W.length_le_weightAllW ds) z2), fun u hu => (h1 u hu).mono k, .inl ho⟩
    · exact (h2 b m).mono k
  | .tuple ds, _, x, p, z => by
    obtain ⟨a, vs, rfl, ho, hall⟩ := well_tuple x
    have z2 : WData.weightAll ds ≤ 1048576 := z
    obtain ⟨A, h1, h2⟩ := area_all ds _ hall p fun d hd => Nat.le_trans (weight_mem hd) z2
    have k : ∀ b ∈ A, b ∈ a :: A := fun b hb => List.mem_cons_of_mem _ hb
    refine ⟨a :: A, List.mem_cons_self .., fun b hb => ?_⟩
    rcases List.mem_cons.mp hb with e | m
    · rw [e]
      exact ⟨vs, line_of (by rw [wellAll_len hall]; exact Nat.le_trans (PySem.W.length_le_weightAllW ds) z2), fun u hu => (h1 u hu).mono k, .inr ho⟩
    · exact (h2 b m).mono k
  | .float _, _, _, p, _ => Bool.noConfusion (show false = true from p)
  | .dict _, _, _, p, _ => Bool.noConfusion (show false = true from p)
  | .bytearray _, _, _, p, _ => Bool.noConfusion (show false = true from p)
  | .set _, _, _, p, _ => Bool.noConfusion (show false = true from p)
  | .frozenset _, _, _, p, _ => Bool.noConfusion (show false = true from p)
  | .obj _ _, _, _, p, _ => Bool.noConfusion (show false = true from p)
theorem area_all : ∀ (ds : List WData) (vs : List Value), WellAll P h vs ds → plWs ds = true → (∀ d ∈ ds, d.weight ≤ 1048576) → ∃ A : List Addr, (∀ u ∈ vs, OkU A u) ∧ ∀ a ∈ A, ArgOb h A a
  | [], _, x, _, _ => by
    cases x
    exact ⟨[], fun u m => absurd m (by simp), fun a m => absurd m (by simp)⟩
  | d :: ds, _, x, p, z => by
    obtain ⟨v, vs, rfl, x1, x2⟩ := well_cons x
    have q : plW d = true ∧ plWs ds = true := Bool.and_eq_true_iff.mp p
    obtain ⟨A, a1, a2⟩ := area_one d v x1 q.1 (z d (List.mem_cons_self ..))
    obtain ⟨B, b1, b2⟩ := area_all ds vs x2 q.2 fun e he => z e (List.mem_cons_of_mem _ he)
    have kA : ∀ b ∈ A, b ∈ A ++ B := fun b hb => List.mem_append.mpr (.inl hb)
    have kB : ∀ b ∈ B, b ∈ A ++ B := fun b hb => List.mem_append.mpr (.inr hb)
    refine ⟨A ++ B, fun u hu => ?_, fun b hb => ?_⟩
    · rcases List.mem_cons.mp hu with e | m
      · rw [e]
        exact a1.mono kA
      · exact (b1 u m).mono kB
    · rcases List.mem_append.mp hb with m | m
      · exact (a2 b m).mono kA
      · exact (b2 b m).mono kB
end
end
/-- what is tracked of an argument's object -/
def hoOf (o : Obj) : Option HO := match o.data with
  | .seq vs _ => if (o.cls == Value.type "list") = true then some (.frz o (.lst (vs.toList.map toV))) else some (.frz o (.tup (vs.toList.map toV)))
  | _ => none
def argH (K : PySem.W.Frag) (h : Heap) (A : List Addr) : Hp := fun b => if b ∈ A then (if (K.lookup b).isNone = true then (h.get? b).bind hoOf else none) else none
/-- nothing is tracked but what is known to the object -/
def OnlyF (H : Hp) : Prop := ∀ b, H b = none ∨ ∃ o u, H b = some (.frz o u)
theorem hoOf_lst (vs : List Value) : hoOf { cls := .type "list", data := .seq vs.toArray } = some (.frz { cls := .type "list", data := .seq vs.toArray } (.lst (vs.map toV))) := by
  show (if (Value.type "list" == Value.type "list") = true then some (HO.frz { cls := .type "list", data := .seq vs.toArray } (.lst (vs.toArray.toList.map toV))) else some (HO.frz { cls := .type "list", data := .seq vs.toArray } (.tup (vs.toArray.toList.map toV)))) = _
  rw [if_pos (beq_self_eq_true _)]
theorem hoOf_tup (vs : List Value) : hoOf { cls := .type "tuple", data := .seq vs.toArray } = some (.frz { cls := .type "tuple", data := .seq vs.toArray } (.tup (vs.map toV))) := by
  show (if (Value.type "tuple" == Value.type "list") = true then some (HO.frz { cls := .type "tuple", data := .seq vs.toArray } (.lst (vs.toArray.toList.map toV))) else some (HO.frz { cls := .type "tuple", data := .seq vs.toArray } (.tup (vs.toArray.toList.map toV)))) = _
  rw [if_neg (by decide)]
section
variable {P : Program} {w : World} {K : PySem.W.Frag} {h : Heap} {A : List Addr}
theorem argH_at {b : Addr} {o : Obj} (hb : b ∈ A) (hk : K.lookup b = none) (e : h.get? b = some o) : argH K h A b = hoOf o := by
  unfold argH
  rw [if_pos hb, hk, if_pos (show (none : Option Obj).isNone = true from rfl), e] <;> rfl
theorem of_argH {b : Addr} {u : HO} (q : argH K h A b = some u) : b ∈ A ∧ K.lookup b = none := by
  unfold argH at q
  by_cases hb : b ∈ A
  · rw [if_pos hb] at q
    cases hk : K.lookup b with
    | none => exact ⟨hb, rfl⟩
    | some o =>
      rw [hk, if_neg (by simp)] at q
      cases q
  · rw [if_neg hb] at q
    cases q
/-- what stands tracked -/
theorem argH_is (ar : ∀ a ∈ A, ArgOb h A a) {b : Addr} {u : HO} (q : argH K h A b = some u) : K.lookup b = none ∧ ∃ vs : List Value, vs.length ≤ sizeLine ∧ (∀ u ∈ vs, OkU A u) ∧
    ((h.get? b = some { cls := .type "list", data := .seq vs.toArray } ∧ u = .frz { cls := .type "list", data := .seq vs.toArray } (.lst (vs.map toV))) ∨
     (h.get? b = some { cls := .type "tuple", data := .seq vs.toArray } ∧ u = .frz { cls := .type "tuple", data := .seq vs.toArray } (.tup (vs.map toV)))) := by
  obtain ⟨hb, hk⟩ := of_argH q
  obtain ⟨vs, h1, h2, h3⟩ := ar b hb
  refine ⟨hk, vs, h1, h2, ?_⟩
  rcases h3 with e | e
  · rw [argH_at hb hk e, hoOf_lst] at q
    exact .inl ⟨e, (Option.some.inj q).symm⟩
  · rw [argH_at hb hk e, hoOf_tup] at q
    exact .inr ⟨e, (Option.some.inj q).symm⟩
theorem argH_only (ar : ∀ a ∈ A, ArgOb h A a) : OnlyF (argH K h A) := fun b => by
  cases q : argH K h A b with
  | none => exact .inl rfl
  | some u =>
    obtain ⟨_, vs, _, _, ⟨_, e⟩ | ⟨_, e⟩⟩ := argH_is ar q
    · exact .inr ⟨_, _, by rw [e]⟩
    · exact .inr ⟨_, _, by rw [e]⟩
theorem argH_ok (ar : ∀ a ∈ A, ArgOb h A a) : HOk P w (argH K h A) h := fun b u q => by
  obtain ⟨_, vs, h1, h2, ⟨e, rfl⟩ | ⟨e, rfl⟩⟩ := argH_is ar q
  · exact ⟨e, by rw [List.length_map]; exact h1, vs, _, vals_toV h2, e⟩
  · exact ⟨e, by rw [List.length_map]; exact h1, vs, vals_toV h2, _, e, rfl, _, rfl⟩
theorem seq_inj {c c' : Value} {vs us : List Value} (e : (some { cls := c, data := .seq vs.toArray } : Option Obj) = some { cls := c', data := .seq us.toArray }) : c = c' ∧ vs = us := by
  have e1 := Option.some.inj e
  have e2 : c = c' := congrArg Obj.cls e1
  have e3 : Data.seq vs.toArray = Data.seq us.toArray := congrArg Obj.data e1
  injection e3 with e4
  refine ⟨e2, ?_⟩
  have e5 := congrArg Array.toList e4
  simpa using e5
/-- a list argument -/
theorem argL (KX : K.In h) (ar : ∀ a ∈ A, ArgOb h A a) {a : Addr} {vs : List Value} (ha : a ∈ A) (e : h.get? a = some { cls := .type "list", data := .seq vs.toArray }) : (∀ u ∈ vs, OkU A u) ∧ SqL K (argH K h A) a (vs.map toV) := by
  obtain ⟨us, h1, h2, h3⟩ := ar a ha
  have hu : us = vs := by
    rcases h3 with q | q
    · rw [e] at q
      exact (seq_inj q).2.symm
    · rw [e] at q
      exact absurd (Value.type.inj (seq_inj q).1) (by decide)
  subst hu
  refine ⟨h2, ?_⟩
  cases hk : K.lookup a with
  | none => exact .inl (.inr ⟨_, by rw [argH_at ha hk e, hoOf_lst]⟩)
  | some o =>
    have e2 := KX a o hk
    rw [e] at e2
    obtain rfl := Option.some.inj e2
    exact .inr ⟨_, us.toArray, _, hk, rfl, rfl, rfl, by rw [List.size_toArray]; exact h1, by simpa using vals_toV h2⟩
theorem argT (KX : K.In h) (ar : ∀ a ∈ A, ArgOb h A a) {a : Addr} {vs : List Value} (ha : a ∈ A) (e : h.get? a = some { cls := .type "tuple", data := .seq vs.toArray }) : (∀ u ∈ vs, OkU A u) ∧ SqT K (argH K h A) a (vs.map toV) := by
  obtain ⟨us, h1, h2, h3⟩ := ar a ha
  have hu : us = vs := by
    rcases h3 with q | q
    · rw [e] at q
      exact absurd (Value.type.inj (seq_inj q).1) (by decide)
    · rw [e] at q
      exact (seq_inj q).2.symm
  subst hu
  refine ⟨h2, ?_⟩
  cases hk : K.lookup a with
  | none => exact .inl (.inr ⟨_, by rw [argH_at ha hk e, hoOf_tup]⟩)
  | some o =>
    have e2 := KX a o hk
    rw [e] at e2
    obtain rfl := Option.some.inj e2
    exact .inr ⟨_, us.toArray, _, hk, rfl, rfl, by rw [List.size_toArray]; exact h1, by simpa using vals_toV h2⟩
mutual
theorem dw_one {Pm : Params} (KX : K.In h) (ar : ∀ a ∈ A, ArgOb h A a) : ∀ (d : WData) (v : Value), Well Pm h v d → plW d = true → OkU A v → Dw K (argH K h A) (toV v) d
  | .none, _, x, _, _ => by
    cases x
    exact .non
  | .bool b, _, x, _, _ => by
    cases x
    exact .bl b
  | .int i, _, x, _, _ => by
    cases x
    exact .int i
  | .str s, _, x, _, _ => by
    cases x
    exact .str s
  | .bytes b, _, x, _, _ => by
    cases x
    have z := Dw.byt (K := K) (H := argH K h A) b.toArray
    exact z
  | .list ds, _, x, p, hu => by
    obtain ⟨a, vs, rfl, ho, hall⟩ := well_list x
    obtain ⟨h2, hs⟩ := argL KX ar hu ho
    exact .lst hs (dw_all KX ar ds _ hall p h2)
  | .tuple ds, _, x, p, hu => by
    obtain ⟨a, vs, rfl, ho, hall⟩ := well_tuple x
    obtain ⟨h2, hs⟩ := argT KX ar hu ho
    exact .tup hs (dw_all KX ar ds _ hall p h2)
  | .float _, _, _, p, _ => Bool.noConfusion (show false = true from p)
  | .dict _, _, _, p, _ => Bool.noConfusion (show false = true from p)
  | .bytearray _, _, _, p, _ => Bool.noConfusion (show false = true from p)
  | .set _, _, _, p, _ => Bool.noConfusion (show false = true from p)
  | .frozenset _, _, _, p, _ => Bool.noConfusion (show false = true from p)
  | .obj _ _, _, _, p, _ => Bool.noConfusion (show false = true from p)
theorem dw_all {Pm : Params} (KX : K.In h) (ar : ∀ a ∈ A, ArgOb h A a) : ∀ (ds : List WData) (vs : List Value), WellAll Pm h vs ds → plWs ds = true → (∀ u ∈ vs, OkU A u) → DwAll K (argH K h A) (vs.map toV) ds
  | [], _, x, _, _ => by
    cases x
    exact .nil
  | d :: ds, _, x, p, hu => by
    obtain ⟨v, vs, rfl, x1, x2⟩ := well_cons x
    have q : plW d = true ∧ plWs ds = true := Bool.and_eq_true_iff.mp p
    exact .cons (dw_one KX ar d v x1 q.1 (hu _ (List.mem_cons_self ..))) (dw_all KX ar ds vs x2 q.2 fun u m => hu u (List.mem_cons_of_mem _ m))
end
end
/-! ### the call -/
/-! ### the row -/
theorem layable_weight {ds : List WData} (h : WData.layableAll ds = true) : ∀ d ∈ ds, d.weight ≤ 1048576 := fun d hd =>
  (PySem.W.layableW_iff.mp (List.all_eq_true.mp h d hd)).2.2
theorem encAll_len : ∀ (cs : List Codec) (a : Codec.denoteAll cs), (Codec.encAll cs a).length = cs.length
  | [], _ => rfl
  | c :: cs, a => by
    show (Codec.encAll cs a.2).length + 1 = cs.length + 1
    rw [encAll_len cs a.2]
end L2
end

set_option Elab.async false
set_option linter.all false
set_option maxRecDepth 100000
set_option maxHeartbeats 2000000
/-! THE DATA LAYER: a program of pure functions told over data. Ev: an expression gives a datum. Wp: a block of statements leads to an end. Gr: which answer a def gives. -/
namespace Dn
open PySem PySem.Spec PyProof.Rows L2
set_option autoImplicit false

abbrev St := L2.St
/-! ### heaps that grow -/
theorem same_tup {K : PySem.W.Frag} {H H' : Hp} {a : Addr} {xs : List V} (e : Same H H') (h : SqT K H a xs) : SqT K H' a xs := by
  rcases h with (h | ⟨o, h⟩) | h
  · exact .inl (.inl (e _ _ h))
  · exact .inl (.inr ⟨o, e _ _ h⟩)
  · exact .inr h
/-! the data that a value stands for, instances of the text's own classes among them: such a one as a dict, its class's name ahead of its attributes -/
mutual
inductive Dq (K : PySem.W.Frag) (H : Hp) : V → PyData → Prop
  | non : Dq K H .non .none
  | bl (b : Bool) : Dq K H (.bl b) (.bool b)
  | int (i : Int) : Dq K H (.int i) (.int i)
  | str (x : Str) : Dq K H (.str x) (.str x)
  | lst {a : Addr} {xs : List V} {ds : List PyData} : SqL K H a xs → DqAll K H xs ds → Dq K H (.ref a) (.list ds)
  | tup {a : Addr} {xs : List V} {ds : List PyData} : SqT K H a xs → DqAll K H xs ds → Dq K H (.ref a) (.tuple ds)
  | obj {p dx C : Addr} {fs : List (Str × V)} {c : Str} {ds : List (PyData × PyData)} : PySem.W.nsIn K mainGlobals c = some (some (.ref C)) → H p = some (.ins C dx fs) → H dx = some (.own p) → DqF K H fs ds → Dq K H (.ref p) (.dict ((.str c, .none) :: ds))
inductive DqAll (K : PySem.W.Frag) (H : Hp) : List V → List PyData → Prop
  | nil : DqAll K H [] []
  | cons {v : V} {vs : List V} {d : PyData} {ds : List PyData} : Dq K H v d → DqAll K H vs ds → DqAll K H (v :: vs) (d :: ds)
inductive DqF (K : PySem.W.Frag) (H : Hp) : List (Str × V) → List (PyData × PyData) → Prop
  | nil : DqF K H [] []
  | cons {f : Str} {v : V} {fs : List (Str × V)} {d : PyData} {ds : List (PyData × PyData)} : Dq K H v d → DqF K H fs ds → DqF K H ((f, v) :: fs) ((.str f, d) :: ds)
end
abbrev obD (c : Str) (fs : List (Str × PyData)) : PyData := .dict ((.str c, .none) :: fs.map fun x => (.str x.1, x.2))
theorem dq_mono' {K : PySem.W.Frag} {H H' : Hp} (s : Same H H') {v : V} {d : PyData} (h : Dq K H v d) : Dq K H' v d :=
  Dq.rec (motive_1 := fun v d _ => Dq K H' v d) (motive_2 := fun vs ds _ => DqAll K H' vs ds) (motive_3 := fun fs ds _ => DqF K H' fs ds)
    .non .bl .int .str (fun h _ i => .lst (s.seq h) i) (fun h _ i => .tup (same_tup s h) i) (fun a b c _ i => .obj a (s _ _ b) (s _ _ c) i) .nil (fun _ _ a b => .cons a b) .nil (fun _ _ a b => .cons a b) h
theorem dqAll_mono' {K : PySem.W.Frag} {H H' : Hp} (s : Same H H') {vs : List V} {ds : List PyData} (h : DqAll K H vs ds) : DqAll K H' vs ds :=
  DqAll.rec (motive_1 := fun v d _ => Dq K H' v d) (motive_2 := fun vs ds _ => DqAll K H' vs ds) (motive_3 := fun fs ds _ => DqF K H' fs ds)
    .non .bl .int .str (fun h _ i => .lst (s.seq h) i) (fun h _ i => .tup (same_tup s h) i) (fun a b c _ i => .obj a (s _ _ b) (s _ _ c) i) .nil (fun _ _ a b => .cons a b) .nil (fun _ _ a b => .cons a b) h
theorem dqF_mono {K : PySem.W.Frag} {H H' : Hp} (s : Same H H') {fs : List (Str × V)} {ds : List (PyData × PyData)} (h : DqF K H fs ds) : DqF K H' fs ds :=
  DqF.rec (motive_1 := fun v d _ => Dq K H' v d) (motive_2 := fun vs ds _ => DqAll K H' vs ds) (motive_3 := fun fs ds _ => DqF K H' fs ds)
    .non .bl .int .str (fun h _ i => .lst (s.seq h) i) (fun h _ i => .tup (same_tup s h) i) (fun a b c _ i => .obj a (s _ _ b) (s _ _ c) i) .nil (fun _ _ a b => .cons a b) .nil (fun _ _ a b => .cons a b) h
theorem dp_mono {K : PySem.W.Frag} {H H' : Hp} (s : Same H H') (d : PyData) (v : V) (h : Dq K H v d) : Dq K H' v d := dq_mono' s h
theorem dpAll_mono {K : PySem.W.Frag} {H H' : Hp} (s : Same H H') (ds : List PyData) (vs : List V) (h : DqAll K H vs ds) : DqAll K H' vs ds := dqAll_mono' s h
mutual
theorem dq_dp {K : PySem.W.Frag} {H : Hp} : ∀ (d : PyData) (v : V), d.canLay0 = true → Dq K H v d → Dp K H v d
  | .none, _, _, h => by cases h; exact .non
  | .bool b, _, _, h => by cases h; exact .bl b
  | .int i, _, _, h => by cases h; exact .int i
  | .str x, _, _, h => by cases h; exact .str x
  | .list ds, _, c, h => by
    cases h with
    | lst hs ha => exact .lst hs (dqAll_dp ds _ (by simpa [PyData.canLay0] using c) ha)
  | .tuple ds, _, c, h => by
    cases h with
    | tup hs ha => exact .tup hs (dqAll_dp ds _ (by simpa [PyData.canLay0] using c) ha)
  | .dict _, _, c, _ => by simp [PyData.canLay0] at c
theorem dqAll_dp {K : PySem.W.Frag} {H : Hp} : ∀ (ds : List PyData) (vs : List V), PyData.canLayAll0 ds = true → DqAll K H vs ds → DpAll K H vs ds
  | [], _, _, h => by cases h; exact .nil
  | d :: ds, _, c, h => by
    simp only [PyData.canLayAll0, Bool.and_eq_true] at c
    cases h with
    | cons h1 h2 => exact .cons (dq_dp d _ c.1 h1) (dqAll_dp ds _ c.2 h2)
end
/-- the ghost G (what is never changed) and the heap H grow to G' and H' -/
structure Ext (G H G' H' : Hp) : Prop where
  gg : Same G G'
  hh : Same H H'
  sub : Same G' H'
  away : ∀ b o, H b = some o → G b = none → G' b = none
theorem Ext.refl {G H : Hp} (s : Same G H) : Ext G H G H := ⟨fun _ _ h => h, fun _ _ h => h, s, fun _ _ _ h => h⟩
theorem Ext.trans {G H G1 H1 G2 H2 : Hp} (a : Ext G H G1 H1) (b : Ext G1 H1 G2 H2) : Ext G H G2 H2 :=
  ⟨a.gg.trans b.gg, a.hh.trans b.hh, b.sub, fun c o h g => b.away c o (a.hh c o h) (a.away c o h g)⟩
theorem same_upd {H : Hp} {p : Addr} {o : HO} (hp : H p = none) : Same H (upd H p o) := fun b u e => by
  rw [upd_ne (ne_of_none e hp)]; exact e
theorem Ext.new {G H : Hp} {p : Addr} {o : HO} (s : Same G H) (hp : H p = none) : Ext G H (upd G p o) (upd H p o) := by
  have gp : G p = none := s.free hp
  refine ⟨same_upd gp, same_upd hp, fun b u e => ?_, fun b u e g => ?_⟩
  · by_cases hb : b = p
    · subst hb; rw [upd_same] at e ⊢; exact e
    · rw [upd_ne hb] at e ⊢; exact s b u e
  · rw [upd_ne (ne_of_none e hp)]; exact g
/-- a new object that stays changeable -/
theorem Ext.newM {G H : Hp} {p : Addr} {o : HO} (s : Same G H) (hp : H p = none) : Ext G H G (upd H p o) :=
  ⟨fun _ _ h => h, same_upd hp, s.trans (same_upd hp), fun _ _ _ g => g⟩

/-! ### rows of data -/
section
variable {K : PySem.W.Frag} {H : Hp}
theorem dpAll_len : ∀ {vs : List V} {ds : List PyData}, DqAll K H vs ds → vs.length = ds.length
  | _, _, .nil => rfl
  | _, _, .cons _ t => congrArg (· + 1) (dpAll_len t)
theorem dpAll_get : ∀ {vs : List V} {ds : List PyData} {i : Nat} {d : PyData}, DqAll K H vs ds → ds[i]? = some d → ∃ v, vs[i]? = some v ∧ Dq K H v d
  | _, _, _, _, .nil, e => by simp at e
  | _, _, 0, _, .cons h _, e => by simp at e; subst e; exact ⟨_, rfl, h⟩
  | _, _, i + 1, d, .cons _ t, e => by
    obtain ⟨v, h1, h2⟩ := dpAll_get (i := i) (d := d) t (by simpa using e)
    exact ⟨v, by simpa using h1, h2⟩
theorem dpAll_snoc : ∀ {vs : List V} {ds : List PyData} {v : V} {d : PyData}, DqAll K H vs ds → Dq K H v d → DqAll K H (vs ++ [v]) (ds ++ [d])
  | _, _, _, _, .nil, h => .cons h .nil
  | _, _, _, _, .cons a t, h => .cons a (dpAll_snoc t h)
theorem dpAll_app : ∀ {vs us : List V} {ds es : List PyData}, DqAll K H vs ds → DqAll K H us es → DqAll K H (vs ++ us) (ds ++ es)
  | _, _, _, _, .nil, h => h
  | _, _, _, _, .cons a t, h => .cons a (dpAll_app t h)
theorem dpAll_set : ∀ {vs : List V} {ds : List PyData} {v : V} {d : PyData} (i : Nat), DqAll K H vs ds → Dq K H v d → DqAll K H (vs.set i v) (ds.set i d)
  | _, _, _, _, _, .nil, _ => .nil
  | _, _, _, _, 0, .cons _ t, h => .cons h t
  | _, _, _, _, i + 1, .cons a t, h => .cons a (dpAll_set i t h)
theorem dpAll_ints : ∀ (ns : List Int), DqAll K H (ns.map V.int) (ns.map PyData.int)
  | [] => .nil
  | n :: r => .cons (.int n) (dpAll_ints r)
theorem ints_of : ∀ (ns : List Int) {vs : List V}, DqAll K H vs (ns.map PyData.int) → vs = ns.map V.int
  | [], _, h => by cases h; rfl
  | n :: r, _, h => by
    cases h with
    | cons h1 h2 =>
      cases h1
      rw [ints_of r h2] <;> rfl
theorem bls_of : ∀ (bs : List Bool) {vs : List V}, DqAll K H vs (bs.map PyData.bool) → vs = bs.map V.bl
  | [], _, h => by cases h; rfl
  | n :: r, _, h => by
    cases h with
    | cons h1 h2 =>
      cases h1
      rw [bls_of r h2] <;> rfl
theorem dpAll_atI {vs : List V} {ds : List PyData} {k : Int} {d : PyData} (h : DqAll K H vs ds) (e : atI ds k = some d) : ∃ v, atI vs k = some v ∧ Dq K H v d := by
  unfold atI at e ⊢
  rw [dpAll_len h]
  cases q : ixN ds.length k with
  | none => rw [q] at e; cases e
  | some j =>
    rw [q] at e
    exact dpAll_get (i := j) h e
theorem dpAll_rep {vs : List V} {ds : List PyData} (h : DqAll K H vs ds) : ∀ k : Nat, DqAll K H (List.replicate k vs).flatten (List.replicate k ds).flatten
  | 0 => .nil
  | k + 1 => by
    rw [List.replicate_succ, List.replicate_succ, List.flatten_cons, List.flatten_cons]
    exact dpAll_app h (dpAll_rep h k)
end

/-! ### the names' values -/
inductive Slot where
  /-- nothing known -/
  | no
  /-- a datum, never changed any more -/
  | val (d : PyData)
  /-- a list of the def's own that may still change; no other name has it -/
  | ml (xs : List PyData)
  /-- an instance of the class c, at p, whose attributes are still being set -/
  | mo (p dx : Addr) (c : Str) (fs : List (PyData × PyData))
  /-- nothing known of the name; the table of the code of the def x is ps -/
  | tb (x : Str) (ps : Array Value)
def SlotOk (K : PySem.W.Frag) (G H : Hp) (o : Option V) : Slot → Prop
  | .no => True
  | .val d => ∃ v, o = some v ∧ Dq K G v d
  | .ml xs => ∃ p vs, o = some (.ref p) ∧ G p = none ∧ H p = some (.lst vs) ∧ DqAll K G vs xs
  | .mo p dx c ds => ∃ C fs, o = some (.ref p) ∧ G p = none ∧ G dx = none ∧ H p = some (.ins C dx fs) ∧ H dx = some (.own p) ∧ PySem.W.nsIn K mainGlobals c = some (some (.ref C)) ∧ DqF K G fs ds
  | .tb x ps => ∃ c P, PySem.W.tabIn K x = some (c, P) ∧ G P = none ∧ H P = some (.tbl ps)
structure EnvOk (K : PySem.W.Frag) (G H : Hp) (σ : St) (S : List Slot) : Prop where
  len : σ.length = S.length
  ok : ∀ (i : Nat) (s : Slot), S[i]? = some s → ∃ o, σ[i]? = some o ∧ SlotOk K G H o s
  ne : ∀ (i j : Nat) (xs ys : List PyData) (p : Addr), i ≠ j → S[i]? = some (.ml xs) → S[j]? = some (.ml ys) → σ[i]? = some (some (.ref p)) → σ[j]? = some (some (.ref p)) → False
  one : ∀ (i j : Nat) (p q dx dy : Addr) (c c' : Str) (fs gs : List (PyData × PyData)), S[i]? = some (.mo p dx c fs) → S[j]? = some (.mo q dy c' gs) → i = j
section
variable {K : PySem.W.Frag} {G H G' H' : Hp} {σ : St} {S : List Slot}
theorem SlotOk.ext {o : Option V} {s : Slot} (h : SlotOk K G H o s) (e : Ext G H G' H') : SlotOk K G' H' o s := by
  cases s with
  | no => trivial
  | val d =>
    obtain ⟨v, e1, e2⟩ := h
    exact ⟨v, e1, dp_mono e.gg d v e2⟩
  | ml xs =>
    obtain ⟨p, vs, e1, e2, e3, e4⟩ := h
    exact ⟨p, vs, e1, e.away p _ e3 e2, e.hh _ _ e3, dpAll_mono e.gg _ _ e4⟩
  | mo p dx c ds =>
    obtain ⟨C, fs, e1, e2, e3, e4, e5, e6, e7⟩ := h
    exact ⟨C, fs, e1, e.away p _ e4 e2, e.away dx _ e5 e3, e.hh _ _ e4, e.hh _ _ e5, e6, dqF_mono e.gg e7⟩
  | tb x ps =>
    obtain ⟨c, P, e1, e2, e3⟩ := h
    exact ⟨c, P, e1, e.away P _ e3 e2, e.hh _ _ e3⟩
theorem EnvOk.ext (h : EnvOk K G H σ S) (e : Ext G H G' H') : EnvOk K G' H' σ S :=
  ⟨h.len, fun i s hs => let ⟨o, h1, h2⟩ := h.ok i s hs; ⟨o, h1, h2.ext e⟩, h.ne, h.one⟩
theorem EnvOk.val {i : Nat} {d : PyData} (h : EnvOk K G H σ S) (hi : S[i]? = some (.val d)) : ∃ v, σ[i]? = some (some v) ∧ Dq K G v d := by
  obtain ⟨o, e1, v, e2, e3⟩ := h.ok i _ hi
  subst e2
  exact ⟨v, e1, e3⟩
theorem EnvOk.mlst {i : Nat} {xs : List PyData} (h : EnvOk K G H σ S) (hi : S[i]? = some (.ml xs)) : ∃ p vs, σ[i]? = some (some (.ref p)) ∧ G p = none ∧ H p = some (.lst vs) ∧ DqAll K G vs xs := by
  obtain ⟨o, e1, p, vs, e2, e3, e4, e5⟩ := h.ok i _ hi
  subst e2
  exact ⟨p, vs, e1, e3, e4, e5⟩
theorem mo_low {S : List Slot} {i : Nat} {s : Slot} (hs : ∀ p dx c fs, s ≠ .mo p dx c fs) {m : Nat} {p dx : Addr} {c : Str} {fs : List (PyData × PyData)} (hm : (S.set i s)[m]? = some (.mo p dx c fs)) : S[m]? = some (.mo p dx c fs) := by
  by_cases e : i = m
  · subst e
    by_cases hl : i < S.length
    · rw [List.getElem?_set_self hl] at hm
      exact absurd (Option.some.inj hm) (hs p dx c fs)
    · rw [List.getElem?_eq_none (by rw [List.length_set]; omega)] at hm
      cases hm
  · rw [List.getElem?_set_ne e] at hm; exact hm
/-- a slot's new content -/
theorem EnvOk.put {i : Nat} {o : Option V} {s : Slot} (h : EnvOk K G H σ S) (hs : SlotOk K G H o s)
    (hne : ∀ xs p, s = .ml xs → o = some (.ref p) → ∀ j ys, j ≠ i → S[j]? = some (.ml ys) → σ[j]? = some (some (.ref p)) → False) (hmo : ∀ p dx c fs, s ≠ .mo p dx c fs) : EnvOk K G H (σ.set i o) (S.set i s) := by
  refine ⟨by rw [List.length_set, List.length_set]; exact h.len, fun j t ht => ?_, fun j k xs ys p hjk h1 h2 h3 h4 => ?_, fun j k p q dx dy c c' fs gs h1 h2 => ?_⟩
  rotate_right
  · exact h.one j k p q dx dy c c' fs gs (mo_low hmo h1) (mo_low hmo h2)
  · by_cases hj : i = j
    · subst hj
      by_cases hl : i < S.length
      · rw [List.getElem?_set_self hl] at ht
        have e : s = t := Option.some.inj ht
        subst e
        exact ⟨o, List.getElem?_set_self (by rw [h.len]; exact hl), hs⟩
      · rw [List.getElem?_eq_none (by rw [List.length_set]; omega)] at ht
        cases ht
    · rw [List.getElem?_set_ne hj] at ht
      obtain ⟨o', e1, e2⟩ := h.ok j t ht
      exact ⟨o', by rw [List.getElem?_set_ne hj]; exact e1, e2⟩
  · by_cases hj : i = j
    · subst hj
      have hk : i ≠ k := hjk
      have hl : i < S.length := by
        by_cases hl : i < S.length
        · exact hl
        · rw [List.getElem?_eq_none (by rw [List.length_set]; omega)] at h1
          cases h1
      rw [List.getElem?_set_self hl] at h1
      rw [List.getElem?_set_self (by rw [h.len]; exact hl)] at h3
      rw [List.getElem?_set_ne hk] at h2 h4
      exact hne xs p (Option.some.inj h1) (Option.some.inj h3) k ys (Ne.symm hk) h2 h4
    · by_cases hk : i = k
      · subst hk
        have hl : i < S.length := by
          by_cases hl : i < S.length
          · exact hl
          · rw [List.getElem?_eq_none (by rw [List.length_set]; omega)] at h2
            cases h2
        rw [List.getElem?_set_self hl] at h2
        rw [List.getElem?_set_self (by rw [h.len]; exact hl)] at h4
        rw [List.getElem?_set_ne hj] at h1 h3
        exact hne ys p (Option.some.inj h2) (Option.some.inj h4) j xs (fun e => hj e.symm) h1 h3
      · rw [List.getElem?_set_ne hj] at h1 h3
        rw [List.getElem?_set_ne hk] at h2 h4
        exact h.ne j k xs ys p hjk h1 h2 h3 h4
theorem EnvOk.setVal {i : Nat} {v : V} {d : PyData} (h : EnvOk K G H σ S) (hd : Dq K G v d) : EnvOk K G H (σ.set i (some v)) (S.set i (.val d)) :=
  h.put ⟨v, rfl, hd⟩ (fun xs p e => nomatch e) fun _ _ _ _ e => nomatch e
theorem EnvOk.setNo {i : Nat} {o : Option V} (h : EnvOk K G H σ S) : EnvOk K G H (σ.set i o) (S.set i .no) :=
  h.put trivial (fun xs p e => nomatch e) fun _ _ _ _ e => nomatch e
/-- a new list comes into a slot -/
theorem EnvOk.newMl {i : Nat} {p : Addr} {vs : List V} {xs : List PyData} (h : EnvOk K G H σ S) (s : Same G H) (hp : H p = none) (hd : DqAll K G vs xs) :
    EnvOk K G (upd H p (.lst vs)) (σ.set i (some (.ref p))) (S.set i (.ml xs)) := by
  refine (h.ext (Ext.newM (o := .lst vs) s hp)).put ⟨p, vs, rfl, s.free hp, upd_same, hd⟩ (fun ys q e1 e2 j zs hj h1 h2 => ?_) fun _ _ _ _ e => nomatch e
  have e : p = q := by
    have := Option.some.inj e2
    injection this
  subst e
  obtain ⟨p', vs', e3, _, e4, _⟩ := h.mlst h1
  rw [h2] at e3
  have e5 : p = p' := by
    have := Option.some.inj (Option.some.inj e3)
    injection this
  subst e5
  rw [hp] at e4
  cases e4
/-- a slot's own list is rewritten -/
theorem EnvOk.write {i : Nat} {p : Addr} {vs us : List V} {xs ys : List PyData} (h : EnvOk K G H σ S) (hi : S[i]? = some (.ml xs)) (hσ : σ[i]? = some (some (.ref p))) (hp : H p = some (.lst us)) (hg : G p = none) (hd : DqAll K G vs ys) :
    EnvOk K G (upd H p (.lst vs)) σ (S.set i (.ml ys)) := by
  refine ⟨by rw [List.length_set]; exact h.len, fun j t ht => ?_, fun j k as bs q hjk h1 h2 h3 h4 => ?_, fun j k p' q' dx dy c c' fs gs h1 h2 => ?_⟩
  rotate_right
  · exact h.one j k p' q' dx dy c c' fs gs (mo_low (by intro _ _ _ _ e; cases e) h1) (mo_low (by intro _ _ _ _ e; cases e) h2)
  · by_cases hj : i = j
    · subst hj
      have hl : i < S.length := (List.getElem?_eq_some_iff.mp hi).1
      rw [List.getElem?_set_self hl] at ht
      have e : Slot.ml ys = t := Option.some.inj ht
      subst e
      exact ⟨_, hσ, p, vs, rfl, hg, upd_same, hd⟩
    · rw [List.getElem?_set_ne hj] at ht
      obtain ⟨o', e1, e2⟩ := h.ok j t ht
      refine ⟨o', e1, ?_⟩
      cases t with
      | no => trivial
      | val d => exact e2
      | ml zs =>
        obtain ⟨q, ws, f1, f2, f3, f4⟩ := e2
        subst f1
        have hqp : q ≠ p := fun e => by
          subst e
          exact h.ne i j xs zs q hj hi ht hσ e1
        exact ⟨q, ws, rfl, f2, by rw [upd_ne hqp]; exact f3, f4⟩
      | mo q dx c ds =>
        obtain ⟨C, fs, f1, f2, f3, f4, f5, f6, f7⟩ := e2
        have n1 : q ≠ p := fun e => by rw [e, hp] at f4; cases f4
        have n2 : dx ≠ p := fun e => by rw [e, hp] at f5; cases f5
        exact ⟨C, fs, f1, f2, f3, by rw [upd_ne n1]; exact f4, by rw [upd_ne n2]; exact f5, f6, f7⟩
      | tb x ps =>
        obtain ⟨c, P, f1, f2, f3⟩ := e2
        have n1 : P ≠ p := fun e => by rw [e, hp] at f3; cases f3
        exact ⟨c, P, f1, f2, by rw [upd_ne n1]; exact f3⟩
  · have low : ∀ (m : Nat) (cs : List PyData), (S.set i (.ml ys))[m]? = some (.ml cs) → ∃ cs', S[m]? = some (.ml cs') := fun m cs hm => by
      by_cases e : i = m
      · subst e; exact ⟨xs, hi⟩
      · rw [List.getElem?_set_ne e] at hm
        exact ⟨cs, hm⟩
    obtain ⟨as', h1'⟩ := low j as h1
    obtain ⟨bs', h2'⟩ := low k bs h2
    exact h.ne j k as' bs' q hjk h1' h2' h3 h4
/-- an instance's attribute is set -/
theorem EnvOk.writeO {i : Nat} {p dx C : Addr} {c : Str} {us ws : List (Str × V)} {ds es : List (PyData × PyData)} (h : EnvOk K G H σ S) (hi : S[i]? = some (.mo p dx c ds)) (hp : H p = some (.ins C dx us)) (hd : DqF K G ws es) :
    EnvOk K G (upd H p (.ins C dx ws)) σ (S.set i (.mo p dx c es)) := by
  have hl : i < S.length := (List.getElem?_eq_some_iff.mp hi).1
  obtain ⟨o0, a1, C0, fs0, a2, a3, a4, a5, a6, a7, a8⟩ := h.ok i _ hi
  have ec : C0 = C := by rw [hp] at a5; cases a5; rfl
  subst ec
  have nd : dx ≠ p := fun e => by rw [e, hp] at a6; cases a6
  refine ⟨by rw [List.length_set]; exact h.len, fun j t ht => ?_, fun j k as bs q hjk h1 h2 h3 h4 => ?_, fun j k p' q' dx' dy c1 c2 fs gs h1 h2 => ?_⟩
  · by_cases hj : i = j
    · subst hj
      rw [List.getElem?_set_self hl] at ht
      have e : Slot.mo p dx c es = t := Option.some.inj ht
      subst e
      exact ⟨o0, a1, C0, ws, a2, a3, a4, upd_same, by rw [upd_ne nd]; exact a6, a7, hd⟩
    · rw [List.getElem?_set_ne hj] at ht
      obtain ⟨o', e1, e2⟩ := h.ok j t ht
      refine ⟨o', e1, ?_⟩
      cases t with
      | no => trivial
      | val d => exact e2
      | ml zs =>
        obtain ⟨q, vs, f1, f2, f3, f4⟩ := e2
        have hqp : q ≠ p := fun e => by rw [e, hp] at f3; cases f3
        exact ⟨q, vs, f1, f2, by rw [upd_ne hqp]; exact f3, f4⟩
      | mo q dy c' gs => exact absurd (h.one i j p q dx dy c c' ds gs hi ht) hj
      | tb x ps =>
        obtain ⟨c1, P, f1, f2, f3⟩ := e2
        have n1 : P ≠ p := fun e => by rw [e, hp] at f3; cases f3
        exact ⟨c1, P, f1, f2, by rw [upd_ne n1]; exact f3⟩
  · have low : ∀ (m : Nat) (cs : List PyData), (S.set i (.mo p dx c es))[m]? = some (.ml cs) → S[m]? = some (.ml cs) := fun m cs hm => by
      by_cases e : i = m
      · subst e; rw [List.getElem?_set_self hl] at hm; cases hm
      · rw [List.getElem?_set_ne e] at hm; exact hm
    exact h.ne j k as bs q hjk (low j as h1) (low k bs h2) h3 h4
  · have low : ∀ (m : Nat) (p1 dx1 : Addr) (c1 : Str) (fs1 : List (PyData × PyData)), (S.set i (.mo p dx c es))[m]? = some (.mo p1 dx1 c1 fs1) → ∃ p2 dx2 c2 fs2, S[m]? = some (.mo p2 dx2 c2 fs2) := fun m p1 dx1 c1 fs1 hm => by
      by_cases e : i = m
      · subst e; exact ⟨_, _, _, _, hi⟩
      · rw [List.getElem?_set_ne e] at hm; exact ⟨_, _, _, _, hm⟩
    obtain ⟨_, _, _, _, l1⟩ := low _ _ _ _ _ h1
    obtain ⟨_, _, _, _, l2⟩ := low _ _ _ _ _ h2
    exact h.one j k _ _ _ _ _ _ _ _ l1 l2
/-- a slot's own list changes no more -/
theorem EnvOk.freeze {i : Nat} {p : Addr} {vs : List V} {xs : List PyData} (h : EnvOk K G H σ S) (s : Same G H) (hi : S[i]? = some (.ml xs)) (hσ : σ[i]? = some (some (.ref p))) (hp : H p = some (.lst vs)) (hg : G p = none) (hd : DqAll K G vs xs) :
    EnvOk K (upd G p (.lst vs)) H σ (S.set i (.val (.list xs))) := by
  have gg : Same G (upd G p (.lst vs)) := same_upd hg
  have hl : i < S.length := (List.getElem?_eq_some_iff.mp hi).1
  refine ⟨by rw [List.length_set]; exact h.len, fun j t ht => ?_, fun j k as bs q hjk h1 h2 h3 h4 => ?_, fun j k p' q' dx dy c c' fs gs h1 h2 => ?_⟩
  rotate_right
  · exact h.one j k p' q' dx dy c c' fs gs (mo_low (by intro _ _ _ _ e; cases e) h1) (mo_low (by intro _ _ _ _ e; cases e) h2)
  · by_cases hj : i = j
    · subst hj
      rw [List.getElem?_set_self hl] at ht
      have e : Slot.val (.list xs) = t := Option.some.inj ht
      subst e
      exact ⟨_, hσ, .ref p, rfl, .lst (SqL.of upd_same) (dpAll_mono gg _ _ hd)⟩
    · rw [List.getElem?_set_ne hj] at ht
      obtain ⟨o', e1, e2⟩ := h.ok j t ht
      refine ⟨o', e1, ?_⟩
      cases t with
      | no => trivial
      | val d =>
        obtain ⟨v, f1, f2⟩ := e2
        exact ⟨v, f1, dp_mono gg d v f2⟩
      | ml zs =>
        obtain ⟨q, ws, f1, f2, f3, f4⟩ := e2
        subst f1
        have hqp : q ≠ p := fun e => by
          subst e
          exact h.ne i j xs zs q hj hi ht hσ e1
        exact ⟨q, ws, rfl, by rw [upd_ne hqp]; exact f2, f3, dpAll_mono gg _ _ f4⟩
      | mo q dx c ds =>
        obtain ⟨C, fs, f1, f2, f3, f4, f5, f6, f7⟩ := e2
        have n1 : q ≠ p := fun e => by rw [e, hp] at f4; cases f4
        have n2 : dx ≠ p := fun e => by rw [e, hp] at f5; cases f5
        exact ⟨C, fs, f1, by rw [upd_ne n1]; exact f2, by rw [upd_ne n2]; exact f3, f4, f5, f6, dqF_mono gg f7⟩
      | tb x ps =>
        obtain ⟨c, P, f1, f2, f3⟩ := e2
        have n1 : P ≠ p := fun e => by rw [e, hp] at f3; cases f3
        exact ⟨c, P, f1, by rw [upd_ne n1]; exact f2, f3⟩
  · have low : ∀ (m : Nat) (cs : List PyData), (S.set i (.val (.list xs)))[m]? = some (.ml cs) → S[m]? = some (.ml cs) := fun m cs hm => by
      by_cases e : i = m
      · subst e; rw [List.getElem?_set_self hl] at hm; cases hm
      · rw [List.getElem?_set_ne e] at hm; exact hm
    exact h.ne j k as bs q hjk (low j as h1) (low k bs h2) h3 h4
end

/-! ### names by their places -/
/-- how a name stands in the block: a local, a cell, a free one; hid: not seen here -/
inductive Kd where
  | loc | cel | fre | hid
inductive At : List Str → List Kd → List Slot → Str → Slot → Prop
  | hereL {x : Str} {N : List Str} {ks : List Kd} {s : Slot} {S : List Slot} : At (x :: N) (.loc :: ks) (s :: S) x s
  | hereC {x : Str} {N : List Str} {ks : List Kd} {s : Slot} {S : List Slot} : At (x :: N) (.cel :: ks) (s :: S) x s
  | hereF {x : Str} {N : List Str} {ks : List Kd} {s : Slot} {S : List Slot} : At (x :: N) (.fre :: ks) (s :: S) x s
  | there {x y : Str} {N : List Str} {l : Kd} {ks : List Kd} {s t : Slot} {S : List Slot} : At N ks S x s → At (y :: N) (l :: ks) (t :: S) x s
inductive SetAt : List Str → List Kd → List Slot → Str → Kd → Slot → List Slot → Prop
  | here {x : Str} {N : List Str} {k : Kd} {ks : List Kd} {s t : Slot} {S : List Slot} : SetAt (x :: N) (k :: ks) (t :: S) x k s (s :: S)
  | there {x y : Str} {N : List Str} {k l : Kd} {ks : List Kd} {s t : Slot} {S S' : List Slot} : SetAt N ks S x k s S' → SetAt (y :: N) (l :: ks) (t :: S) x k s (t :: S')
theorem At.ix : ∀ {N : List Str} {ks : List Kd} {S : List Slot} {x : Str} {s : Slot}, At N ks S x s → ∃ (i : Nat) (k : Kd), N[i]? = some x ∧ ks[i]? = some k ∧ k ≠ .hid ∧ S[i]? = some s
  | _, _, _, _, _, .hereL => ⟨0, .loc, rfl, rfl, (by intro z; cases z), rfl⟩
  | _, _, _, _, _, .hereC => ⟨0, .cel, rfl, rfl, (by intro z; cases z), rfl⟩
  | _, _, _, _, _, .hereF => ⟨0, .fre, rfl, rfl, (by intro z; cases z), rfl⟩
  | _, _, _, _, _, .there h => let ⟨i, k, a, b, c, d⟩ := h.ix; ⟨i + 1, k, by simpa using a, by simpa using b, c, by simpa using d⟩
theorem SetAt.ix : ∀ {N : List Str} {ks : List Kd} {S S' : List Slot} {x : Str} {k : Kd} {s : Slot}, SetAt N ks S x k s S' → ∃ i : Nat, N[i]? = some x ∧ ks[i]? = some k ∧ S' = S.set i s
  | _, _, _, _, _, _, _, .here => ⟨0, rfl, rfl, rfl⟩
  | _, _, _, _, _, _, _, .there h => let ⟨i, a, b, c⟩ := h.ix; ⟨i + 1, by simpa using a, by simpa using b, by rw [c]; rfl⟩
inductive In {α : Type} : α → List α → Prop
  | here {x : α} {l : List α} : In x (x :: l)
  | there {x y : α} {l : List α} : In x l → In x (y :: l)
theorem In.mem {α : Type} {x : α} : ∀ {l : List α}, In x l → x ∈ l
  | _, .here => List.mem_cons_self ..
  | _, .there h => List.mem_cons_of_mem _ h.mem

/-! ### the context -/
/-- which answer a def gives for which arguments -/
abbrev Gr := List PyData → PyData → Prop
def spOf (K : PySem.W.Frag) (n : Nat) (R : Gr) : Sp := fun vs H Q _ => ∃ G ds r, Same G H ∧ DqAll K G vs ds ∧ ds.length = n ∧ R ds r ∧ ∀ v G' H', Ext G H G' H' → Dq K G' v r → Q v H'
/-- what C(..) promises of its __init__ -/
def spInit (K : PySem.W.Frag) (c : Str) (n : Nat) (R : Gr) : Sp := fun vs H Q _ => ∃ (G : Hp) (ds : List PyData) (r : PyData) (p dx C : Addr) (H1 : Hp) (us : List V), vs = .ref p :: us ∧ H = upd (upd H1 dx (.own p)) p (.ins C dx []) ∧ H1 p = none ∧ H1 dx = none ∧ dx ≠ p ∧
  PySem.W.nsIn K mainGlobals c = some (some (.ref C)) ∧ Same G H1 ∧ DqAll K G us ds ∧ ds.length = n ∧ R ds r ∧ ∀ G' H', Ext G H1 G' H' → Dq K G' (.ref p) r → Q .non H'
/-- the text's part of the context: the names and how they stand, the globals, the defs that may be called -/
structure Tx where
  N : List Str
  kd : List Kd
  gl : List Str
  sc : Scope
  fns : List (Str × Nat × Gr)
  body : Bool
  con : List (Str × PyData)
  /-- classes and their attributes; classes that may be made; methods -/
  obs : List (Str × List Str) := []
  mks : List (Str × Nat × Gr) := []
  mts : List (Str × Str × Nat × Gr) := []
  /-- the def's name, if its body makes a lambda; the defs that lambdas may call -/
  tab : Option Str := none
  lfn : List (Str × Nat × Gr) := []
def kdOk (sc : Scope) (x : Str) : Kd → Bool
  | .loc => decide (sc.names.lookup x = some .local)
  | .cel => decide (sc.names.lookup x = some .cell)
  | .fre => decide (sc.names.lookup x = some .cell) || decide (sc.names.lookup x = some .free)
  | .hid => true
def chk (N : List Str) (kd : List Kd) (gl : List Str) (sc : Scope) : Bool :=
  ((N.zip kd).all fun p => kdOk sc p.1 p.2 && (!(p.1 == ("__debug__" : Str)) && !(p.1 == ("__classdict__" : Str)))) && gl.all fun x => decide (sc.names.lookup x = some .globalImplicit) && !(x == ("__debug__" : Str)) && !(x == ("__name__" : Str))
abbrev Tx.ok (T : Tx) : Prop := chk T.N T.kd T.gl T.sc = true
/-- the names of Python's own that may be called -/
def bl : List Str := ["len", "range", "abs", "min", "max", "sum", "all", "any", "sorted", "divmod", "list", "tuple", "zip", "enumerate", "reversed", "int", "bool"]
structure Cal (X : Cx) (x : Str) (n : Nat) (R : Gr) : Prop where
  ex : ∃ f fd ps k, FnOk X.prog X.w X.K X.mg X.base CX0 k f fd ps (spOf X.K n R) ∧ Room k X.A ∧ X.mg x = some (.ref f) ∧ PySem.W.keepIn X.K (.ref f) = true ∧ Binds X.K fd ps []
structure Mkr (X : Cx) (x : Str) (n : Nat) (R : Gr) : Prop where
  ex : ∃ C f fd ps k, FnOk X.prog X.w X.K X.mg X.base CX0 k f fd ps (spInit X.K x n R) ∧ Room (k + 1) X.A ∧ X.mg x = some (.ref C) ∧ PySem.W.nsIn X.K mainGlobals x = some (some (.ref C)) ∧ L2.Mk X.K C f ∧ Binds X.K fd ps []
structure Mtr (X : Cx) (c m : Str) (n : Nat) (R : Gr) : Prop where
  ex : ∃ C f fd ps k, FnOk X.prog X.w X.K X.mg X.base CX0 k f fd ps (spOf X.K (n + 1) R) ∧ Room k X.A ∧ PySem.W.nsIn X.K mainGlobals c = some (some (.ref C)) ∧ L2.Cls X.K C ∧ L2.Meth X.K C m f ∧ Binds X.K fd ps []
structure Obr (K : PySem.W.Frag) (c : Str) (fl : List Str) : Prop where
  ex : ∃ C, PySem.W.nsIn K mainGlobals c = some (some (.ref C)) ∧ L2.Cls K C ∧ ∀ f ∈ fl, L2.NoAttr K C f
structure Tbr (X : Cx) (x : Str) : Prop where
  ex : ∃ c P, PySem.W.tabIn X.K x = some (c, P) ∧ X.env.code = .ref c ∧ PySem.W.CodeHd X.base c P ∧ X.base.BuiltinsAt X.mg P ∧ Room 4 X.A ∧ X.stack = X.env :: X.outer ∧ X.env.frame = some X.env.locals
structure Lfr (X : Cx) (x : Str) (n : Nat) (R : Gr) : Prop where
  ex : ∃ f fd ps, FnOk X.prog X.w X.K X.mg X.base CX0 1 f fd ps (spOf X.K n R) ∧ X.mg x = some (.ref f) ∧ PySem.W.keepIn X.K (.ref f) = true ∧ Binds X.K fd ps []
structure Mt (X : Cx) (T : Tx) : Prop where
  N : X.N = T.N
  nd : T.N.Nodup
  sc : X.env.scope = T.sc
  ok : T.ok
  calm : X.calm = true
  units : X.A.units + 64 < cLine
  pass : PassesOwn (model X.prog X.w) X.A X.env X.xe
  fn : T.body = true → ∀ x, X.fn x = true
  call : ∀ x n R, (x, n, R) ∈ T.fns → Cal X x n R
  blt : ∀ x, x ∈ bl → X.mg x = none
  cst : ∀ x d, (x, d) ∈ T.con → ∃ u v, X.mg x = some u ∧ RelV v u ∧ ∀ G : Hp, Dq X.K G v d
  ob : ∀ c fl, (c, fl) ∈ T.obs → Obr X.K c fl
  mkr : ∀ x n R, (x, n, R) ∈ T.mks → Mkr X x n R
  mtr : ∀ c m n R, (c, m, n, R) ∈ T.mts → Mtr X c m n R
  tbr : ∀ x, T.tab = some x → Tbr X x
  lfr : ∀ x n R, (x, n, R) ∈ T.lfn → Lfr X x n R
theorem Mt.gl {X : Cx} {T : Tx} (m : Mt X T) {x : Str} (h : x ∈ T.gl) : Gl X x ∧ (x == ("__debug__" : Str)) = false ∧ x ≠ "__name__" := by
  have h1 := m.ok
  unfold Tx.ok chk at h1
  rw [Bool.and_eq_true] at h1
  have h2 := List.all_eq_true.mp h1.2 x h
  simp only [Bool.and_eq_true, decide_eq_true_eq, Bool.not_eq_true'] at h2
  refine ⟨?_, h2.1.2, fun e => ?_⟩
  · show X.env.kindOf x = _
    unfold Env.kindOf
    rw [m.sc]
    exact h2.1.1
  · have := h2.2
    rw [e] at this
    simp at this
theorem Mt.kd3 {X : Cx} {T : Tx} (m : Mt X T) {i : Nat} {x : Str} {k : Kd} (h1 : T.N[i]? = some x) (h2 : T.kd[i]? = some k) : kdOk X.env.scope x k = true ∧ (x == ("__debug__" : Str)) = false ∧ (x == ("__classdict__" : Str)) = false := by
  have h := m.ok
  unfold Tx.ok chk at h
  rw [Bool.and_eq_true] at h
  rw [m.sc]
  have q := List.all_eq_true.mp h.1 (x, k) (by
    have : (T.N.zip T.kd)[i]? = some (x, k) := by
      rw [List.getElem?_zip_eq_some]
      exact ⟨h1, h2⟩
    exact List.mem_of_getElem? this)
  simp only [Bool.and_eq_true, Bool.not_eq_true'] at q
  exact q
theorem Mt.kd {X : Cx} {T : Tx} (m : Mt X T) {i : Nat} {x : Str} {k : Kd} (h1 : T.N[i]? = some x) (h2 : T.kd[i]? = some k) : kdOk X.env.scope x k = true := (m.kd3 h1 h2).1
theorem kdOk_vis {sc : Scope} {x : Str} {k : Kd} (h : kdOk sc x k = true) (hk : k ≠ .hid) : Vis sc x := by
  cases k with
  | loc => exact .inl (of_decide_eq_true h)
  | cel => exact .inr (.inl (of_decide_eq_true h))
  | fre =>
    rcases Bool.or_eq_true_iff.mp (show (decide (sc.names.lookup x = some .cell) || decide (sc.names.lookup x = some .free)) = true from h) with q | q
    · exact .inr (.inl (of_decide_eq_true q))
    · exact .inr (.inr (of_decide_eq_true q))
  | hid => exact absurd rfl hk

/-! ### the judgements as their own readings -/
def PEa (X : Cx) (e : Expr) : TE := fun σ H Q => ∀ (pins : List (Addr × Obj)) (s : Shared), Inv X pins σ H s → wpAny (model X.prog X.w) X.A (eval e X.env) (EP X pins σ Q) X.xe s
def PTa (X : Cx) (e : Expr) : TT := fun σ H Q => ∀ (pins : List (Addr × Obj)) (s : Shared), Inv X pins σ H s → wpAny (model X.prog X.w) X.A (isTrue e X.env (eval e X.env)) (TP X pins σ Q) X.xe s
def PWa (X : Cx) (e : Expr) : TT := fun σ H Q => ∀ (whole : Sem Value) (pins : List (Addr × Obj)) (s : Shared), Inv X pins σ H s → wpAny (model X.prog X.w) X.A (isTrue e X.env whole) (TP X pins σ Q) X.xe s
def PAa (X : Cx) (es : List Expr) : TA := fun σ H Q => ∀ (pos : Pos) (pins : List (Addr × Obj)) (s : Shared), Inv X pins σ H s → wpAny (model X.prog X.w) X.A (spliced (backTo pos (starEach es X.env))) (AP X pins σ Q) X.xe s
def PSa (X : Cx) (st : Stmt) : TS := fun D σ H => ∀ (pins : List (Addr × Obj)) (s : Shared), Inv X pins σ H s → wpAny (model X.prog X.w) X.A (exec st X.env) (SP X pins D) X.xe s
def PSsa (X : Cx) (sts : List Stmt) : TS := fun D σ H => ∀ (pins : List (Addr × Obj)) (s : Shared), Inv X pins σ H s → wpAny (model X.prog X.w) X.A (execs sts X.env) (SP X pins D) X.xe s
def PIa (X : Cx) (tg iter : Expr) : TI := fun σ H R => ∀ (pins : List (Addr × Obj)) (s : Shared), Inv X pins σ H s → wpAny (model X.prog X.w) X.A (eval iter X.env) (fun v s1 => wpAny (model X.prog X.w) X.A (pyIter v) (PIE X pins σ tg R) X.xe s1) X.xe s
theorem pea (X : Cx) (e : Expr) : PE X e (PEa X e) := fun pins s _ _ _ I h => h pins s I
theorem pta (X : Cx) (e : Expr) : PT X e (PTa X e) := fun pins s _ _ _ I h => h pins s I
theorem pwa (X : Cx) (e : Expr) : PW X e (PWa X e) := fun whole pins s _ _ _ I h => h whole pins s I
theorem paa (X : Cx) (es : List Expr) : PA X es (PAa X es) := fun pos pins s _ _ _ I h => h pos pins s I
theorem psa (X : Cx) (st : Stmt) : PS X st (PSa X st) := fun pins s _ _ _ I h => h pins s I
theorem pssa (X : Cx) (sts : List Stmt) : PSs X sts (PSsa X sts) := fun pins s _ _ _ I h => h pins s I
theorem pia (X : Cx) (tg iter : Expr) : PI X tg iter (PIa X tg iter) := fun pins s _ _ _ I h => h pins s I
section
variable {X : Cx} {σ : St} {H : Hp}
theorem PEa.of {e : Expr} {t : TE} {Q : VK} (h : PE X e t) (q : t σ H Q) : PEa X e σ H Q := fun pins s I => h pins s σ H Q I q
theorem PTa.of {e : Expr} {t : TT} {Q : Bool → Hp → Prop} (h : PT X e t) (q : t σ H Q) : PTa X e σ H Q := fun pins s I => h pins s σ H Q I q
theorem PWa.of {e : Expr} {t : TT} {Q : Bool → Hp → Prop} (h : PW X e t) (q : t σ H Q) : PWa X e σ H Q := fun whole pins s I => h whole pins s σ H Q I q
theorem PAa.of {es : List Expr} {t : TA} {Q : List V → Hp → Prop} (h : PA X es t) (q : t σ H Q) : PAa X es σ H Q := fun pos pins s I => h pos pins s σ H Q I q
theorem PSa.of {st : Stmt} {t : TS} {D : Ends} (h : PS X st t) (q : t D σ H) : PSa X st D σ H := fun pins s I => h pins s σ H D I q
theorem PSsa.of {sts : List Stmt} {t : TS} {D : Ends} (h : PSs X sts t) (q : t D σ H) : PSsa X sts D σ H := fun pins s I => h pins s σ H D I q
theorem PIa.of {tg iter : Expr} {t : TI} {R : It → Hp → Prop} (h : PI X tg iter t) (q : t σ H R) : PIa X tg iter σ H R := fun pins s I => h pins s σ H R I q
theorem PTa.pw {e : Expr} {Q : Bool → Hp → Prop} (h : PWa X e σ H Q) : PTa X e σ H Q := h _
structure EndsLe (D D' : Ends) : Prop where
  nx : ∀ σ H, D.nx σ H → D'.nx σ H
  rt : ∀ v H, D.rt v H → D'.rt v H
  bk : ∀ σ H, D.bk σ H → D'.bk σ H
  ct : ∀ σ H, D.ct σ H → D'.ct σ H
theorem SP.le {pins : List (Addr × Obj)} {D D' : Ends} (h : EndsLe D D') {f : Flow} {s' : Shared} (q : SP X pins D f s') : SP X pins D' f s' := by
  cases f with
  | next => obtain ⟨σ', H', I, q⟩ := q; exact ⟨σ', H', I, h.nx _ _ q⟩
  | brk => obtain ⟨σ', H', I, q⟩ := q; exact ⟨σ', H', I, h.bk _ _ q⟩
  | cont => obtain ⟨σ', H', I, q⟩ := q; exact ⟨σ', H', I, h.ct _ _ q⟩
  | ret u => obtain ⟨v, σ', H', I, r, q⟩ := q; exact ⟨v, σ', H', I, r, h.rt _ _ q⟩
theorem PSa.le {st : Stmt} {D D' : Ends} (q : PSa X st D σ H) (h : EndsLe D D') : PSa X st D' σ H := fun pins s I => thn (q pins s I) fun _ _ z => SP.le h z
theorem PSsa.le {sts : List Stmt} {D D' : Ends} (q : PSsa X sts D σ H) (h : EndsLe D D') : PSsa X sts D' σ H := fun pins s I => thn (q pins s I) fun _ _ z => SP.le h z
end

/-! ### an expression gives a datum -/
def Ev (T : Tx) (S : List Slot) (e : Expr) (d : PyData) : Prop :=
  ∀ X, Mt X T → ∀ (G H : Hp) (σ : St) (Q : VK), Same G H → EnvOk X.K G H σ S → (∀ v G' H', Ext G H G' H' → Dq X.K G' v d → Q v H') → PEa X e σ H Q
/-- it gives a list that nobody else has -/
def EvL (T : Tx) (S : List Slot) (e : Expr) (xs : List PyData) : Prop :=
  ∀ X, Mt X T → ∀ (G H : Hp) (σ : St) (Q : VK), Same G H → EnvOk X.K G H σ S →
    (∀ p vs G' H', Ext G H G' H' → H' p = none → DqAll X.K G' vs xs → Q (.ref p) (upd H' p (.lst vs))) → PEa X e σ H Q
def EvT (T : Tx) (S : List Slot) (e : Expr) (b : Bool) : Prop :=
  ∀ X, Mt X T → ∀ (G H : Hp) (σ : St) (Q : Bool → Hp → Prop), Same G H → EnvOk X.K G H σ S → (∀ G' H', Ext G H G' H' → Q b H') → PTa X e σ H Q
def EvW (T : Tx) (S : List Slot) (e : Expr) (b : Bool) : Prop :=
  ∀ X, Mt X T → ∀ (G H : Hp) (σ : St) (Q : Bool → Hp → Prop), Same G H → EnvOk X.K G H σ S → (∀ G' H', Ext G H G' H' → Q b H') → PWa X e σ H Q
/-- no star before it -/
def NoStar (e : Expr) : Prop := ∀ (es : List Expr) (env : Env), starEach (e :: es) env = (false, eval e env) :: starEach es env
structure EvA (T : Tx) (S : List Slot) (es : List Expr) (ds : List PyData) : Prop where
  len : ds.length = es.length
  star : ∀ (pos : Pos) (env : Env), (backTo pos (starEach es env)).any (·.1) = false
  run : ∀ X, Mt X T → ∀ (G H : Hp) (σ : St) (Q : List V → Hp → Prop), Same G H → EnvOk X.K G H σ S → (∀ vs G' H', Ext G H G' H' → DqAll X.K G' vs ds → Q vs H') → PAa X es σ H Q
section
variable {T : Tx} {S : List Slot} {a b c e : Expr} {d d1 d2 d3 r : PyData} {pos : Pos}
theorem EvL.ev {xs : List PyData} (h : EvL T S e xs) : Ev T S e (.list xs) := by
  intro X m G H σ Q sm en q
  refine h X m G H σ Q sm en fun p vs G' H' e1 hp hd => ?_
  have e2 := e1.trans (Ext.new (o := .lst vs) e1.sub hp)
  exact q _ _ _ e2 (.lst (SqL.of upd_same) (dpAll_mono (same_upd (e1.sub.free hp)) _ _ hd))
theorem ev_int {i : Int} {k : Nat} : Ev T S (.Constant (.int i) k pos) (.int i) := fun X m G H σ Q sm en h => PEa.of pe_int (h _ G H (.refl sm) (.int i))
theorem ev_bool {i : Bool} {k : Nat} : Ev T S (.Constant (.bool i) k pos) (.bool i) := fun X m G H σ Q sm en h => PEa.of pe_bl (h _ G H (.refl sm) (.bl i))
theorem ev_none {k : Nat} : Ev T S (.Constant .none k pos) .none := fun X m G H σ Q sm en h => PEa.of pe_non (h _ G H (.refl sm) .non)
theorem ev_name {x : Str} (h : At T.N T.kd S x (.val d)) : Ev T S (.Name x pos) d := by
  intro X m G H σ Q sm en q
  obtain ⟨i, k, h1, h2, hk, h3⟩ := h.ix
  obtain ⟨v, e1, e2⟩ := en.val h3
  exact PEa.of (pe_var (i := i) (by rw [m.N]; exact h1) (kdOk_vis (m.kd h1 h2) hk) (m.kd3 h1 h2).2.1 (m.kd3 h1 h2).2.2) ⟨v, e1, q v G H (.refl sm) e2⟩

/-- a constant of the file's top -/
theorem ev_con {x : Str} (h : In (x, d) T.con) (hg : In x T.gl) : Ev T S (.Name x pos) d := by
  intro X m G H σ Q sm en q
  obtain ⟨u, v, h1, h2, h3⟩ := m.cst x d h.mem
  obtain ⟨g1, g2, g3⟩ := m.gl hg.mem
  exact PEa.of (pe_glob g1 h1 h2 g2) (q v G H (.refl sm) (h3 G))

/-! operations -/
def CDivW (i j : Int) : Prop := 0 < j ∧ j < 1606938044258990275541962092341162602522202993782792835301376
theorem op_fdivW {X : Cx} : OpR X (binaryOp .FloorDiv) (rI CDivW fun i j => .int (i / j)) := opI fun i j _ _ _ _ _ hc q => by
  have h1 : 0 < j := hc.1
  have h2 : j < 1606938044258990275541962092341162602522202993782792835301376 := hc.2
  have h3 : j.natAbs.log2 < 200 := (Nat.log2_lt (by omega)).mpr (by
    have e : (2 : Nat) ^ 200 = 1606938044258990275541962092341162602522202993782792835301376 := by decide
    omega)
  exact floordiv_int (by omega) (by rw [Int.fdiv_eq_ediv_of_nonneg i (by omega)]; exact q) (.inl (PyProof.noPylong_of_log2 (by omega)))
inductive BinOk : Operator → PyData → PyData → PyData → Prop
  | add (i j : Int) : BinOk .Add (.int i) (.int j) (.int (i + j))
  | sub (i j : Int) : BinOk .Sub (.int i) (.int j) (.int (i - j))
  | mul (i j : Int) : CMul i j → BinOk .Mult (.int i) (.int j) (.int (i * j))
  | fdiv (i j : Int) : CDivW i j → BinOk .FloorDiv (.int i) (.int j) (.int (i / j))
  | mod (i j : Int) : 0 < j → BinOk .Mod (.int i) (.int j) (.int (i % j))
def rBin (K : PySem.W.Frag) (op : Operator) : R2 := fun x y H Q => ∃ d e r, BinOk op d e r ∧ Dq K H x d ∧ Dq K H y e ∧ ∃ z, (∀ H', Dq K H' z r) ∧ Q z H
theorem op_bin {X : Cx} {op : Operator} : OpR X (binaryOp op) (rBin X.K op) := by
  intro pins s σ H x y v u Q I rx ry h
  obtain ⟨d, e, r, hb, hd, he, z, hz, q⟩ := h
  cases hb with
  | add i j =>
    cases hd; cases he
    have : z = .int (i + j) := by have := hz H; cases this; rfl
    subst this
    exact op_add pins s σ H _ _ v u Q I rx ry ⟨i, j, rfl, rfl, q⟩
  | sub i j =>
    cases hd; cases he
    have : z = .int (i - j) := by have := hz H; cases this; rfl
    subst this
    exact op_sub pins s σ H _ _ v u Q I rx ry ⟨i, j, rfl, rfl, q⟩
  | mul i j hc =>
    cases hd; cases he
    have : z = .int (i * j) := by have := hz H; cases this; rfl
    subst this
    exact op_mul pins s σ H _ _ v u Q I rx ry ⟨i, j, rfl, rfl, hc, q⟩
  | fdiv i j hc =>
    cases hd; cases he
    have : z = .int (i / j) := by have := hz H; cases this; rfl
    subst this
    exact op_fdivW pins s σ H _ _ v u Q I rx ry ⟨i, j, rfl, rfl, hc, q⟩
  | mod i j hc =>
    cases hd; cases he
    have : z = .int (i % j) := by have := hz H; cases this; rfl
    subst this
    exact op_mod pins s σ H _ _ v u Q I rx ry ⟨i, j, rfl, rfl, hc, q⟩
theorem BinOk.int {op : Operator} (h : BinOk op d1 d2 r) : ∃ i, r = .int i := by
  cases h <;> exact ⟨_, rfl⟩
theorem ev_bin {op : Operator} (ha : Ev T S a d1) (hb : Ev T S b d2) (h : BinOk op d1 d2 r) : Ev T S (.BinOp a op b pos) r := by
  intro X m G H σ Q sm en q
  refine PEa.of (pe_op op_bin (pea X a) (pea X b)) ?_
  refine ha X m G H σ _ sm en fun v G1 H1 e1 r1 => ?_
  refine hb X m G1 H1 σ _ e1.sub (en.ext e1) fun u G2 H2 e2 r2 => ?_
  obtain ⟨i, rfl⟩ := h.int
  exact ⟨d1, d2, _, h, dp_mono (e2.gg.trans e2.sub) _ _ r1, dp_mono e2.sub _ _ r2, .int i, fun _ => .int i, q _ G2 H2 (e1.trans e2) (.int i)⟩
/-- list + list -/
def rCatL (K : PySem.W.Frag) : R2 := fun x y H Q => ∃ l b xs zs, x = .ref l ∧ y = .ref b ∧ SqL K H l xs ∧ SqL K H b zs ∧ xs.length + zs.length ≤ sizeLine ∧ ∀ p, H p = none → Q (.ref p) (upd H p (.lst (xs ++ zs)))
theorem op_catL {X : Cx} : OpR X (binaryOp .Add) (rCatL X.K) := by
  intro pins s σ H x y v u Q I rx ry h
  obtain ⟨l, b, xs, zs, rfl, rfl, hH, hB, hz, q⟩ := h
  cases rx
  cases ry
  obtain ⟨its, r, ⟨⟨cls, dd, data, sl⟩, n, ho, hc, hdd, hd⟩, _⟩ := I.list hH
  obtain ⟨its2, r2, ⟨⟨cls2, dd2, data2, sl2⟩, n2, ho2, hc2, hdd2, hd2⟩, _⟩ := I.list hB
  simp only at hc hd hc2 hd2 hdd hdd2
  subst hc hd hc2 hd2 hdd hdd2
  have l1 := r.length
  have l2 := r2.length
  have e : its.toArray ++ its2.toArray = (its ++ its2).toArray := by simp
  refine concat_meets ⟨_, ho, rfl⟩ ⟨_, ho2, rfl⟩ noFill_list_add seq_list_add PySem.F.slot_list_add PySem.F.entry_list_add (PySem.F.args_list_add_2 _ _) (list_addW l b its.toArray its2.toArray n n2 none none sl sl2 (by rw [List.size_toArray, List.size_toArray]; omega)) ⟨ho, ho2, ?_⟩
  rw [e]
  exact ⟨.ref _, _, I.lnew (t' := s.toks) (r.append r2) (by rw [List.length_append]; omega), rfl, q _ I.fresh⟩
theorem evl_cat {xs ys : List PyData} (ha : Ev T S a (.list xs)) (hb : Ev T S b (.list ys)) (hz : xs.length + ys.length ≤ sizeLine) : EvL T S (.BinOp a .Add b pos) (xs ++ ys) := by
  intro X m G H σ Q sm en q
  refine PEa.of (pe_op op_catL (pea X a) (pea X b)) ?_
  refine ha X m G H σ _ sm en fun v G1 H1 e1 r1 => ?_
  refine hb X m G1 H1 σ _ e1.sub (en.ext e1) fun u G2 H2 e2 r2 => ?_
  cases r1 with
  | lst hs hx =>
    cases r2 with
    | lst hs2 hy =>
      refine ⟨_, _, _, _, rfl, rfl, (e2.gg.trans e2.sub).seq hs, e2.sub.seq hs2, by rw [dpAll_len hx, dpAll_len hy]; exact hz, fun p hp => ?_⟩
      exact q p _ G2 H2 (e1.trans e2) hp (dpAll_app (dpAll_mono e2.gg _ _ hx) hy)
theorem ev_cat {xs ys : List PyData} (ha : Ev T S a (.list xs)) (hb : Ev T S b (.list ys)) (hz : xs.length + ys.length ≤ sizeLine) : Ev T S (.BinOp a .Add b pos) (.list (xs ++ ys)) := (evl_cat ha hb hz).ev
theorem ev_neg {i : Int} (ha : Ev T S a (.int i)) : Ev T S (.UnaryOp .USub a pos) (.int (-i)) := by
  intro X m G H σ Q sm en q
  refine PEa.of (pe_un un_neg (pea X a)) ?_
  refine ha X m G H σ _ sm en fun v G1 H1 e1 r1 => ?_
  cases r1
  exact ⟨i, rfl, q _ G1 H1 e1 (.int _)⟩

/-! comparisons -/
inductive CmpOk : CmpOp → PyData → PyData → Bool → Prop
  | lt (i j : Int) : CmpOk .Lt (.int i) (.int j) (decide (i < j))
  | le (i j : Int) : CmpOk .LtE (.int i) (.int j) (decide (i ≤ j))
  | gt (i j : Int) : CmpOk .Gt (.int i) (.int j) (decide (j < i))
  | ge (i j : Int) : CmpOk .GtE (.int i) (.int j) (decide (j ≤ i))
  | eq (d e : PyData) : SeqAt.shaped d = true → SeqAt.shaped e = true → CmpOk .Eq d e (PyData.eqv d e)
  | ne (d e : PyData) : SeqAt.shaped d = true → SeqAt.shaped e = true → CmpOk .NotEq d e (!PyData.eqv d e)
def rCmp (K : PySem.W.Frag) (op : CmpOp) : R2 := fun x y H Q => ∃ d e r, CmpOk op d e r ∧ Dq K H x d ∧ Dq K H y e ∧ Q (.bl r) H
theorem op_cmp {X : Cx} {op : CmpOp} (hu : X.A.units + 64 < cLine) : OpR X (compareOp op) (rCmp X.K op) := by
  intro pins s σ H x y v u Q I rx ry h
  obtain ⟨d, e, r, hb, hd, he, q⟩ := h
  cases hb with
  | lt i j => cases hd; cases he; exact op_lt pins s σ H _ _ v u Q I rx ry ⟨i, j, rfl, rfl, q⟩
  | le i j => cases hd; cases he; exact op_le pins s σ H _ _ v u Q I rx ry ⟨i, j, rfl, rfl, q⟩
  | gt i j => cases hd; cases he; exact op_gt pins s σ H _ _ v u Q I rx ry ⟨i, j, rfl, rfl, q⟩
  | ge i j => cases hd; cases he; exact op_ge pins s σ H _ _ v u Q I rx ry ⟨i, j, rfl, rfl, q⟩
  | eq d e h1 h2 => exact op_eqD hu pins s σ H _ _ v u Q I rx ry ⟨d, e, dq_dp _ _ (SeqAt.canLay_of_shaped h1) hd, dq_dp _ _ (SeqAt.canLay_of_shaped h2) he, h1, h2, q⟩
  | ne d e h1 h2 => exact op_neD hu pins s σ H _ _ v u Q I rx ry ⟨d, e, dq_dp _ _ (SeqAt.canLay_of_shaped h1) hd, dq_dp _ _ (SeqAt.canLay_of_shaped h2) he, h1, h2, q⟩
theorem CmpOk.mark {op : CmpOp} {k : Bool} (h : CmpOk op d1 d2 k) (b : Expr) : behindInMarks op b = false := by
  cases h <;> exact nomark b
theorem ev_cmp {op : CmpOp} {k : Bool} (ha : Ev T S a d1) (hb : Ev T S b d2) (h : CmpOk op d1 d2 k) : Ev T S (.Compare a [op] [b] pos) (.bool k) := by
  intro X m G H σ Q sm en q
  refine PEa.of (pe_cmpR (op_cmp m.units) (pea X a) (pea X b) (h.mark b)) ?_
  refine ha X m G H σ _ sm en fun v G1 H1 e1 r1 => ?_
  refine hb X m G1 H1 σ _ e1.sub (en.ext e1) fun u G2 H2 e2 r2 => ?_
  exact ⟨d1, d2, k, h, dp_mono (e2.gg.trans e2.sub) _ _ r1, dp_mono e2.sub _ _ r2, q _ G2 H2 (e1.trans e2) (.bl k)⟩
theorem evt_cmp {op : CmpOp} {k : Bool} (ha : Ev T S a d1) (hb : Ev T S b d2) (h : CmpOk op d1 d2 k) : EvT T S (.Compare a [op] [b] pos) k := by
  intro X m G H σ Q sm en q
  refine PTa.of (pt_cmpR (op_cmp m.units) (pea X a) (pea X b) (h.mark b)) ?_
  refine ha X m G H σ _ sm en fun v G1 H1 e1 r1 => ?_
  refine hb X m G1 H1 σ _ e1.sub (en.ext e1) fun u G2 H2 e2 r2 => ?_
  exact ⟨d1, d2, k, h, dp_mono (e2.gg.trans e2.sub) _ _ r1, dp_mono e2.sub _ _ r2, k, rfl, q G2 H2 (e1.trans e2)⟩
theorem ev_chain {op op' : CmpOp} {k k' : Bool} (ha : Ev T S a d1) (hb : Ev T S b d2) (hc : Ev T S c d3) (h : CmpOk op d1 d2 k) (h' : CmpOk op' d2 d3 k') (hm : lastMarks [op, op'] [b, c] = false := by with_unfolding_all rfl) :
    Ev T S (.Compare a [op, op'] [b, c] pos) (.bool (k && k')) := by
  intro X m G H σ Q sm en q
  refine PEa.of (pe_chain (op_cmp m.units) (op_cmp m.units) (pea X a) (pea X b) (pea X c) hm) ?_
  refine ha X m G H σ _ sm en fun v G1 H1 e1 r1 => ?_
  refine hb X m G1 H1 σ _ e1.sub (en.ext e1) fun u G2 H2 e2 r2 => ?_
  refine ⟨d1, d2, k, h, dp_mono (e2.gg.trans e2.sub) _ _ r1, dp_mono e2.sub _ _ r2, k, rfl, ?_⟩
  cases k with
  | false => exact iteF (q _ G2 H2 (e1.trans e2) (.bl false))
  | true =>
    refine iteT (hc X m G2 H2 σ _ e2.sub (en.ext (e1.trans e2)) fun w G3 H3 e3 r3 => ?_)
    exact ⟨d2, d3, k', h', dp_mono (e3.gg.trans e3.sub) _ _ r2, dp_mono e3.sub _ _ r3, q _ G3 H3 ((e1.trans e2).trans e3) (.bl k')⟩
theorem evt_chain {op op' : CmpOp} {k k' : Bool} (ha : Ev T S a d1) (hb : Ev T S b d2) (hc : Ev T S c d3) (h : CmpOk op d1 d2 k) (h' : CmpOk op' d2 d3 k') (hm : lastMarks [op, op'] [b, c] = false := by with_unfolding_all rfl) :
    EvT T S (.Compare a [op, op'] [b, c] pos) (k && k') := by
  intro X m G H σ Q sm en q
  refine PTa.of (pt_chain (op_cmp m.units) (op_cmp m.units) (pea X a) (pea X b) (pea X c) hm) ?_
  refine ha X m G H σ _ sm en fun v G1 H1 e1 r1 => ?_
  refine hb X m G1 H1 σ _ e1.sub (en.ext e1) fun u G2 H2 e2 r2 => ?_
  refine ⟨d1, d2, k, h, dp_mono (e2.gg.trans e2.sub) _ _ r1, dp_mono e2.sub _ _ r2, k, rfl, ?_⟩
  cases k with
  | false => exact iteF ⟨false, rfl, q G2 H2 (e1.trans e2)⟩
  | true =>
    refine iteT (hc X m G2 H2 σ _ e2.sub (en.ext (e1.trans e2)) fun w G3 H3 e3 r3 => ?_)
    exact ⟨d2, d3, k', h', dp_mono (e3.gg.trans e3.sub) _ _ r2, dp_mono e3.sub _ _ r3, k', rfl, q G3 H3 ((e1.trans e2).trans e3)⟩

/-! and, or, not -/
theorem ev_one {op : BoolOp} (ha : Ev T S a d) : Ev T S (.BoolOp op [a] pos) d := fun X m G H σ Q sm en q => PEa.of (pe_one (pea X a)) (ha X m G H σ Q sm en q)
theorem ev_and {k l : Bool} {rest : List Expr} (ha : Ev T S a (.bool k)) (hb : k = true → Ev T S (.BoolOp .And (b :: rest) pos) (.bool l)) : Ev T S (.BoolOp .And (a :: b :: rest) pos) (.bool (k && l)) := by
  intro X m G H σ Q sm en q
  refine PEa.of (pe_and (pea X a) (pea X _)) ?_
  refine ha X m G H σ _ sm en fun v G1 H1 e1 r1 => ?_
  cases r1
  refine ⟨k, rfl, ?_⟩
  cases k with
  | false => exact iteF (q _ G1 H1 e1 (.bl false))
  | true => exact iteT (hb rfl X m G1 H1 σ _ e1.sub (en.ext e1) fun u G2 H2 e2 r2 => q _ G2 H2 (e1.trans e2) r2)
theorem ev_or {k l : Bool} {rest : List Expr} (ha : Ev T S a (.bool k)) (hb : k = false → Ev T S (.BoolOp .Or (b :: rest) pos) (.bool l)) : Ev T S (.BoolOp .Or (a :: b :: rest) pos) (.bool (k || l)) := by
  intro X m G H σ Q sm en q
  refine PEa.of (pe_or (pea X a) (pea X _)) ?_
  refine ha X m G H σ _ sm en fun v G1 H1 e1 r1 => ?_
  cases r1
  refine ⟨k, rfl, ?_⟩
  cases k with
  | false => exact iteF (hb rfl X m G1 H1 σ _ e1.sub (en.ext e1) fun u G2 H2 e2 r2 => q _ G2 H2 (e1.trans e2) r2)
  | true => exact iteT (q _ G1 H1 e1 (.bl true))
theorem ev_not {k : Bool} (ha : Ev T S a (.bool k)) : Ev T S (.UnaryOp .Not a pos) (.bool (!k)) := by
  intro X m G H σ Q sm en q
  refine PEa.of (pe_not (pea X a)) ?_
  refine ha X m G H σ _ sm en fun v G1 H1 e1 r1 => ?_
  cases r1
  exact ⟨k, rfl, q _ G1 H1 e1 (.bl _)⟩
theorem EvW.t {k : Bool} (h : EvW T S e k) : EvT T S e k := fun X m G H σ Q sm en q => PTa.pw (h X m G H σ Q sm en q)
theorem evw_and1 {k : Bool} (ha : EvT T S a k) : EvW T S (.BoolOp .And [a] pos) k := fun X m G H σ Q sm en q => PWa.of (pw_and1 (pta X a)) (ha X m G H σ Q sm en q)
theorem evw_or1 {k : Bool} (ha : EvT T S a k) : EvW T S (.BoolOp .Or [a] pos) k := fun X m G H σ Q sm en q => PWa.of (pw_or1 (pta X a)) (ha X m G H σ Q sm en q)
theorem evw_and {k l : Bool} {rest : List Expr} (ha : EvT T S a k) (hb : k = true → EvW T S (.BoolOp .And (b :: rest) pos) l) : EvW T S (.BoolOp .And (a :: b :: rest) pos) (k && l) := by
  intro X m G H σ Q sm en q
  refine PWa.of (pw_and (pta X a) (pwa X _)) ?_
  refine ha X m G H σ _ sm en fun G1 H1 e1 => ?_
  cases k with
  | false => exact iteF (q G1 H1 e1)
  | true => exact iteT (hb rfl X m G1 H1 σ _ e1.sub (en.ext e1) fun G2 H2 e2 => q G2 H2 (e1.trans e2))
theorem evw_or {k l : Bool} {rest : List Expr} (ha : EvT T S a k) (hb : k = false → EvW T S (.BoolOp .Or (b :: rest) pos) l) : EvW T S (.BoolOp .Or (a :: b :: rest) pos) (k || l) := by
  intro X m G H σ Q sm en q
  refine PWa.of (pw_or (pta X a) (pwa X _)) ?_
  refine ha X m G H σ _ sm en fun G1 H1 e1 => ?_
  cases k with
  | false => exact iteF (hb rfl X m G1 H1 σ _ e1.sub (en.ext e1) fun G2 H2 e2 => q G2 H2 (e1.trans e2))
  | true => exact iteT (q G1 H1 e1)
theorem evt_not {k : Bool} (ha : EvT T S a k) : EvT T S (.UnaryOp .Not a pos) (!k) := by
  intro X m G H σ Q sm en q
  refine PTa.of (pt_not (pta X a)) ?_
  exact ha X m G H σ _ sm en fun G1 H1 e1 => q G1 H1 e1
/-- a test that is a value's truth -/
theorem evt_val {k : Bool} (ha : Ev T S a (.bool k)) (he : ∀ (env : Env) (whole : Sem Value), isTrue a env whole = (do let v ← whole; standAt a.pos; holding [v] (truthy v)) := by intro _ _; rfl) : EvT T S a k := by
  intro X m G H σ Q sm en q
  refine PTa.of (pt_val (pea X a) (he X.env)) ?_
  refine ha X m G H σ _ sm en fun v G1 H1 e1 r1 => ?_
  cases r1
  exact ⟨k, rfl, q G1 H1 e1⟩
theorem ev_if {k : Bool} (hc : EvT T S c k) (ha : k = true → Ev T S a d) (hb : k = false → Ev T S b d) : Ev T S (.IfExp c a b pos) d := by
  intro X m G H σ Q sm en q
  refine PEa.of (pe_ifExp (pta X c) (pea X a) (pea X b)) ?_
  refine hc X m G H σ _ sm en fun G1 H1 e1 => ?_
  cases k with
  | false => exact iteF (hb rfl X m G1 H1 σ _ e1.sub (en.ext e1) fun u G2 H2 e2 r2 => q _ G2 H2 (e1.trans e2) r2)
  | true => exact iteT (ha rfl X m G1 H1 σ _ e1.sub (en.ext e1) fun u G2 H2 e2 r2 => q _ G2 H2 (e1.trans e2) r2)

/-! items -/
theorem ev_ixT {xs : List PyData} {k : Int} (ha : Ev T S a (.tuple xs)) (hb : Ev T S b (.int k)) (hx : atI xs k = some d) (hs : PlainIx b := by intro _ _; rfl) : Ev T S (.Subscript a b pos) d := by
  intro X m G H σ Q sm en q
  refine PEa.of (pe_ix ix_tup (pea X a) (pea X b) hs) ?_
  refine ha X m G H σ _ sm en fun v G1 H1 e1 r1 => ?_
  refine hb X m G1 H1 σ _ e1.sub (en.ext e1) fun u G2 H2 e2 r2 => ?_
  cases r2
  cases r1 with
  | tup hs hy =>
    obtain ⟨v, h1, h2⟩ := dpAll_atI hy hx
    exact ⟨_, _, k, v, rfl, rfl, same_tup (e2.gg.trans e2.sub) hs, h1, q _ G2 H2 (e1.trans e2) (dp_mono e2.gg _ _ h2)⟩
theorem ev_ixL {xs : List PyData} {k : Int} (ha : Ev T S a (.list xs)) (hb : Ev T S b (.int k)) (hx : atI xs k = some d) (hs : PlainIx b := by intro _ _; rfl) : Ev T S (.Subscript a b pos) d := by
  intro X m G H σ Q sm en q
  refine PEa.of (pe_ix ix_list (pea X a) (pea X b) hs) ?_
  refine ha X m G H σ _ sm en fun v G1 H1 e1 r1 => ?_
  refine hb X m G1 H1 σ _ e1.sub (en.ext e1) fun u G2 H2 e2 r2 => ?_
  cases r2
  cases r1 with
  | lst hs hy =>
    obtain ⟨v, h1, h2⟩ := dpAll_atI hy hx
    exact ⟨_, _, k, v, rfl, rfl, (e2.gg.trans e2.sub).seq hs, h1, q _ G2 H2 (e1.trans e2) (dp_mono e2.gg _ _ h2)⟩
/-- an item of a def's own list -/
theorem ev_ixM {x : Str} {p : Pos} {xs : List PyData} {k : Int} (ha : At T.N T.kd S x (.ml xs)) (hb : Ev T S b (.int k)) (hx : atI xs k = some d) (hs : PlainIx b) : Ev T S (.Subscript (.Name x p) b pos) d := by
  intro X m G H σ Q sm en q
  obtain ⟨i, kk, h1, h2, hk, h3⟩ := ha.ix
  obtain ⟨pp, vs, e1, e2, e3, e4⟩ := en.mlst h3
  refine PEa.of (pe_ix ix_list (pe_var (i := i) (by rw [m.N]; exact h1) (kdOk_vis (m.kd h1 h2) hk) (m.kd3 h1 h2).2.1 (m.kd3 h1 h2).2.2) (pea X b) hs) ?_
  refine ⟨_, e1, ?_⟩
  refine hb X m G H σ _ sm en fun u G2 H2 x2 r2 => ?_
  cases r2
  obtain ⟨v, f1, f2⟩ := dpAll_atI e4 hx
  exact ⟨_, _, k, v, rfl, rfl, SqL.of (x2.hh _ _ e3), f1, q _ G2 H2 x2 (dp_mono x2.gg _ _ f2)⟩

/-! rows of arguments, displays -/
theorem eva_nil : EvA T S [] [] := ⟨rfl, fun _ _ => rfl, fun X m G H σ Q sm en q => PAa.of pa_nil (q [] G H (.refl sm) .nil)⟩
theorem eva_cons {es : List Expr} {ds : List PyData} (ha : Ev T S e d) (hr : EvA T S es ds) (hs : NoStar e := by intro _ _; rfl) : EvA T S (e :: es) (d :: ds) := by
  refine ⟨congrArg (· + 1) hr.len, fun pos env => ?_, fun X m G H σ Q sm en q => ?_⟩
  · rw [hs]
    have h := hr.star pos env
    unfold backTo at h ⊢
    rw [List.map_cons, List.any_cons, h]
    rfl
  · refine PAa.of (pa_cons (pea X e) (paa X es) (hs _ _)) ?_
    refine ha X m G H σ _ sm en fun v G1 H1 e1 r1 => ?_
    refine hr.run X m G1 H1 σ _ e1.sub (en.ext e1) fun vs G2 H2 e2 r2 => ?_
    exact q _ G2 H2 (e1.trans e2) (.cons (dp_mono e2.gg _ _ r1) r2)
theorem ev_tup {es : List Expr} {ds : List PyData} {k : Nat} (ha : EvA T S es ds) (hz : es.length ≤ sizeLine := by first | decide | exact Nat.le_of_ble_eq_true rfl) : Ev T S (.Tuple es k pos) (.tuple ds) := by
  intro X m G H σ Q sm en q
  refine PEa.of (pe_tup (paa X es)) ?_
  refine ha.run X m G H σ _ sm en fun vs G1 H1 e1 r1 => ⟨by rw [dpAll_len r1, ha.len]; exact hz, fun p hp => ?_⟩
  refine q _ _ _ (e1.trans (Ext.new (o := .tup vs) e1.sub hp)) (.tup (SqT.of upd_same) (dpAll_mono (same_upd (e1.sub.free hp)) _ _ r1))
theorem evl_list {es : List Expr} {ds : List PyData} (ha : EvA T S es ds) (hz : es.length ≤ sizeLine := by first | decide | exact Nat.le_of_ble_eq_true rfl) : EvL T S (.List es pos) ds := by
  intro X m G H σ Q sm en q
  refine PEa.of (pe_lst (paa X es)) ?_
  refine ha.run X m G H σ _ sm en fun vs G1 H1 e1 r1 => ⟨by rw [dpAll_len r1, ha.len]; exact hz, fun p hp => ?_⟩
  exact q p vs G1 H1 e1 hp r1
theorem ev_list {es : List Expr} {ds : List PyData} (ha : EvA T S es ds) (hz : es.length ≤ sizeLine := by first | decide | exact Nat.le_of_ble_eq_true rfl) : Ev T S (.List es pos) (.list ds) := (evl_list ha hz).ev

/-! calls -/
theorem star_tail {es : List Expr} {ds : List PyData} (ha : EvA T S (e :: es) ds) (hs : NoStar e) (pos : Pos) (env : Env) : (backTo pos (starEach es env)).any (·.1) = false := by
  have h := ha.star pos env
  rw [hs] at h
  unfold backTo at h ⊢
  rw [List.map_cons, List.any_cons] at h
  exact (Bool.or_eq_false_iff.mp h).2
theorem ev_call {x : Str} {p : Pos} {es : List Expr} {ds : List PyData} {n : Nat} {R : Gr} (hf : In (x, n, R) T.fns) (hg : In x T.gl) (ha : EvA T S (e :: es) ds) (hl : ds.length = n) (hr : R ds r) (hs : NoStar e := by intro _ _; rfl) : Ev T S (.Call (.Name x p) (e :: es) [] pos) r := by
  intro X m G H σ Q sm en q
  obtain ⟨f, fd, ps, k, F, rm, hm, hk, hb⟩ := (m.call x n R hf.mem).ex
  obtain ⟨g1, g2, g3⟩ := m.gl hg.mem
  refine PEa.of (pe_call F rm g1 hm hk hb .nil pass0 (paa X (e :: es)) g2 (hs _ _) (star_tail ha hs _ _)) ?_
  refine ha.run X m G H σ _ sm en fun vs G1 H1 e1 r1 => ?_
  exact ⟨G1, ds, r, e1.sub, by rw [List.append_nil]; exact r1, hl, hr, fun v G' H' e2 r2 => q v G' H' (e1.trans e2) r2⟩
/-- a call of a function of Python's own: its reading asks data and gives a datum -/
theorem ev_blt {x : Str} {id : String} {p : Pos} {es : List Expr} {ds : List PyData} {rr : Cx → List V → Hp → VK → Prop} (hg : In x T.gl) (hb : x ∈ bl) (hv : bootBuiltins x = some (.builtin id)) (hc : ∀ X, Mt X T → CallR X (.builtin id) (rr X)) (ha : EvA T S (e :: es) ds)
    (hr : ∀ (X : Cx) (G H : Hp) (vs : List V) (Q : VK), Same G H → DqAll X.K G vs ds → (∀ v G' H', Ext G H G' H' → Dq X.K G' v r → Q v H') → rr X vs H Q) (hs : NoStar e := by intro _ _; rfl) : Ev T S (.Call (.Name x p) (e :: es) [] pos) r := by
  intro X m G H σ Q sm en q
  obtain ⟨g1, g2, g3⟩ := m.gl hg.mem
  refine PEa.of (pe_callB (hc X m) g1 (m.blt x hb) hv (paa X (e :: es)) g3 g2 (hs _ _) (star_tail ha hs _ _)) ?_
  refine ha.run X m G H σ _ sm en fun vs G1 H1 e1 r1 => ?_
  exact hr X G1 H1 vs Q e1.sub r1 fun v G' H' e2 r2 => q v G' H' (e1.trans e2) r2
theorem dpAll1 {K : PySem.W.Frag} {G : Hp} {vs : List V} (h : DqAll K G vs [d]) : ∃ v, vs = [v] ∧ Dq K G v d := by
  cases h with
  | cons h1 h2 => cases h2; exact ⟨_, rfl, h1⟩
theorem dpAll2 {K : PySem.W.Frag} {G : Hp} {vs : List V} (h : DqAll K G vs [d1, d2]) : ∃ v u, vs = [v, u] ∧ Dq K G v d1 ∧ Dq K G u d2 := by
  cases h with
  | cons h1 h2 =>
    obtain ⟨u, rfl, h3⟩ := dpAll1 h2
    exact ⟨_, u, rfl, h1, h3⟩
theorem ev_lenL {xs : List PyData} {p : Pos} (hg : In ("len" : Str) T.gl) (ha : Ev T S a (.list xs)) (hs : NoStar a := by intro _ _; rfl) : Ev T S (.Call (.Name "len" p) [a] [] pos) (.int xs.length) := by
  refine ev_blt (ds := [.list xs]) hg (by decide +kernel) PySem.boot_len (fun X _ => call_len_seq) (eva_cons ha eva_nil hs) (fun X G H vs Q sm hd q => ?_) hs
  obtain ⟨v, rfl, h1⟩ := dpAll1 hd
  cases h1 with
  | lst h2 h3 =>
    refine ⟨_, _, rfl, .inl (sm.seq h2), ?_⟩
    rw [dpAll_len h3]
    exact q _ G H (.refl sm) (.int _)
theorem ev_lenT {xs : List PyData} {p : Pos} (hg : In ("len" : Str) T.gl) (ha : Ev T S a (.tuple xs)) (hs : NoStar a := by intro _ _; rfl) : Ev T S (.Call (.Name "len" p) [a] [] pos) (.int xs.length) := by
  refine ev_blt (ds := [.tuple xs]) hg (by decide +kernel) PySem.boot_len (fun X _ => call_len_seq) (eva_cons ha eva_nil hs) (fun X G H vs Q sm hd q => ?_) hs
  obtain ⟨v, rfl, h1⟩ := dpAll1 hd
  cases h1 with
  | tup h2 h3 =>
    refine ⟨_, _, rfl, .inr (same_tup sm h2), ?_⟩
    rw [dpAll_len h3]
    exact q _ G H (.refl sm) (.int _)
theorem boot_all : bootBuiltins "all" = some (.builtin "all") := by decide +kernel
theorem boot_any : bootBuiltins "any" = some (.builtin "any") := by decide +kernel
theorem boot_sum : bootBuiltins "sum" = some (.builtin "sum") := by decide +kernel
theorem boot_abs : bootBuiltins "abs" = some (.builtin "abs") := by decide +kernel
theorem boot_min : bootBuiltins "min" = some (.builtin "min") := by decide +kernel
theorem boot_max : bootBuiltins "max" = some (.builtin "max") := by decide +kernel
theorem ev_all {bs : List Bool} {xs : List PyData} {p : Pos} (hg : In ("all" : Str) T.gl) (ha : Ev T S a (.list xs)) (hb : xs = bs.map PyData.bool) (hs : NoStar a := by intro _ _; rfl) : Ev T S (.Call (.Name "all" p) [a] [] pos) (.bool (bs.all id)) := by
  subst hb
  refine ev_blt (ds := [.list (bs.map PyData.bool)]) hg (by decide +kernel) boot_all (fun X m => cr_all m.calm) (eva_cons ha eva_nil hs) (fun X G H vs Q sm hd q => ?_) hs
  obtain ⟨v, rfl, h1⟩ := dpAll1 hd
  cases h1 with
  | lst h2 h3 =>
    rw [bls_of bs h3] at h2
    exact ⟨_, bs, rfl, sm.seq h2, q _ G H (.refl sm) (.bl _)⟩
theorem ev_any {bs : List Bool} {xs : List PyData} {p : Pos} (hg : In ("any" : Str) T.gl) (ha : Ev T S a (.list xs)) (hb : xs = bs.map PyData.bool) (hs : NoStar a := by intro _ _; rfl) : Ev T S (.Call (.Name "any" p) [a] [] pos) (.bool (bs.any id)) := by
  subst hb
  refine ev_blt (ds := [.list (bs.map PyData.bool)]) hg (by decide +kernel) boot_any (fun X m => cr_any m.calm) (eva_cons ha eva_nil hs) (fun X G H vs Q sm hd q => ?_) hs
  obtain ⟨v, rfl, h1⟩ := dpAll1 hd
  cases h1 with
  | lst h2 h3 =>
    rw [bls_of bs h3] at h2
    exact ⟨_, bs, rfl, sm.seq h2, q _ G H (.refl sm) (.bl _)⟩
theorem ev_sum {ns : List Int} {xs : List PyData} {p : Pos} (hg : In ("sum" : Str) T.gl) (ha : Ev T S a (.list xs)) (hb : xs = ns.map PyData.int) (hs : NoStar a := by intro _ _; rfl) : Ev T S (.Call (.Name "sum" p) [a] [] pos) (.int ns.sum) := by
  subst hb
  refine ev_blt (ds := [.list (ns.map PyData.int)]) hg (by decide +kernel) boot_sum (fun X m => cr_sum m.calm) (eva_cons ha eva_nil hs) (fun X G H vs Q sm hd q => ?_) hs
  obtain ⟨v, rfl, h1⟩ := dpAll1 hd
  cases h1 with
  | lst h2 h3 =>
    rw [ints_of ns h3] at h2
    exact ⟨_, ns, rfl, sm.seq h2, q _ G H (.refl sm) (.int _)⟩
theorem ev_abs {i : Int} {p : Pos} (hg : In ("abs" : Str) T.gl) (ha : Ev T S a (.int i)) (hs : NoStar a := by intro _ _; rfl) : Ev T S (.Call (.Name "abs" p) [a] [] pos) (.int (if i < 0 then -i else i)) := by
  refine ev_blt (ds := [.int i]) hg (by decide +kernel) boot_abs (fun X m => call_abs) (eva_cons ha eva_nil hs) (fun X G H vs Q sm hd q => ?_) hs
  obtain ⟨v, rfl, h1⟩ := dpAll1 hd
  cases h1
  exact ⟨i, rfl, q _ G H (.refl sm) (.int _)⟩
theorem ev_min2 {i j : Int} {p : Pos} (hg : In ("min" : Str) T.gl) (ha : Ev T S a (.int i)) (hb : Ev T S b (.int j)) (hs : NoStar a := by intro _ _; rfl) (hs' : NoStar b := by intro _ _; rfl) : Ev T S (.Call (.Name "min" p) [a, b] [] pos) (.int (if j < i then j else i)) := by
  refine ev_blt (ds := [.int i, .int j]) hg (by decide +kernel) boot_min (fun X m => call_min2 m.calm) (eva_cons ha (eva_cons hb eva_nil hs') hs) (fun X G H vs Q sm hd q => ?_) hs
  obtain ⟨v, u, rfl, h1, h2⟩ := dpAll2 hd
  cases h1
  cases h2
  exact ⟨i, j, rfl, q _ G H (.refl sm) (.int _)⟩
theorem ev_max2 {i j : Int} {p : Pos} (hg : In ("max" : Str) T.gl) (ha : Ev T S a (.int i)) (hb : Ev T S b (.int j)) (hs : NoStar a := by intro _ _; rfl) (hs' : NoStar b := by intro _ _; rfl) : Ev T S (.Call (.Name "max" p) [a, b] [] pos) (.int (if j > i then j else i)) := by
  refine ev_blt (ds := [.int i, .int j]) hg (by decide +kernel) boot_max (fun X m => call_max2 m.calm) (eva_cons ha (eva_cons hb eva_nil hs') hs) (fun X G H vs Q sm hd q => ?_) hs
  obtain ⟨v, u, rfl, h1, h2⟩ := dpAll2 hd
  cases h1
  cases h2
  exact ⟨i, j, rfl, q _ G H (.refl sm) (.int _)⟩
/-! ### instances -/
/-- an attribute's datum -/
inductive Fld : List (PyData × PyData) → Str → PyData → Prop
  | here {f : Str} {d : PyData} {r : List (PyData × PyData)} : Fld ((.str f, d) :: r) f d
  | there {f g : Str} {d e : PyData} {r : List (PyData × PyData)} : f ≠ g → Fld r f d → Fld ((.str g, e) :: r) f d
inductive NoF : List (PyData × PyData) → Str → Prop
  | nil {m : Str} : NoF [] m
  | cons {m g : Str} {e : PyData} {r : List (PyData × PyData)} : m ≠ g → NoF r m → NoF ((.str g, e) :: r) m
theorem fld_get {K : PySem.W.Frag} {G : Hp} : ∀ {fs : List (Str × V)} {ds : List (PyData × PyData)} {f : Str} {d : PyData}, DqF K G fs ds → Fld ds f d → ∃ v, fs.lookup f = some v ∧ Dq K G v d
  | _, _, _, _, .cons h _, .here => ⟨_, by simp [List.lookup], h⟩
  | _, _, f, _, .cons (f := g) _ t, .there n q => by
    obtain ⟨v, e1, e2⟩ := fld_get t q
    refine ⟨v, ?_, e2⟩
    have : (f == g) = false := beq_eq_false_iff_ne.mpr n
    rw [List.lookup, this]
    exact e1
theorem nof_get {K : PySem.W.Frag} {G : Hp} : ∀ {fs : List (Str × V)} {ds : List (PyData × PyData)} {m : Str}, DqF K G fs ds → NoF ds m → fs.lookup m = none
  | _, _, _, .nil, _ => rfl
  | _, _, m, .cons (f := g) _ t, .cons n q => by
    have : (m == g) = false := beq_eq_false_iff_ne.mpr n
    rw [List.lookup, this]
    exact nof_get t q
theorem ev_attr {c f : Str} {ds : List (PyData × PyData)} {fl : List Str} (ha : Ev T S a (.dict ((.str c, .none) :: ds))) (ho : In (c, fl) T.obs) (hf : In f fl) (hd : Fld ds f d) (hb : ∀ env : Env, attributeBase a f env (eval a env) = eval a env := by intro _; rfl) : Ev T S (.Attribute a f pos) d := by
  intro X m G H σ Q sm en q
  obtain ⟨C, h1, h2, h3⟩ := (m.ob c fl ho.mem).ex
  refine PEa.of (pe_fld (pea X a) (hb _)) ?_
  refine ha X m G H σ _ sm en fun v G1 H1 e1 r1 => ?_
  cases r1 with
  | obj a1 a2 a3 a4 =>
    rw [h1] at a1
    cases a1
    obtain ⟨v, b1, b2⟩ := fld_get a4 hd
    exact ⟨_, _, _, _, v, rfl, e1.sub _ _ a2, h2, h3 f hf.mem, b1, q _ G1 H1 e1 b2⟩
theorem ev_meth {c m : Str} {ds : List (PyData × PyData)} {n : Nat} {R : Gr} {as : List PyData} {es : List Expr} {ap : Pos} {pl : Env → Sem Bool} (ha : Ev T S a (.dict ((.str c, .none) :: ds))) (hm : In (c, m, n, R) T.mts) (hn : NoF ds m) (hA : EvA T S (e :: es) as) (hl : as.length = n) (hr : R (.dict ((.str c, .none) :: ds) :: as) r) (hs : NoStar e := by intro _ _; rfl)
    (ht : ∀ env : Env, eval (.Call (.Attribute a m ap) (e :: es) [] pos) env = (do
      let ov ← eval a env
      standAt ap.atName
      let (f, first) ← holding [ov] (getMethod ov m (pl env))
      callWith pos f first (backTo pos (starEach (e :: es) env)) (backToKw pos (keywordEach [] env))) := by intro _; rfl) : Ev T S (.Call (.Attribute a m ap) (e :: es) [] pos) r := by
  intro X M G H σ Q sm en q
  obtain ⟨C, f, fd, ps, k, F, rm, h1, h2, h3, h4⟩ := (M.mtr c m n R hm.mem).ex
  refine PEa.of (pe_meth (pl := pl X.env) (pea X a) h2 h3 F rm h4 .nil pass0 (paa X (e :: es)) (hs _ _) (star_tail hA hs _ _) (ht X.env)) ?_
  refine ha X M G H σ _ sm en fun v G1 H1 e1 r1 => ?_
  cases r1 with
  | obj a1 a2 a3 a4 =>
    rw [h1] at a1
    cases a1
    refine ⟨_, _, _, rfl, e1.sub _ _ a2, nof_get a4 hn, ?_⟩
    refine hA.run X M G1 H1 σ _ e1.sub (en.ext e1) fun vs G2 H2 e2 r2 => ?_
    refine ⟨G2, .dict ((.str c, .none) :: ds) :: as, r, e2.sub, .cons (.obj h1 (e2.gg _ _ a2) (e2.gg _ _ a3) (dqF_mono e2.gg a4)) (by rw [List.append_nil]; exact r2), by rw [List.length_cons, hl], hr, fun v G' H' e3 r3 => q v G' H' ((e1.trans e2).trans e3) r3⟩
theorem ev_make {x : Str} {p : Pos} {es : List Expr} {ds : List PyData} {n : Nat} {R : Gr} (hf : In (x, n, R) T.mks) (hg : In x T.gl) (ha : EvA T S (e :: es) ds) (hl : ds.length = n) (hr : R ds r) (hs : NoStar e := by intro _ _; rfl) : Ev T S (.Call (.Name x p) (e :: es) [] pos) r := by
  intro X m G H σ Q sm en q
  obtain ⟨C, f, fd, ps, k, F, rm, hm, h1, M, hb⟩ := (m.mkr x n R hf.mem).ex
  obtain ⟨g1, g2, g3⟩ := m.gl hg.mem
  refine PEa.of (pe_make M F rm g1 hm hb .nil pass0 (paa X (e :: es)) g2 (hs _ _) (star_tail ha hs _ _)) ?_
  refine ha.run X m G H σ _ sm en fun vs G1 H1 e1 r1 => ?_
  intro y dy ny nd ne
  exact ⟨G1, ds, r, y, dy, C, H1, vs, by rw [List.append_nil], rfl, ny, nd, ne, h1, e1.sub, r1, hl, hr, fun G' H' e2 r2 => ⟨rfl, q _ G' H' (e1.trans e2) r2⟩⟩
/-- e is None -/
theorem evt_isNone {j : Nat} {p' : Pos} {k : Bool} (ha : Ev T S a d) (hk : k = (match d with | .none => true | _ => false)) : EvT T S (.Compare a [.Is] [.Constant .none j p'] pos) k := by
  intro X m G H σ Q sm en q
  refine PTa.of (pt_cmpR op_isN (pea X a) pe_non (by rfl)) ?_
  refine ha X m G H σ _ sm en fun v G1 H1 e1 r1 => ?_
  refine ⟨rfl, k, ?_, q G1 H1 e1⟩
  subst hk
  cases r1 <;> rfl
end
end Dn

set_option Elab.async false
set_option linter.all false
set_option maxRecDepth 100000
set_option maxHeartbeats 2000000
namespace Dn
open PySem PySem.Spec PyProof.Rows L2
set_option autoImplicit false

/-! ### what is walked -/
structure ItOk (K : PySem.W.Frag) (J : It) (G : Hp) (xs : List PyData) : Prop where
  go : ∀ (i : Nat) (G1 H : Hp), Same G G1 → Same G1 H → i < xs.length → J.go i H
  yld : ∀ (i : Nat) (G1 H : Hp) (x : V) (H' : Hp) (d : PyData), Same G G1 → Same G1 H → J.yld i H x H' → xs[i]? = some d → ∃ G', Ext G1 H G' H' ∧ Dq K G' x d
  stop : ∀ (i : Nat) (G1 H : Hp), Same G G1 → Same G1 H → xs.length ≤ i → J.stop i H
def EvI (T : Tx) (S : List Slot) (tg iter : Expr) (xs : List PyData) : Prop :=
  ∀ X, Mt X T → ∀ (G H : Hp) (σ : St) (R : It → Hp → Prop), Same G H → EnvOk X.K G H σ S → (∀ J G' H', Ext G H G' H' → ItOk X.K J G' xs → R J H') → PIa X tg iter σ H R
section
variable {T : Tx} {S : List Slot} {a b c e tg : Expr} {d : PyData} {pos : Pos}
theorem itOk_list {K : PySem.W.Frag} {G : Hp} {p : Addr} {vs : List V} {xs : List PyData} (h : SqL K G p vs) (hd : DqAll K G vs xs) : ItOk K (Itl K p) G xs := by
  have hl := dpAll_len hd
  refine ⟨fun i G1 H s1 s2 hi => ?_, fun i G1 H x H' d s1 s2 hy hx => ?_, fun i G1 H s1 s2 hi => ⟨vs, (s1.trans s2).seq h, by omega⟩⟩
  · exact ⟨vs, vs[i]'(by omega), (s1.trans s2).seq h, List.getElem?_eq_getElem _⟩
  · obtain ⟨e1, e2⟩ := hy
    subst e1
    obtain ⟨v, f1, f2⟩ := dpAll_get hd hx
    have e3 := e2 vs ((s1.trans s2).seq h)
    rw [f1] at e3
    have e4 : v = x := Option.some.inj e3
    subst e4
    exact ⟨G1, .refl s2, dp_mono s1 _ _ f2⟩
theorem itOk_tup {K : PySem.W.Frag} {G : Hp} {p : Addr} {vs : List V} {xs : List PyData} (h : SqT K G p vs) (hd : DqAll K G vs xs) : ItOk K (Itt K p) G xs := by
  have hl := dpAll_len hd
  refine ⟨fun i G1 H s1 s2 hi => ?_, fun i G1 H x H' d s1 s2 hy hx => ?_, fun i G1 H s1 s2 hi => ⟨vs, same_tup (s1.trans s2) h, by omega⟩⟩
  · exact ⟨vs, vs[i]'(by omega), same_tup (s1.trans s2) h, List.getElem?_eq_getElem _⟩
  · obtain ⟨e1, e2⟩ := hy
    subst e1
    obtain ⟨v, f1, f2⟩ := dpAll_get hd hx
    have e3 := e2 vs (same_tup (s1.trans s2) h)
    rw [f1] at e3
    have e4 : v = x := Option.some.inj e3
    subst e4
    exact ⟨G1, .refl s2, dp_mono s1 _ _ f2⟩
/-- lo, lo + c, .. as data -/
def rangeD (lo c : Int) (n : Nat) : List PyData := (List.range n).map fun (k : Nat) => .int (lo + (k : Int) * c)
theorem rangeD_len (lo c : Int) (n : Nat) : (rangeD lo c n).length = n := by unfold rangeD; simp
theorem rangeD_get {lo c : Int} {n i : Nat} {d : PyData} (h : (rangeD lo c n)[i]? = some d) : i < n ∧ d = .int (lo + (i : Int) * c) := by
  have hi : i < n := by
    have := (List.getElem?_eq_some_iff.mp h).1
    rw [rangeD_len] at this
    exact this
  refine ⟨hi, ?_⟩
  unfold rangeD at h
  rw [List.getElem?_map, List.getElem?_range hi] at h
  exact (Option.some.inj h).symm
theorem itOk_range {K : PySem.W.Frag} {G : Hp} (lo : Int) (n : Nat) : ItOk K (Itr lo n) G (rangeD lo 1 n) := by
  refine ⟨fun i G1 H s1 s2 hi => by rw [rangeD_len] at hi; exact hi, fun i G1 H x H' d s1 s2 hy hx => ?_, fun i G1 H s1 s2 hi => by rw [rangeD_len] at hi; exact hi⟩
  obtain ⟨e1, e2⟩ := hy
  subst e1 e2
  obtain ⟨_, e3⟩ := rangeD_get hx
  rw [Int.mul_one] at e3
  subst e3
  exact ⟨G1, .refl s2, .int _⟩
theorem itOk_rangeC {K : PySem.W.Frag} {G : Hp} (lo c : Int) (n : Nat) : ItOk K (Itc lo c n) G (rangeD lo c n) := by
  refine ⟨fun i G1 H s1 s2 hi => by rw [rangeD_len] at hi; exact hi, fun i G1 H x H' d s1 s2 hy hx => ?_, fun i G1 H s1 s2 hi => by rw [rangeD_len] at hi; exact hi⟩
  obtain ⟨e1, e2⟩ := hy
  subst e1 e2
  obtain ⟨_, e3⟩ := rangeD_get hx
  subst e3
  exact ⟨G1, .refl s2, .int _⟩
theorem evi_list {xs : List PyData} (ha : Ev T S a (.list xs)) : EvI T S tg a xs := by
  intro X m G H σ R sm en q
  refine PIa.of (pi_list (pea X a)) ?_
  refine ha X m G H σ _ sm en fun v G1 H1 e1 r1 => ?_
  cases r1 with
  | lst hs hd => exact ⟨_, rfl, ⟨_, e1.sub.seq hs⟩, q _ G1 H1 e1 (itOk_list hs hd)⟩
theorem evi_tup {xs : List PyData} (ha : Ev T S a (.tuple xs)) : EvI T S tg a xs := by
  intro X m G H σ R sm en q
  refine PIa.of (pi_tup (pea X a)) ?_
  refine ha X m G H σ _ sm en fun v G1 H1 e1 r1 => ?_
  cases r1 with
  | tup hs hd => exact ⟨_, rfl, ⟨_, same_tup e1.sub hs⟩, q _ G1 H1 e1 (itOk_tup hs hd)⟩
theorem evi_range1 {j : Int} {p : Pos} (hg : In ("range" : Str) T.gl) (ha : Ev T S a (.int j)) (h1 : -(2 ^ 62) ≤ j) (h2 : j < 2 ^ 62) (hs : NoStar a := by intro _ _; rfl) : EvI T S tg (.Call (.Name "range" p) [a] [] pos) (rangeD 0 1 j.toNat) := by
  intro X m G H σ R sm en q
  refine PIa.of (pi_range1 (m.gl hg.mem).1 (m.blt _ (by decide +kernel)) (paa X [a]) (by rw [hs]; rfl)) ?_
  refine (eva_cons ha eva_nil hs).run X m G H σ _ sm en fun vs G1 H1 e1 r1 => ?_
  obtain ⟨v, rfl, h3⟩ := dpAll1 r1
  cases h3
  exact ⟨j, rfl, h1, h2, q _ G1 H1 e1 (itOk_range 0 _)⟩
theorem evi_range2 {i j : Int} {p : Pos} (hg : In ("range" : Str) T.gl) (ha : Ev T S a (.int i)) (hb : Ev T S b (.int j)) (h : -(2 ^ 62) ≤ i ∧ i < 2 ^ 62 ∧ -(2 ^ 62) ≤ j ∧ j < 2 ^ 62) (hs : NoStar a := by intro _ _; rfl) (hs' : NoStar b := by intro _ _; rfl) :
    EvI T S tg (.Call (.Name "range" p) [a, b] [] pos) (rangeD i 1 (j - i).toNat) := by
  intro X m G H σ R sm en q
  refine PIa.of (pi_range2 (m.gl hg.mem).1 (m.blt _ (by decide +kernel)) (paa X [a, b]) (by rw [hs, hs']; rfl) (by rw [hs']; rfl)) ?_
  refine (eva_cons ha (eva_cons hb eva_nil hs') hs).run X m G H σ _ sm en fun vs G1 H1 e1 r1 => ?_
  obtain ⟨v, u, rfl, h3, h4⟩ := dpAll2 r1
  cases h3
  cases h4
  exact ⟨i, j, rfl, h, q _ G1 H1 e1 (itOk_range _ _)⟩
theorem evi_range3 {i j k : Int} {n : Nat} {p : Pos} (hg : In ("range" : Str) T.gl) (ha : Ev T S a (.int i)) (hb : Ev T S b (.int j)) (hc : Ev T S c (.int k)) (h : RgC i j k n) (hs : NoStar a := by intro _ _; rfl) (hs' : NoStar b := by intro _ _; rfl) (hs'' : NoStar c := by intro _ _; rfl) :
    EvI T S tg (.Call (.Name "range" p) [a, b, c] [] pos) (rangeD i k n) := by
  intro X m G H σ R sm en q
  have hA := eva_cons ha (eva_cons hb (eva_cons hc eva_nil hs'') hs') hs
  refine PIa.of (pi_range3 (m.gl hg.mem).1 (m.blt _ (by decide +kernel)) (paa X [a, b, c]) (hs _ _) (star_tail hA hs _ _)) ?_
  refine hA.run X m G H σ _ sm en fun vs G1 H1 e1 r1 => ?_
  cases r1 with
  | cons h1 h2 =>
    obtain ⟨v, u, rfl, h3, h4⟩ := dpAll2 h2
    cases h1
    cases h3
    cases h4
    exact ⟨i, j, k, n, rfl, h, q _ G1 H1 e1 (itOk_rangeC _ _ _)⟩

/-! ### one rule a construct -/
inductive IxOk : PyData → PyData → PyData → Prop
  | tup {xs : List PyData} {k : Int} {d : PyData} : atI xs k = some d → IxOk (.tuple xs) (.int k) d
  | lst {xs : List PyData} {k : Int} {d : PyData} : atI xs k = some d → IxOk (.list xs) (.int k) d
theorem ev_ix {d1 d2 : PyData} (ha : Ev T S a d1) (hb : Ev T S b d2) (h : IxOk d1 d2 d) (hs : PlainIx b := by intro _ _; rfl) : Ev T S (.Subscript a b pos) d := by
  cases h with
  | tup h => exact ev_ixT ha hb h hs
  | lst h => exact ev_ixL ha hb h hs
inductive LenOk : PyData → Int → Prop
  | tup (xs : List PyData) : LenOk (.tuple xs) xs.length
  | lst (xs : List PyData) : LenOk (.list xs) xs.length
theorem ev_len {d1 : PyData} {n : Int} {p : Pos} (hg : In ("len" : Str) T.gl) (ha : Ev T S a d1) (h : LenOk d1 n) (hs : NoStar a := by intro _ _; rfl) : Ev T S (.Call (.Name "len" p) [a] [] pos) (.int n) := by
  cases h with
  | tup xs => exact ev_lenT hg ha hs
  | lst xs => exact ev_lenL hg ha hs
inductive BinG : Operator → PyData → PyData → PyData → Prop
  | op {o : Operator} {d1 d2 r : PyData} : BinOk o d1 d2 r → BinG o d1 d2 r
  | cat {xs ys : List PyData} : xs.length + ys.length ≤ sizeLine → BinG .Add (.list xs) (.list ys) (.list (xs ++ ys))
theorem ev_binG {op : Operator} {d1 d2 r : PyData} (ha : Ev T S a d1) (hb : Ev T S b d2) (h : BinG op d1 d2 r) : Ev T S (.BinOp a op b pos) r := by
  cases h with
  | op h => exact ev_bin ha hb h
  | cat h => exact ev_cat ha hb h
theorem Ev.cast {d d' : PyData} (h : Ev T S e d) (q : d = d') : Ev T S e d' := q ▸ h
/-! ### comprehensions -/
abbrev Tx.blk (T : Tx) (scope : Scope) (kd : List Kd) (gl : List Str) : Tx := { N := T.N, kd := kd, gl := gl, sc := relS scope T.sc, fns := T.fns, body := false, con := T.con, obs := T.obs, mks := T.mks, mts := T.mts, tab := none, lfn := T.lfn }
theorem Mt.blk {X : Cx} (m : Mt X T) {scope : Scope} {kd : List Kd} {gl : List Str} (hT : (T.blk scope kd gl).ok) (s : Shared) (H : Hp) (C : Addr) (cl : List (Str × Addr)) (fp : List Addr) :
    Mt (X.blk s H scope (compEnvC scope cl C X.env) fp) (T.blk scope kd gl) := by
  refine ⟨m.N, m.nd, ?_, hT, m.calm, m.units, PassesOwn.never, fun h => (by cases h), fun x n R h => ⟨(m.call x n R h).ex⟩, m.blt, m.cst, m.ob, fun x n R h => ⟨(m.mkr x n R h).ex⟩, fun c x n R h => ⟨(m.mtr c x n R h).ex⟩, fun x h => (by cases h), fun x n R h => ⟨(m.lfr x n R h).ex⟩⟩
  show relS scope X.env.scope = relS scope T.sc
  rw [m.sc]
/-- a block's element -/
def blkE (X : Cx) (scope : Scope) (elt : Expr) : TE := fun σ H Q => ∀ (s : Shared) (H0 : Hp) (C : Addr) (cl : List (Str × Addr)) (fp : List Addr), PEa (X.blk s H0 scope (compEnvC scope cl C X.env) fp) elt σ H Q
def blkT (X : Cx) (scope : Scope) (c : Expr) : TT := fun σ H Q => ∀ (s : Shared) (H0 : Hp) (C : Addr) (cl : List (Str × Addr)) (fp : List Addr), PTa (X.blk s H0 scope (compEnvC scope cl C X.env) fp) c σ H Q
theorem upd_cut {H : Hp} {D : Addr} {o : HO} (h : H D = some o) : upd (fun b => if b = D then none else H b) D o = H := by
  funext b
  unfold upd
  by_cases e : b = D
  · rw [if_pos e, e, h]
  · rw [if_neg e]
    show (if b = D then none else H b) = H b
    rw [if_neg e]
/-- the reading of [elt for x in iter], x in slot i -/
theorem lc_reads {X : Cx} {G H : Hp} {σ : St} {Q : VK} {scope : Scope} {kd : List Kd} {gl : List Str} {i : Nat} {elt iter : Expr} {xs ys : List PyData} (m : Mt X T) (sm : Same G H) (en : EnvOk X.K G H σ S)
    (hi : EvI T S tg iter xs) (hT : (T.blk scope kd gl).ok) (hl : ys.length = xs.length) (he : ∀ (k : Nat) (d y : PyData), xs[k]? = some d → ys[k]? = some y → Ev (T.blk scope kd gl) (S.set i (.val d)) elt y) (hz : ys.length ≤ sizeLine)
    (q : ∀ p vs G' H', Ext G H G' H' → H' p = none → DqAll X.K G' vs ys → Q (.ref p) (upd H' p (.lst vs))) : tLc (PIa X tg iter) (gName i) tYes (blkE X scope elt) [i] σ H Q := by
  refine hi X m G H σ _ sm en fun J G1 H1 e1 jt D hD => ?_
  have gD : G1 D = none := e1.sub.free hD
  refine ⟨fun k mm Hk => mm = xs.length - k ∧ k ≤ xs.length ∧ ∃ Gk vs, Ext G1 H1 Gk Hk ∧ Gk D = none ∧ Hk D = some (.lst vs) ∧ DqAll X.K Gk vs (ys.take k),
    ⟨xs.length, by simp, Nat.zero_le _, G1, [], Ext.newM e1.sub hD, gD, upd_same, .nil⟩, ?_⟩
  rintro k mm Hk ⟨rfl, hk, Gk, vs, ek, gk, hkD, hd⟩
  by_cases hlt : k < xs.length
  · refine .inr ⟨jt.go k Gk Hk ek.gg ek.sub hlt, fun H' => k + 1 ≤ xs.length ∧ ∃ Gk vs, Ext G1 H1 Gk H' ∧ Gk D = none ∧ H' D = some (.lst vs) ∧ DqAll X.K Gk vs (ys.take (k + 1)), fun H' h' => ⟨xs.length - (k + 1), by omega, rfl, h'⟩, fun x H' hy => ?_⟩
    obtain ⟨d, hxd⟩ : ∃ d, xs[k]? = some d := ⟨xs[k], List.getElem?_eq_getElem hlt⟩
    obtain ⟨y, hyd⟩ : ∃ y, ys[k]? = some y := ⟨ys[k]'(by omega), List.getElem?_eq_getElem _⟩
    obtain ⟨G2, e2, r2⟩ := jt.yld k Gk Hk x H' d ek.gg ek.sub hy hxd
    have et : Ext G H G2 H' := (e1.trans ek).trans e2
    have hw : wipe σ [i] = σ.set i none := rfl
    refine ⟨?_, ?_⟩
    · show wipe ((wipe σ [i]).set i (some x)) [i] = wipe σ [i]
      rw [hw]
      show ((σ.set i none).set i (some x)).set i none = σ.set i none
      rw [List.set_set, List.set_set]
    · show blkE X scope elt _ _ _
      intro s0 H0 C cl fp
      have en2 : EnvOk X.K G2 H' ((wipe σ [i]).set i (some x)) (S.set i (.val d)) := by
        have z := ((en.ext et).setNo (i := i) (o := none)).setVal (i := i) r2
        rw [List.set_set (a := Slot.no)] at z
        exact z
      refine he k d y hxd hyd _ (m.blk hT s0 H0 C cl fp) G2 H' _ _ e2.sub en2 fun v G3 H3 e3 r3 => ?_
      have h3D : H3 D = some (.lst vs) := e3.hh _ _ (e2.hh _ _ hkD)
      have g3D : G3 D = none := (e2.trans e3).away D _ hkD gk
      have hvl : vs.length = k := by rw [dpAll_len hd, List.length_take]; omega
      refine ⟨vs, h3D, by omega, hlt, G3, vs ++ [v], ?_, g3D, upd_same, ?_⟩
      · have z := (ek.trans e2).trans e3
        refine ⟨z.gg, fun b o hb => ?_, fun b o hb => ?_, z.away⟩
        · rw [upd_ne (ne_of_none hb hD)]; exact z.hh b o hb
        · rw [upd_ne (ne_of_none hb g3D)]; exact z.sub b o hb
      · have z : ys.take (k + 1) = ys.take k ++ [y] := by
          rw [List.take_add_one, hyd]; rfl
        rw [z]
        exact dpAll_snoc (dpAll_mono (e2.trans e3).gg _ _ hd) r3
  · have ek' : k = xs.length := by omega
    subst ek'
    refine .inl ⟨jt.stop _ Gk Hk ek.gg ek.sub (Nat.le_refl _), ?_⟩
    rw [← hl, List.take_length] at hd
    have z := e1.trans ek
    have w := q D vs Gk (fun b => if b = D then none else Hk b) ⟨z.gg, fun b o hb => ?_, fun b o hb => ?_, z.away⟩ (if_pos rfl) hd
    · rw [upd_cut hkD] at w
      exact w
    · show (if b = D then none else Hk b) = some o
      rw [if_neg (ne_of_none (e1.hh b o hb) hD)]; exact z.hh b o hb
    · show (if b = D then none else Hk b) = some o
      rw [if_neg (ne_of_none hb gk)]; exact z.sub b o hb
section
variable {x : Str} {px : Pos} {iter elt : Expr} {scope : Scope} {i : Nat} {kd : List Kd} {gl : List Str} {xs ys : List PyData}
theorem blk_pg {X : Cx} (m : Mt X T) (hx : T.N[i]? = some x) (hk : kd[i]? = some .loc) (hT : (T.blk scope kd gl).ok) (s : Shared) (H : Hp) (C : Addr) (cl : List (Str × Addr)) (fp : List Addr) : PG (X.blk s H scope (compEnvC scope cl C X.env) fp) (.Name x px) (gName i) := by
  have m' := m.blk hT s H C cl fp
  have hv : (X.blk s H scope (compEnvC scope cl C X.env) fp).env.scope.names.lookup x = some .local := of_decide_eq_true (m'.kd (i := i) (x := x) (k := .loc) hx hk)
  exact pg_name (by rw [m'.N]; exact m'.nd) (by rw [m'.N]; exact hx) (.inl hv) (.inr hv)
theorem evl_lc (hi : EvI T S (.Name x px) iter xs) (hx : T.N[i]? = some x) (hk : kd[i]? = some .loc) (hb : blkC T.N T.sc scope [(x, i)] = true) (hT : (T.blk scope kd gl).ok) (hl : ys.length = xs.length)
    (he : ∀ (k : Nat) (d y : PyData), xs[k]? = some d → ys[k]? = some y → Ev (T.blk scope kd gl) (S.set i (.val d)) elt y) (hz : ys.length ≤ sizeLine) (hfs : ∀ (env : Env) (v : Value), foldedSetIterable iter env v = pure v := by intro _ _; rfl) :
    EvL T S (.ListComp elt [⟨.Name x px, iter, [], 0⟩] scope pos) ys := by
  intro X m G H σ Q sm en q
  refine PEa.of (pe_lc (own := [(x, i)]) m.calm (by rw [m.N]; exact m.nd) (pia X _ iter) (by rw [m.N, m.sc]; exact blkOk_by hb) (fun s H C cl fp => blk_pg m hx hk hT s H C cl fp) (fun s H C cl fp => pts_nil) (te := blkE X scope elt) (fun s0 H0 C cl fp pins s σ H Q I h => h s0 H0 C cl fp pins s I) (hfs X.env)) ?_
  exact lc_reads m sm en hi hT hl he hz q
theorem ev_lc (hi : EvI T S (.Name x px) iter xs) (hx : T.N[i]? = some x) (hk : kd[i]? = some .loc) (hb : blkC T.N T.sc scope [(x, i)] = true) (hT : (T.blk scope kd gl).ok) (hl : ys.length = xs.length)
    (he : ∀ (k : Nat) (d y : PyData), xs[k]? = some d → ys[k]? = some y → Ev (T.blk scope kd gl) (S.set i (.val d)) elt y) (hz : ys.length ≤ sizeLine) (hfs : ∀ (env : Env) (v : Value), foldedSetIterable iter env v = pure v := by intro _ _; rfl) :
    Ev T S (.ListComp elt [⟨.Name x px, iter, [], 0⟩] scope pos) (.list ys) := (evl_lc hi hx hk hb hT hl he hz hfs).ev
end

/-! ### statements -/
structure AE where
  nx : List Slot → Prop
  rt : PyData → Prop
  bk : List Slot → Prop := fun _ => False
  ct : List Slot → Prop := fun _ => False
theorem tb_low {S : List Slot} {i : Nat} {s : Slot} (hs : ∀ x ps, s ≠ .tb x ps) {m : Nat} {x : Str} {ps : Array Value} (hm : (S.set i s)[m]? = some (.tb x ps)) : S[m]? = some (.tb x ps) := by
  by_cases e : i = m
  · subst e
    by_cases hl : i < S.length
    · rw [List.getElem?_set_self hl] at hm
      exact absurd (Option.some.inj hm) (hs x ps)
    · rw [List.getElem?_eq_none (by rw [List.length_set]; omega)] at hm
      cases hm
  · rw [List.getElem?_set_ne e] at hm; exact hm
/-- the def's own lists are younger than its entry -/
structure Own (K : PySem.W.Frag) (H0 : Hp) (σ : St) (S : List Slot) : Prop where
  ml : ∀ (i : Nat) (xs : List PyData) (p : Addr), S[i]? = some (.ml xs) → σ[i]? = some (some (.ref p)) → H0 p = none
  mo : ∀ (i : Nat) (p dx : Addr) (c : Str) (fs : List (PyData × PyData)), S[i]? = some (.mo p dx c fs) → H0 p = none ∧ H0 dx = none
  tb : ∀ (i : Nat) (x : Str) (ps : Array Value) (c P : Addr), S[i]? = some (.tb x ps) → PySem.W.tabIn K x = some (c, P) → H0 P = none
theorem Own.put {K : PySem.W.Frag} {H0 : Hp} {σ : St} {S : List Slot} {i : Nat} {o : Option V} {s : Slot} (h : Own K H0 σ S) (hs : ∀ xs p, s = .ml xs → o = some (.ref p) → H0 p = none) (hl : σ.length = S.length) (hm : ∀ p dx c fs, s ≠ .mo p dx c fs) (ht : ∀ x ps, s ≠ .tb x ps) : Own K H0 (σ.set i o) (S.set i s) := by
  refine ⟨fun j xs p h1 h2 => ?_, fun j p dx c fs h1 => h.mo j p dx c fs (mo_low hm h1), fun j x ps c P h1 h2 => h.tb j x ps c P (tb_low ht h1) h2⟩
  by_cases hj : i = j
  · subst hj
    have hlt : i < S.length := by
      by_cases hlt : i < S.length
      · exact hlt
      · rw [List.getElem?_eq_none (by rw [List.length_set]; omega)] at h1
        cases h1
    rw [List.getElem?_set_self hlt] at h1
    rw [List.getElem?_set_self (by omega)] at h2
    exact hs xs p (Option.some.inj h1) (Option.some.inj h2)
  · rw [List.getElem?_set_ne hj] at h1 h2
    exact h.ml j xs p h1 h2
theorem Own.val {K : PySem.W.Frag} {H0 : Hp} {σ : St} {S : List Slot} {i : Nat} {o : Option V} {d : PyData} (h : Own K H0 σ S) (hl : σ.length = S.length) : Own K H0 (σ.set i o) (S.set i (.val d)) := h.put (fun _ _ e => nomatch e) hl (by intro _ _ _ _ e; cases e) (by intro _ _ e; cases e)
theorem Own.keep {K : PySem.W.Frag} {H0 : Hp} {σ : St} {S : List Slot} {i : Nat} {xs ys : List PyData} (h : Own K H0 σ S) (hi : S[i]? = some (.ml xs)) : Own K H0 σ (S.set i (.ml ys)) := by
  refine ⟨fun j zs p h1 h2 => ?_, fun j p dx c fs h1 => h.mo j p dx c fs (mo_low (by intro _ _ _ _ e; cases e) h1), fun j x ps c P h1 h2 => h.tb j x ps c P (tb_low (by intro _ _ e; cases e) h1) h2⟩
  by_cases hj : i = j
  · subst hj; exact h.ml i xs p hi h2
  · rw [List.getElem?_set_ne hj] at h1; exact h.ml j zs p h1 h2
theorem Own.drop {K : PySem.W.Frag} {H0 : Hp} {σ : St} {S : List Slot} {i : Nat} {d : PyData} (h : Own K H0 σ S) : Own K H0 σ (S.set i (.val d)) := by
  refine ⟨fun j zs p h1 h2 => ?_, fun j p dx c fs h1 => h.mo j p dx c fs (mo_low (by intro _ _ _ _ e; cases e) h1), fun j x ps c P h1 h2 => h.tb j x ps c P (tb_low (by intro _ _ e; cases e) h1) h2⟩
  by_cases hj : i = j
  · subst hj
    by_cases hlt : i < S.length
    · rw [List.getElem?_set_self hlt] at h1; cases h1
    · rw [List.getElem?_eq_none (by rw [List.length_set]; omega)] at h1; cases h1
  · rw [List.getElem?_set_ne hj] at h1; exact h.ml j zs p h1 h2
theorem Own.keepO {K : PySem.W.Frag} {H0 : Hp} {σ : St} {S : List Slot} {i : Nat} {p dx : Addr} {c : Str} {ds es : List (PyData × PyData)} (h : Own K H0 σ S) (hi : S[i]? = some (.mo p dx c ds)) : Own K H0 σ (S.set i (.mo p dx c es)) := by
  have hl : i < S.length := (List.getElem?_eq_some_iff.mp hi).1
  refine ⟨fun j zs q h1 h2 => ?_, fun j q dy c' fs h1 => ?_, fun j x ps c P h1 h2 => h.tb j x ps c P (tb_low (by intro _ _ e; cases e) h1) h2⟩
  · by_cases hj : i = j
    · subst hj; rw [List.getElem?_set_self hl] at h1; cases h1
    · rw [List.getElem?_set_ne hj] at h1; exact h.ml j zs q h1 h2
  · by_cases hj : i = j
    · subst hj; rw [List.getElem?_set_self hl] at h1; cases h1; exact h.mo i p dx c ds hi
    · rw [List.getElem?_set_ne hj] at h1; exact h.mo j q dy c' fs h1
def StOk (K : PySem.W.Frag) (Gb G0 H0 : Hp) (σ : St) (H : Hp) (S : List Slot) : Prop := ∃ G, Same Gb G ∧ Ext G0 H0 G H ∧ EnvOk K G H σ S ∧ Own K H0 σ S
def conc (K : PySem.W.Frag) (Gb G0 H0 : Hp) (A : AE) : Ends where
  nx := fun σ H => ∃ S, A.nx S ∧ StOk K Gb G0 H0 σ H S
  rt := fun v H => ∃ G d, A.rt d ∧ Ext G0 H0 G H ∧ Dq K G v d
  bk := fun σ H => ∃ S, A.bk S ∧ StOk K Gb G0 H0 σ H S
  ct := fun σ H => ∃ S, A.ct S ∧ StOk K Gb G0 H0 σ H S
def Wp (T : Tx) (sts : List Stmt) (A : AE) (S : List Slot) : Prop := ∀ X, Mt X T → ∀ (Gb G0 H0 : Hp) (σ : St) (H : Hp), StOk X.K Gb G0 H0 σ H S → PSsa X sts (conc X.K Gb G0 H0 A) σ H
def Ws (T : Tx) (st : Stmt) (A : AE) (S : List Slot) : Prop := ∀ X, Mt X T → ∀ (Gb G0 H0 : Hp) (σ : St) (H : Hp), StOk X.K Gb G0 H0 σ H S → PSa X st (conc X.K Gb G0 H0 A) σ H
structure AELe (A A' : AE) : Prop where
  nx : ∀ S, A.nx S → A'.nx S
  rt : ∀ d, A.rt d → A'.rt d
  bk : ∀ S, A.bk S → A'.bk S
  ct : ∀ S, A.ct S → A'.ct S
theorem conc_le {K : PySem.W.Frag} {Gb G0 H0 : Hp} {A A' : AE} (h : AELe A A') : EndsLe (conc K Gb G0 H0 A) (conc K Gb G0 H0 A') :=
  ⟨fun _ _ ⟨S, a, b⟩ => ⟨S, h.nx _ a, b⟩, fun _ _ ⟨G, d, a, b⟩ => ⟨G, d, h.rt _ a, b⟩, fun _ _ ⟨S, a, b⟩ => ⟨S, h.bk _ a, b⟩, fun _ _ ⟨S, a, b⟩ => ⟨S, h.ct _ a, b⟩⟩
variable {A A' : AE} {st : Stmt} {rest sts : List Stmt}
theorem Wp.le (h : Wp T sts A S) (l : AELe A A') : Wp T sts A' S := fun X m Gb G0 H0 σ H q => (h X m Gb G0 H0 σ H q).le (conc_le l)
theorem Ws.le (h : Ws T st A S) (l : AELe A A') : Ws T st A' S := fun X m Gb G0 H0 σ H q => (h X m Gb G0 H0 σ H q).le (conc_le l)
theorem wp_nil (h : A.nx S) : Wp T [] A S := fun X m Gb G0 H0 σ H q => PSsa.of pss_nil ⟨S, h, q⟩
theorem wp_cons (h : Ws T st { A with nx := fun S' => Wp T rest A S' } S) : Wp T (st :: rest) A S := by
  intro X m Gb G0 H0 σ H q
  refine PSsa.of (pss_cons (psa X st) (pssa X rest)) ?_
  exact (h X m Gb G0 H0 σ H q).le ⟨fun σ' H' ⟨S', h1, h2⟩ => h1 X m Gb G0 H0 σ' H' h2, fun v H' z => z, fun _ _ z => z, fun _ _ z => z⟩
/-- the state behind an expression -/
theorem StOk.ext {K : PySem.W.Frag} {Gb G0 H0 G H G' H' : Hp} {σ : St} (hb : Same Gb G) (e0 : Ext G0 H0 G H) (en : EnvOk K G H σ S) (ow : Own K H0 σ S) (e : Ext G H G' H') : StOk K Gb G0 H0 σ H' S := ⟨G', hb.trans e.gg, e0.trans e, en.ext e, ow⟩
/-- may be stored -/
def Sto (T : Tx) (k : Kd) : Prop := k = .loc ∨ (k = .cel ∧ T.body = true)
theorem Mt.sto {X : Cx} (m : Mt X T) {i : Nat} {x : Str} {k : Kd} (h1 : T.N[i]? = some x) (h2 : T.kd[i]? = some k) (hk : Sto T k) : Loc X.env.scope x ∧ (X.fn x = true ∨ X.env.scope.names.lookup x = some .local) := by
  have q := m.kd h1 h2
  rcases hk with rfl | ⟨rfl, hb⟩
  · have z : X.env.scope.names.lookup x = some .local := of_decide_eq_true q
    exact ⟨.inl z, .inr z⟩
  · have z : X.env.scope.names.lookup x = some .cell := of_decide_eq_true q
    exact ⟨.inr z, .inl (m.fn hb x)⟩
theorem ws_set {x : Str} {k : Kd} {p : Pos} {S' : List Slot} (he : Ev T S e d) (hx : SetAt T.N T.kd S x k (.val d) S') (ha : A.nx S') (hk : Sto T k := by first | exact .inl rfl | exact .inr ⟨rfl, rfl⟩) (hs : ∀ env : Env, swapsWith e (some (.Name x p)) pos.line env = pure false := by intro _; rfl) :
    Ws T (.Assign [.Name x p] e pos) A S := by
  intro X m Gb G0 H0 σ H ⟨G, hb, e0, en, ow⟩
  obtain ⟨i, h1, h2, h3⟩ := hx.ix
  subst h3
  obtain ⟨l1, l2⟩ := m.sto h1 h2 hk
  refine PSa.of (ps_set (i := i) (by rw [m.N]; exact m.nd) (by rw [m.N]; exact h1) l1 (pea X e) (hs _) l2) ?_
  refine he X m G H σ _ e0.sub en fun v G1 H1 e1 r1 => ?_
  exact ⟨_, ha, G1, hb.trans e1.gg, e0.trans e1, (en.ext e1).setVal r1, ow.val en.len⟩
/-- name = a new list, which may change -/
theorem ws_setM {x : Str} {k : Kd} {p : Pos} {xs : List PyData} {S' : List Slot} (he : EvL T S e xs) (hx : SetAt T.N T.kd S x k (.ml xs) S') (ha : A.nx S') (hk : Sto T k := by first | exact .inl rfl | exact .inr ⟨rfl, rfl⟩) (hs : ∀ env : Env, swapsWith e (some (.Name x p)) pos.line env = pure false := by intro _; rfl) :
    Ws T (.Assign [.Name x p] e pos) A S := by
  intro X m Gb G0 H0 σ H ⟨G, hb, e0, en, ow⟩
  obtain ⟨i, h1, h2, h3⟩ := hx.ix
  subst h3
  obtain ⟨l1, l2⟩ := m.sto h1 h2 hk
  refine PSa.of (ps_set (i := i) (by rw [m.N]; exact m.nd) (by rw [m.N]; exact h1) l1 (pea X e) (hs _) l2) ?_
  refine he X m G H σ _ e0.sub en fun q vs G1 H1 e1 hq hd => ?_
  exact ⟨_, ha, G1, hb.trans e1.gg, (e0.trans e1).trans (Ext.newM e1.sub hq), (en.ext e1).newMl e1.sub hq hd, ow.put (fun _ _ _ z => by cases z; exact (e0.trans e1).hh.free hq) en.len (by intro _ _ _ _ e; cases e) (by intro _ _ e; cases e)⟩
/-- name = [elt for x in iter], on one line -/
theorem ws_setLc {y x : Str} {py px pos' : Pos} {iter elt : Expr} {scope : Scope} {i : Nat} {kd : List Kd} {gl : List Str} {xs ys : List PyData} {S' : List Slot} (hi : EvI T S (.Name x px) iter xs) (hx : T.N[i]? = some x) (hkd : kd[i]? = some .loc) (hb : blkC T.N T.sc scope [(x, i)] = true)
    (hT : (T.blk scope kd gl).ok) (hl : ys.length = xs.length) (he : ∀ (k : Nat) (d y : PyData), xs[k]? = some d → ys[k]? = some y → Ev (T.blk scope kd gl) (S.set i (.val d)) elt y) (hz : ys.length ≤ sizeLine) (hy : SetAt T.N T.kd S y .loc (.val (.list ys)) S') (ha : A.nx S')
    (hkind : T.sc.kind = .function := by rfl) (hline : (py.line == pos.line) = true := by rfl) (hown : (scope.names.any fun (n, k) => n == y && (k == .local || k == .cell)) = false := by decide +kernel)
    (hfs : ∀ (env : Env) (v : Value), foldedSetIterable iter env v = pure v := by intro _ _; rfl) :
    Ws T (.Assign [.Name y py] (.ListComp elt [⟨.Name x px, iter, [], 0⟩] scope pos) pos') A S := by
  intro X m Gb G0 H0 σ H ⟨G, hbb, e0, en, ow⟩
  obtain ⟨j, h1, h2, h3⟩ := hy.ix
  subst h3
  have hloc : X.env.scope.names.lookup y = some .local := of_decide_eq_true (m.kd h1 h2)
  have hsw : swapsWith (.ListComp elt [⟨.Name x px, iter, [], 0⟩] scope pos) (some (.Name y py)) pos'.line X.env = pure true := by
    show (pure (X.env.blockKind == .function && X.env.kindOf y == some .local && py.line == pos.line && !(scope.names.any fun (n, k) => n == y && (k == .local || k == .cell))) : Sem Bool) = pure true
    have e1 : X.env.kindOf y = some .local := hloc
    have e2 : X.env.blockKind = .function := by
      unfold Env.blockKind
      rw [m.sc, hkind]
      rfl
    rw [e1, e2, hline, hown]
    rfl
  refine PSa.of (ps_setLc (own := [(x, i)]) m.calm (by rw [m.N]; exact m.nd) (by rw [m.N]; exact h1) hloc hsw (pia X _ iter) (by rw [m.N, m.sc]; exact blkOk_by hb) (fun s H C cl fp => blk_pg m hx hkd hT s H C cl fp) (fun s H C cl fp => pts_nil) (te := blkE X scope elt) (fun s0 H0 C cl fp pins s σ H Q I h => h s0 H0 C cl fp pins s I) (hfs X.env)) ?_
  refine lc_reads m e0.sub en hi hT hl he hz fun q vs G1 H1 e1 hq hd => ?_
  have e2 := e1.trans (Ext.new (o := .lst vs) e1.sub hq)
  exact ⟨_, ha, _, hbb.trans e2.gg, e0.trans e2, (en.ext e2).setVal (.lst (SqL.of upd_same) (dpAll_mono (same_upd (e1.sub.free hq)) _ _ hd)), ow.val en.len⟩
theorem ws_ret (he : Ev T S e d) (h : A.rt d) : Ws T (.Return (some e) pos) A S := by
  intro X m Gb G0 H0 σ H ⟨G, hb, e0, en, ow⟩
  refine PSa.of (ps_ret (pea X e)) ?_
  exact he X m G H σ _ e0.sub en fun v G1 H1 e1 r1 => ⟨G1, d, h, e0.trans e1, r1⟩
theorem ws_if {k : Bool} {body orelse : List Stmt} (hc : EvT T S c k) (h1 : k = true → Wp T body A S) (h2 : k = false → Wp T orelse A S) : Ws T (.If c body orelse pos) A S := by
  intro X m Gb G0 H0 σ H ⟨G, hb, e0, en, ow⟩
  refine PSa.of (ps_if (pta X c) (pssa X body) (pssa X orelse)) ?_
  refine hc X m G H σ _ e0.sub en fun G1 H1 e1 => ?_
  cases k with
  | false => exact iteF (h2 rfl X m Gb G0 H0 σ H1 (StOk.ext hb e0 en ow e1))
  | true => exact iteT (h1 rfl X m Gb G0 H0 σ H1 (StOk.ext hb e0 en ow e1))
theorem ws_pass (h : A.nx S) : Ws T (.Pass pos) A S := fun X m Gb G0 H0 σ H q => PSa.of ps_pass ⟨S, h, q⟩
theorem ws_break (h : A.bk S) : Ws T (.Break pos) A S := fun X m Gb G0 H0 σ H q => PSa.of ps_break ⟨S, h, q⟩
theorem ws_continue (h : A.ct S) : Ws T (.Continue pos) A S := fun X m Gb G0 H0 σ H q => PSa.of ps_continue ⟨S, h, q⟩
theorem ws_doc {x : Str} {j : Nat} {p : Pos} (h : A.nx S) : Ws T (.Expr (.Constant (.str x) j p) pos) A S := fun X m Gb G0 H0 σ H q => PSa.of ps_doc ⟨S, h, q⟩
/-- while -/
theorem ws_while {body : List Stmt} (I : Nat → List Slot → Prop) (m0 : Nat) (h0 : I m0 S) (turn : ∀ m S, I m S → ∃ k, EvT T S c k ∧ (k = true → Wp T body { A with nx := fun S' => ∃ m', m' < m ∧ I m' S', ct := fun S' => ∃ m', m' < m ∧ I m' S', bk := A.nx } S) ∧ (k = false → A.nx S)) :
    Ws T (.While c body [] pos) A S := by
  intro X m Gb G0 H0 σ H q
  refine PSa.of (ps_while m.pass (pta X c) (pssa X body)) ?_
  refine ⟨fun n σ H => ∃ S, I n S ∧ StOk X.K Gb G0 H0 σ H S, ⟨m0, S, h0, q⟩, ?_⟩
  rintro n σ H ⟨S, hi, G, hb, e0, en, ow⟩
  obtain ⟨k, hc, h1, h2⟩ := turn n S hi
  refine hc X m G H σ _ e0.sub en fun G1 H1 e1 => ?_
  have st := StOk.ext hb e0 en ow e1
  cases k with
  | false => exact iteF ⟨S, h2 rfl, st⟩
  | true =>
    refine iteT ⟨fun σ' H' => ∃ S', (∃ m', m' < n ∧ I m' S') ∧ StOk X.K Gb G0 H0 σ' H' S', fun σ' H' ⟨S', ⟨m', h3, h4⟩, h5⟩ => ⟨m', h3, S', h4, h5⟩, ?_⟩
    exact h1 rfl X m Gb G0 H0 σ H1 st
/-- for x in iter -/
theorem ws_for {x : Str} {k : Kd} {p : Pos} {iter : Expr} {body : List Stmt} {xs : List PyData} (I : Nat → List Slot → Prop) (hi : EvI T S (.Name x p) iter xs) (h0 : I 0 S)
    (turn : ∀ n d S, xs[n]? = some d → I n S → ∃ S', SetAt T.N T.kd S x k (.val d) S' ∧ Wp T body { A with nx := I (n + 1), ct := I (n + 1), bk := A.nx } S') (hend : ∀ S, I xs.length S → A.nx S) (i : Nat) (hN : T.N[i]? = some x) (hkd : T.kd[i]? = some k)
    (hk : Sto T k := by first | exact .inl rfl | exact .inr ⟨rfl, rfl⟩) (hfs : ∀ (env : Env) (v : Value), foldedSetIterable iter env v = pure v := by intro _ _; rfl) : Ws T (.For (.Name x p) iter body [] pos) A S := by
  intro X m Gb G0 H0 σ H ⟨G, hb, e0, en, ow⟩
  obtain ⟨l1, l2⟩ := m.sto hN hkd hk
  refine PSa.of (ps_for m.pass m.calm (pia X _ iter) (pg_name (i := i) (by rw [m.N]; exact m.nd) (by rw [m.N]; exact hN) l1 l2) (pssa X body) (hfs X.env)) ?_
  refine hi X m G H σ _ e0.sub en fun J G1 H1 e1 jt => ?_
  refine ⟨fun n mm σ H => mm = xs.length - n ∧ n ≤ xs.length ∧ ∃ S, I n S ∧ StOk X.K G1 G0 H0 σ H S, ⟨xs.length, by simp, Nat.zero_le _, S, h0, G1, fun _ _ h => h, e0.trans e1, en.ext e1, ow⟩, ?_⟩
  rintro n mm σ H ⟨rfl, hn, S, hI, G2, hb2, e2, en2, ow2⟩
  by_cases hlt : n < xs.length
  · refine .inr ⟨jt.go n G2 H hb2 e2.sub hlt, fun σ' H' => ∃ S', I (n + 1) S' ∧ StOk X.K G1 G0 H0 σ' H' S', fun σ' H' ⟨S', h3, h4⟩ => ⟨xs.length - (n + 1), by omega, rfl, hlt, S', h3, h4⟩, fun v H' hy => ?_⟩
    obtain ⟨d, hd⟩ : ∃ d, xs[n]? = some d := ⟨xs[n], List.getElem?_eq_getElem hlt⟩
    obtain ⟨G3, e3, r3⟩ := jt.yld n G2 H v H' d hb2 e2.sub hy hd
    obtain ⟨S', hs, hw⟩ := turn n d S hd hI
    obtain ⟨j, h1, h2, h3⟩ := hs.ix
    have hij : j = i := nodup_ix m.nd h1 hN
    subst hij
    subst h3
    have z := hw X m G1 G0 H0 (σ.set j (some v)) H' ⟨G3, hb2.trans e3.gg, e2.trans e3, (en2.ext e3).setVal r3, ow2.val en2.len⟩
    exact z.le ⟨fun _ _ z => z, fun _ _ z => z, fun σ' H' ⟨S2, h4, G4, h5, h6⟩ => ⟨S2, h4, G4, (hb.trans e1.gg).trans h5, h6⟩, fun _ _ z => z⟩
  · have en' : n = xs.length := by omega
    subst en'
    exact .inl ⟨jt.stop _ G2 H hb2 e2.sub (Nat.le_refl _), S, hend S hI, G2, (hb.trans e1.gg).trans hb2, e2, en2, ow2⟩
/-- x.append(e), x a list of the def's own -/
theorem ws_append {x : Str} {k : Kd} {p ap cp : Pos} {xs : List PyData} {S' : List Slot} (hx : At T.N T.kd S x (.ml xs)) (he : Ev T S e d) (hS : SetAt T.N T.kd S x k (.ml (xs ++ [d])) S') (ha : A.nx S') (hz : xs.length < sizeLine)
    (hs : NoStar e := by intro _ _; rfl) (hline : (ap.endLine == cp.line) = true := by rfl) :
    Ws T (.Expr (.Call (.Attribute (.Name x p) "append" ap) [e] [] cp) pos) A S := by
  intro X m Gb G0 H0 σ H ⟨G, hb, e0, en, ow⟩
  obtain ⟨i, kq, h1, h2, hk, h3⟩ := hx.ix
  obtain ⟨j, f1, f2, f3⟩ := hS.ix
  have hij : j = i := nodup_ix m.nd f1 h1
  subst hij
  subst f3
  obtain ⟨pp, vs, g1, g2, g3, g4⟩ := en.mlst h3
  have hst : starEach [e] X.env = (false, eval e X.env) :: starEach [] X.env := hs _ _
  refine PSa.of (ps_expr (pe_bm PySem.F.plainAttrs_list PySem.F.slot_list_append PySem.F.type_list_append mt_append (pe_var (i := j) (by rw [m.N]; exact h1) (kdOk_vis (m.kd h1 h2) hk) (m.kd3 h1 h2).2.1 (m.kd3 h1 h2).2.2) (pa_cons (pea X e) pa_nil hst) rfl (by rw [hst]; rfl) hline hst rfl)) ?_
  refine ⟨_, g1, .inl ⟨rfl, _, SqL.of g3⟩, ?_⟩
  refine he X m G H σ _ e0.sub en fun v G1 H1 e1 r1 => ?_
  have gp : G1 pp = none := e1.away pp _ g3 g2
  refine ⟨pp, vs, v, rfl, rfl, e1.hh _ _ g3, by rw [dpAll_len g4]; exact hz, ?_⟩
  have z := e0.trans e1
  refine ⟨_, ha, G1, hb.trans e1.gg, ⟨z.gg, fun b o hbo => ?_, fun b o hbo => ?_, z.away⟩, (en.ext e1).write h3 g1 (e1.hh _ _ g3) gp (dpAll_snoc (dpAll_mono e1.gg _ _ g4) r1), ow.keep h3⟩
  · rw [upd_ne (ne_of_none hbo (ow.ml _ _ _ h3 g1))]; exact z.hh b o hbo
  · rw [upd_ne (ne_of_none hbo gp)]; exact z.sub b o hbo
/-- x[b] = e, x a list of the def's own -/
theorem ws_setItem {x : Str} {k : Kd} {p sp : Pos} {xs : List PyData} {n : Int} {j : Nat} {S' : List Slot} (hx : At T.N T.kd S x (.ml xs)) (he : Ev T S e d) (hb : Ev T S b (.int n)) (hj : ixN xs.length n = some j) (hS : SetAt T.N T.kd S x k (.ml (xs.set j d)) S') (ha : A.nx S')
    (has : ∀ (env : Env) (v : Value), assign (.Subscript (.Name x p) b sp) env v = (do
      let ov ← holding [v] (eval (.Name x p) env)
      let iv ← holding [v, ov] (eval b env)
      standAt sp
      holding [v, ov, iv] (setItem ov iv v)
      release [v, ov, iv] []) := by intro _ _; rfl)
    (hsw : ∀ env : Env, swapsWithSole [.Subscript (.Name x p) b sp] e pos.line env = pure false := by intro _; rfl) (hw : ∀ env : Env, swappedStores [.Subscript (.Name x p) b sp] e env = pure none := by intro _; rfl)
    (h1 : ∀ env : Env, (assignEach [.Subscript (.Name x p) b sp] env).map (·.2) = [assign (.Subscript (.Name x p) b sp) env] := by intro _; rfl) :
    Ws T (.Assign [.Subscript (.Name x p) b sp] e pos) A S := by
  intro X m Gb G0 H0 σ H ⟨G, hbb, e0, en, ow⟩
  obtain ⟨i, kq, n1, n2, hkq, n3⟩ := hx.ix
  obtain ⟨i', f1, f2, f3⟩ := hS.ix
  have hij : i' = i := nodup_ix m.nd f1 n1
  subst hij
  subst f3
  obtain ⟨pp, vs, g1, g2, g3, g4⟩ := en.mlst n3
  refine PSa.of (ps_asg (pea X e) (pg_sub (pe_var (i := i') (by rw [m.N]; exact n1) (kdOk_vis (m.kd n1 n2) hkq) (m.kd3 n1 n2).2.1 (m.kd3 n1 n2).2.2) (pea X b) set_list (has X.env)) (hsw _) (hw _) (h1 _)) ?_
  refine he X m G H σ _ e0.sub en fun v G1 H1 e1 r1 => ?_
  refine ⟨_, g1, ?_⟩
  refine hb X m G1 H1 σ _ e1.sub (en.ext e1) fun u G2 H2 e2 r2 => ?_
  cases r2
  have z := e0.trans (e1.trans e2)
  have hp2 : H2 pp = some (.lst vs) := (e1.trans e2).hh _ _ g3
  have gp : G2 pp = none := (e1.trans e2).away pp _ g3 g2
  refine ⟨pp, vs, n, j, rfl, rfl, hp2, by rw [dpAll_len g4]; exact hj, ?_⟩
  refine ⟨_, ha, G2, hbb.trans (e1.trans e2).gg, ⟨z.gg, fun b o hbo => ?_, fun b o hbo => ?_, z.away⟩, (en.ext (e1.trans e2)).write n3 g1 hp2 gp (dpAll_set j (dpAll_mono (e1.trans e2).gg _ _ g4) (dp_mono e2.gg _ _ r1)), ow.keep n3⟩
  · rw [upd_ne (ne_of_none hbo (ow.ml _ _ _ n3 g1))]; exact z.hh b o hbo
  · rw [upd_ne (ne_of_none hbo gp)]; exact z.sub b o hbo
/-- a list of the def's own is changed no more -/
theorem wp_freeze {x : Str} {k : Kd} {xs : List PyData} {S' : List Slot} (hx : At T.N T.kd S x (.ml xs)) (hS : SetAt T.N T.kd S x k (.val (.list xs)) S') (h : Wp T sts A S') : Wp T sts A S := by
  intro X m Gb G0 H0 σ H ⟨G, hb, e0, en, ow⟩
  obtain ⟨i, kq, n1, n2, hkq, n3⟩ := hx.ix
  obtain ⟨i', f1, f2, f3⟩ := hS.ix
  have hij : i' = i := nodup_ix m.nd f1 n1
  subst hij
  subst f3
  obtain ⟨pp, vs, g1, g2, g3, g4⟩ := en.mlst n3
  have h0 := ow.ml _ _ _ n3 g1
  refine h X m Gb G0 H0 σ H ⟨upd G pp (.lst vs), hb.trans (same_upd g2), ⟨e0.gg.trans (same_upd g2), e0.hh, fun b o hbo => ?_, fun b o hbo hg => ?_⟩, en.freeze e0.sub n3 g1 g3 g2 g4, ow.drop⟩
  · by_cases q : b = pp
    · subst q; rw [upd_same] at hbo; rw [← hbo]; exact g3
    · rw [upd_ne q] at hbo; exact e0.sub b o hbo
  · rw [upd_ne (ne_of_none hbo h0)]; exact e0.away b o hbo hg
/-- x += e, ints -/
theorem ws_augAdd {x : Str} {k : Kd} {p : Pos} {i j : Int} {S' : List Slot} (hx : At T.N T.kd S x (.val (.int i))) (he : Ev T S e (.int j)) (hS : SetAt T.N T.kd S x k (.val (.int (i + j))) S') (ha : A.nx S') (hk : Sto T k := by first | exact .inl rfl | exact .inr ⟨rfl, rfl⟩) :
    Ws T (.AugAssign (.Name x p) .Add e pos) A S := by
  intro X m Gb G0 H0 σ H ⟨G, hb, e0, en, ow⟩
  obtain ⟨n, kq, n1, n2, hkq, n3⟩ := hx.ix
  obtain ⟨n', f1, f2, f3⟩ := hS.ix
  have hij : n' = n := nodup_ix m.nd f1 n1
  subst hij
  subst f3
  obtain ⟨l1, l2⟩ := m.sto f1 f2 hk
  obtain ⟨v, g1, g2⟩ := en.val n3
  cases g2
  refine PSa.of (ps_aug (i := n') (by rw [m.N]; exact m.nd) (by rw [m.N]; exact n1) l1 (pea X e) ip_add l2) ?_
  refine ⟨_, g1, ?_⟩
  refine he X m G H σ _ e0.sub en fun v G1 H1 e1 r1 => ?_
  cases r1
  exact ⟨i, j, rfl, rfl, _, ha, G1, hb.trans e1.gg, e0.trans e1, (en.ext e1).setVal (.int _), ow.val en.len⟩

/-! ### defs -/
structure Cal0 (P : Program) (w : World) (K : PySem.W.Frag) (mg : Str → Option Value) (base : Heap) (k : Nat) (x : Str) (n : Nat) (R : Gr) : Prop where
  ex : ∃ f fd ps, FnOk P w K mg base CX0 k f fd ps (spOf K n R) ∧ mg x = some (.ref f) ∧ PySem.W.keepIn K (.ref f) = true ∧ Binds K fd ps []
theorem Cal0.mono {P : Program} {w : World} {K : PySem.W.Frag} {mg : Str → Option Value} {base : Heap} {j k : Nat} {x : Str} {n : Nat} {R : Gr} (h : Cal0 P w K mg base j x n R) (l : j ≤ k) : Cal0 P w K mg base k x n R := by
  obtain ⟨f, fd, ps, h1, h2⟩ := h.ex
  exact ⟨f, fd, ps, h1.mono l, h2⟩
structure Mk0 (P : Program) (w : World) (K : PySem.W.Frag) (mg : Str → Option Value) (base : Heap) (k : Nat) (x : Str) (n : Nat) (R : Gr) : Prop where
  ex : ∃ C f fd ps j, j + 1 ≤ k ∧ FnOk P w K mg base CX0 j f fd ps (spInit K x n R) ∧ mg x = some (.ref C) ∧ PySem.W.nsIn K mainGlobals x = some (some (.ref C)) ∧ L2.Mk K C f ∧ Binds K fd ps []
theorem Mk0.mono {P : Program} {w : World} {K : PySem.W.Frag} {mg : Str → Option Value} {base : Heap} {j k : Nat} {x : Str} {n : Nat} {R : Gr} (h : Mk0 P w K mg base j x n R) (l : j ≤ k) : Mk0 P w K mg base k x n R := by
  obtain ⟨C, f, fd, ps, i, h1, h2⟩ := h.ex
  exact ⟨C, f, fd, ps, i, Nat.le_trans h1 l, h2⟩
structure Mt0 (P : Program) (w : World) (K : PySem.W.Frag) (mg : Str → Option Value) (base : Heap) (k : Nat) (c m : Str) (n : Nat) (R : Gr) : Prop where
  ex : ∃ C f fd ps, FnOk P w K mg base CX0 k f fd ps (spOf K (n + 1) R) ∧ PySem.W.nsIn K mainGlobals c = some (some (.ref C)) ∧ L2.Cls K C ∧ L2.Meth K C m f ∧ Binds K fd ps []
theorem Mt0.mono {P : Program} {w : World} {K : PySem.W.Frag} {mg : Str → Option Value} {base : Heap} {j k : Nat} {c m : Str} {n : Nat} {R : Gr} (h : Mt0 P w K mg base j c m n R) (l : j ≤ k) : Mt0 P w K mg base k c m n R := by
  obtain ⟨C, f, fd, ps, h1, h2⟩ := h.ex
  exact ⟨C, f, fd, ps, h1.mono l, h2⟩
def startS (n : Nat) (ds : List PyData) : List Slot := ds.map .val ++ List.replicate (n - ds.length) .no
theorem dpAll_vals {K : PySem.W.Frag} {G H : Hp} : ∀ {vs : List V} {ds : List PyData}, DqAll K G vs ds → ∀ (i : Nat) (s : Slot), (ds.map Slot.val)[i]? = some s → ∃ v d, vs[i]? = some v ∧ s = .val d ∧ Dq K G v d
  | _, _, h, i, s, e => by
    rw [List.getElem?_map] at e
    rename_i vs ds
    cases q : ds[i]? with
    | none => rw [q] at e; cases e
    | some d =>
      rw [q] at e
      obtain ⟨v, h1, h2⟩ := dpAll_get h q
      exact ⟨v, d, h1, (Option.some.inj e).symm, h2⟩
theorem start_ok {K : PySem.W.Frag} {G H : Hp} {N : List Str} {vs : List V} {ds : List PyData} (h : DqAll K G vs ds) : EnvOk K G H (L2.start N vs) (startS N.length ds) ∧ ∀ H0, Own K H0 (L2.start N vs) (startS N.length ds) := by
  have hl := dpAll_len h
  have nom : ∀ (i : Nat) (xs : List PyData), ¬ (startS N.length ds)[i]? = some (.ml xs) := fun i xs e => by
    have q := List.mem_of_getElem? e
    unfold startS at q
    rcases List.mem_append.mp q with q | q
    · obtain ⟨d, _, z⟩ := List.mem_map.mp q
      cases z
    · have z := (List.mem_replicate.mp q).2
      cases z
  have notb : ∀ (i : Nat) (x : Str) (ps : Array Value), ¬ (startS N.length ds)[i]? = some (.tb x ps) := fun i x ps e => by
    have q := List.mem_of_getElem? e
    unfold startS at q
    rcases List.mem_append.mp q with q | q
    · obtain ⟨d, _, z⟩ := List.mem_map.mp q
      cases z
    · have z := (List.mem_replicate.mp q).2
      cases z
  have nomo : ∀ (i : Nat) (p dx : Addr) (c : Str) (fs : List (PyData × PyData)), ¬ (startS N.length ds)[i]? = some (.mo p dx c fs) := fun i p dx c fs e => by
    have q := List.mem_of_getElem? e
    unfold startS at q
    rcases List.mem_append.mp q with q | q
    · obtain ⟨d, _, z⟩ := List.mem_map.mp q
      cases z
    · have z := (List.mem_replicate.mp q).2
      cases z
  refine ⟨⟨by unfold L2.start startS; simp [hl], fun i s e => ?_, fun i j xs ys p _ h1 => absurd h1 (nom i xs), fun i j p q dx dy c c' fs gs h1 => absurd h1 (nomo i p dx c fs)⟩, fun H0 => ⟨fun i xs p h1 => absurd h1 (nom i xs), fun i p dx c fs h1 => absurd h1 (nomo i p dx c fs), fun i x ps c P h1 => absurd h1 (notb i x ps)⟩⟩
  unfold L2.start
  unfold startS at e
  by_cases hi : i < ds.length
  · rw [List.getElem?_append_left (by rw [List.length_map]; exact hi)] at e
    obtain ⟨v, d, h1, h2, h3⟩ := dpAll_vals (H := H) h i s e
    refine ⟨some v, ?_, ?_⟩
    · rw [List.getElem?_append_left (by rw [List.length_map]; omega), List.getElem?_map, h1]; rfl
    · rw [h2]; exact ⟨v, rfl, h3⟩
  · rw [List.getElem?_append_right (by rw [List.length_map]; omega), List.getElem?_replicate] at e
    split at e
    · rename_i hlt
      have z := Option.some.inj e
      subst z
      rw [List.length_map] at hlt
      refine ⟨none, ?_, trivial⟩
      rw [List.getElem?_append_right (by rw [List.length_map]; omega), List.getElem?_replicate, List.length_map, hl, if_pos hlt]
    · cases e
variable {P : Program} {w : World} {K : PySem.W.Frag} {mg : Str → Option Value} {base : Heap}
/-- THE RULE for a def -/
theorem fn_ok {x qual : Str} {f : Addr} {fd : FuncData} {ps : List Str} {k : Nat} {R : Gr} (F : Fun K x qual st f fd) (hsc : T.sc = defScope st) (hbo : T.body = true) (hS : FnScope T.N ps (defScope st)) (hT : T.ok)
    (hfn : ∀ x n R, (x, n, R) ∈ T.fns → Cal0 P w K mg base k x n R) (hbl : ∀ x, x ∈ bl → mg x = none) (hco : ∀ x d, (x, d) ∈ T.con → ∃ u v, mg x = some u ∧ RelV v u ∧ ∀ G : Hp, Dq K G v d)
    (hob : ∀ c fl, (c, fl) ∈ T.obs → Obr K c fl) (hmk : ∀ x n R, (x, n, R) ∈ T.mks → Mk0 P w K mg base k x n R) (hmt : ∀ c m n R, (c, m, n, R) ∈ T.mts → Mt0 P w K mg base k c m n R)
    (hbody : ∀ ds r, ds.length = ps.length → R ds r → Wp T (defBody st) { nx := fun _ => r = .none, rt := fun d => d = r } (startS T.N.length ds)) (hnt : T.tab = none := by rfl) (hnl : T.lfn = [] := by rfl) : FnOk P w K mg base CX0 (k + 1) f fd ps (spOf K ps.length R) := by
  refine F.ok hS (fun vs H Q E h => ?_) (fun cdv A outer s H vs Q E hr h => ?_)
  · obtain ⟨G, ds, r, _, h1, h2, _⟩ := h
    rw [dpAll_len h1, h2]
  · obtain ⟨G, ds, r, sm, hd, hl, hR, q⟩ := h
    refine ⟨_, pssa _ _, ?_⟩
    generalize hX : (cxOf CX0 P w K mg base T.N qual (defScope st) f cdv A outer s H E).nox = X
    have m : Mt X T := by
      subst hX
      refine ⟨rfl, hS.nd, hsc.symm, hT, rfl, hr.units, PassesOwn.never, fun _ _ => rfl, fun x n R hx => ?_, hbl, hco, hob, fun x n R hx => ?_, fun c x n R hx => ?_, fun x hx => (by rw [hnt] at hx; cases hx), fun x n R hx => (by rw [hnl] at hx; cases hx)⟩
      · obtain ⟨f', fd', ps', a1, a2, a3, a4⟩ := (hfn x n R hx).ex
        exact ⟨f', fd', ps', k, a1, hr, a2, a3, a4⟩
      · obtain ⟨C', f', fd', ps', i', a0, a1, a2, a3, a4, a5⟩ := (hmk x n R hx).ex
        exact ⟨C', f', fd', ps', i', a1, hr.mono a0, a2, a3, a4, a5⟩
      · obtain ⟨C', f', fd', ps', a1, a2, a3, a4, a5⟩ := (hmt c x n R hx).ex
        exact ⟨C', f', fd', ps', k, a1, hr, a2, a3, a4, a5⟩
    have eK : X.K = K := by subst hX; rfl
    obtain ⟨en, ow⟩ := start_ok (K := X.K) (G := G) (H := H) (N := T.N) (by rw [eK]; exact hd)
    have z := hbody ds r hl hR X m G G H (L2.start T.N vs) H ⟨G, fun _ _ h => h, .refl sm, en, ow H⟩
    refine z.le ⟨fun σ' H' ⟨S', h1, G', _, h3, _⟩ => ?_, fun v H' ⟨G', d, h1, h2, h3⟩ => ?_, fun _ _ ⟨_, h1, _⟩ => h1.elim, fun _ _ ⟨_, h1, _⟩ => h1.elim⟩
    · have h1 : r = .none := h1
      subst h1
      exact q _ G' H' h3 .non
    · have h1 : d = r := h1
      subst h1
      rw [eK] at h3
      exact q v G' H' h2 h3
/-- THE RULE for an __init__ -/
theorem init_ok {x qual : Str} {f : Addr} {fd : FuncData} {ps : List Str} {c : Str} {n k : Nat} {R : Gr} (F : Fun K x qual st f fd) (hsc : T.sc = defScope st) (hbo : T.body = true) (hS : FnScope T.N ps (defScope st)) (hT : T.ok)
    (hfn : ∀ x n R, (x, n, R) ∈ T.fns → Cal0 P w K mg base k x n R) (hbl : ∀ x, x ∈ bl → mg x = none) (hco : ∀ x d, (x, d) ∈ T.con → ∃ u v, mg x = some u ∧ RelV v u ∧ ∀ G : Hp, Dq K G v d)
    (hob : ∀ c fl, (c, fl) ∈ T.obs → Obr K c fl) (hmk : ∀ x n R, (x, n, R) ∈ T.mks → Mk0 P w K mg base k x n R) (hmt : ∀ c m n R, (c, m, n, R) ∈ T.mts → Mt0 P w K mg base k c m n R) (hn : ps.length = n + 1) (hNl : T.N.length = (T.N.length - 1) + 1)
    (hbody : ∀ p dx ds r, ds.length = n → R ds r → Wp T (defBody st) { nx := fun S => ∃ fs, S[0]? = some (.mo p dx c fs) ∧ r = .dict ((.str c, .none) :: fs), rt := fun _ => False } (.mo p dx c [] :: startS (T.N.length - 1) ds)) (hnt : T.tab = none := by rfl) (hnl : T.lfn = [] := by rfl) : FnOk P w K mg base CX0 (k + 1) f fd ps (spInit K c n R) := by
  refine F.ok hS (fun vs H Q E h => ?_) (fun cdv A outer s H vs Q E hr h => ?_)
  · obtain ⟨G, ds, r, p, dx, C, H1, us, rfl, _, _, _, _, _, _, h1, h2, _⟩ := h
    rw [List.length_cons, dpAll_len h1, h2, hn]
  · obtain ⟨G, ds, r, p, dx, C, H1, us, rfl, rfl, np, nd, ne, hns, sm, hd, hl, hR, q⟩ := h
    refine ⟨_, pssa _ _, ?_⟩
    generalize hX : (cxOf CX0 P w K mg base T.N qual (defScope st) f cdv A outer s (upd (upd H1 dx (.own p)) p (.ins C dx [])) E).nox = X
    have m : Mt X T := by
      subst hX
      refine ⟨rfl, hS.nd, hsc.symm, hT, rfl, hr.units, PassesOwn.never, fun _ _ => rfl, fun x n R hx => ?_, hbl, hco, hob, fun x n R hx => ?_, fun c x n R hx => ?_, fun x hx => (by rw [hnt] at hx; cases hx), fun x n R hx => (by rw [hnl] at hx; cases hx)⟩
      · obtain ⟨f', fd', ps', a1, a2, a3, a4⟩ := (hfn x n R hx).ex
        exact ⟨f', fd', ps', k, a1, hr, a2, a3, a4⟩
      · obtain ⟨C', f', fd', ps', i', a0, a1, a2, a3, a4, a5⟩ := (hmk x n R hx).ex
        exact ⟨C', f', fd', ps', i', a1, hr.mono a0, a2, a3, a4, a5⟩
      · obtain ⟨C', f', fd', ps', a1, a2, a3, a4, a5⟩ := (hmt c x n R hx).ex
        exact ⟨C', f', fd', ps', k, a1, hr, a2, a3, a4, a5⟩
    have eK : X.K = K := by subst hX; rfl
    generalize hH : upd (upd H1 dx (.own p)) p (.ins C dx []) = H
    have hHp : H p = some (.ins C dx []) := by rw [← hH]; exact upd_same
    have hHd : H dx = some (.own p) := by rw [← hH, upd_ne ne]; exact upd_same
    have s1 : Same H1 H := fun b o e => by rw [← hH, upd_ne (ne_of_none e np), upd_ne (ne_of_none e nd)]; exact e
    have gp : G p = none := sm.free np
    have gd : G dx = none := sm.free nd
    have hst : L2.start T.N (.ref p :: us) = some (.ref p) :: L2.start (T.N.drop 1) us := by
      unfold L2.start
      rw [List.map_cons, List.cons_append, List.length_cons, List.length_drop]
      congr 2
      congr 1
      omega
    obtain ⟨en, ow⟩ := start_ok (K := K) (G := G) (H := H) (N := T.N.drop 1) hd
    rw [List.length_drop] at en ow
    have en2 : EnvOk X.K G H (L2.start T.N (.ref p :: us)) (.mo p dx c [] :: startS (T.N.length - 1) ds) := by
      rw [hst, eK]
      refine ⟨by rw [List.length_cons, List.length_cons, en.len], fun i t ht => ?_, fun i j xs ys a hij h1 h2 h3 h4 => ?_, fun i j a b da db c1 c2 fs gs h1 h2 => ?_⟩
      · cases i with
        | zero =>
          have e : Slot.mo p dx c [] = t := Option.some.inj ht
          subst e
          exact ⟨_, rfl, C, [], rfl, gp, gd, hHp, hHd, hns, .nil⟩
        | succ i => exact en.ok i t ht
      · cases i with
        | zero => cases h1
        | succ i =>
          cases j with
          | zero => cases h2
          | succ j => exact en.ne i j xs ys a (fun e => hij (by rw [e])) h1 h2 h3 h4
      · cases i with
        | zero =>
          cases j with
          | zero => rfl
          | succ j => exact absurd (en.one j j b b db db c2 c2 gs gs h2 h2) (fun _ => by
              have := List.mem_of_getElem? (show (startS (T.N.length - 1) ds)[j]? = some (.mo b db c2 gs) from h2)
              unfold startS at this
              rcases List.mem_append.mp this with z | z
              · obtain ⟨_, _, z⟩ := List.mem_map.mp z; cases z
              · have z := (List.mem_replicate.mp z).2; cases z)
        | succ i =>
          exfalso
          have := List.mem_of_getElem? (show (startS (T.N.length - 1) ds)[i]? = some (.mo a da c1 fs) from h1)
          unfold startS at this
          rcases List.mem_append.mp this with z | z
          · obtain ⟨_, _, z⟩ := List.mem_map.mp z; cases z
          · have z := (List.mem_replicate.mp z).2; cases z
    have ow2 : Own K H1 (L2.start T.N (.ref p :: us)) (.mo p dx c [] :: startS (T.N.length - 1) ds) := by
      rw [hst]
      refine ⟨fun i xs a h1 h2 => ?_, fun i a da c1 fs h1 => ?_, fun i x ps c1 P1 h1 h2 => ?_⟩
      rotate_right
      · cases i with
        | zero => cases h1
        | succ i => exact (ow H1).tb i x ps c1 P1 h1 h2
      · cases i with
        | zero => cases h1
        | succ i => exact (ow H1).ml i xs a h1 h2
      · cases i with
        | zero => cases h1; exact ⟨np, nd⟩
        | succ i => exact (ow H1).mo i a da c1 fs h1
    have z := hbody p dx ds r hl hR X m G G H1 (L2.start T.N (.ref p :: us)) H ⟨G, fun _ _ h => h, ⟨fun _ _ h => h, s1, sm.trans s1, fun _ _ _ h => h⟩, en2, by rw [eK]; exact ow2⟩
    refine z.le ⟨fun σ' H' ⟨S', ⟨fs, hs0, hr⟩, G', hb, e, en3, ow3⟩ => ?_, fun v H' ⟨G', d, h1, _⟩ => h1.elim, fun _ _ ⟨_, h1, _⟩ => h1.elim, fun _ _ ⟨_, h1, _⟩ => h1.elim⟩
    obtain ⟨o, _, C', us', _, b2, b3, b4, b5, b6, b7⟩ := en3.ok 0 _ hs0
    have nep : dx ≠ p := ne
    have gg : Same G' (upd (upd G' dx (.own p)) p (.ins C' dx us')) := fun b o e => by rw [upd_ne (ne_of_none e b2), upd_ne (ne_of_none e b3)]; exact e
    refine q (upd (upd G' dx (.own p)) p (.ins C' dx us')) H' ⟨e.gg.trans gg, e.hh, fun b o hb => ?_, fun b o h1 h2 => ?_⟩ ?_
    · by_cases h1 : b = p
      · subst h1; rw [upd_same] at hb; cases hb; exact b4
      · rw [upd_ne h1] at hb
        by_cases h2 : b = dx
        · subst h2; rw [upd_same] at hb; cases hb; exact b5
        · rw [upd_ne h2] at hb; exact e.sub b o hb
    · rw [upd_ne (ne_of_none h1 np), upd_ne (ne_of_none h1 nd)]; exact e.away b o h1 h2
    · rw [hr]
      rw [eK] at b6 b7
      exact .obj b6 upd_same (by rw [upd_ne nep]; exact upd_same) (dqF_mono gg b7)
/-- x.f = e in an __init__ -/
theorem dqF_snoc {K : PySem.W.Frag} {G : Hp} : ∀ {fs : List (Str × V)} {ds : List (PyData × PyData)} {f : Str} {v : V} {d : PyData}, DqF K G fs ds → NoF ds f → Dq K G v d → DqF K G (putF f v fs) (ds ++ [(.str f, d)])
  | _, _, _, _, _, .nil, _, h => .cons h .nil
  | _, _, f, v, _, .cons (f := g) a t, .cons n q, h => by
    rw [show putF f v ((g, _) :: _) = (if g = f then (g, v) :: _ else (g, _) :: putF f v _) from rfl, if_neg (fun e => n e.symm)]
    exact .cons a (dqF_snoc t q h)
theorem dqF_len {K : PySem.W.Frag} {G : Hp} : ∀ {fs : List (Str × V)} {ds : List (PyData × PyData)}, DqF K G fs ds → fs.length = ds.length
  | _, _, .nil => rfl
  | _, _, .cons _ t => congrArg (· + 1) (dqF_len t)
theorem ws_setAttr {x f c : Str} {k : Kd} {px ap : Pos} {q dx : Addr} {ds : List (PyData × PyData)} {fl : List Str} {S' : List Slot} (hx : At T.N T.kd S x (.mo q dx c ds)) (he : Ev T S e d) (ho : In (c, fl) T.obs) (hf : In f fl) (hn : NoF ds f) (hl : ds.length < 1000) (hS : SetAt T.N T.kd S x k (.mo q dx c (ds ++ [(.str f, d)])) S') (ha : A.nx S')
    (hsw : ∀ env : Env, swapsWith e (some (.Attribute (.Name x px) f ap)) pos.line env = pure false := by intro _; rfl) : Ws T (.Assign [.Attribute (.Name x px) f ap] e pos) A S := by
  intro X m Gb G0 H0 σ H ⟨G, hb, e0, en, ow⟩
  obtain ⟨C, h1, h2, h3⟩ := (m.ob c fl ho.mem).ex
  obtain ⟨i, kq, n1, n2, hkq, n3⟩ := hx.ix
  obtain ⟨i', f1, f2, f3⟩ := hS.ix
  have hij : i' = i := nodup_ix m.nd f1 n1
  subst hij
  subst f3
  refine PSa.of (ps_fld (pe_var (i := i') (by rw [m.N]; exact n1) (kdOk_vis (m.kd n1 n2) hkq) (m.kd3 n1 n2).2.1 (m.kd3 n1 n2).2.2) (pea X e) (hsw _)) ?_
  refine he X m G H σ _ e0.sub en fun v G1 H1 e1 r1 => ?_
  have en1 := en.ext e1
  obtain ⟨o, a1, C', fs, a2, a3, a4, a5, a6, a7, a8⟩ := en1.ok i' _ n3
  subst a2
  rw [h1] at a7
  cases a7
  refine ⟨_, a1, q, C, dx, fs, rfl, a5, h2, h3 f hf.mem, by rw [dqF_len a8]; exact hl, _, ha, G1, hb.trans e1.gg, ?_, en1.writeO n3 a5 (dqF_snoc a8 hn r1), ow.keepO n3⟩
  have z := e0.trans e1
  have h0 := (ow.mo i' q dx c ds n3).1
  refine ⟨z.gg, fun b u hbo => ?_, fun b u hbo => ?_, z.away⟩
  · rw [upd_ne (ne_of_none hbo h0)]; exact z.hh b u hbo
  · rw [upd_ne (ne_of_none hbo a3)]; exact z.sub b u hbo
end
end Dn

set_option Elab.async false
set_option linter.all false
set_option maxRecDepth 100000
set_option maxHeartbeats 2000000
namespace Dn
open PySem PySem.Spec PyProof.Rows L2
set_option autoImplicit false
section
variable {T : Tx} {S : List Slot} {a b c e tg : Expr} {d : PyData} {pos : Pos}
/-! ### targets -/
def PGa (X : Cx) (tg : Expr) : TG := fun v σ H Q => ∀ (pins : List (Addr × Obj)) (s : Shared) (u : Value), Inv X pins σ H s → RelV v u → wpAny (model X.prog X.w) X.A (assign tg X.env u) (fun _ s' => ∃ σ' H', Inv X pins σ' H' s' ∧ Q σ' H') X.xe s
theorem pga (X : Cx) (tg : Expr) : PG X tg (PGa X tg) := fun pins s _ _ _ u _ I r h => h pins s u I r
theorem PGa.of {X : Cx} {tg : Expr} {g : TG} {v : V} {σ : St} {H : Hp} {Q : St → Hp → Prop} (h : PG X tg g) (q : g v σ H Q) : PGa X tg v σ H Q := fun pins s u I r => h pins s σ H v u Q I r q
/-- the datum d goes to the target tg, which stands in the slots ix: S becomes S' -/
def Tgt (T : Tx) (tg : Expr) (ix : List Nat) (d : PyData) (S S' : List Slot) : Prop :=
  ∀ X, Mt X T → ∀ (G H : Hp) (σ : St) (v : V) (Q : St → Hp → Prop), Same G H → EnvOk X.K G H σ S → Dq X.K G v d →
    (∀ σ', EnvOk X.K G H σ' S' → (∀ H0, Own X.K H0 σ S → Own X.K H0 σ' S') → (∀ i, i ∉ ix → σ'[i]? = σ[i]?) → σ'.length = σ.length → Q σ' H) → PGa X tg v σ H Q
theorem tgt_name {x : Str} {k : Kd} {p : Pos} {S' : List Slot} {i : Nat} (hx : SetAt T.N T.kd S x k (.val d) S') (hi : T.N[i]? = some x) (hk : Sto T k) : Tgt T (.Name x p) [i] d S S' := by
  intro X m G H σ v Q sm en hd q
  obtain ⟨j, h1, h2, h3⟩ := hx.ix
  have hij : j = i := nodup_ix m.nd h1 hi
  subst hij
  subst h3
  obtain ⟨l1, l2⟩ := m.sto h1 h2 hk
  refine PGa.of (pg_name (i := j) (by rw [m.N]; exact m.nd) (by rw [m.N]; exact h1) l1 l2) ?_
  refine q _ (en.setVal hd) (fun H0 ow => ow.val en.len) (fun i hne => ?_) (List.length_set ..)
  exact List.getElem?_set_ne (fun e => hne (by rw [e]; exact List.mem_singleton.mpr rfl))
theorem tgt_tup2 {ix jx : List Nat} {d1 d2 : PyData} {S1 S2 : List Slot} {kk : Nat} (h1 : Tgt T a ix d1 S S1) (h2 : Tgt T b jx d2 S1 S2)
    (hn : ∀ env : Env, (assignEach [a, b] env).length = 2 := by intro _; rfl) (hst : ∀ env : Env, (assignEach [a, b] env).findIdx? (·.1) = none := by intro _; rfl)
    (hs1 : ∀ env : Env, (assignEach [a, b] env).map (·.2) = assign a env :: (assignEach [b] env).map (·.2) := by intro _; rfl) (hs2 : ∀ env : Env, (assignEach [b] env).map (·.2) = assign b env :: (assignEach [] env).map (·.2) := by intro _; rfl) :
    Tgt T (.Tuple [a, b] kk pos) (ix ++ jx) (.tuple [d1, d2]) S S2 := by
  intro X m G H σ v Q sm en hd q
  refine PGa.of (pg_tup (n := 2) m.calm (pgs_cons (pga X a) (pgs_cons (pga X b) pgs_nil (hs2 _)) (hs1 _)) (hn _) (hst _)) ?_
  cases hd with
  | tup hs ha =>
    obtain ⟨v1, v2, rfl, r1, r2⟩ := dpAll2 ha
    refine ⟨_, _, rfl, same_tup sm hs, rfl, v1, [v2], rfl, ?_⟩
    refine h1 X m G H σ v1 _ sm en r1 fun σ1 en1 ow1 k1 l1 => ⟨v2, [], rfl, ?_⟩
    refine h2 X m G H σ1 v2 _ sm en1 r2 fun σ2 en2 ow2 k2 l2 => ⟨rfl, ?_⟩
    refine q σ2 en2 (fun H0 ow => ow2 H0 (ow1 H0 ow)) (fun i hi => ?_) (l2.trans l1)
    rw [List.mem_append, not_or] at hi
    rw [k2 i hi.2, k1 i hi.1]
theorem tgt_tup3 {ix jx kx : List Nat} {d1 d2 d3 : PyData} {S1 S2 S3 : List Slot} {kk : Nat} (h1 : Tgt T a ix d1 S S1) (h2 : Tgt T b jx d2 S1 S2) (h3 : Tgt T c kx d3 S2 S3)
    (hn : ∀ env : Env, (assignEach [a, b, c] env).length = 3 := by intro _; rfl) (hst : ∀ env : Env, (assignEach [a, b, c] env).findIdx? (·.1) = none := by intro _; rfl)
    (hs1 : ∀ env : Env, (assignEach [a, b, c] env).map (·.2) = assign a env :: (assignEach [b, c] env).map (·.2) := by intro _; rfl) (hs2 : ∀ env : Env, (assignEach [b, c] env).map (·.2) = assign b env :: (assignEach [c] env).map (·.2) := by intro _; rfl)
    (hs3 : ∀ env : Env, (assignEach [c] env).map (·.2) = assign c env :: (assignEach [] env).map (·.2) := by intro _; rfl) :
    Tgt T (.Tuple [a, b, c] kk pos) (ix ++ (jx ++ kx)) (.tuple [d1, d2, d3]) S S3 := by
  intro X m G H σ v Q sm en hd q
  refine PGa.of (pg_tup (n := 3) m.calm (pgs_cons (pga X a) (pgs_cons (pga X b) (pgs_cons (pga X c) pgs_nil (hs3 _)) (hs2 _)) (hs1 _)) (hn _) (hst _)) ?_
  cases hd with
  | tup hs ha =>
    cases ha with
    | cons r1 ha =>
      obtain ⟨v2, v3, rfl, r2, r3⟩ := dpAll2 ha
      refine ⟨_, _, rfl, same_tup sm hs, rfl, _, [v2, v3], rfl, ?_⟩
      refine h1 X m G H σ _ _ sm en r1 fun σ1 en1 ow1 k1 l1 => ⟨v2, [v3], rfl, ?_⟩
      refine h2 X m G H σ1 v2 _ sm en1 r2 fun σ2 en2 ow2 k2 l2 => ⟨v3, [], rfl, ?_⟩
      refine h3 X m G H σ2 v3 _ sm en2 r3 fun σ3 en3 ow3 k3 l3 => ⟨rfl, ?_⟩
      refine q σ3 en3 (fun H0 ow => ow3 H0 (ow2 H0 (ow1 H0 ow))) (fun i hi => ?_) (l3.trans (l2.trans l1))
      rw [List.mem_append, List.mem_append, not_or, not_or] at hi
      rw [k3 i hi.2.2, k2 i hi.2.1, k1 i hi.1]
variable {A : AE}
/-- for target in iter -/
theorem ws_forG {iter : Expr} {body : List Stmt} {xs : List PyData} {ix : List Nat} (I : Nat → List Slot → Prop) (hi : EvI T S tg iter xs) (h0 : I 0 S)
    (turn : ∀ (n : Nat) (d : PyData) (S : List Slot), xs[n]? = some d → I n S → ∃ S', Tgt T tg ix d S S' ∧ Wp T body { A with nx := I (n + 1), ct := I (n + 1), bk := A.nx } S') (hend : ∀ S, I xs.length S → A.nx S)
    (hfs : ∀ (env : Env) (v : Value), foldedSetIterable iter env v = pure v := by intro _ _; rfl) : Ws T (.For tg iter body [] pos) A S := by
  intro X m Gb G0 H0 σ H ⟨G, hb, e0, en, ow⟩
  refine PSa.of (ps_for m.pass m.calm (pia X _ iter) (pga X tg) (pssa X body) (hfs X.env)) ?_
  refine hi X m G H σ _ e0.sub en fun J G1 H1 e1 jt => ?_
  refine ⟨fun n mm σ H => mm = xs.length - n ∧ n ≤ xs.length ∧ ∃ S, I n S ∧ StOk X.K G1 G0 H0 σ H S, ⟨xs.length, by simp, Nat.zero_le _, S, h0, G1, fun _ _ h => h, e0.trans e1, en.ext e1, ow⟩, ?_⟩
  rintro n mm σ H ⟨rfl, hn, S, hI, G2, hb2, e2, en2, ow2⟩
  by_cases hlt : n < xs.length
  · refine .inr ⟨jt.go n G2 H hb2 e2.sub hlt, fun σ' H' => ∃ S', I (n + 1) S' ∧ StOk X.K G1 G0 H0 σ' H' S', fun σ' H' ⟨S', h3, h4⟩ => ⟨xs.length - (n + 1), by omega, rfl, hlt, S', h3, h4⟩, fun v H' hy => ?_⟩
    obtain ⟨d, hd⟩ : ∃ d, xs[n]? = some d := ⟨xs[n], List.getElem?_eq_getElem hlt⟩
    obtain ⟨G3, e3, r3⟩ := jt.yld n G2 H v H' d hb2 e2.sub hy hd
    obtain ⟨S', hs, hw⟩ := turn n d S hd hI
    refine hs X m G3 H' σ v _ e3.sub (en2.ext e3) r3 fun σ' en' ow' _ _ => ?_
    have z := hw X m G1 G0 H0 σ' H' ⟨G3, hb2.trans e3.gg, e2.trans e3, en', ow' H0 ow2⟩
    exact z.le ⟨fun _ _ z => z, fun _ _ z => z, fun σ' H' ⟨S2, h4, G4, h5, h6⟩ => ⟨S2, h4, G4, (hb.trans e1.gg).trans h5, h6⟩, fun _ _ z => z⟩
  · have en' : n = xs.length := by omega
    subst en'
    exact .inl ⟨jt.stop _ G2 H hb2 e2.sub (Nat.le_refl _), S, hend S hI, G2, (hb.trans e1.gg).trans hb2, e2, en2, ow2⟩

/-! ### comprehensions: any target, one test or none -/
def wipeS (S : List Slot) : List Nat → List Slot
  | [] => S
  | v :: vs => (wipeS S vs).set v .no
theorem EnvOk.wipe {K : PySem.W.Frag} {G H : Hp} {σ : St} (en : EnvOk K G H σ S) : ∀ vs : List Nat, EnvOk K G H (L2.wipe σ vs) (wipeS S vs)
  | [] => en
  | v :: vs => (EnvOk.wipe en vs).setNo
theorem wipe_get {σ : St} : ∀ {vs : List Nat} {i : Nat}, i ∉ vs → (L2.wipe σ vs)[i]? = σ[i]?
  | [], _, _ => rfl
  | v :: vs, i, h => by
    rw [List.mem_cons, not_or] at h
    unfold L2.wipe
    rw [List.getElem?_set_ne (fun e => h.1 e.symm), wipe_get h.2]
theorem wipe_in {σ : St} : ∀ {vs : List Nat} {i : Nat}, i ∈ vs → i < σ.length → (L2.wipe σ vs)[i]? = some none
  | v :: vs, i, h, hl => by
    unfold L2.wipe
    by_cases e : v = i
    · subst e
      rw [List.getElem?_set_self (by rw [L2.wipe_length]; exact hl)]
    · rw [List.getElem?_set_ne e]
      rcases List.mem_cons.mp h with z | z
      · exact absurd z.symm e
      · exact wipe_in z hl
theorem wipe_same {σ σ' : St} {vs : List Nat} (hl : σ'.length = σ.length) (h : ∀ i, i ∉ vs → σ'[i]? = σ[i]?) : L2.wipe σ' vs = L2.wipe σ vs := by
  apply List.ext_getElem?
  intro i
  by_cases hi : i ∈ vs
  · by_cases hlt : i < σ.length
    · rw [wipe_in hi (by omega), wipe_in hi hlt]
    · rw [List.getElem?_eq_none (by rw [L2.wipe_length]; omega), List.getElem?_eq_none (by rw [L2.wipe_length]; omega)]
  · rw [wipe_get hi, wipe_get hi, h i hi]
def blkG (X : Cx) (scope : Scope) (tg : Expr) : TG := fun v σ H Q => ∀ (s : Shared) (H0 : Hp) (C : Addr) (cl : List (Str × Addr)) (fp : List Addr), PGa (X.blk s H0 scope (compEnvC scope cl C X.env) fp) tg v σ H Q
/-- the tests of a block: none, or one -/
def EvTs (T : Tx) (S : List Slot) : List Expr → Bool → Prop
  | [], b => b = true
  | [c], b => EvT T S c b
  | _, _ => False
def blkTs (X : Cx) (scope : Scope) : List Expr → TT
  | [] => tYes
  | c :: _ => blkT X scope c
theorem blk_ts {X : Cx} {scope : Scope} {ifs : List Expr} (h : ifs.length ≤ 1) (s : Shared) (H : Hp) (C : Addr) (cl : List (Str × Addr)) (fp : List Addr) : PTs (X.blk s H scope (compEnvC scope cl C X.env) fp) ifs (blkTs X scope ifs) := by
  match ifs, h with
  | [], _ => exact pts_nil
  | [c], _ => exact pts_one fun pins s' σ H' Q I q => q s H C cl fp pins s' I
/-- what an item of the walk gives: nothing, or a datum -/
def Item (T : Tx) (S : List Slot) (tg elt : Expr) (ifs : List Expr) (vs : List Nat) (d : PyData) (y : Option PyData) : Prop :=
  ∃ (ix : List Nat) (S' : List Slot) (k : Bool), (∀ i ∈ ix, i ∈ vs) ∧ Tgt T tg ix d (wipeS S vs) S' ∧ EvTs T S' ifs k ∧ (k = true → ∃ v, y = some v ∧ Ev T S' elt v) ∧ (k = false → y = none)
theorem lc_readsG {X : Cx} {G H : Hp} {σ : St} {Q : VK} {scope : Scope} {kd : List Kd} {gl : List Str} {vs : List Nat} {elt iter : Expr} {ifs : List Expr} {xs : List PyData} {ys : List (Option PyData)} (m : Mt X T) (sm : Same G H) (en : EnvOk X.K G H σ S)
    (hi : EvI T S tg iter xs) (hT : (T.blk scope kd gl).ok) (hif : ifs.length ≤ 1) (hl : ys.length = xs.length) (he : ∀ (k : Nat) (d : PyData) (y : Option PyData), xs[k]? = some d → ys[k]? = some y → Item (T.blk scope kd gl) S tg elt ifs vs d y) (hz : ys.length ≤ sizeLine)
    (q : ∀ p us G' H', Ext G H G' H' → H' p = none → DqAll X.K G' us (ys.filterMap id) → Q (.ref p) (upd H' p (.lst us))) : tLc (PIa X tg iter) (blkG X scope tg) (blkTs X scope ifs) (blkE X scope elt) vs σ H Q := by
  refine hi X m G H σ _ sm en fun J G1 H1 e1 jt D hD => ?_
  have gD : G1 D = none := e1.sub.free hD
  refine ⟨fun k mm Hk => mm = xs.length - k ∧ k ≤ xs.length ∧ ∃ Gk us, Ext G1 H1 Gk Hk ∧ Gk D = none ∧ Hk D = some (.lst us) ∧ DqAll X.K Gk us ((ys.take k).filterMap id),
    ⟨xs.length, by simp, Nat.zero_le _, G1, [], Ext.newM e1.sub hD, gD, upd_same, .nil⟩, ?_⟩
  rintro k mm Hk ⟨rfl, hk, Gk, us, ek, gk, hkD, hd⟩
  by_cases hlt : k < xs.length
  · refine .inr ⟨jt.go k Gk Hk ek.gg ek.sub hlt, fun H' => k + 1 ≤ xs.length ∧ ∃ Gk us, Ext G1 H1 Gk H' ∧ Gk D = none ∧ H' D = some (.lst us) ∧ DqAll X.K Gk us ((ys.take (k + 1)).filterMap id), fun H' h' => ⟨xs.length - (k + 1), by omega, rfl, h'⟩, fun x H' hy => ?_⟩
    obtain ⟨d, hxd⟩ : ∃ d, xs[k]? = some d := ⟨xs[k], List.getElem?_eq_getElem hlt⟩
    obtain ⟨y, hyd⟩ : ∃ y, ys[k]? = some y := ⟨ys[k]'(by omega), List.getElem?_eq_getElem _⟩
    obtain ⟨G2, e2, r2⟩ := jt.yld k Gk Hk x H' d ek.gg ek.sub hy hxd
    have et : Ext G H G2 H' := (e1.trans ek).trans e2
    obtain ⟨ix, S', kb, hix, htg, hts, hyes, hno⟩ := he k d y hxd hyd
    intro s0 H0 C cl fp
    refine htg _ (m.blk hT s0 H0 C cl fp) G2 H' _ x _ e2.sub ((en.ext et).wipe vs) r2 fun σ2 en2 _ same2 len2 => ⟨?_, ?_⟩
    · refine (wipe_same (vs := vs) len2 fun i hi' => same2 i fun z => hi' (hix i z)).trans ?_
      refine wipe_same (L2.wipe_length σ vs) fun i hi' => wipe_get hi'
    · have tk : ys.take (k + 1) = ys.take k ++ [y] := by rw [List.take_add_one, hyd]; rfl
      -- behind the tests
      have body : ∀ (G3 H3 : Hp), Ext G2 H' G3 H3 → if kb = true then blkE X scope elt σ2 H3 fun yv H4 => ∃ acc, H4 D = some (.lst acc) ∧ acc.length < sizeLine ∧ (k + 1 ≤ xs.length ∧ ∃ Gk us, Ext G1 H1 Gk (upd H4 D (.lst (acc ++ [yv]))) ∧ Gk D = none ∧ (upd H4 D (.lst (acc ++ [yv]))) D = some (.lst us) ∧ DqAll X.K Gk us ((ys.take (k + 1)).filterMap id)) else (k + 1 ≤ xs.length ∧ ∃ Gk us, Ext G1 H1 Gk H3 ∧ Gk D = none ∧ H3 D = some (.lst us) ∧ DqAll X.K Gk us ((ys.take (k + 1)).filterMap id)) := fun G3 H3 e3 => by
        cases kb with
        | false =>
          refine iteF ⟨hlt, G3, us, (ek.trans e2).trans e3, (e2.trans e3).away D _ hkD gk, (e2.trans e3).hh _ _ hkD, ?_⟩
          rw [tk, hno rfl, List.filterMap_append]
          show DqAll X.K G3 us (List.filterMap id (ys.take k) ++ [])
          rw [List.append_nil]
          exact dpAll_mono (e2.trans e3).gg _ _ hd
        | true =>
          obtain ⟨v, rfl, hev⟩ := hyes rfl
          refine iteT ?_
          intro s1 H1' C1 cl1 fp1
          refine hev _ (m.blk hT s1 H1' C1 cl1 fp1) G3 H3 _ _ e3.sub (en2.ext e3) fun yv G4 H4 e4 r4 => ?_
          have h4D : H4 D = some (.lst us) := ((e2.trans e3).trans e4).hh _ _ hkD
          have g4D : G4 D = none := ((e2.trans e3).trans e4).away D _ hkD gk
          have hvl : us.length ≤ k := by
            rw [dpAll_len hd]
            exact Nat.le_trans (List.length_filterMap_le ..) (by rw [List.length_take]; omega)
          refine ⟨us, h4D, by omega, hlt, G4, us ++ [yv], ?_, g4D, upd_same, ?_⟩
          · have z := ((ek.trans e2).trans e3).trans e4
            refine ⟨z.gg, fun b o hb => ?_, fun b o hb => ?_, z.away⟩
            · rw [upd_ne (ne_of_none hb hD)]; exact z.hh b o hb
            · rw [upd_ne (ne_of_none hb g4D)]; exact z.sub b o hb
          · rw [tk, List.filterMap_append]
            exact dpAll_snoc (dpAll_mono ((e2.trans e3).trans e4).gg _ _ hd) r4
      match ifs, hif, hts with
      | [], _, hts =>
        have hts : kb = true := hts
        subst hts
        exact body G2 H' (.refl e2.sub)
      | [c], _, hts =>
        have hts : EvT _ _ c kb := hts
        intro s1 H1' C1 cl1 fp1
        exact hts _ (m.blk hT s1 H1' C1 cl1 fp1) G2 H' _ _ e2.sub en2 fun G3 H3 e3 => body G3 H3 e3
  · have ek' : k = xs.length := by omega
    subst ek'
    refine .inl ⟨jt.stop _ Gk Hk ek.gg ek.sub (Nat.le_refl _), ?_⟩
    rw [← hl, List.take_length] at hd
    have z := e1.trans ek
    have w := q D us Gk (fun b => if b = D then none else Hk b) ⟨z.gg, fun b o hb => ?_, fun b o hb => ?_, z.away⟩ (if_pos rfl) hd
    · rw [upd_cut hkD] at w
      exact w
    · show (if b = D then none else Hk b) = some o
      rw [if_neg (ne_of_none (e1.hh b o hb) hD)]; exact z.hh b o hb
    · show (if b = D then none else Hk b) = some o
      rw [if_neg (ne_of_none hb gk)]; exact z.sub b o hb
section
variable {iter elt : Expr} {ifs : List Expr} {scope : Scope} {own : List (Str × Nat)} {kd : List Kd} {gl : List Str} {xs : List PyData} {ys : List (Option PyData)}
theorem evl_lcG (hi : EvI T S tg iter xs) (hb : blkC T.N T.sc scope own = true) (hT : (T.blk scope kd gl).ok) (hif : ifs.length ≤ 1) (hl : ys.length = xs.length)
    (he : ∀ (k : Nat) (d : PyData) (y : Option PyData), xs[k]? = some d → ys[k]? = some y → Item (T.blk scope kd gl) S tg elt ifs (own.map (·.2)) d y) (hz : ys.length ≤ sizeLine) (hfs : ∀ (env : Env) (v : Value), foldedSetIterable iter env v = pure v := by intro _ _; rfl) :
    EvL T S (.ListComp elt [⟨tg, iter, ifs, 0⟩] scope pos) (ys.filterMap id) := by
  intro X m G H σ Q sm en q
  refine PEa.of (pe_lc (own := own) m.calm (by rw [m.N]; exact m.nd) (pia X _ iter) (by rw [m.N, m.sc]; exact blkOk_by hb) (g := blkG X scope tg) (fun s0 H0 C cl fp pins s σ H v u Q I r h => h s0 H0 C cl fp pins s u I r) (fun s H C cl fp => blk_ts hif s H C cl fp) (te := blkE X scope elt) (fun s0 H0 C cl fp pins s σ H Q I h => h s0 H0 C cl fp pins s I) (hfs X.env)) ?_
  exact lc_readsG m sm en hi hT hif hl he hz q
/-- name = [..] on one line -/
theorem ws_setLcG {y : Str} {py pos' : Pos} {S' : List Slot} (hi : EvI T S tg iter xs) (hb : blkC T.N T.sc scope own = true) (hT : (T.blk scope kd gl).ok) (hif : ifs.length ≤ 1) (hl : ys.length = xs.length)
    (he : ∀ (k : Nat) (d : PyData) (y : Option PyData), xs[k]? = some d → ys[k]? = some y → Item (T.blk scope kd gl) S tg elt ifs (own.map (·.2)) d y) (hz : ys.length ≤ sizeLine) (hy : SetAt T.N T.kd S y .loc (.val (.list (ys.filterMap id))) S') (ha : A.nx S')
    (hkind : T.sc.kind = .function := by rfl) (hline : (py.line == pos.line) = true := by rfl) (hown : (scope.names.any fun (n, k) => n == y && (k == .local || k == .cell)) = false := by decide +kernel)
    (hfs : ∀ (env : Env) (v : Value), foldedSetIterable iter env v = pure v := by intro _ _; rfl) :
    Ws T (.Assign [.Name y py] (.ListComp elt [⟨tg, iter, ifs, 0⟩] scope pos) pos') A S := by
  intro X m Gb G0 H0 σ H ⟨G, hbb, e0, en, ow⟩
  obtain ⟨j, h1, h2, h3⟩ := hy.ix
  subst h3
  have hloc : X.env.scope.names.lookup y = some .local := of_decide_eq_true (m.kd h1 h2)
  have hsw : swapsWith (.ListComp elt [⟨tg, iter, ifs, 0⟩] scope pos) (some (.Name y py)) pos'.line X.env = pure true := by
    show (pure (X.env.blockKind == .function && X.env.kindOf y == some .local && py.line == pos.line && !(scope.names.any fun (n, k) => n == y && (k == .local || k == .cell))) : Sem Bool) = pure true
    have e1 : X.env.kindOf y = some .local := hloc
    have e2 : X.env.blockKind = .function := by
      unfold Env.blockKind
      rw [m.sc, hkind]
      rfl
    rw [e1, e2, hline, hown]
    rfl
  refine PSa.of (ps_setLc (own := own) m.calm (by rw [m.N]; exact m.nd) (by rw [m.N]; exact h1) hloc hsw (pia X _ iter) (by rw [m.N, m.sc]; exact blkOk_by hb) (g := blkG X scope tg) (fun s0 H0 C cl fp pins s σ H v u Q I r h => h s0 H0 C cl fp pins s u I r) (fun s H C cl fp => blk_ts hif s H C cl fp) (te := blkE X scope elt) (fun s0 H0 C cl fp pins s σ H Q I h => h s0 H0 C cl fp pins s I) (hfs X.env)) ?_
  refine lc_readsG m e0.sub en hi hT hif hl he hz fun q vs G1 H1 e1 hq hd => ?_
  have e2 := e1.trans (Ext.new (o := .lst vs) e1.sub hq)
  exact ⟨_, ha, _, hbb.trans e2.gg, e0.trans e2, (en.ext e2).setVal (.lst (SqL.of upd_same) (dpAll_mono (same_upd (e1.sub.free hq)) _ _ hd)), ow.val en.len⟩
end

/-! ### enumerate, zip -/
def enumD (xs : List PyData) : List PyData := (List.range xs.length).map fun (i : Nat) => .tuple [.int (i : Int), xs.getD i .none]
theorem enumD_len (xs : List PyData) : (enumD xs).length = xs.length := by unfold enumD; simp
theorem enumD_get {xs : List PyData} {i : Nat} {d : PyData} (h : (enumD xs)[i]? = some d) : ∃ x, xs[i]? = some x ∧ d = .tuple [.int (i : Int), x] := by
  have hi : i < xs.length := by
    have := (List.getElem?_eq_some_iff.mp h).1
    rw [enumD_len] at this
    exact this
  unfold enumD at h
  rw [List.getElem?_map, List.getElem?_range hi] at h
  refine ⟨xs[i], List.getElem?_eq_getElem hi, ?_⟩
  have : d = .tuple [.int (i : Int), xs.getD i .none] := (Option.some.inj h).symm
  rw [List.getD_eq_getElem?_getD, List.getElem?_eq_getElem hi] at this
  exact this
theorem itOk_enum {K : PySem.W.Frag} {G : Hp} {p : Addr} {vs : List V} {xs : List PyData} (h : SqL K G p vs) (hd : DqAll K G vs xs) : ItOk K (Ite K p) G (enumD xs) := by
  have hl := dpAll_len hd
  refine ⟨fun i G1 H s1 s2 hi => ?_, fun i G1 H x H' d s1 s2 hy hx => ?_, fun i G1 H s1 s2 hi => ⟨vs, (s1.trans s2).seq h, by rw [enumD_len] at hi; omega⟩⟩
  · rw [enumD_len] at hi
    exact ⟨vs, vs[i]'(by omega), (s1.trans s2).seq h, List.getElem?_eq_getElem _⟩
  · obtain ⟨Tp, y, rfl, hT, rfl, e2⟩ := hy
    obtain ⟨z, hz, rfl⟩ := enumD_get hx
    obtain ⟨v, f1, f2⟩ := dpAll_get hd hz
    have e3 := e2 vs ((s1.trans s2).seq h)
    rw [f1] at e3
    have e4 : v = y := Option.some.inj e3
    subst e4
    have ex := Ext.new (o := .tup [.int (i : Nat), v]) s2 hT
    exact ⟨_, ex, .tup (SqT.of upd_same) (.cons (.int _) (.cons (dp_mono (s1.trans ex.gg) _ _ f2) .nil))⟩
theorem evi_enum {xs : List PyData} {p tpos : Pos} {elts : List Expr} {kk : Nat} (hg : In ("enumerate" : Str) T.gl) (ha : Ev T S a (.list xs)) (hs : NoStar a := by intro _ _; rfl) : EvI T S (.Tuple elts kk tpos) (.Call (.Name "enumerate" p) [a] [] pos) (enumD xs) := by
  intro X m G H σ R sm en q
  refine PIa.of (pi_enum (m.gl hg.mem).1 (m.blt _ (by decide +kernel)) (paa X [a]) (by rw [hs]; rfl)) ?_
  refine (eva_cons ha eva_nil hs).run X m G H σ _ sm en fun vs G1 H1 e1 r1 => ?_
  obtain ⟨v, rfl, h3⟩ := dpAll1 r1
  cases h3 with
  | lst h4 h5 => exact ⟨_, _, rfl, e1.sub.seq h4, q _ G1 H1 e1 (itOk_enum h4 h5)⟩
def zipD (xs ys : List PyData) : List PyData := List.zipWith (fun x y => .tuple [x, y]) xs ys
theorem zipD_get {xs ys : List PyData} {i : Nat} {d : PyData} (h : (zipD xs ys)[i]? = some d) : ∃ x y, xs[i]? = some x ∧ ys[i]? = some y ∧ d = .tuple [x, y] := by
  unfold zipD at h
  rw [List.getElem?_zipWith] at h
  cases e1 : xs[i]? with
  | none => rw [e1] at h; cases h
  | some x =>
    cases e2 : ys[i]? with
    | none => rw [e1, e2] at h; cases h
    | some y =>
      rw [e1, e2] at h
      exact ⟨x, y, rfl, rfl, (Option.some.inj h).symm⟩
theorem itOk_zip {K : PySem.W.Frag} {G : Hp} {p q : Addr} {vs us : List V} {xs ys : List PyData} (h : SqL K G p vs) (hd : DqAll K G vs xs) (h' : SqL K G q us) (hd' : DqAll K G us ys) : ItOk K (Itz K p q) G (zipD xs ys) := by
  have hl := dpAll_len hd
  have hl' := dpAll_len hd'
  have hlz : (zipD xs ys).length = min xs.length ys.length := by unfold zipD; simp
  refine ⟨fun i G1 H s1 s2 hi => ?_, fun i G1 H x H' d s1 s2 hy hx => ?_, fun i G1 H s1 s2 hi => ⟨vs, us, (s1.trans s2).seq h, (s1.trans s2).seq h', by rw [hlz] at hi; omega⟩⟩
  · rw [hlz] at hi
    exact ⟨vs, us, vs[i]'(by omega), us[i]'(by omega), (s1.trans s2).seq h, (s1.trans s2).seq h', List.getElem?_eq_getElem _, List.getElem?_eq_getElem _⟩
  · obtain ⟨Tp, y, w, rfl, hT, rfl, e2, e2'⟩ := hy
    obtain ⟨z, z', hz, hz', rfl⟩ := zipD_get hx
    obtain ⟨v, f1, f2⟩ := dpAll_get hd hz
    obtain ⟨v', f1', f2'⟩ := dpAll_get hd' hz'
    have e3 := e2 vs ((s1.trans s2).seq h)
    rw [f1] at e3
    have e4 : v = y := Option.some.inj e3
    subst e4
    have e3' := e2' us ((s1.trans s2).seq h')
    rw [f1'] at e3'
    have e4' : v' = w := Option.some.inj e3'
    subst e4'
    have ex := Ext.new (o := .tup [v, v']) s2 hT
    exact ⟨_, ex, .tup (SqT.of upd_same) (.cons (dp_mono (s1.trans ex.gg) _ _ f2) (.cons (dp_mono (s1.trans ex.gg) _ _ f2') .nil))⟩
theorem evi_zip {xs ys : List PyData} {p tpos : Pos} {elts : List Expr} {kk : Nat} (hg : In ("zip" : Str) T.gl) (ha : Ev T S a (.list xs)) (hb : Ev T S b (.list ys)) (hs : NoStar a := by intro _ _; rfl) (hs' : NoStar b := by intro _ _; rfl) : EvI T S (.Tuple elts kk tpos) (.Call (.Name "zip" p) [a, b] [] pos) (zipD xs ys) := by
  intro X m G H σ R sm en q
  have hA := eva_cons ha (eva_cons hb eva_nil hs') hs
  refine PIa.of (pi_zip (m.gl hg.mem).1 (m.blt _ (by decide +kernel)) (paa X [a, b]) (hs _ _) (star_tail hA hs _ _)) ?_
  refine hA.run X m G H σ _ sm en fun vs G1 H1 e1 r1 => ?_
  obtain ⟨v, u, rfl, h3, h4⟩ := dpAll2 r1
  cases h3 with
  | lst h5 h6 =>
    cases h4 with
    | lst h7 h8 => exact ⟨_, _, _, _, rfl, e1.sub.seq h5, e1.sub.seq h7, q _ G1 H1 e1 (itOk_zip h5 h6 h7 h8)⟩

/-! ### slices, copies, [x] * n -/
def EvP (T : Tx) (S : List Slot) : Option Expr → Option Int → Prop
  | none, o => o = none
  | some e, o => ∃ i, o = some i ∧ Ev T S e (.int i)
def cutD (xs : List PyData) (lo hi : Option Int) : List PyData := (xs.drop (HT.sIx xs.length 0 lo)).take (HT.sIx xs.length xs.length hi - HT.sIx xs.length 0 lo)
theorem dpAll_drop {K : PySem.W.Frag} {H : Hp} : ∀ {vs : List V} {ds : List PyData} (n : Nat), DqAll K H vs ds → DqAll K H (vs.drop n) (ds.drop n)
  | _, _, 0, h => h
  | _, _, _ + 1, .nil => .nil
  | _, _, n + 1, .cons _ t => dpAll_drop n t
theorem dpAll_take {K : PySem.W.Frag} {H : Hp} : ∀ {vs : List V} {ds : List PyData} (n : Nat), DqAll K H vs ds → DqAll K H (vs.take n) (ds.take n)
  | _, _, 0, _ => .nil
  | _, _, _ + 1, .nil => .nil
  | _, _, n + 1, .cons h t => .cons h (dpAll_take n t)
def POa (X : Cx) (o : Option Expr) : TO := fun σ H Q => ∀ (pins : List (Addr × Obj)) (s : Shared), Inv X pins σ H s → wpAny (model X.prog X.w) X.A (evalPart o X.env) (fun v s' => ∃ i H', Inv X pins σ H' s' ∧ IsPart v i ∧ Q i H') X.xe s
theorem boot_list : bootBuiltins "list" = some (.type "list") := by decide +kernel
theorem evl_listOf {xs : List PyData} {d1 : PyData} {p : Pos} (hg : In ("list" : Str) T.gl) (ha : Ev T S a d1) (h : d1 = .list xs ∨ d1 = .tuple xs) (hs : NoStar a := by intro _ _; rfl) : EvL T S (.Call (.Name "list" p) [a] [] pos) xs := by
  intro X m G H σ Q sm en q
  obtain ⟨g1, g2, g3⟩ := m.gl hg.mem
  have hA := eva_cons ha eva_nil hs
  refine PEa.of (pe_callTy call_list_of g1 (m.blt _ (by decide +kernel)) boot_list (paa X [a]) g3 g2 (hs _ _) (star_tail hA hs _ _)) ?_
  refine hA.run X m G H σ _ sm en fun vs G1 H1 e1 r1 => ?_
  obtain ⟨v, rfl, h3⟩ := dpAll1 r1
  rcases h with rfl | rfl
  · cases h3 with
    | lst h4 h5 => exact ⟨_, _, rfl, .inl (e1.sub.seq h4), fun l hl => q l _ G1 H1 e1 hl h5⟩
  · cases h3 with
    | tup h4 h5 => exact ⟨_, _, rfl, .inr (same_tup e1.sub h4), fun l hl => q l _ G1 H1 e1 hl h5⟩
/-! ### min, max of a list; sorted ints; x if c else y -/
theorem ev_minL {ns : List Int} {xs : List PyData} {m : Int} {p : Pos} (hg : In ("min" : Str) T.gl) (ha : Ev T S a (.list xs)) (hb : xs = ns.map PyData.int) (hm : m ∈ ns) (hle : ∀ y, y ∈ ns → m ≤ y) (hs : NoStar a := by intro _ _; rfl) : Ev T S (.Call (.Name "min" p) [a] [] pos) (.int m) := by
  subst hb
  refine ev_blt (ds := [.list (ns.map PyData.int)]) hg (by decide +kernel) boot_min (fun X m => cr_min m.calm) (eva_cons ha eva_nil hs) (fun X G H vs Q sm hd q => ?_) hs
  obtain ⟨v, rfl, h1⟩ := dpAll1 hd
  cases h1 with
  | lst h2 h3 =>
    rw [ints_of ns h3] at h2
    refine ⟨_, ns, rfl, sm.seq h2, List.length_pos_of_mem hm, fun m' h4 h5 => ?_⟩
    have : m' = m := Int.le_antisymm (h5 m hm) (hle m' h4)
    subst this
    exact q _ G H (.refl sm) (.int _)
theorem ev_maxL {ns : List Int} {xs : List PyData} {m : Int} {p : Pos} (hg : In ("max" : Str) T.gl) (ha : Ev T S a (.list xs)) (hb : xs = ns.map PyData.int) (hm : m ∈ ns) (hle : ∀ y, y ∈ ns → y ≤ m) (hs : NoStar a := by intro _ _; rfl) : Ev T S (.Call (.Name "max" p) [a] [] pos) (.int m) := by
  subst hb
  refine ev_blt (ds := [.list (ns.map PyData.int)]) hg (by decide +kernel) boot_max (fun X m => cr_max m.calm) (eva_cons ha eva_nil hs) (fun X G H vs Q sm hd q => ?_) hs
  obtain ⟨v, rfl, h1⟩ := dpAll1 hd
  cases h1 with
  | lst h2 h3 =>
    rw [ints_of ns h3] at h2
    refine ⟨_, ns, rfl, sm.seq h2, List.length_pos_of_mem hm, fun m' h4 h5 => ?_⟩
    have : m' = m := Int.le_antisymm (hle m' h4) (h5 m hm)
    subst this
    exact q _ G H (.refl sm) (.int _)
theorem ev_ifI {k : Bool} {i j : Int} (hc : EvT T S c k) (ha : k = true → Ev T S a (.int i)) (hb : k = false → Ev T S b (.int j)) : Ev T S (.IfExp c a b pos) (.int (if k = true then i else j)) := by
  refine ev_if hc (fun h => ?_) (fun h => ?_)
  · subst h
    exact ha rfl
  · subst h
    exact hb rfl
/-- sorted(list of ints) of any length -/
def rSortedAny (K : PySem.W.Frag) : List V → Hp → VK → Prop := fun vs H Q => ∃ (a : Addr) (ns : List Int), vs = [V.ref a] ∧ SqL K H a (ns.map V.int) ∧
  ∀ (ns' : List Int) (p : Addr), ns'.Perm ns → ns'.Pairwise (· ≤ ·) → H p = none → Q (.ref p) (upd H p (.lst (ns'.map V.int)))
theorem cr_sortedAny {X : Cx} : CallR X (.builtin "sorted") (rSortedAny X.K) := by
  intro pins s σ H vs us Q I r h
  obtain ⟨a, ns, rfl, hs, q⟩ := h
  obtain ⟨its, rv, hl, hz⟩ := I.list hs
  rw [Vals.ref1 r]
  have hi := rv.ints
  have hlen : its.length ≤ sizeLine := by rw [← rv.length]; exact hz
  refine PyProof.Rows.sorted_intsAny hl.isList hi hlen fun out ns' h1 h2 h3 => ?_
  obtain ⟨ep, he'⟩ := PyProof.Rows.sortedAll_at s.heap its out
  have hlen : (ns'.map V.int).length ≤ sizeLine := by rw [List.length_map, h2.length_eq]; rw [List.length_map] at hz; exact hz
  exact ⟨.ref _, upd H (s.heap.objs.size + 1) (.lst (ns'.map V.int)), I.laid (t' := s.toks) (fun _ _ => PyProof.Rows.sortedAll_old) (Nat.le_succ _) ⟨hlen, out.toList, ep, vals_of_ints h1, he'⟩, rfl, q ns' _ h2 h3 (I.hok.fresh (Nat.le_succ _))⟩
theorem boot_sorted : bootBuiltins "sorted" = some (.builtin "sorted") := by decide +kernel
theorem ev_sorted {ns ns' : List Int} {xs : List PyData} {p : Pos} (hg : In ("sorted" : Str) T.gl) (ha : Ev T S a (.list xs)) (hb : xs = ns.map PyData.int) (hu : ∀ ms : List Int, ms.Perm ns → ms.Pairwise (· ≤ ·) → ms = ns') (hs : NoStar a := by intro _ _; rfl) : Ev T S (.Call (.Name "sorted" p) [a] [] pos) (.list (ns'.map PyData.int)) := by
  subst hb
  refine ev_blt (ds := [.list (ns.map PyData.int)]) hg (by decide +kernel) boot_sorted (fun X m => cr_sortedAny) (eva_cons ha eva_nil hs) (fun X G H vs Q sm hd q => ?_) hs
  obtain ⟨v, rfl, h1⟩ := dpAll1 hd
  cases h1 with
  | lst h2 h3 =>
    rw [ints_of ns h3] at h2
    refine ⟨_, ns, rfl, sm.seq h2, fun ms pp h4 h5 h6 => ?_⟩
    rw [hu ms h4 h5]
    exact q _ _ _ (Ext.new (o := .lst (ns'.map V.int)) sm h6) (.lst (SqL.of upd_same) (dpAll_ints _))
end
theorem atI_nat {α : Type} {xs : List α} {i : Nat} {d : α} (h : xs[i]? = some d) : atI xs (i : Int) = some d := by
  have hi : i < xs.length := (List.getElem?_eq_some_iff.mp h).1
  unfold atI ixN
  rw [if_pos (by omega), if_pos (by omega)]
  exact h
end Dn

set_option Elab.async false
set_option linter.all false
set_option maxRecDepth 100000
set_option maxHeartbeats 2000000
namespace Dn
open PySem PySem.Spec PyProof.Rows L2
set_option autoImplicit false
/-- rows of ints by their order -/
def lexI : List Int → List Int → Bool
  | [], [] => false
  | [], _ :: _ => true
  | _ :: _, [] => false
  | x :: r, y :: t => decide (x < y) || (!decide (y < x) && lexI r t)
theorem lexI_item : ∀ r t : List Int, PyProof.Rows.lexLt PyProof.Rows.itemOrd (r.map Sum.inl) (t.map Sum.inl) = lexI r t
  | [], [] => rfl
  | [], _ :: _ => rfl
  | _ :: _, [] => rfl
  | x :: r, y :: t => by
    have ih := lexI_item r t
    show (decide (x < y) || (!decide (y < x) && PyProof.Rows.lexLt PyProof.Rows.itemOrd (r.map Sum.inl) (t.map Sum.inl))) = _
    rw [ih]
    rfl
theorem lexI_total : ∀ r t : List Int, lexI r t = false → lexI t r = false → r = t
  | [], [], _, _ => rfl
  | [], _ :: _, h, _ => by cases h
  | _ :: _, [], _, h => by cases h
  | x :: r, y :: t, h1, h2 => by
    unfold lexI at h1 h2
    simp only [Bool.or_eq_false_iff, decide_eq_false_iff_not, Bool.and_eq_false_iff, Bool.not_eq_false', decide_eq_true_eq] at h1 h2
    have e : x = y := by omega
    subst e
    have e2 := lexI_total r t (h1.2.resolve_left (by omega)) (h2.2.resolve_left (by omega))
    rw [e2]
abbrev tupD (r : List Int) : PyData := .tuple (r.map .int)
def noText : Nat → Bool := fun _ => false
theorem relV_int {n : Int} {u : Value} (h : RelV (.int n) u) : ∃ t, u = .int n t := h
theorem tupItems_ints : ∀ (r : List Int) (its : List Value) (i : Nat), Vals (r.map V.int) its → PyProof.Rows.tupItems noText i its = some (r.map Sum.inl)
  | [], _, _, h => by cases h; rfl
  | n :: r, _, i, h => by
    cases h with
    | cons h1 h2 =>
      obtain ⟨t, rfl⟩ := relV_int h1
      have ih := tupItems_ints r _ (i + 1) h2
      show (if noText i = true then none else (PyProof.Rows.tupItems noText (i + 1) _).map (Sum.inl n :: ·)) = _
      rw [ih]
      rfl
def rSortedT (K : PySem.W.Frag) : List V → Hp → VK → Prop := fun vs H Q => ∃ (a : Addr) (zs : List (Addr × List Int)), vs = [V.ref a] ∧ SqL K H a (zs.map fun z => V.ref z.1) ∧ (∀ z ∈ zs, z.2 ≠ [] ∧ SqT K H z.1 (z.2.map V.int)) ∧
  ∀ (zs' : List (Addr × List Int)) (p : Addr), zs'.Perm zs → (zs'.map (·.2)).Pairwise (fun a b => lexI b a = false) → H p = none → Q (.ref p) (upd H p (.lst (zs'.map fun z => V.ref z.1)))
def kAddr (x : Keyed) : Addr := match x.1 with
  | .ref a => a
  | _ => 0
theorem both_refs : ∀ (L : List Keyed), (∀ x ∈ L, ∃ p : Addr, x = (Value.ref p, Value.ref p)) → L = (L.map kAddr).map fun p => (Value.ref p, Value.ref p)
  | [], _ => rfl
  | x :: L, h => by
    obtain ⟨p, rfl⟩ := h x (List.mem_cons_self ..)
    have ih := both_refs L fun y hy => h y (List.mem_cons_of_mem _ hy)
    rw [List.map_cons, List.map_cons, ← ih]
    rfl
theorem vals_refs : ∀ (ps : List Addr), Vals (ps.map V.ref) (ps.map Value.ref)
  | [] => .nil
  | p :: r => .cons rfl (vals_refs r)
theorem vals_refs_eq : ∀ {ps : List Addr} {its : List Value}, Vals (ps.map V.ref) its → its = ps.map Value.ref
  | [], _, h => by cases h; rfl
  | p :: r, _, h => by
    cases h with
    | cons h1 h2 =>
      cases h1
      rw [vals_refs_eq h2]
      rfl
def lft (l : List (Int ⊕ List Nat)) : List Int := l.filterMap fun x => match x with
  | .inl i => some i
  | .inr _ => none
theorem lft_inl : ∀ r : List Int, lft (r.map Sum.inl) = r
  | [] => rfl
  | n :: r => by
    have := lft_inl r
    unfold lft at this ⊢
    rw [List.map_cons, List.filterMap_cons]
    simp only [this]
theorem cr_sortedT {X : Cx} : CallR X (.builtin "sorted") (rSortedT X.K) := by
  intro pins s σ H vs us Q I r h
  obtain ⟨a, zs, rfl, hs, hz, q⟩ := h
  obtain ⟨its, rv, hl, hsz⟩ := I.list hs
  rw [Vals.ref1 r]
  have e0 : (zs.map fun z => V.ref z.1) = (zs.map (·.1)).map V.ref := by rw [List.map_map]; rfl
  rw [e0] at rv
  have e1 := vals_refs_eq rv
  have hlen : its.length ≤ sizeLine := by rw [← rv.length, ← e0]; exact hsz
  have key : ∀ z ∈ zs, PyProof.Rows.G.tupKeyC s.heap noText (.ref z.1) = some (z.2.map Sum.inl) ∧ ∃ f, PyProof.Rows.TupOf s.heap noText (.ref z.1) f := fun z hzm => by
    obtain ⟨h1, h2⟩ := hz z hzm
    obtain ⟨its2, rv2, ⟨o, ho, hc, n, hd⟩, _⟩ := I.tuple h2
    have hi := tupItems_ints z.2 its2 0 rv2
    refine ⟨?_, ?_⟩
    · unfold PyProof.Rows.G.tupKeyC
      have e : PyProof.Rows.G.isTupObj s.heap (.ref z.1) = true := by simp [PyProof.Rows.G.isTupObj, ho, hc]
      rw [if_pos e]
      simp only [PyProof.Rows.tupKey, ho, hd]
      exact hi
    · cases hr : z.2 with
      | nil => exact absurd hr h1
      | cons n0 r0 =>
        rw [hr] at rv2
        cases rv2 with
        | cons q1 q2 =>
          obtain ⟨tk, rfl⟩ := relV_int q1
          exact ⟨_, z.1, o, _, n, rfl, ho, hc, hd, rfl, fun _ => ⟨_, _, rfl⟩, fun e => by cases e⟩
  have hts : ∃ fs, PyProof.Rows.TupsOf s.heap noText its fs := by
    rw [e1]
    clear q rv e1 hl hs hsz e0 hlen hz
    induction zs with
    | nil => exact ⟨[], .nil⟩
    | cons z zs ih =>
      obtain ⟨_, f, hf⟩ := key z (List.mem_cons_self ..)
      obtain ⟨fs, hfs⟩ := ih fun y hy => key y (List.mem_cons_of_mem _ hy)
      exact ⟨f :: fs, .cons hf hfs⟩
  obtain ⟨fs, hts⟩ := hts
  refine PyProof.Rows.G.sorted_tups (shape := noText) (vs := its) (fs := fs) hl.isList hts (fun v hv => ?_) hlen fun st' hp hso _ => ?_
  · rw [e1, List.map_map] at hv
    obtain ⟨z, hzm, rfl⟩ := List.mem_map.mp hv
    exact ⟨_, (key z hzm).1⟩
  · have hL : (arrOf st').toList.Perm (its.zip its) := by
      have e := Array.perm_iff_toList_perm.mp hp
      rw [pairsOf_toList] at e
      exact e
    have hr : ∀ x ∈ (arrOf st').toList, ∃ p : Addr, x = (Value.ref p, Value.ref p) ∧ ∃ z ∈ zs, z.1 = p := fun x hx => by
      have hx2 := hL.mem_iff.mp hx
      rw [e1] at hx2
      rw [List.zip_map, List.mem_map] at hx2
      obtain ⟨⟨p1, p2⟩, h3, rfl⟩ := hx2
      have h4 : p1 = p2 := by
        have := List.mem_iff_getElem.mp h3
        obtain ⟨i, hi, e⟩ := this
        rw [List.getElem_zip] at e
        injection e with e1 e2
        rw [← e1, ← e2]
      subst h4
      have h5 := (List.of_mem_zip h3).1
      obtain ⟨z, hz1, hz2⟩ := List.mem_map.mp h5
      exact ⟨p1, rfl, z, hz1, hz2⟩
    have hb := both_refs _ fun x hx => let ⟨p, h1, _⟩ := hr x hx; ⟨p, h1⟩
    generalize hps : (arrOf st').toList.map kAddr = ps at hb
    have hperm : ps.Perm (zs.map (·.1)) := by
      have h3 := hL.map kAddr
      rw [hps] at h3
      have e4 : (its.zip its).map kAddr = zs.map (·.1) := by
        rw [e1, List.zip_map, List.map_map]
        generalize zs.map (·.1) = qs
        clear hps hb hL hr
        induction qs with
        | nil => rfl
        | cons p r ih => rw [List.zip_cons_cons, List.map_cons, ih]; rfl
      rw [e4] at h3
      exact h3
    let row : Addr → List Int := fun p => lft ((PyProof.Rows.G.tupKeyC s.heap noText (.ref p)).getD [])
    have hrow : ∀ z ∈ zs, row z.1 = z.2 := fun z hz => by
      show lft ((PyProof.Rows.G.tupKeyC s.heap noText (.ref z.1)).getD []) = _
      rw [(key z hz).1]
      exact lft_inl _
    have hkey : ∀ p ∈ ps, PyProof.Rows.G.tupKeyC s.heap noText (.ref p) = some ((row p).map Sum.inl) := fun p hp => by
      obtain ⟨z, hz1, hz2⟩ := List.mem_map.mp (hperm.mem_iff.mp hp)
      rw [← hz2, hrow z hz1]
      exact (key z hz1).1
    have hzs : (ps.map fun p => (p, row p)).Perm zs := by
      have h3 := hperm.map fun p => (p, row p)
      rw [List.map_map] at h3
      have e4 : zs.map ((fun p => (p, row p)) ∘ (·.1)) = zs := by
        have : ∀ l : List (Addr × List Int), (∀ z ∈ l, row z.1 = z.2) → l.map ((fun p => (p, row p)) ∘ (·.1)) = l := by
          intro l
          induction l with
          | nil => intro _; rfl
          | cons z l ih =>
            intro h
            rw [List.map_cons, ih fun y hy => h y (List.mem_cons_of_mem _ hy)]
            have := h z (List.mem_cons_self ..)
            show (z.1, row z.1) :: l = z :: l
            rw [this]
        exact this zs hrow
      rw [e4] at h3
      exact h3
    have hout : ((arrOf st').map (·.2)).toList = ps.map Value.ref := by
      rw [Array.toList_map, hb, List.map_map]
      rfl
    have hsorted : ((ps.map fun p => (p, row p)).map (·.2)).Pairwise (fun a b => lexI b a = false) := by
      rw [List.map_map]
      rw [List.pairwise_iff_getElem]
      intro i j hi hj hij
      rw [List.length_map] at hi hj
      have hlen2 : ps.length = (pairsOf its).size := by
        rw [← hps, List.length_map, Array.length_toList]
        exact hp.size_eq
      have h3 := hso i j (by omega) (by omega)
      have hk : ∀ k (hk : k < ps.length), KK (PyProof.Rows.G.tupKindC s.heap noText) (arrOf st') k = (row (ps[k]'hk)).map Sum.inl := fun k hk => by
        have e5 : (arrOf st')[k]? = some (Value.ref (ps[k]'hk), Value.ref (ps[k]'hk)) := by
          rw [← Array.getElem?_toList, hb, List.getElem?_map, List.getElem?_eq_getElem hk]
          rfl
        unfold KK
        rw [e5]
        show (PyProof.Rows.G.tupKeyC s.heap noText (.ref (ps[k]'hk))).getD [] = _
        rw [hkey _ (List.getElem_mem _)]
        rfl
      rw [hk i hi, hk j hj] at h3
      have h4 : PyProof.Rows.lexLt PyProof.Rows.itemOrd ((row (ps[j]'hj)).map Sum.inl) ((row (ps[i]'hi)).map Sum.inl) = false := h3
      rw [lexI_item] at h4
      simp only [List.getElem_map, Function.comp]
      exact h4
    obtain ⟨ep, he'⟩ := PyProof.Rows.sortedAll_at s.heap its ((arrOf st').map (·.2))
    have hlen3 : ((ps.map fun p => (p, row p)).map fun z => V.ref z.1).length ≤ sizeLine := by
      rw [List.length_map, hzs.length_eq]
      rw [List.length_map] at hsz
      exact hsz
    have e6 : ((ps.map fun p => (p, row p)).map fun z => V.ref z.1) = ps.map V.ref := by rw [List.map_map]; rfl
    have hv : Vals ((ps.map fun p => (p, row p)).map fun z => V.ref z.1) ((arrOf st').map (·.2)).toList := by
      rw [hout, e6]
      exact vals_refs ps
    exact ⟨.ref _, upd H (s.heap.objs.size + 1) (.lst ((ps.map fun p => (p, row p)).map fun z => V.ref z.1)), I.laid (t' := s.toks) (fun _ _ => PyProof.Rows.sortedAll_old) (Nat.le_succ _) ⟨hlen3, ((arrOf st').map (·.2)).toList, ep, hv, he'⟩, rfl, q _ _ hzs hsorted (I.hok.fresh (Nat.le_succ _))⟩
section
variable {T : Tx} {S : List Slot} {a b c e : Expr} {d : PyData} {pos : Pos}
theorem tups_of {K : PySem.W.Frag} {G : Hp} : ∀ (rows : List (List Int)) {vs : List V}, DqAll K G vs (rows.map tupD) → ∃ zs : List (Addr × List Int), vs = zs.map (fun z => V.ref z.1) ∧ rows = zs.map (·.2) ∧ ∀ z ∈ zs, SqT K G z.1 (z.2.map V.int)
  | [], _, h => by cases h; exact ⟨[], rfl, rfl, fun _ h => nomatch h⟩
  | r :: rows, _, h => by
    cases h with
    | cons h1 h2 =>
      obtain ⟨zs, e1, e2, e3⟩ := tups_of rows h2
      cases h1 with
      | tup hs ha =>
        rename_i p us
        refine ⟨(p, r) :: zs, by rw [e1]; rfl, by rw [e2]; rfl, fun z hz => ?_⟩
        rcases List.mem_cons.mp hz with rfl | hz
        · rw [ints_of r ha] at hs; exact hs
        · exact e3 z hz
theorem dpAll_tups {K : PySem.W.Frag} {G : Hp} : ∀ (zs : List (Addr × List Int)), (∀ z ∈ zs, SqT K G z.1 (z.2.map V.int)) → DqAll K G (zs.map fun z => V.ref z.1) ((zs.map (·.2)).map tupD)
  | [], _ => .nil
  | z :: zs, h => .cons (.tup (h z (List.mem_cons_self ..)) (dpAll_ints _)) (dpAll_tups zs fun y hy => h y (List.mem_cons_of_mem _ hy))
/-- sorted(list of tuples of ints) -/
theorem ev_sortedT {rows rows' : List (List Int)} {xs : List PyData} {p : Pos} (hg : In ("sorted" : Str) T.gl) (ha : Ev T S a (.list xs)) (hb : xs = rows.map tupD) (hne : ∀ r ∈ rows, r ≠ []) (hp : rows'.Perm rows) (hso : rows'.Pairwise (fun a b => lexI b a = false)) (hs : NoStar a := by intro _ _; rfl) :
    Ev T S (.Call (.Name "sorted" p) [a] [] pos) (.list (rows'.map tupD)) := by
  subst hb
  refine ev_blt (ds := [.list (rows.map tupD)]) hg (by decide +kernel) boot_sorted (fun X m => cr_sortedT) (eva_cons ha eva_nil hs) (fun X G H vs Q sm hd q => ?_) hs
  obtain ⟨v, rfl, h1⟩ := dpAll1 hd
  cases h1 with
  | lst h2 h3 =>
    obtain ⟨zs, e1, e2, e3⟩ := tups_of rows h3
    rw [e1] at h2
    refine ⟨_, zs, rfl, sm.seq h2, fun z hz => ⟨hne z.2 (by rw [e2]; exact List.mem_map_of_mem hz), same_tup sm (e3 z hz)⟩, fun zs' pp h4 h5 h6 => ?_⟩
    have e4 : zs'.map (·.2) = rows' := by
      refine List.Perm.eq_of_pairwise (le := fun a b => lexI b a = false) (fun a b _ _ h7 h8 => lexI_total a b h8 h7) h5 hso ?_
      have h9 := h4.map (·.2)
      rw [← e2] at h9
      exact h9.trans hp.symm
    rw [← e4] at q
    refine q _ _ _ (Ext.new (o := .lst _) sm h6) (.lst (SqL.of upd_same) (dpAll_mono (same_upd (sm.free h6)) _ _ (dpAll_tups zs' fun z hz => e3 z (h4.mem_iff.mp hz))))
/-- a list of one's own, k times -/
theorem evl_rep {xs : List PyData} {k : Int} (ha : EvL T S a xs) (hb : Ev T S b (.int k)) (h1 : -(2 ^ 63) ≤ k) (h2 : k < 2 ^ 63) (hz : xs.length * k.toNat ≤ sizeLine) : EvL T S (.BinOp a .Mult b pos) (List.replicate k.toNat xs).flatten := by
  intro X m G H σ Q sm en q
  refine PEa.of (pe_op op_rep (pea X a) (pea X b)) ?_
  refine ha X m G H σ _ sm en fun p vs G1 H1 e1 hp hd => ?_
  have e2 := e1.trans (Ext.newM (o := .lst vs) e1.sub hp)
  refine hb X m G1 (upd H1 p (.lst vs)) σ _ e2.sub (en.ext e2) fun u G2 H2 e3 r3 => ?_
  cases r3
  refine ⟨p, k, vs, rfl, rfl, e3.hh _ _ upd_same, h1, h2, by rw [dpAll_len hd]; exact hz, fun y hy => ?_⟩
  exact q y _ G2 H2 (e2.trans e3) hy (dpAll_rep (dpAll_mono e3.gg _ _ hd) k.toNat)
end
/-- a pair of ints among the text's constants -/
theorem dq_pairC {K : PySem.W.Frag} {G : Hp} {a : Addr} {x y : Int} {t u : Tok} {od : Option Addr} {n : Nat} {sl : Array (Option Value)} (l : K.lookup a = some ⟨.type "tuple", od, .seq #[.int x t, .int y u] n, sl⟩) : Dq K G (.ref a) (.tuple [.int x, .int y]) :=
  .tup (xs := [.int x, .int y]) (.inr ⟨_, _, _, l, rfl, rfl, (by show 2 ≤ sizeLine; decide), .cons ⟨t, rfl⟩ (.cons ⟨u, rfl⟩ .nil)⟩) (.cons (.int _) (.cons (.int _) .nil))
end Dn

namespace GM
open Plate

/-- the norm as an Int -/
def nm (u : Gauss) : Int := u.1 * u.1 + u.2 * u.2

theorem sq_nonneg (a : Int) : 0 ≤ a * a := by
  rcases Int.le_total 0 a with h | h
  · exact Int.mul_nonneg h h
  · exact Int.mul_nonneg_of_nonpos_of_nonpos h h
theorem sq_pos {a : Int} (h : a ≠ 0) : 0 < a * a := by
  rcases Int.lt_or_gt_of_ne h with h | h
  · exact Int.mul_pos_of_neg_of_neg h h
  · exact Int.mul_pos h h
theorem nm_nonneg (u : Gauss) : 0 ≤ nm u := Int.add_nonneg (sq_nonneg _) (sq_nonneg _)
theorem area_nm (u : Gauss) : (area u : Int) = nm u := by
  have h := nm_nonneg u
  unfold area
  show ((nm u).natAbs : Int) = nm u
  omega
theorem nm_zero {u : Gauss} (h : nm u = 0) : u = (0, 0) := by
  obtain ⟨a, b⟩ := u
  have h : a * a + b * b = 0 := h
  have g1 := sq_nonneg a
  have g2 := sq_nonneg b
  have h1 : a * a = 0 := by omega
  have h2 : b * b = 0 := by omega
  have e1 := (Int.mul_eq_zero.mp h1)
  have e2 := (Int.mul_eq_zero.mp h2)
  have : a = 0 := by omega
  have : b = 0 := by omega
  subst a b
  rfl
theorem nm_pos {u : Gauss} (h : u ≠ (0, 0)) : 0 < nm u := by
  have := nm_nonneg u
  rcases Int.lt_or_eq_of_le this with h' | h'
  · exact h'
  · exact absurd (nm_zero h'.symm) h
theorem nm_times (u v : Gauss) : nm (times u v) = nm u * nm v := by
  unfold nm times
  grind
theorem times_comm (u v : Gauss) : times u v = times v u := by
  unfold times
  ext <;> grind
theorem times_assoc (u v w : Gauss) : times (times u v) w = times u (times v w) := by
  unfold times
  ext <;> grind
theorem nm_back (u : Gauss) : nm (back u) = nm u := by
  unfold nm back
  grind
theorem times_back (u : Gauss) : times u (back u) = (nm u, 0) := by
  unfold nm back times
  ext <;> grind

/-- nearest, in words -/
theorem nearest_spec (x : Int) {n : Nat} (hn : 0 < n) : - (n : Int) ≤ 2 * (x - nearest x n * n) ∧ 2 * (x - nearest x n * n) < n := by
  unfold nearest
  have h2 : (0 : Int) < 2 * (n : Int) := by omega
  have a := Int.mul_ediv_self_le (x := 2 * x + n) (k := 2 * (n : Int)) (by omega)
  have b := Int.lt_mul_ediv_self_add (x := 2 * x + n) (k := 2 * (n : Int)) h2
  generalize (2 * x + (n : Int)) / (2 * (n : Int)) = q at a b
  have e : 2 * (n : Int) * q = 2 * (q * n) := by grind
  rw [e] at a b
  omega
theorem nearest_exact (k : Int) {n : Nat} (hn : 0 < n) : nearest (k * n) n = k := by
  unfold nearest
  have e : 2 * (k * (n : Int)) + n = n + k * (2 * (n : Int)) := by grind
  rw [e, Int.add_mul_ediv_right _ _ (by omega), Int.ediv_eq_zero_of_lt (by omega) (by omega)]
  omega
theorem area_pos {u : Gauss} (h : u ≠ (0, 0)) : 0 < area u := by
  have := nm_pos h
  have := area_nm u
  omega
/-- the rest of a division -/
def rest (u v : Gauss) : Gauss := less u (times (over u v) v)
theorem rest_small {u v : Gauss} (h : v ≠ (0, 0)) : 2 * nm (rest u v) ≤ nm v := by
  have hp := area_pos h
  have s1 := nearest_spec (times u (back v)).1 hp
  have s2 := nearest_spec (times u (back v)).2 hp
  have e : nm (rest u v) * nm v = ((times u (back v)).1 - nearest (times u (back v)).1 (area v) * area v) * ((times u (back v)).1 - nearest (times u (back v)).1 (area v) * area v)
      + ((times u (back v)).2 - nearest (times u (back v)).2 (area v) * area v) * ((times u (back v)).2 - nearest (times u (back v)).2 (area v) * area v) := by
    rw [area_nm]
    unfold rest over
    generalize nearest (times u (back v)).1 (area v) = q1
    generalize nearest (times u (back v)).2 (area v) = q2
    unfold less times back nm
    grind
  rw [area_nm] at s1 s2 e
  generalize (times u (back v)).1 - nearest (times u (back v)).1 (area v) * nm v = r1 at s1 e
  generalize (times u (back v)).2 - nearest (times u (back v)).2 (area v) * nm v = r2 at s2 e
  have hn := nm_pos h
  generalize nm (rest u v) = m at e ⊢
  generalize nm v = n at *
  have k1 : 4 * (r1 * r1) ≤ n * n := by
    have : 0 ≤ (n - 2 * r1) * (n + 2 * r1) := Int.mul_nonneg (by omega) (by omega)
    grind
  have k2 : 4 * (r2 * r2) ≤ n * n := by
    have : 0 ≤ (n - 2 * r2) * (n + 2 * r2) := Int.mul_nonneg (by omega) (by omega)
    grind
  have k3 : 2 * (m * n) ≤ n * n := by omega
  have k4 : (2 * m) * n ≤ n * n := by grind
  exact Int.le_of_mul_le_mul_right k4 hn
theorem rest_lt {u v : Gauss} (h : v ≠ (0, 0)) : area (rest u v) < area v := by
  have a := rest_small (u := u) h
  have b := area_nm v
  have c := area_nm (rest u v)
  have d := nm_nonneg (rest u v)
  have e := nm_pos h
  omega
/-- enough steps -/
theorem divisor_fuel : ∀ (k k' : Nat) (u v : Gauss), area v < k → area v < k' → divisor k u v = divisor k' u v
  | 0, _, _, _, h, _ => absurd h (by omega)
  | _, 0, _, _, _, h => absurd h (by omega)
  | k + 1, k' + 1, u, v, h, h' => by
    unfold divisor
    by_cases e : v = (0, 0)
    · rw [if_pos e, if_pos e]
    · rw [if_neg e, if_neg e]
      have := rest_lt (u := u) e
      exact divisor_fuel k k' v (rest u v) (by omega) (by omega)
/-- the greatest common divisor -/
def gcd (u v : Gauss) : Gauss := divisor (area v + 1) u v
theorem gcd_zero (u : Gauss) : gcd u (0, 0) = u := rfl
theorem gcd_step {u v : Gauss} (h : v ≠ (0, 0)) : gcd u v = gcd v (rest u v) := by
  have := rest_lt (u := u) h
  show (if v = (0, 0) then u else divisor (area v) v (rest u v)) = divisor (area (rest u v) + 1) v (rest u v)
  rw [if_neg h]
  exact divisor_fuel _ _ _ _ (by omega) (by omega)
theorem joint_gcd (u v : Gauss) : joint u v = upright (gcd u v) := by
  unfold joint gcd
  rw [divisor_fuel (area u + area v + 1) (area v + 1) u v (by omega) (by omega)]

/-- g divides u -/
def Dvd (g u : Gauss) : Prop := ∃ s, u = times s g
theorem dvd_self (g : Gauss) : Dvd g g := ⟨(1, 0), by unfold times; ext <;> grind⟩
theorem dvd_zero (g : Gauss) : Dvd g (0, 0) := ⟨(0, 0), by unfold times; ext <;> grind⟩
theorem dvd_times {g u : Gauss} (w : Gauss) (h : Dvd g u) : Dvd g (times w u) := by
  obtain ⟨s, rfl⟩ := h
  exact ⟨times w s, (times_assoc _ _ _).symm⟩
theorem dvd_of_rest {g u v : Gauss} (hv : Dvd g v) (hr : Dvd g (rest u v)) : Dvd g u := by
  obtain ⟨s, e⟩ := hv
  obtain ⟨t, e'⟩ := hr
  refine ⟨((times (over u v) s).1 + t.1, (times (over u v) s).2 + t.2), ?_⟩
  unfold rest at e'
  generalize over u v = q at *
  unfold less times at *
  have e1 := congrArg Prod.fst e
  have e2 := congrArg Prod.snd e
  have e3 := congrArg Prod.fst e'
  have e4 := congrArg Prod.snd e'
  simp only at e1 e2 e3 e4
  ext <;> simp only <;> grind
theorem gcd_dvd : ∀ (n : Nat) (u v : Gauss), area v < n → Dvd (gcd u v) u ∧ Dvd (gcd u v) v
  | 0, _, _, h => absurd h (by omega)
  | n + 1, u, v, h => by
    by_cases e : v = (0, 0)
    · subst e
      rw [gcd_zero]
      exact ⟨dvd_self u, dvd_zero u⟩
    · rw [gcd_step e]
      have hl := rest_lt (u := u) e
      obtain ⟨a, b⟩ := gcd_dvd n v (rest u v) (by omega)
      exact ⟨dvd_of_rest a b, a⟩
theorem gcd_left (u v : Gauss) : Dvd (gcd u v) u := (gcd_dvd _ u v (Nat.lt_succ_self _)).1
theorem gcd_right (u v : Gauss) : Dvd (gcd u v) v := (gcd_dvd _ u v (Nat.lt_succ_self _)).2
theorem zero_times (g : Gauss) : times (0, 0) g = (0, 0) := by unfold times; ext <;> grind
theorem times_zero (g : Gauss) : times g (0, 0) = (0, 0) := by unfold times; ext <;> grind
theorem gcd_ne {u v : Gauss} (h : v ≠ (0, 0)) : gcd u v ≠ (0, 0) := by
  intro e
  obtain ⟨s, hs⟩ := gcd_right u v
  rw [e, times_zero] at hs
  exact h hs
theorem gcd_ne' {u v : Gauss} (h : u ≠ (0, 0)) : gcd u v ≠ (0, 0) := by
  intro e
  obtain ⟨s, hs⟩ := gcd_left u v
  rw [e, times_zero] at hs
  exact h hs
/-- an exact division -/
theorem over_times (s : Gauss) {g : Gauss} (h : g ≠ (0, 0)) : over (times s g) g = s := by
  have hp := area_pos h
  have e : times (times s g) (back g) = (s.1 * area g, s.2 * area g) := by
    rw [times_assoc, times_back, area_nm]
    unfold times
    ext <;> grind
  unfold over
  rw [e]
  show (nearest (s.1 * area g) (area g), nearest (s.2 * area g) (area g)) = s
  rw [nearest_exact _ hp, nearest_exact _ hp]
/-- the quarter turn -/
def turn (z : Gauss) : Gauss := (-z.2, z.1)
def up1 (z : Gauss) : Bool := decide (1 ≤ z.1) && decide (0 ≤ z.2)
theorem upright_turns (z : Gauss) : upright z = if up1 z then z else if up1 (turn z) then turn z else if up1 (turn (turn z)) then turn (turn z) else if up1 (turn (turn (turn z))) then turn (turn (turn z)) else (0, 0) := by
  have e1 : turn (turn z) = (-z.1, -z.2) := rfl
  have e2 : turn (turn (turn z)) = (z.2, -z.1) := by unfold turn; simp
  rw [e2, e1]
  unfold upright
  show (List.find? up1 [z, turn z, (-z.1, -z.2), (z.2, -z.1)]).getD (0, 0) = _
  rw [List.find?_cons, List.find?_cons, List.find?_cons, List.find?_cons, List.find?_nil]
  cases up1 z <;> cases up1 (turn z) <;> cases up1 (-z.1, -z.2) <;> cases up1 (z.2, -z.1) <;> rfl
theorem up_some {z : Gauss} (h : z ≠ (0, 0)) : up1 z = true ∨ up1 (turn z) = true ∨ up1 (turn (turn z)) = true ∨ up1 (turn (turn (turn z))) = true := by
  obtain ⟨a, b⟩ := z
  unfold up1 turn
  simp only [Bool.and_eq_true, decide_eq_true_eq]
  have : ¬ (a = 0 ∧ b = 0) := by
    rintro ⟨rfl, rfl⟩
    exact h rfl
  omega
theorem up_one (z : Gauss) (h : up1 z = true) : up1 (turn z) = false ∧ up1 (turn (turn z)) = false ∧ up1 (turn (turn (turn z))) = false := by
  obtain ⟨a, b⟩ := z
  unfold up1 turn at *
  simp only [Bool.and_eq_true, decide_eq_true_eq, Bool.and_eq_false_iff, decide_eq_false_iff_not] at *
  omega
theorem turn4 (z : Gauss) : turn (turn (turn (turn z))) = z := by unfold turn; simp
theorem upright_turn (z : Gauss) : upright (turn z) = upright z := by
  by_cases hz : z = (0, 0)
  · subst hz; rfl
  · rw [upright_turns, upright_turns, turn4]
    rcases up_some hz with h | h | h | h
    · obtain ⟨a, b, c⟩ := up_one _ h
      simp [h, a, b, c]
    · obtain ⟨a, b, c⟩ := up_one _ h
      rw [turn4] at c
      simp [h, a, b, c]
    · obtain ⟨a, b, c⟩ := up_one _ h
      rw [turn4] at b c
      simp [h, a, b, c]
    · obtain ⟨a, b, c⟩ := up_one _ h
      rw [turn4] at a b c
      simp [h, a, b, c]
theorem turn_times (u v : Gauss) : times (turn u) v = turn (times u v) := by unfold turn times; ext <;> grind
theorem times_turn (u v : Gauss) : times u (turn v) = turn (times u v) := by unfold turn times; ext <;> grind
theorem turn_ne {u : Gauss} (h : u ≠ (0, 0)) : turn u ≠ (0, 0) := by
  intro e
  obtain ⟨a, b⟩ := u
  unfold turn at e
  simp only [Prod.mk.injEq] at e
  apply h
  obtain ⟨e1, e2⟩ := e
  have : b = 0 := by omega
  subst b e2
  rfl
theorem nm_turn (u : Gauss) : nm (turn u) = nm u := by unfold nm turn; grind
/-- division by a turned one -/
theorem over_turn {w g : Gauss} (h : g ≠ (0, 0)) (d : Dvd g w) : upright (over w (turn g)) = upright (over w g) := by
  obtain ⟨s, rfl⟩ := d
  rw [over_times s h]
  have e : times s g = times (turn (turn (turn s))) (turn g) := by
    rw [turn_times, turn_times, turn_times, times_turn, turn4]
  rw [e, over_times _ (turn_ne h), upright_turn, upright_turn, upright_turn]
theorem dvd_turn {w g : Gauss} (d : Dvd g w) : Dvd (turn g) w := by
  obtain ⟨s, rfl⟩ := d
  exact ⟨turn (turn (turn s)), by rw [turn_times, turn_times, turn_times, times_turn, turn4]⟩
theorem over_upright {w g : Gauss} (h : g ≠ (0, 0)) (d : Dvd g w) : upright (over w (upright g)) = upright (over w g) := by
  have h1 := turn_ne h
  have h2 := turn_ne h1
  have d1 := dvd_turn d
  have d2 := dvd_turn d1
  rw [upright_turns g]
  rcases up_some h with q | q | q | q
  · rw [if_pos q]
  · obtain ⟨a, b, c⟩ := up_one _ q
    rw [turn4] at c
    simp only [c, q, if_true, Bool.false_eq_true, if_false]
    exact over_turn h d
  · obtain ⟨a, b, c⟩ := up_one _ q
    rw [turn4] at b c
    simp only [b, c, q, if_true, Bool.false_eq_true, if_false]
    rw [over_turn h1 d1, over_turn h d]
  · obtain ⟨a, b, c⟩ := up_one _ q
    rw [turn4] at a b c
    simp only [a, b, c, q, if_true, Bool.false_eq_true, if_false]
    rw [over_turn h2 d2, over_turn h1 d1, over_turn h d]
/-- the program's common is the specification's -/
theorem common_eq {u v : Gauss} (h : v ≠ (0, 0)) : upright (over (times u v) (gcd u v)) = common u v := by
  unfold common
  rw [joint_gcd]
  exact (over_upright (gcd_ne h) (dvd_times u (gcd_right u v))).symm
theorem nm_upright {z : Gauss} (h : z ≠ (0, 0)) : nm (upright z) = nm z := by
  rw [upright_turns]
  rcases up_some h with q | q | q | q
  · rw [if_pos q]
  · obtain ⟨a, b, c⟩ := up_one _ q
    rw [turn4] at c
    simp only [c, q, if_true, Bool.false_eq_true, if_false]
    exact nm_turn z
  · obtain ⟨a, b, c⟩ := up_one _ q
    rw [turn4] at b c
    simp only [b, c, q, if_true, Bool.false_eq_true, if_false]
    rw [nm_turn, nm_turn]
  · obtain ⟨a, b, c⟩ := up_one _ q
    rw [turn4] at a b c
    simp only [a, b, c, q, if_true, Bool.false_eq_true, if_false]
    rw [nm_turn, nm_turn, nm_turn]
theorem up_upright {z : Gauss} (h : z ≠ (0, 0)) : up1 (upright z) = true := by
  rw [upright_turns]
  rcases up_some h with q | q | q | q
  · rw [if_pos q]; exact q
  · obtain ⟨a, b, c⟩ := up_one _ q
    rw [turn4] at c
    simp only [c, q, if_true, Bool.false_eq_true, if_false]
  · obtain ⟨a, b, c⟩ := up_one _ q
    rw [turn4] at b c
    simp only [b, c, q, if_true, Bool.false_eq_true, if_false]
  · obtain ⟨a, b, c⟩ := up_one _ q
    rw [turn4] at a b c
    simp only [a, b, c, q, if_true, Bool.false_eq_true, if_false]
theorem times_ne {u v : Gauss} (hu : u ≠ (0, 0)) (hv : v ≠ (0, 0)) : times u v ≠ (0, 0) := by
  intro e
  have h1 := nm_pos hu
  have h2 := nm_pos hv
  have h3 := nm_times u v
  rw [e] at h3
  have h4 : nm (0, 0) = 0 := rfl
  rw [h4] at h3
  have := Int.mul_pos h1 h2
  omega
theorem nm_over {w g : Gauss} (h : g ≠ (0, 0)) (d : Dvd g w) : nm (over w g) * nm g = nm w := by
  obtain ⟨s, rfl⟩ := d
  rw [over_times s h, nm_times]
theorem over_ne {w g : Gauss} (hw : w ≠ (0, 0)) (h : g ≠ (0, 0)) (d : Dvd g w) : over w g ≠ (0, 0) := by
  obtain ⟨s, rfl⟩ := d
  rw [over_times s h]
  intro e
  subst e
  exact hw (zero_times g)
theorem nm_le_of_dvd {w g : Gauss} (hw : w ≠ (0, 0)) (d : Dvd g w) : nm g ≤ nm w := by
  obtain ⟨s, rfl⟩ := d
  rw [nm_times]
  have hs : s ≠ (0, 0) := by
    rintro rfl
    exact hw (zero_times g)
  have h1 := nm_pos hs
  have h2 := nm_nonneg g
  have : 1 * nm g ≤ nm s * nm g := Int.mul_le_mul_of_nonneg_right (by omega) h2
  omega
theorem common_ne {u v : Gauss} (hu : u ≠ (0, 0)) (hv : v ≠ (0, 0)) : common u v ≠ (0, 0) := by
  rw [← common_eq hv]
  intro e
  have h1 := over_ne (times_ne hu hv) (gcd_ne (u := u) hv) (dvd_times u (gcd_right u v))
  have h2 := nm_upright h1
  rw [e] at h2
  have := nm_pos h1
  have h4 : nm (0, 0) = 0 := rfl
  omega
theorem nm_common_le {u v : Gauss} (hu : u ≠ (0, 0)) (hv : v ≠ (0, 0)) : nm (common u v) ≤ nm u * nm v := by
  rw [← common_eq hv]
  have hg := gcd_ne (u := u) hv
  have d := dvd_times u (gcd_right u v)
  have h1 := over_ne (times_ne hu hv) hg d
  rw [nm_upright h1]
  have h2 := nm_over hg d
  rw [nm_times] at h2
  have h3 := nm_pos hg
  have h4 := nm_nonneg (over (times u v) (gcd u v))
  have : nm (over (times u v) (gcd u v)) * 1 ≤ nm (over (times u v) (gcd u v)) * nm (gcd u v) := Int.mul_le_mul_of_nonneg_left (by omega) h4
  omega
end GM

/-! the specification's reading of z -/
namespace CS
open Plate GM
def isScr (a b : Int) : Bool := (decide (1 ≤ a) && decide (a ≤ 8)) && ((decide (0 ≤ b) && decide (b ≤ 8)) && decide (a * a + b * b ≤ 64))
def scrs : List Int → List Gauss
  | [a, b, c, d] => if isScr a b && isScr c d then [(a, b), (c, d)] else []
  | [a, b, c, d, e, f] => if isScr a b && (isScr c d && isScr e f) then [(a, b), (c, d), (e, f)] else []
  | _ => []
theorem latticed_eq {a b : Int} (ha : 0 ≤ a) (hb : 0 ≤ b) : latticed a.toNat b.toNat = isScr a b := by
  obtain ⟨m, rfl⟩ := Int.eq_ofNat_of_zero_le ha
  obtain ⟨n, rfl⟩ := Int.eq_ofNat_of_zero_le hb
  unfold latticed isScr SIDE CELL
  simp only [Int.toNat_natCast]
  have e : ((m : Int) * m + (n : Int) * n ≤ 64) ↔ (m * m + n * n ≤ 64) := by
    have : ((m : Int) * m + (n : Int) * n) = ((m * m + n * n : Nat) : Int) := by simp
    rw [this]
    omega
  rw [Bool.eq_iff_iff]
  simp only [Bool.and_eq_true, decide_eq_true_eq]
  rw [e]
  omega
theorem latticesOf_len : ∀ (z : List Nat) (l : List Gauss), Beats.latticesOf z = some l → z.length = 2 * l.length
  | [], l, h => by
    unfold Beats.latticesOf at h
    cases h
    rfl
  | [a], l, h => by
    unfold Beats.latticesOf at h
    cases h
  | a :: b :: r, l, h => by
    unfold Beats.latticesOf at h
    split at h
    · cases e : Beats.latticesOf r with
      | none => rw [e] at h; cases h
      | some l' =>
        rw [e] at h
        have h' := Option.some.inj h
        subst h'
        have := latticesOf_len r l' e
        simp only [List.length_cons]
        omega
    · cases h
theorem ofAll_bad {z : List Nat} (h : z.length ≠ 4) (h' : z.length ≠ 6) (good : List Gauss → Bool) (f : List Gauss → Answer) : Beats.ofAll z good f = says (-1) := by
  unfold Beats.ofAll
  cases e : Beats.latticesOf z with
  | none => rfl
  | some l =>
    have := latticesOf_len z l e
    show (if (l.length = 2 ∨ l.length = 3) ∧ good l = true then f l else says (-1)) = _
    rw [if_neg (by omega)]
theorem lat2 {a b c d : Int} (h1 : 0 ≤ a) (h2 : 0 ≤ b) (h3 : 0 ≤ c) (h4 : 0 ≤ d) : Beats.latticesOf (BeatsNeutral.nats [a, b, c, d]) = if isScr a b && isScr c d then some [(a, b), (c, d)] else none := by
  show Beats.latticesOf [a.toNat, b.toNat, c.toNat, d.toNat] = _
  unfold Beats.latticesOf
  rw [latticed_eq h1 h2]
  unfold Beats.latticesOf
  rw [latticed_eq h3 h4]
  unfold Beats.latticesOf
  rw [Int.toNat_of_nonneg h1, Int.toNat_of_nonneg h2, Int.toNat_of_nonneg h3, Int.toNat_of_nonneg h4]
  cases isScr a b <;> cases isScr c d <;> rfl
theorem lat3 {a b c d e f : Int} (h1 : 0 ≤ a) (h2 : 0 ≤ b) (h3 : 0 ≤ c) (h4 : 0 ≤ d) (h5 : 0 ≤ e) (h6 : 0 ≤ f) :
    Beats.latticesOf (BeatsNeutral.nats [a, b, c, d, e, f]) = if isScr a b && (isScr c d && isScr e f) then some [(a, b), (c, d), (e, f)] else none := by
  show Beats.latticesOf [a.toNat, b.toNat, c.toNat, d.toNat, e.toNat, f.toNat] = _
  unfold Beats.latticesOf
  rw [latticed_eq h1 h2]
  unfold Beats.latticesOf
  rw [latticed_eq h3 h4]
  unfold Beats.latticesOf
  rw [latticed_eq h5 h6]
  unfold Beats.latticesOf
  rw [Int.toNat_of_nonneg h1, Int.toNat_of_nonneg h2, Int.toNat_of_nonneg h3, Int.toNat_of_nonneg h4, Int.toNat_of_nonneg h5, Int.toNat_of_nonneg h6]
  cases isScr a b <;> cases isScr c d <;> cases isScr e f <;> rfl
theorem scrs_other {ns : List Int} (h : ns.length ≠ 4) (h' : ns.length ≠ 6) : scrs ns = [] := by
  unfold scrs
  split
  · exact absurd rfl h
  · exact absurd rfl h'
  · rfl
/-- what each list of numbers tells -/
theorem ofAll_eq (ns : List Int) (hn : ∀ n ∈ ns, 0 ≤ n) (good : List Gauss → Bool) (f : List Gauss → Answer) :
    Beats.ofAll (BeatsNeutral.nats ns) good f = if scrs ns = [] then says (-1) else if good (scrs ns) = true then f (scrs ns) else says (-1) := by
  match ns, hn with
  | [a, b, c, d], hn =>
    have h1 : 0 ≤ a := hn a (by simp)
    have h2 : 0 ≤ b := hn b (by simp)
    have h3 : 0 ≤ c := hn c (by simp)
    have h4 : 0 ≤ d := hn d (by simp)
    unfold Beats.ofAll
    rw [lat2 h1 h2 h3 h4]
    have es : scrs [a, b, c, d] = if isScr a b && isScr c d then [(a, b), (c, d)] else [] := rfl
    rw [es]
    cases isScr a b && isScr c d with
    | false => rfl
    | true => simp
  | [a, b, c, d, e, g], hn =>
    have h1 : 0 ≤ a := hn a (by simp)
    have h2 : 0 ≤ b := hn b (by simp)
    have h3 : 0 ≤ c := hn c (by simp)
    have h4 : 0 ≤ d := hn d (by simp)
    have h5 : 0 ≤ e := hn e (by simp)
    have h6 : 0 ≤ g := hn g (by simp)
    unfold Beats.ofAll
    rw [lat3 h1 h2 h3 h4 h5 h6]
    have es : scrs [a, b, c, d, e, g] = if isScr a b && (isScr c d && isScr e g) then [(a, b), (c, d), (e, g)] else [] := rfl
    rw [es]
    cases isScr a b && (isScr c d && isScr e g) with
    | false => rfl
    | true => simp
  | [], _ => rw [ofAll_bad (by decide) (by decide)]; rfl
  | [_], _ => rw [ofAll_bad (by simp [BeatsNeutral.nats]) (by simp [BeatsNeutral.nats])]; rfl
  | [_, _], _ => rw [ofAll_bad (by simp [BeatsNeutral.nats]) (by simp [BeatsNeutral.nats])]; rfl
  | [_, _, _], _ => rw [ofAll_bad (by simp [BeatsNeutral.nats]) (by simp [BeatsNeutral.nats])]; rfl
  | [_, _, _, _, _], _ => rw [ofAll_bad (by simp [BeatsNeutral.nats]) (by simp [BeatsNeutral.nats])]; rfl
  | a :: b :: c :: d :: e :: g :: h :: r, _ =>
    rw [ofAll_bad (by simp [BeatsNeutral.nats]) (by simp [BeatsNeutral.nats])]
    rw [scrs_other (by simp) (by simp)]
    rfl
/-- the screens are screens -/
theorem scrs_ok (ns : List Int) : ∀ u ∈ scrs ns, isScr u.1 u.2 = true := by
  unfold scrs
  split
  · split
    · rename_i h
      rw [Bool.and_eq_true] at h
      intro u hu
      simp at hu
      rcases hu with rfl | rfl
      · exact h.1
      · exact h.2
    · intro u hu; cases hu
  · split
    · rename_i h
      rw [Bool.and_eq_true, Bool.and_eq_true] at h
      intro u hu
      simp at hu
      rcases hu with rfl | rfl | rfl
      · exact h.1
      · exact h.2.1
      · exact h.2.2
    · intro u hu; cases hu
  · intro u hu; cases hu
theorem scrs_len (ns : List Int) : (scrs ns).length ≤ 3 := by
  unfold scrs
  split
  · split <;> simp
  · split <;> simp
  · simp
theorem scr_ne {a b : Int} (h : isScr a b = true) : (a, b) ≠ ((0, 0) : Gauss) := by
  unfold isScr at h
  simp only [Bool.and_eq_true, decide_eq_true_eq] at h
  intro e
  cases e
  omega
theorem scr_nm {a b : Int} (h : isScr a b = true) : nm (a, b) ≤ 64 := by
  unfold isScr at h
  simp only [Bool.and_eq_true, decide_eq_true_eq] at h
  exact h.2.2
/-- common, told over the screens -/
theorem common_spec (ns : List Int) (hn : ∀ n ∈ ns, 0 ≤ n) : PyWqaeca.common ns = if scrs ns = [] then [-1, 0, 0] else
    [nm (commonOf (scrs ns)), 0, 2, (commonOf (scrs ns)).1.toNat, (commonOf (scrs ns)).2.toNat] := by
  have e : PyWqaeca.common ns = BeatsNeutral.numbersOf (Beats.ofAll (BeatsNeutral.nats ns) (fun _ => true) fun l => Beats.tellsOne (commonOf l)) := rfl
  rw [e, ofAll_eq ns hn]
  split
  · rfl
  · show BeatsNeutral.numbersOf (Beats.tellsOne (commonOf (scrs ns))) = _
    rw [← area_nm]
    rfl
end CS

/-! lattices: places, classes, cells -/
namespace Lat
open Plate GM

/-! ### Bezout -/
theorem bezout (m n : Nat) : ∃ s t : Int, s * m + t * n = (Nat.gcd m n : Int) := by
  induction m, n using Nat.gcd.induction with
  | H0 n => exact ⟨0, 1, by simp⟩
  | H1 m n hm ih =>
    obtain ⟨s, t, h⟩ := ih
    rw [Nat.gcd_rec m n]
    refine ⟨t - s * (n / m : Nat), s, ?_⟩
    rw [← h]
    have e : ((n % m : Nat) : Int) = (n : Int) - (m : Int) * ((n / m : Nat) : Int) := by
      have := Nat.div_add_mod n m
      have : ((m * (n / m) + n % m : Nat) : Int) = n := by rw [this]
      rw [Int.natCast_add, Int.natCast_mul] at this
      omega
    rw [e]
    grind
theorem bezoutI (a b : Int) : ∃ s t : Int, s * a + t * b = (Int.gcd a b : Int) := by
  obtain ⟨s, t, h⟩ := bezout a.natAbs b.natAbs
  have ha : (a.natAbs : Int) = a ∨ (a.natAbs : Int) = -a := by omega
  have hb : (b.natAbs : Int) = b ∨ (b.natAbs : Int) = -b := by omega
  have e : (Int.gcd a b : Int) = (Nat.gcd a.natAbs b.natAbs : Int) := rfl
  rw [e, ← h]
  rcases ha with ha | ha <;> rcases hb with hb | hb <;> rw [ha, hb]
  · exact ⟨s, t, rfl⟩
  · exact ⟨s, -t, by grind⟩
  · exact ⟨-s, t, by grind⟩
  · exact ⟨-s, -t, by grind⟩

/-! ### places of a lattice -/
def plus (u v : Gauss) : Gauss := (u.1 + v.1, u.2 + v.2)
theorem dvd_plus {g u v : Gauss} (h : Dvd g u) (h' : Dvd g v) : Dvd g (plus u v) := by
  obtain ⟨s, rfl⟩ := h
  obtain ⟨t, rfl⟩ := h'
  exact ⟨plus s t, by unfold plus times; ext <;> simp only <;> grind⟩
theorem dvd_less {g u v : Gauss} (h : Dvd g u) (h' : Dvd g v) : Dvd g (less u v) := by
  obtain ⟨s, rfl⟩ := h
  obtain ⟨t, rfl⟩ := h'
  exact ⟨less s t, by unfold less times; ext <;> simp only <;> grind⟩
theorem dvd_trans {g u v : Gauss} (h : Dvd g u) (h' : Dvd u v) : Dvd g v := by
  obtain ⟨s, rfl⟩ := h
  obtain ⟨t, rfl⟩ := h'
  exact ⟨times t s, (times_assoc _ _ _).symm⟩
theorem emod_zero_iff {x n : Int} : (x % n == 0) = true ↔ ∃ k, x = k * n := by
  rw [beq_iff_eq]
  constructor
  · intro h
    exact ⟨x / n, by have := Int.mul_ediv_add_emod x n; rw [h] at this; grind⟩
  · rintro ⟨k, rfl⟩
    exact Int.mul_emod_left k n
theorem isOn_iff {z : Gauss} (hz : z ≠ (0, 0)) (x y : Int) : isOn z x y = true ↔ Dvd z (x, y) := by
  unfold isOn
  rw [Bool.and_eq_true, emod_zero_iff, emod_zero_iff, area_nm]
  have hn := nm_pos hz
  constructor
  · rintro ⟨⟨s, hs⟩, ⟨t, ht⟩⟩
    refine ⟨(s, t), ?_⟩
    have e1 : nm z * x = nm z * (s * z.1 - t * z.2) := by
      unfold nm at *
      grind
    have e2 : nm z * y = nm z * (s * z.2 + t * z.1) := by
      unfold nm at *
      grind
    have f1 := Int.eq_of_mul_eq_mul_left (by omega) e1
    have f2 := Int.eq_of_mul_eq_mul_left (by omega) e2
    unfold times
    rw [f1, f2]
  · rintro ⟨s, hs⟩
    have e1 := congrArg Prod.fst hs
    have e2 := congrArg Prod.snd hs
    unfold times at e1 e2
    simp only at e1 e2
    exact ⟨⟨s.1, by unfold nm; grind⟩, ⟨s.2, by unfold nm; grind⟩⟩

/-! ### the cell -/
theorem high_pos {z : Gauss} (hz : z ≠ (0, 0)) : 0 < high z := by
  unfold high
  refine Nat.pos_of_ne_zero fun h => hz ?_
  rw [Int.gcd_eq_zero_iff] at h
  obtain ⟨a, b⟩ := z
  obtain ⟨h1, h2⟩ := h
  simp only at h1 h2
  rw [h1, h2]
/-- a cell's measures: a = g a', b = g b', the row's step (l, g) is of the lattice -/
structure Cell (z : Gauss) where
  a' : Int
  b' : Int
  s : Int
  t : Int
  ha : z.1 = high z * a'
  hb : z.2 = high z * b'
  st : s * b' + t * a' = 1
  hp : (wide z : Int) = z.1 * a' + z.2 * b'
  gp : (wide z : Int) * (high z : Int) = nm z
theorem cell {z : Gauss} (hz : z ≠ (0, 0)) : Nonempty (Cell z) := by
  have hg := high_pos hz
  obtain ⟨a', ha⟩ : (high z : Int) ∣ z.1 := Int.gcd_dvd_left _ _
  obtain ⟨b', hb⟩ : (high z : Int) ∣ z.2 := Int.gcd_dvd_right _ _
  obtain ⟨t, s, h⟩ := bezoutI z.1 z.2
  have h : t * z.1 + s * z.2 = (high z : Int) := h
  have hgi : (0 : Int) < (high z : Int) := by omega
  have st : s * b' + t * a' = 1 := by
    have e : (high z : Int) * (s * b' + t * a') = (high z : Int) * 1 := by
      rw [ha, hb] at h
      grind
    exact Int.eq_of_mul_eq_mul_left (by omega) e
  have e0 : (area z : Int) = (high z : Int) * (z.1 * a' + z.2 * b') := by
    rw [area_nm]
    have e : nm z = z.1 * z.1 + z.2 * z.2 := rfl
    rw [e]
    have e1 : z.1 * z.1 = z.1 * (high z * a') := by rw [← ha]
    have e2 : z.2 * z.2 = z.2 * (high z * b') := by rw [← hb]
    rw [e1, e2]
    grind
  have hp : (wide z : Int) = z.1 * a' + z.2 * b' := by
    unfold wide
    rw [Int.natCast_ediv, e0, Int.mul_ediv_cancel_left _ (by omega)]
  have gp : (wide z : Int) * (high z : Int) = nm z := by
    rw [hp, ← area_nm, e0]
    grind
  exact ⟨⟨a', b', s, t, ha, hb, st, hp, gp⟩⟩
theorem wide_pos {z : Gauss} (hz : z ≠ (0, 0)) : 0 < wide z := by
  obtain ⟨c⟩ := cell hz
  have h1 := c.gp
  have h2 := nm_pos hz
  refine Nat.pos_of_ne_zero fun h => ?_
  rw [h] at h1
  simp at h1
  omega
theorem area_wh {z : Gauss} (hz : z ≠ (0, 0)) : area z = wide z * high z := by
  obtain ⟨c⟩ := cell hz
  have h1 := c.gp
  have h2 := area_nm z
  have : ((wide z * high z : Nat) : Int) = (area z : Int) := by rw [Int.natCast_mul, h1, h2]
  omega
/-- (p, 0) is of the lattice -/
theorem on_wide {z : Gauss} (hz : z ≠ (0, 0)) (k : Int) : Dvd z (k * wide z, 0) := by
  obtain ⟨c⟩ := cell hz
  have h1 := c.ha
  have h2 := c.hb
  refine ⟨(k * c.a', - (k * c.b')), ?_⟩
  rw [c.hp]
  unfold times
  ext
  · simp only; grind
  · simp only
    have : z.1 * c.b' = z.2 * c.a' := by
      have e1 : z.1 * c.b' = (high z * c.a') * c.b' := by rw [← h1]
      have e2 : z.2 * c.a' = (high z * c.b') * c.a' := by rw [← h2]
      rw [e1, e2]; grind
    grind
/-- a place of the lattice whose second number is g -/
theorem on_high {z : Gauss} (hz : z ≠ (0, 0)) : ∃ l : Int, ∀ k : Int, Dvd z (k * l, k * high z) := by
  obtain ⟨c⟩ := cell hz
  refine ⟨c.s * z.1 - c.t * z.2, fun k => ⟨(k * c.s, k * c.t), ?_⟩⟩
  have h1 := c.ha
  have h2 := c.hb
  have h3 := c.st
  unfold times
  ext
  · simp only; grind
  · simp only
    have e : k * c.s * z.2 + k * c.t * z.1 = k * ((high z : Int) * (c.s * c.b' + c.t * c.a')) := by
      have e1 : c.s * z.2 = c.s * (high z * c.b') := by rw [← h2]
      have e2 : c.t * z.1 = c.t * (high z * c.a') := by rw [← h1]
      grind
    rw [e, h3]
    grind
/-- a place of the lattice whose numbers are small is (0, 0) -/
theorem small_zero {z : Gauss} (hz : z ≠ (0, 0)) {x y : Int} (h : Dvd z (x, y)) (hx : - (wide z : Int) < x ∧ x < wide z) (hy : - (high z : Int) < y ∧ y < high z) : x = 0 ∧ y = 0 := by
  obtain ⟨c⟩ := cell hz
  obtain ⟨⟨i, j⟩, e⟩ := h
  have e1 := congrArg Prod.fst e
  have e2 := congrArg Prod.snd e
  unfold times at e1 e2
  simp only at e1 e2
  have h1 := c.ha
  have h2 := c.hb
  have h3 := c.st
  have hg := high_pos hz
  have hw := wide_pos hz
  -- y is a multiple of g
  have ey : y = (i * c.b' + j * c.a') * (high z : Int) := by
    rw [e2]
    have f1 : i * z.2 = i * (high z * c.b') := by rw [← h2]
    have f2 : j * z.1 = j * (high z * c.a') := by rw [← h1]
    grind
  have hk : i * c.b' + j * c.a' = 0 := by
    generalize i * c.b' + j * c.a' = k at ey
    rcases Int.lt_trichotomy k 0 with q | q | q
    · have : k * (high z : Int) ≤ (-1) * (high z : Int) := Int.mul_le_mul_of_nonneg_right (by omega) (by omega)
      omega
    · exact q
    · have : 1 * (high z : Int) ≤ k * (high z : Int) := Int.mul_le_mul_of_nonneg_right (by omega) (by omega)
      omega
  have y0 : y = 0 := by rw [ey, hk]; simp
  -- x is a multiple of p
  have ei : i = c.a' * (c.t * i - c.s * j) := by
    have : i = i * (c.s * c.b' + c.t * c.a') := by rw [h3]; grind
    grind
  have ej : j = - c.b' * (c.t * i - c.s * j) := by
    have : j = j * (c.s * c.b' + c.t * c.a') := by rw [h3]; grind
    grind
  have ex : x = (c.t * i - c.s * j) * (wide z : Int) := by
    rw [e1, c.hp]
    generalize c.t * i - c.s * j = T at ei ej
    rw [ei, ej]
    grind
  refine ⟨?_, y0⟩
  generalize c.t * i - c.s * j = k at ex
  rcases Int.lt_trichotomy k 0 with q | q | q
  · have : k * (wide z : Int) ≤ (-1) * (wide z : Int) := Int.mul_le_mul_of_nonneg_right (by omega) (by omega)
    omega
  · rw [ex, q]; simp
  · have : 1 * (wide z : Int) ≤ k * (wide z : Int) := Int.mul_le_mul_of_nonneg_right (by omega) (by omega)
    omega
/-- the place of the class numbered c -/
def place (z : Gauss) (c : Nat) : Gauss := (((c % wide z : Nat) : Int), ((c / wide z : Nat) : Int))
theorem place_bd {z : Gauss} (hz : z ≠ (0, 0)) {c : Nat} (hc : c < area z) : 0 ≤ (place z c).1 ∧ (place z c).1 < wide z ∧ 0 ≤ (place z c).2 ∧ (place z c).2 < high z := by
  have hw := wide_pos hz
  have h1 := Nat.mod_lt c hw
  have h2 : c / wide z < high z := by
    rw [Nat.div_lt_iff_lt_mul hw, Nat.mul_comm, ← area_wh hz]
    exact hc
  unfold place
  exact ⟨Int.natCast_nonneg _, by simp only; omega, Int.natCast_nonneg _, by simp only; exact Int.ofNat_lt.mpr h2⟩
/-- of one class: the one less the other is on the lattice -/
def One (z u v : Gauss) : Prop := Dvd z (less u v)
theorem One.refl (z u : Gauss) : One z u u := ⟨(0, 0), by unfold less times; ext <;> simp⟩
theorem One.symm {z u v : Gauss} (h : One z u v) : One z v u := by
  obtain ⟨s, h⟩ := h
  refine ⟨(-s.1, -s.2), ?_⟩
  have e1 := congrArg Prod.fst h
  have e2 := congrArg Prod.snd h
  unfold less times at *
  simp only at e1 e2
  ext <;> simp only <;> grind
theorem One.trans {z u v w : Gauss} (h : One z u v) (h' : One z v w) : One z u w := by
  have := dvd_plus h h'
  have e : plus (less u v) (less v w) = less u w := by unfold plus less; ext <;> simp only <;> grind
  rw [e] at this
  exact this
theorem place_inj {z : Gauss} (hz : z ≠ (0, 0)) {c d : Nat} (hc : c < area z) (hd : d < area z) (h : One z (place z c) (place z d)) : c = d := by
  obtain ⟨a1, a2, a3, a4⟩ := place_bd hz hc
  obtain ⟨b1, b2, b3, b4⟩ := place_bd hz hd
  obtain ⟨e1, e2⟩ := small_zero hz (x := (place z c).1 - (place z d).1) (y := (place z c).2 - (place z d).2) h (by omega) (by omega)
  unfold place at e1 e2
  simp only at e1 e2
  have f1 := Nat.div_add_mod c (wide z)
  have f2 := Nat.div_add_mod d (wide z)
  have f3 : c % wide z = d % wide z := by omega
  have f4 : c / wide z = d / wide z := by omega
  rw [← f1, ← f2, f3, f4]
theorem class_exists {z : Gauss} (hz : z ≠ (0, 0)) (x y : Int) : ∃ c, c < area z ∧ One z (x, y) (place z c) := by
  have hw := wide_pos hz
  have hg := high_pos hz
  obtain ⟨l, hl⟩ := on_high hz
  have gy := Int.emod_nonneg y (show (high z : Int) ≠ 0 by omega)
  have gy' := Int.emod_lt_of_pos y (show 0 < (high z : Int) by omega)
  have ey := Int.mul_ediv_add_emod y (high z : Int)
  generalize y % (high z : Int) = r at gy gy' ey
  generalize y / (high z : Int) = k at ey
  have gx := Int.emod_nonneg (x - k * l) (show (wide z : Int) ≠ 0 by omega)
  have gx' := Int.emod_lt_of_pos (x - k * l) (show 0 < (wide z : Int) by omega)
  have ex := Int.mul_ediv_add_emod (x - k * l) (wide z : Int)
  generalize (x - k * l) % (wide z : Int) = q at gx gx' ex
  generalize (x - k * l) / (wide z : Int) = m at ex
  have hc : r.toNat * wide z + q.toNat < area z := by
    rw [area_wh hz]
    have h1 : r.toNat + 1 ≤ high z := by omega
    have h2 : (r.toNat + 1) * wide z ≤ high z * wide z := Nat.mul_le_mul_right _ h1
    rw [Nat.add_mul, Nat.one_mul] at h2
    have : wide z * high z = high z * wide z := Nat.mul_comm _ _
    omega
  refine ⟨r.toNat * wide z + q.toNat, hc, ?_⟩
  have p1 : (r.toNat * wide z + q.toNat) % wide z = q.toNat := by
    rw [Nat.mul_comm, Nat.mul_add_mod]
    exact Nat.mod_eq_of_lt (by omega)
  have p2 : (r.toNat * wide z + q.toNat) / wide z = r.toNat := by
    rw [Nat.mul_comm, Nat.mul_add_div hw, Nat.div_eq_of_lt (by omega)]
    omega
  have e : place z (r.toNat * wide z + q.toNat) = (q, r) := by
    unfold place
    rw [p1, p2]
    ext <;> simp only <;> omega
  rw [e]
  have d := dvd_plus (hl k) (on_wide hz m)
  have e2 : plus (k * l, k * (high z : Int)) (m * (wide z : Int), 0) = less (x, y) (q, r) := by
    unfold plus less
    ext <;> simp only <;> grind
  rw [e2] at d
  exact d
/-- the class of a place -/
noncomputable def cls (z : Gauss) (hz : z ≠ (0, 0)) (x y : Int) : Nat := (class_exists hz x y).choose
theorem cls_lt {z : Gauss} (hz : z ≠ (0, 0)) (x y : Int) : cls z hz x y < area z := (class_exists hz x y).choose_spec.1
theorem cls_one {z : Gauss} (hz : z ≠ (0, 0)) (x y : Int) : One z (x, y) (place z (cls z hz x y)) := (class_exists hz x y).choose_spec.2
theorem cls_eq {z : Gauss} (hz : z ≠ (0, 0)) {x y : Int} {c : Nat} (hc : c < area z) (h : One z (x, y) (place z c)) : cls z hz x y = c :=
  place_inj hz (cls_lt hz x y) hc ((cls_one hz x y).symm.trans h)
theorem cls_same {z : Gauss} (hz : z ≠ (0, 0)) {x y x' y' : Int} : cls z hz x y = cls z hz x' y' ↔ One z (x, y) (x', y') := by
  constructor
  · intro h
    have h1 := cls_one hz x y
    have h2 := cls_one hz x' y'
    rw [h] at h1
    exact h1.trans h2.symm
  · intro h
    exact cls_eq hz (cls_lt hz x' y') (h.trans (cls_one hz x' y'))
theorem isOn_one {z : Gauss} (hz : z ≠ (0, 0)) (u v : Gauss) : isOn z (u.1 - v.1) (u.2 - v.2) = true ↔ One z u v := isOn_iff hz _ _
/-- find? of a test that just one number passes -/
theorem find_range {n : Nat} {p : Nat → Bool} {c : Nat} (hc : c < n) (hp : p c = true) (h1 : ∀ d, d < n → p d = true → d = c) : (List.range n).find? p = some c := by
  rw [List.find?_eq_some_iff_append]
  refine ⟨hp, List.range c, (List.range n).drop (c + 1), ?_, fun a ha => ?_⟩
  · apply List.ext_getElem
    · simp only [List.length_range, List.length_append, List.length_cons, List.length_drop]
      omega
    · intro i h2 h3
      rw [List.getElem_range]
      by_cases hi : i < c
      · rw [List.getElem_append_left (by simpa using hi), List.getElem_range]
      · rw [List.getElem_append_right (by simpa using hi)]
        by_cases hi2 : i = c
        · subst hi2
          simp
        · rw [List.getElem_cons]
          simp only [List.length_range]
          rw [dif_neg (by omega), List.getElem_drop, List.getElem_range]
          omega
  · have hac : a < c := List.mem_range.mp ha
    cases q : p a with
    | false => rfl
    | true =>
      have := h1 a (by omega) q
      omega
theorem find_none {n : Nat} {p : Nat → Bool} (h : ∀ d, d < n → p d = false) : (List.range n).find? p = none := by
  rw [List.find?_eq_none]
  intro x hx
  rw [h x (List.mem_range.mp hx)]
  exact Bool.false_ne_true

/-! ### a screen's own words -/
theorem lat_ne {s : Screen} (h : 1 ≤ s.a) : lattice s ≠ (0, 0) := by
  unfold lattice
  intro e
  have := congrArg Prod.fst e
  simp only at this
  omega
theorem s_area (s : Screen) : area (lattice s) = s.n := by
  have h := area_nm (lattice s)
  have e : nm (lattice s) = ((s.n : Nat) : Int) := by
    unfold nm lattice Screen.n
    simp
  rw [e] at h
  omega
theorem s_high (s : Screen) : high (lattice s) = s.g := by
  unfold high lattice Screen.g
  rfl
theorem s_wide (s : Screen) : wide (lattice s) = s.p := by
  unfold wide Screen.p
  rw [s_area, s_high]
theorem s_on (s : Screen) (x y : Int) : s.onLattice x y = isOn (lattice s) x y := by
  unfold Screen.onLattice isOn
  rw [s_area]
  rfl
theorem s_class {s : Screen} (h : 1 ≤ s.a) (x y : Int) : s.classOf x y = cls (lattice s) (lat_ne h) x y := by
  have hz := lat_ne h
  have hpg : s.p * s.g = area (lattice s) := by rw [area_wh hz, s_wide, s_high]
  unfold Screen.classOf
  rw [hpg, find_range (c := cls (lattice s) hz x y) (cls_lt hz x y)]
  · rfl
  · rw [s_on, ← s_wide]
    exact (isOn_one hz (x, y) (place (lattice s) _)).mpr (cls_one hz x y)
  · intro d hd hq
    rw [s_on, ← s_wide] at hq
    exact (cls_eq hz hd ((isOn_one hz (x, y) (place (lattice s) d)).mp hq)).symm
end Lat

/-! common and joint lattices of two; where classes meet -/
namespace Lat
open Plate GM

theorem gcd_bez : ∀ (n : Nat) (u v : Gauss), area v < n → ∃ s t : Gauss, gcd u v = plus (times s u) (times t v)
  | 0, _, _, h => absurd h (by omega)
  | n + 1, u, v, h => by
    by_cases e : v = (0, 0)
    · subst e
      refine ⟨(1, 0), (0, 0), ?_⟩
      rw [gcd_zero]
      unfold plus times
      ext <;> simp
    · have hl := rest_lt (u := u) e
      obtain ⟨s, t, hst⟩ := gcd_bez n v (rest u v) (by omega)
      refine ⟨t, less s (times t (over u v)), ?_⟩
      rw [gcd_step e, hst]
      unfold rest
      generalize over u v = q
      unfold plus times less
      ext <;> simp only <;> grind
theorem dvd_gcd {g u v : Gauss} (h : Dvd g u) (h' : Dvd g v) : Dvd g (gcd u v) := by
  obtain ⟨s, t, e⟩ := gcd_bez _ u v (Nat.lt_succ_self _)
  rw [e]
  exact dvd_plus (dvd_times s h) (dvd_times t h')
theorem cancel {u v g : Gauss} (hg : g ≠ (0, 0)) (h : times u g = times v g) : u = v := by
  rw [← over_times u hg, h, over_times v hg]
theorem dvd_turn_iff {z w : Gauss} : Dvd (turn z) w ↔ Dvd z w := by
  constructor
  · intro h
    have := dvd_turn (dvd_turn (dvd_turn h))
    rw [turn4] at this
    exact this
  · exact dvd_turn
theorem dvd_upright {z w : Gauss} (hz : z ≠ (0, 0)) : Dvd (upright z) w ↔ Dvd z w := by
  rw [upright_turns]
  rcases up_some hz with q | q | q | q
  · rw [if_pos q]
  · obtain ⟨a, b, c⟩ := up_one _ q
    rw [turn4] at c
    simp only [c, q, if_true, Bool.false_eq_true, if_false]
    exact dvd_turn_iff
  · obtain ⟨a, b, c⟩ := up_one _ q
    rw [turn4] at b c
    simp only [b, c, q, if_true, Bool.false_eq_true, if_false]
    rw [dvd_turn_iff, dvd_turn_iff]
  · obtain ⟨a, b, c⟩ := up_one _ q
    rw [turn4] at a b c
    simp only [a, b, c, q, if_true, Bool.false_eq_true, if_false]
    rw [dvd_turn_iff, dvd_turn_iff, dvd_turn_iff]
theorem joint_ne {u v : Gauss} (hv : v ≠ (0, 0)) : joint u v ≠ (0, 0) := by
  rw [joint_gcd]
  intro e
  have h1 := nm_upright (gcd_ne (u := u) hv)
  rw [e] at h1
  have := nm_pos (gcd_ne (u := u) hv)
  have h4 : nm (0, 0) = 0 := rfl
  omega
theorem joint_ne' {u v : Gauss} (hu : u ≠ (0, 0)) : joint u v ≠ (0, 0) := by
  rw [joint_gcd]
  intro e
  have h1 := nm_upright (gcd_ne' (v := v) hu)
  rw [e] at h1
  have := nm_pos (gcd_ne' (v := v) hu)
  have h4 : nm (0, 0) = 0 := rfl
  omega
theorem dvd_joint {u v w : Gauss} (hv : v ≠ (0, 0)) : Dvd (joint u v) w ↔ Dvd (gcd u v) w := by
  rw [joint_gcd]
  exact dvd_upright (gcd_ne hv)
/-- the common lattice is that of the places of both -/
theorem dvd_common {u v w : Gauss} (hu : u ≠ (0, 0)) (hv : v ≠ (0, 0)) : Dvd (common u v) w ↔ Dvd u w ∧ Dvd v w := by
  have hg := gcd_ne (u := u) hv
  obtain ⟨a, ha⟩ := gcd_left u v
  obtain ⟨b, hb⟩ := gcd_right u v
  obtain ⟨s, t, e⟩ := gcd_bez _ u v (Nat.lt_succ_self _)
  have ho : over (times u v) (gcd u v) = times u b := by
    have e1 : times u v = times (times u b) (gcd u v) := by rw [times_assoc, ← hb]
    rw [e1, over_times _ hg]
  have ho' : times u b = times v a := by
    refine cancel hg ?_
    rw [times_assoc, times_assoc, ← hb, ← ha]
    exact times_comm u v
  have hne : times u b ≠ (0, 0) := by
    rw [← ho]
    exact over_ne (times_ne hu hv) hg (dvd_times u (gcd_right u v))
  rw [← common_eq hv, ho, dvd_upright hne]
  constructor
  · intro h
    refine ⟨dvd_trans ⟨b, times_comm u b⟩ h, ?_⟩
    rw [ho'] at h
    exact dvd_trans ⟨a, times_comm v a⟩ h
  · rintro ⟨⟨x, hx⟩, ⟨y, hy⟩⟩
    refine ⟨plus (times s y) (times t x), ?_⟩
    refine cancel hg ?_
    -- w g = w (s u + t v) = s (y v) u + t (x u) v
    have e1 : times w (gcd u v) = plus (times s (times w u)) (times t (times w v)) := by
      rw [e]
      unfold plus times
      ext <;> simp only <;> grind
    have e2 : times w u = times y (times v u) := by rw [hy, times_assoc]
    have e3 : times w v = times x (times u v) := by
      have : times w v = times (times x u) v := by rw [← hx]
      rw [this, times_assoc]
    rw [e1, e2, e3, times_comm v u]
    have e4 : times (times (plus (times s y) (times t x)) (times u b)) (gcd u v) = times (plus (times s y) (times t x)) (times u v) := by
      rw [times_assoc, times_assoc, ← hb]
    rw [e4]
    generalize times u v = q
    unfold plus times
    ext <;> simp only <;> grind
/-- the test of meet at the place k of the common cell -/
theorem meet_test {u v : Gauss} (hu : u ≠ (0, 0)) (hv : v ≠ (0, 0)) (c d k : Nat) : (isOn u (((k % wide (common u v) : Nat) : Int) - ((c % wide u : Nat) : Int)) (((k / wide (common u v) : Nat) : Int) - ((c / wide u : Nat) : Int)) && isOn v (((k % wide (common u v) : Nat) : Int) - ((d % wide v : Nat) : Int)) (((k / wide (common u v) : Nat) : Int) - ((d / wide v : Nat) : Int))) = true
    ↔ One u (place (common u v) k) (place u c) ∧ One v (place (common u v) k) (place v d) := by
  rw [Bool.and_eq_true]
  have a := isOn_one hu (place (common u v) k) (place u c)
  have b := isOn_one hv (place (common u v) k) (place v d)
  exact ⟨fun ⟨x, y⟩ => ⟨a.mp x, b.mp y⟩, fun ⟨x, y⟩ => ⟨a.mpr x, b.mpr y⟩⟩
theorem meet_some {u v : Gauss} (hu : u ≠ (0, 0)) (hv : v ≠ (0, 0)) {c d k : Nat} (hk : k < area (common u v)) (h1 : One u (place (common u v) k) (place u c)) (h2 : One v (place (common u v) k) (place v d)) : meet u v c d = some k := by
  have hz := common_ne hu hv
  unfold meet cellOf
  simp only
  refine find_range hk ((meet_test hu hv c d k).mpr ⟨h1, h2⟩) fun j hj hq => ?_
  obtain ⟨q1, q2⟩ := (meet_test hu hv c d j).mp hq
  exact place_inj hz hj hk ((dvd_common hu hv).mpr ⟨q1.trans h1.symm, q2.trans h2.symm⟩)
/-- some place of both: they meet at its class -/
theorem meet_at {u v : Gauss} (hu : u ≠ (0, 0)) (hv : v ≠ (0, 0)) {c d : Nat} {x y : Int} (h1 : One u (x, y) (place u c)) (h2 : One v (x, y) (place v d)) : meet u v c d = some (cls (common u v) (common_ne hu hv) x y) := by
  have hz := common_ne hu hv
  have h := cls_one hz x y
  obtain ⟨a1, a2⟩ := (dvd_common hu hv).mp h
  have a1 : One u (x, y) (place (common u v) (cls (common u v) hz x y)) := a1
  have a2 : One v (x, y) (place (common u v) (cls (common u v) hz x y)) := a2
  exact meet_some hu hv (cls_lt hz x y) (a1.symm.trans h1) (a2.symm.trans h2)
theorem meet_none {u v : Gauss} (hu : u ≠ (0, 0)) (hv : v ≠ (0, 0)) {c d : Nat} (h : ∀ x y, ¬ (One u (x, y) (place u c) ∧ One v (x, y) (place v d))) : meet u v c d = none := by
  unfold meet cellOf
  simp only
  refine find_none fun k hk => ?_
  rw [Bool.eq_false_iff]
  intro hq
  obtain ⟨q1, q2⟩ := (meet_test hu hv c d k).mp hq
  exact h _ _ ⟨q1, q2⟩
/-- classes meet just if they lie in one class of the joint lattice -/
theorem meet_joint {u v : Gauss} (hu : u ≠ (0, 0)) (hv : v ≠ (0, 0)) (p q : Gauss) : (∃ x y, One u (x, y) p ∧ One v (x, y) q) ↔ One (joint u v) p q := by
  constructor
  · rintro ⟨x, y, h1, h2⟩
    have g1 : One (joint u v) (x, y) p := (dvd_joint hv).mpr (dvd_trans (gcd_left u v) h1)
    have g2 : One (joint u v) (x, y) q := (dvd_joint hv).mpr (dvd_trans (gcd_right u v) h2)
    exact g1.symm.trans g2
  · intro h
    obtain ⟨w, hw⟩ := (dvd_joint hv).mp h
    obtain ⟨s, t, e⟩ := gcd_bez _ u v (Nat.lt_succ_self _)
    -- p - q = w (s u + t v); take p - w s u = q + w t v
    refine ⟨p.1 - (times (times w s) u).1, p.2 - (times (times w s) u).2, ⟨(-(times w s).1, -(times w s).2), ?_⟩, ⟨times w t, ?_⟩⟩
    · unfold less times
      ext <;> simp only <;> grind
    · rw [e] at hw
      have e1 := congrArg Prod.fst hw
      have e2 := congrArg Prod.snd hw
      unfold less plus times at *
      simp only at e1 e2
      ext <;> simp only <;> grind
end Lat

/-! Euclid with a factor; bounds -/
namespace Mx
open Plate GM Lat
theorem bd59 {c d : Int} (h : c * c + d * d < 332306998946228968225951765070086144) : (-576460752303423488 < c ∧ c < 576460752303423488) ∧ (-576460752303423488 < d ∧ d < 576460752303423488) := by
  have h1 := sq_nonneg c
  have h2 := sq_nonneg d
  have one : ∀ a : Int, a * a < 332306998946228968225951765070086144 → -576460752303423488 < a ∧ a < 576460752303423488 := fun a ha => by
    refine ⟨?_, ?_⟩
    · refine Int.lt_of_not_ge fun q => ?_
      have := Int.mul_le_mul (a := 576460752303423488) (b := 576460752303423488) (c := -a) (d := -a) (by omega) (by omega) (by omega) (by omega)
      have e : -a * -a = a * a := by grind
      omega
    · refine Int.lt_of_not_ge fun q => ?_
      have := Int.mul_le_mul (a := 576460752303423488) (b := 576460752303423488) (c := a) (d := a) (by omega) (by omega) (by omega) (by omega)
      omega
  exact ⟨one c (by omega), one d (by omega)⟩
theorem nm_less_le (u v : Gauss) : nm (less u v) ≤ 2 * nm u + 2 * nm v := by
  have h1 := sq_nonneg (u.1 + v.1)
  have h2 := sq_nonneg (u.2 + v.2)
  unfold nm less
  simp only
  grind
theorem nm_over_le {u v : Gauss} (h : v ≠ (0, 0)) : nm (over u v) ≤ 2 * nm u + nm v := by
  have e : times (over u v) v = less u (rest u v) := by unfold rest less; ext <;> simp only <;> grind
  have a1 := nm_times (over u v) v
  rw [e] at a1
  have a2 := nm_less_le u (rest u v)
  have a3 := rest_small (u := u) h
  have a4 := nm_pos h
  have a5 := nm_nonneg (over u v)
  have a6 : nm (over u v) * 1 ≤ nm (over u v) * nm v := Int.mul_le_mul_of_nonneg_left (by omega) a5
  omega
/-- Euclid's steps with the factors of the first -/
def df : Nat → Gauss → Gauss → Gauss → Gauss → Gauss × Gauss
  | 0, u, _, f, _ => (u, f)
  | k + 1, u, v, f, l => if v = (0, 0) then (u, f) else df k v (rest u v) l (less f (times (over u v) l))
theorem df_fst : ∀ (k : Nat) (u v f l : Gauss), (df k u v f l).1 = divisor k u v
  | 0, _, _, _, _ => rfl
  | k + 1, u, v, f, l => by
    unfold df divisor
    split
    · rfl
    · exact df_fst k _ _ _ _
def fac (u v : Gauss) : Gauss := (df (area v + 1) u v (1, 0) (0, 0)).2
theorem df_gcd (u v : Gauss) : df (area v + 1) u v (1, 0) (0, 0) = (gcd u v, fac u v) := by
  have h := df_fst (area v + 1) u v (1, 0) (0, 0)
  unfold gcd
  rw [← h]
  rfl
theorem df_fac (u0 v0 : Gauss) : ∀ (k : Nat) (u v f l s t : Gauss), u = plus (times f u0) (times s v0) → v = plus (times l u0) (times t v0) → ∃ r, (df k u v f l).1 = plus (times (df k u v f l).2 u0) (times r v0)
  | 0, u, v, f, l, s, t, h1, h2 => ⟨s, h1⟩
  | k + 1, u, v, f, l, s, t, h1, h2 => by
    unfold df
    split
    · exact ⟨s, h1⟩
    · refine df_fac u0 v0 k v (rest u v) l _ t (less s (times (over u v) t)) h2 ?_
      unfold rest
      generalize over u v = q
      rw [h1, h2]
      unfold plus times less
      ext <;> simp only <;> grind
/-- the factor times the one is the divisor but for a multiple of the other -/
theorem fac_spec (u v : Gauss) : ∃ r, gcd u v = plus (times (fac u v) u) (times r v) := by
  have h := df_fac u v (area v + 1) u v (1, 0) (0, 0) (0, 0) (1, 0) (by unfold plus times; ext <;> simp) (by unfold plus times; ext <;> simp)
  rw [df_gcd] at h
  exact h
end Mx
namespace Mx
open Plate GM Lat CS
theorem over_zero (s : Gauss) (h : s ≠ (0, 0)) : over (0, 0) s = (0, 0) := by
  have := over_times (0, 0) h
  rw [zero_times] at this
  exact this
theorem over_self (s : Gauss) (h : s ≠ (0, 0)) : over s s = (1, 0) := by
  have := over_times (1, 0) h
  have e : times (1, 0) s = s := by unfold times; ext <;> simp
  rw [e] at this
  exact this
theorem joint_first {s : Gauss} (h : s ≠ (0, 0)) : joint (0, 0) s = joint s s := by
  rw [joint_gcd, joint_gcd, gcd_step h, gcd_step h]
  unfold rest
  rw [over_zero s h, over_self s h]
  congr 2
  unfold less times
  ext <;> simp
theorem jointOf_cons {s : Gauss} {r : List Gauss} (h : isScr s.1 s.2 = true) : jointOf (s :: r) = (s :: r).foldl joint s := by
  unfold jointOf
  rw [List.foldl_cons, List.foldl_cons, joint_first (scr_ne h)]
theorem up_of_scr {s : Gauss} (h : isScr s.1 s.2 = true) : up1 s = true := by
  unfold isScr at h
  unfold up1
  simp only [Bool.and_eq_true, decide_eq_true_eq] at h ⊢
  omega
theorem nm_joint_le {u v : Gauss} (hv : v ≠ (0, 0)) : nm (joint u v) ≤ nm v := by
  rw [joint_gcd, nm_upright (gcd_ne hv)]
  exact nm_le_of_dvd hv (gcd_right u v)
theorem joint_fold : ∀ {s : Gauss} (h : isScr s.1 s.2 = true) (l : List Gauss), (∀ u ∈ l, isScr u.1 u.2 = true) → (l.foldl joint s ≠ (0, 0)) ∧ nm (l.foldl joint s) ≤ 64 ∧ up1 (l.foldl joint s) = true := by
  intro s h l
  have gen : ∀ (l : List Gauss) (s : Gauss), s ≠ (0, 0) → nm s ≤ 64 → up1 s = true → (∀ u ∈ l, isScr u.1 u.2 = true) → (l.foldl joint s ≠ (0, 0)) ∧ nm (l.foldl joint s) ≤ 64 ∧ up1 (l.foldl joint s) = true := by
    intro l
    induction l with
    | nil => intro s h1 h2 h3 _; exact ⟨h1, h2, h3⟩
    | cons u r ih =>
      intro s h1 h2 h3 h4
      have hu := h4 u (List.mem_cons_self ..)
      have hn := scr_ne hu
      have g := gcd_ne (u := s) hn
      refine ih (joint s u) (joint_ne hn) (Int.le_trans (nm_joint_le hn) (scr_nm hu)) ?_ fun w hw => h4 w (List.mem_cons_of_mem _ hw)
      rw [joint_gcd]
      exact up_upright g
  exact gen l s (scr_ne h) (scr_nm h) (up_of_scr h)
theorem joint_spec (ns : List Int) (hn : ∀ n ∈ ns, 0 ≤ n) : PyWqaeca.joint ns = if scrs ns = [] then [-1, 0, 0] else
    [nm (jointOf (scrs ns)), 0, 2, (jointOf (scrs ns)).1.toNat, (jointOf (scrs ns)).2.toNat] := by
  have e : PyWqaeca.joint ns = BeatsNeutral.numbersOf (Beats.ofAll (BeatsNeutral.nats ns) (fun _ => true) fun l => Beats.tellsOne (jointOf l)) := rfl
  rw [e, ofAll_eq ns hn]
  split
  · rfl
  · show BeatsNeutral.numbersOf (Beats.tellsOne (jointOf (scrs ns))) = _
    rw [← area_nm]
    rfl
end Mx

/-! beats: the least of rows, the first of them -/
namespace Bt
open Plate GM
section
variable {α : Type}
def stepL (f : α → Nat) (o : Option (α × Nat)) (x : α) : Option (α × Nat) := match o with
  | none => some (x, f x)
  | some y => let n := f x; if n < y.2 then some (x, n) else some y
theorem leastBy_fold (f : α → Nat) (l : List α) : leastBy f l = (l.foldl (stepL f) none).map fun (y : α × Nat) => y.1 := rfl
/-- the best so far, with the next one -/
def better (f : α → Nat) (o : Option α) (x : α) : Option α := match o with
  | none => some x
  | some y => if f x < f y then some x else some y
theorem step_better (f : α → Nat) (o : Option α) (x : α) : stepL f (o.map fun y => (y, f y)) x = (better f o x).map fun y => (y, f y) := by
  cases o with
  | none => rfl
  | some y =>
    show (if f x < f y then some (x, f x) else some (y, f y)) = (if f x < f y then some x else some y).map fun y => (y, f y)
    split <;> rfl
theorem fold_better (f : α → Nat) : ∀ (l : List α) (o : Option α), l.foldl (stepL f) (o.map fun y => (y, f y)) = (l.foldl (better f) o).map fun y => (y, f y)
  | [], _ => rfl
  | x :: l, o => by
    rw [List.foldl_cons, List.foldl_cons, step_better]
    exact fold_better f l _
theorem leastBy_eq (f : α → Nat) (l : List α) : leastBy f l = l.foldl (better f) none := by
  rw [leastBy_fold]
  have h := fold_better f l none
  have e : (none : Option α).map (fun y => (y, f y)) = none := rfl
  rw [e] at h
  rw [h]
  cases l.foldl (better f) none <;> rfl
/-- with those left out that a test leaves out -/
theorem leastBy_filter (f : α → Nat) (p : α → Bool) (l : List α) : leastBy f (l.filter p) = l.foldl (fun o x => if p x then better f o x else o) none := by
  rw [leastBy_eq, List.foldl_filter]
theorem leastBy_snoc (f : α → Nat) (l : List α) (x : α) : leastBy f (l ++ [x]) = better f (leastBy f l) x := by
  rw [leastBy_eq, leastBy_eq, List.foldl_append]
  rfl
end
theorem harm1 : harmonics 1 = [(-1, 0), (0, -1), (0, 1), (1, 0)] := by decide
theorem harm2 : harmonics 2 = [(-1, 0), (0, -1), (0, 1), (1, 0), (-1, -1), (-1, 1), (1, -1), (1, 1)] := by decide
theorem harm3 : harmonics 3 = harmonics 2 := by decide
theorem harm4 : harmonics 4 = harmonics 2 ++ [(-2, 0), (0, -2), (0, 2), (2, 0)] := by decide
theorem harm5 : harmonics 5 = harmonics 4 ++ [(-2, -1), (-2, 1), (-1, -2), (-1, 2), (1, -2), (1, 2), (2, -1), (2, 1)] := by decide
theorem harm6 : harmonics 6 = harmonics 5 := by decide
theorem harm7 : harmonics 7 = harmonics 5 := by decide
theorem harm8 : harmonics 8 = harmonics 5 ++ [(-2, -2), (-2, 2), (2, -2), (2, 2)] := by decide
theorem rows2 (h : Nat) : rowsBy h 2 = (harmonics h).flatMap fun g => (harmonics h).map fun k => [g, k] := by
  have e1 : rowsBy h 1 = (harmonics h).map fun k => [k] := by
    show ((harmonics h).flatMap fun g => [[]].map fun q => g :: q) = _
    rw [List.flatMap_def]
    induction harmonics h with
    | nil => rfl
    | cons a l ih => simp_all
  show ((harmonics h).flatMap fun g => (rowsBy h 1).map fun q => g :: q) = _
  rw [e1]
  simp only [List.map_map]
  rfl
theorem rows3 (h : Nat) : rowsBy h 3 = (harmonics h).flatMap fun g => (harmonics h).flatMap fun k => (harmonics h).map fun l => [g, k, l] := by
  show ((harmonics h).flatMap fun g => (rowsBy h 2).map fun q => g :: q) = _
  rw [rows2]
  congr 1
  funext g
  rw [List.map_flatMap]
  simp only [List.map_map]
  rfl
end Bt

/-! harmonics in their order, rows of them, beats -/
namespace Bt
open Plate GM CS
theorem h8 {P : Nat → Prop} {h : Nat} (h1 : 1 ≤ h) (h2 : h ≤ 8) (p1 : P 1) (p2 : P 2) (p3 : P 3) (p4 : P 4) (p5 : P 5) (p6 : P 6) (p7 : P 7) (p8 : P 8) : P h := by
  have : h = 1 ∨ h = 2 ∨ h = 3 ∨ h = 4 ∨ h = 5 ∨ h = 6 ∨ h = 7 ∨ h = 8 := by omega
  rcases this with rfl | rfl | rfl | rfl | rfl | rfl | rfl | rfl <;> assumption
theorem harm_len {h : Nat} (h1 : 1 ≤ h) (h2 : h ≤ 8) : (harmonics h).length ≤ 24 := by
  revert h1 h2; intro h1 h2
  exact h8 (P := fun h => (harmonics h).length ≤ 24) h1 h2 (by decide) (by decide) (by decide) (by decide) (by decide) (by decide) (by decide) (by decide)
theorem harm_pos {h : Nat} (h1 : 1 ≤ h) (h2 : h ≤ 8) : ((-1, 0) : Gauss) ∈ harmonics h ∧ ((1, 0) : Gauss) ∈ harmonics h := by
  exact h8 (P := fun h => ((-1, 0) : Gauss) ∈ harmonics h ∧ ((1, 0) : Gauss) ∈ harmonics h) h1 h2 (by decide) (by decide) (by decide) (by decide) (by decide) (by decide) (by decide) (by decide)
theorem harm_bd {h : Nat} {g : Gauss} (hg : g ∈ harmonics h) : (-2 ≤ g.1 ∧ g.1 ≤ 2) ∧ -2 ≤ g.2 ∧ g.2 ≤ 2 := by
  unfold harmonics at hg
  simp only [List.mem_flatMap, List.mem_map, List.mem_filter] at hg
  obtain ⟨m, _, i, hi, j, ⟨hj, _⟩, rfl⟩ := hg
  have k : ∀ x ∈ around 2, -2 ≤ x ∧ x ≤ 2 := by decide
  exact ⟨k i hi, k j hj⟩
/-- whole numbers from -h to h -/
def zspan (h : Nat) : List Int := (List.range (2 * h + 1)).map fun (k : Nat) => (-(h : Int)) + (k : Int)
def fits (h : Nat) (i j : Int) : Bool := decide (1 ≤ i * i + j * j) && decide (i * i + j * j ≤ (h : Int))
def frow (i j : Int) : List Int := [i * i + j * j, i, j]
def fj (h : Nat) (i : Int) (js : List Int) : List (List Int) := (js.filter (fits h i)).map (frow i)
def fi (h : Nat) (is : List Int) : List (List Int) := is.flatMap fun i => fj h i (zspan h)
def hrow (g : Gauss) : List Int := [g.1 * g.1 + g.2 * g.2, g.1, g.2]
theorem found_perm {h : Nat} (h1 : 1 ≤ h) (h2 : h ≤ 8) : ((harmonics h).map hrow).Perm (fi h (zspan h)) := by
  exact h8 (P := fun h => ((harmonics h).map hrow).Perm (fi h (zspan h))) h1 h2 (by decide +kernel) (by decide +kernel) (by decide +kernel) (by decide +kernel) (by decide +kernel) (by decide +kernel) (by decide +kernel) (by decide +kernel)
theorem fj_len (h : Nat) (i : Int) (js : List Int) : (fj h i js).length ≤ js.length := by
  unfold fj
  rw [List.length_map]
  exact List.length_filter_le _ _
theorem zspan_len (h : Nat) : (zspan h).length = 2 * h + 1 := by unfold zspan; simp
theorem fi_len (h : Nat) : ∀ is : List Int, (fi h is).length ≤ is.length * (2 * h + 1)
  | [] => by unfold fi; simp
  | i :: is => by
    have ih := fi_len h is
    have e : fi h (i :: is) = fj h i (zspan h) ++ fi h is := by unfold fi; rw [List.flatMap_cons]
    rw [e, List.length_append, List.length_cons, Nat.succ_mul]
    have := fj_len h i (zspan h)
    rw [zspan_len] at this
    omega
theorem fj_ne (h : Nat) (is : List Int) : ∀ r ∈ fi h is, r ≠ [] := by
  intro r hr
  unfold fi fj at hr
  simp only [List.mem_flatMap, List.mem_map] at hr
  obtain ⟨i, _, j, _, rfl⟩ := hr
  unfold frow
  simp
/-! rows -/
theorem rows_snoc (h : Nat) : ∀ k, rowsBy h (k + 1) = (rowsBy h k).flatMap fun r => (harmonics h).map fun g => r ++ [g]
  | 0 => by
    show (harmonics h).flatMap (fun g => [[]].map fun q => g :: q) = ([[]] : List (List Gauss)).flatMap _
    simp [List.flatMap]
    rw [← List.flatMap_def]
    induction harmonics h with
    | nil => rfl
    | cons g l ih => simp [List.flatMap_cons, ih]
  | k + 1 => by
    have ih := rows_snoc h k
    show (harmonics h).flatMap (fun g => (rowsBy h (k + 1)).map fun q => g :: q) = ((harmonics h).flatMap fun g => (rowsBy h k).map fun q => g :: q).flatMap _
    rw [List.flatMap_assoc]
    congr 1
    funext g
    rw [ih, List.map_flatMap, List.flatMap_map]
    congr 1
    funext r
    rw [List.map_map]
    rfl
theorem rows_len (h : Nat) : ∀ k, ∀ r ∈ rowsBy h k, r.length = k
  | 0, r, hr => by
    have : r = [] := by simpa [rowsBy] using hr
    subst this; rfl
  | k + 1, r, hr => by
    rw [rows_snoc] at hr
    simp only [List.mem_flatMap, List.mem_map] at hr
    obtain ⟨q, hq, g, _, rfl⟩ := hr
    rw [List.length_append, rows_len h k q hq]; rfl
theorem rows_mem (h : Nat) : ∀ k, ∀ r ∈ rowsBy h k, ∀ g ∈ r, g ∈ harmonics h
  | 0, r, hr, g, hg => by
    have : r = [] := by simpa [rowsBy] using hr
    subst this; cases hg
  | k + 1, r, hr, g, hg => by
    rw [rows_snoc] at hr
    simp only [List.mem_flatMap, List.mem_map] at hr
    obtain ⟨q, hq, g', hg', rfl⟩ := hr
    rcases List.mem_append.mp hg with h1 | h1
    · exact rows_mem h k q hq g h1
    · have : g = g' := by simpa using h1
      rw [this]; exact hg'
theorem flat_len {α β : Type} (l : List α) (n : Nat) (f : α → List β) (h : ∀ x ∈ l, (f x).length = n) : (l.flatMap f).length = l.length * n := by
  induction l with
  | nil => simp
  | cons x l ih =>
    rw [List.flatMap_cons, List.length_append, h x (List.mem_cons_self ..), ih fun y hy => h y (List.mem_cons_of_mem _ hy), List.length_cons, Nat.succ_mul]
    omega
theorem rows_count (h : Nat) (k : Nat) : (rowsBy h k).length = (harmonics h).length ^ k := by
  induction k with
  | zero => rfl
  | succ k ih =>
    rw [rows_snoc, flat_len _ (harmonics h).length _ (fun _ _ => List.length_map ..), ih, Nat.pow_succ]
/-! beats -/
def stepB (W : Nat) (s : Gauss) (x : Gauss × Gauss) : Gauss := (s.1 + (times x.1 x.2).1 * (W / area x.1 : Nat), s.2 + (times x.1 x.2).2 * (W / area x.1 : Nat))
def pb (W : Nat) (l r : List Gauss) : Gauss := (l.zip r).foldl (stepB W) (0, 0)
theorem beat_pb (l r : List Gauss) : beat l r = pb (whole l) l r := rfl
theorem pb_snoc (W : Nat) (l r : List Gauss) (u g : Gauss) (h : l.length = r.length) : pb W (l ++ [u]) (r ++ [g]) = stepB W (pb W l r) (u, g) := by
  unfold pb
  rw [List.zip_append h, List.foldl_append]
  rfl
theorem flat_snoc (r : List Gauss) (g : Gauss) : Beats.flat (r ++ [g]) = Beats.flat r ++ [g.1, g.2] := by
  unfold Beats.flat
  rw [List.flatMap_append]
  rfl
theorem flat_length (r : List Gauss) : (Beats.flat r).length = 2 * r.length := by
  unfold Beats.flat
  induction r with
  | nil => rfl
  | cons g r ih => rw [List.flatMap_cons, List.length_append, ih, List.length_cons]; simp; omega
/-- a wave over W -/
def wave (W : Nat) (u g : Gauss) : Gauss := times (times u g) ((W : Int) / nm u, 0)
theorem wave_eq (W : Nat) (u g : Gauss) : wave W u g = ((times u g).1 * (W / area u : Nat), (times u g).2 * (W / area u : Nat)) := by
  have e : ((W / area u : Nat) : Int) = (W : Int) / nm u := by rw [← area_nm]; exact Int.natCast_ediv ..
  rw [e]
  unfold wave
  generalize times u g = w
  unfold times
  ext <;> simp
theorem stepB_wave (W : Nat) (s u g : Gauss) : stepB W s (u, g) = (s.1 + (wave W u g).1, s.2 + (wave W u g).2) := by
  rw [wave_eq]; rfl
theorem whole_take (l : List Gauss) (n : Nat) (h : n < l.length) : whole (l.take (n + 1)) = whole (l.take n) * area (l[n]'h) := by
  have e : l.take (n + 1) = l.take n ++ [l[n]'h] := by rw [List.take_add_one, List.getElem?_eq_getElem h]; rfl
  unfold whole
  rw [e, List.map_append, List.prod_append]
  simp
theorem whole_le : ∀ {l : List Gauss}, (∀ u ∈ l, isScr u.1 u.2 = true) → 0 < whole l ∧ whole l ≤ 64 ^ l.length
  | [], _ => by unfold whole; simp
  | u :: l, h => by
    have ih := whole_le (l := l) fun v hv => h v (List.mem_cons_of_mem _ hv)
    have hu := h u (List.mem_cons_self ..)
    have a1 := scr_nm hu
    have a2 := area_nm u
    have a3 := area_pos (scr_ne hu)
    have a4 : area u ≤ 64 := by
      have a1 : nm u ≤ 64 := a1
      omega
    have e : whole (u :: l) = area u * whole l := by unfold whole; rw [List.map_cons, List.prod_cons]
    rw [e, List.length_cons, Nat.pow_succ, Nat.mul_comm]
    exact ⟨Nat.mul_pos ih.1 a3, Nat.mul_le_mul ih.2 a4⟩
/-! what is due -/
theorem order_eq {h : Int} (hh : 0 ≤ h) : Beats.order h.toNat = (decide (1 ≤ h) && decide (h ≤ 8)) := by
  unfold Beats.order
  rw [Bool.eq_iff_iff]
  simp only [Bool.and_eq_true, decide_eq_true_eq]
  omega
theorem lock_spec (h : Int) (ns : List Int) (hn : ∀ n ∈ ns, 0 ≤ n) : PyWqaeca.lock h ns = if scrs ns = [] ∨ Beats.order h.toNat = false then [-1, 0, 0] else
    match Plate.lock (scrs ns) h.toNat with
    | some r => 1 :: 0 :: ((Beats.flat r).length : Int) :: Beats.flat r
    | none => [-4, 0, 0] := by
  have e : PyWqaeca.lock h ns = BeatsNeutral.numbersOf (Beats.ofAll (BeatsNeutral.nats ns) (fun _ => Beats.order h.toNat) fun l => match Plate.lock l h.toNat with
    | some r => ⟨1, [], Beats.flat r⟩
    | none => says (-4)) := rfl
  rw [e, ofAll_eq ns hn]
  cases ho : Beats.order h.toNat with
  | false =>
    by_cases hs : scrs ns = []
    · simp [hs]; rfl
    · simp [hs]; rfl
  | true =>
    by_cases hs : scrs ns = []
    · simp [hs]; rfl
    · simp [hs]
      cases Plate.lock (scrs ns) h.toNat with
      | some r => rfl
      | none => rfl
end Bt
namespace Bt
open Plate GM CS
theorem zspan_get {h n : Nat} (hn : n < 2 * h + 1) : (zspan h)[n]? = some (-(h : Int) + (n : Int)) := by
  unfold zspan
  rw [List.getElem?_map, List.getElem?_range hn]
  rfl
theorem zspan_take {h n : Nat} (hn : n < 2 * h + 1) : (zspan h).take (n + 1) = (zspan h).take n ++ [-(h : Int) + (n : Int)] := by
  rw [List.take_add_one, zspan_get hn]; rfl
theorem fj_snoc (h : Nat) (i : Int) (js : List Int) (j : Int) : fj h i (js ++ [j]) = fj h i js ++ (if fits h i j then [frow i j] else []) := by
  unfold fj
  rw [List.filter_append, List.map_append]
  congr 1
  rw [List.filter_cons]
  split <;> rfl
theorem fi_snoc (h : Nat) (is : List Int) (i : Int) : fi h (is ++ [i]) = fi h is ++ fj h i (zspan h) := by
  unfold fi
  rw [List.flatMap_append, List.flatMap_cons, List.flatMap_nil, List.append_nil]
theorem area_zero_iff (u : Gauss) : area u = 0 ↔ u = (0, 0) := by
  constructor
  · intro h
    refine nm_zero ?_
    rw [← area_nm, h]; rfl
  · rintro rfl; rfl
theorem lock_filter (l : List Gauss) (h : Nat) : Plate.lock l h = ((rowsBy h l.length).filter fun r => decide (beat l r = (0, 0))).head? := by
  unfold Plate.lock
  rw [List.head?_filter]
  congr 1
  funext r
  rw [Bool.eq_iff_iff, beq_iff_eq, decide_eq_true_eq]
  exact area_zero_iff _
end Bt

/-! a lattice's cell, as the program finds it; where classes meet -/
namespace Cq
open Plate GM Lat CS
/-- Euclid's steps on the heights of two places -/
def cr : Nat → Gauss → Gauss → Gauss × Gauss
  | 0, lo, fl => (lo, fl)
  | k + 1, lo, fl => if fl.2 = 0 then (lo, fl) else cr k fl (less lo (times (lo.2 / fl.2, 0) fl))
theorem cr_zero {k : Nat} {lo fl : Gauss} (h : fl.2 = 0) : cr (k + 1) lo fl = (lo, fl) := by
  show (if fl.2 = 0 then (lo, fl) else _) = _
  rw [if_pos h]
theorem cr_step {k : Nat} {lo fl : Gauss} (h : fl.2 ≠ 0) : cr (k + 1) lo fl = cr k fl (less lo (times (lo.2 / fl.2, 0) fl)) := by
  show (if fl.2 = 0 then (lo, fl) else _) = _
  rw [if_neg h]
def slant (z : Gauss) : Int := (cr (z.1.toNat + 1) z (-z.2, z.1)).1.1
structure CI (z : Gauss) (lo fl : Gauss) : Prop where
  dl : Dvd z lo
  df : Dvd z fl
  h0 : 0 ≤ lo.2
  f0 : 0 ≤ fl.2
  hB : lo.2 ≤ nm z
  fB : fl.2 ≤ nm z
  g : Int.gcd lo.2 fl.2 = high z
  sg : (0 ≤ lo.1 ∧ fl.1 ≤ 0) ∨ (lo.1 ≤ 0 ∧ 0 ≤ fl.1)
  ar : (lo.1.natAbs : Int) * fl.2 + lo.2 * (fl.1.natAbs : Int) = nm z
  el : (lo.1.natAbs : Int) ≤ nm z
  ef : (fl.1.natAbs : Int) ≤ nm z
theorem CI.start {z : Gauss} (h1 : 1 ≤ z.1) (h2 : 0 ≤ z.2) : CI z z (-z.2, z.1) := by
  have e1 : z.1 ≤ z.1 * z.1 := by
    have : z.1 * 1 ≤ z.1 * z.1 := Int.mul_le_mul_of_nonneg_left h1 (by omega)
    omega
  have e2 : z.2 ≤ z.2 * z.2 := by
    rcases Int.lt_or_le z.2 1 with q | q
    · have : z.2 = 0 := by omega
      rw [this]; decide
    · have : z.2 * 1 ≤ z.2 * z.2 := Int.mul_le_mul_of_nonneg_left q (by omega)
      omega
  have e3 := sq_nonneg z.1
  have e4 := sq_nonneg z.2
  have e5 : nm z = z.1 * z.1 + z.2 * z.2 := rfl
  refine ⟨dvd_self z, ⟨(0, 1), ?_⟩, h2, ?_, ?_, ?_, ?_, .inl ⟨by omega, ?_⟩, ?_, ?_, ?_⟩
  · unfold times; ext <;> simp
  · show 0 ≤ z.1; omega
  · omega
  · show z.1 ≤ nm z; omega
  · show Int.gcd z.2 z.1 = high z
    rw [Int.gcd_comm]; rfl
  · show -z.2 ≤ 0; omega
  · show (z.1.natAbs : Int) * z.1 + z.2 * ((-z.2).natAbs : Int) = nm z
    have a1 : (z.1.natAbs : Int) = z.1 := by omega
    have a2 : ((-z.2).natAbs : Int) = z.2 := by omega
    rw [a1, a2]; rfl
  · omega
  · show ((-z.2).natAbs : Int) ≤ nm z; omega
theorem CI.step {z lo fl : Gauss} (h : CI z lo fl) (hf : fl.2 ≠ 0) : CI z fl (less lo (times (lo.2 / fl.2, 0) fl)) ∧ 0 ≤ (less lo (times (lo.2 / fl.2, 0) fl)).2 ∧ (less lo (times (lo.2 / fl.2, 0) fl)).2 < fl.2 := by
  have f1 : 0 < fl.2 := by have := h.f0; omega
  generalize hk : lo.2 / fl.2 = k
  have k0 : 0 ≤ k := by rw [← hk]; exact Int.ediv_nonneg h.h0 h.f0
  have r2 : (less lo (times (k, 0) fl)).2 = lo.2 % fl.2 := by
    show lo.2 - (k * fl.2 + 0 * fl.1) = _
    rw [← hk, Int.emod_def, Int.zero_mul, Int.add_zero, Int.mul_comm]
  have r1 : (less lo (times (k, 0) fl)).1 = lo.1 - k * fl.1 := by
    show lo.1 - (k * fl.1 - 0 * fl.2) = _
    rw [Int.zero_mul, Int.sub_zero]
  have m0 := Int.emod_nonneg lo.2 (show fl.2 ≠ 0 from hf)
  have m1 := Int.emod_lt_of_pos lo.2 f1
  have ab : ((lo.1 - k * fl.1).natAbs : Int) = lo.1.natAbs + k * fl.1.natAbs := by
    rcases h.sg with ⟨s1, s2⟩ | ⟨s1, s2⟩
    · have e1 : (fl.1.natAbs : Int) = -fl.1 := by omega
      have e2 : 0 ≤ k * (-fl.1) := Int.mul_nonneg k0 (by omega)
      rw [e1]
      have e3 : k * (-fl.1) = -(k * fl.1) := by grind
      omega
    · have e1 : (fl.1.natAbs : Int) = fl.1 := by omega
      have e2 : 0 ≤ k * fl.1 := Int.mul_nonneg k0 s2
      rw [e1]
      omega
  have hr : fl.2 * ((lo.1 - k * fl.1).natAbs : Int) + (fl.1.natAbs : Int) * (lo.2 % fl.2) = nm z := by
    rw [ab, ← h.ar, Int.emod_def, hk]
    grind
  have hfn : 0 ≤ (fl.1.natAbs : Int) * (lo.2 % fl.2) := Int.mul_nonneg (by omega) m0
  have hle : ((lo.1 - k * fl.1).natAbs : Int) ≤ nm z := by
    have : 1 * ((lo.1 - k * fl.1).natAbs : Int) ≤ fl.2 * ((lo.1 - k * fl.1).natAbs : Int) := Int.mul_le_mul_of_nonneg_right (by omega) (by omega)
    omega
  refine ⟨⟨h.df, dvd_less h.dl (dvd_times _ h.df), h.f0, by rw [r2]; exact m0, h.fB, by rw [r2]; have := h.fB; omega, ?_, ?_, ?_, h.ef, by rw [r1]; exact hle⟩, by rw [r2]; exact m0, by rw [r2]; exact m1⟩
  · rw [r2, ← h.g, Int.gcd_comm lo.2 fl.2]
    show Int.gcd fl.2 (lo.2 % fl.2) = _
    rw [Int.emod_def, Int.gcd_sub_mul_left_right]
  · rw [r1]
    rcases h.sg with ⟨s1, s2⟩ | ⟨s1, s2⟩
    · right
      have e2 : 0 ≤ k * (-fl.1) := Int.mul_nonneg k0 (by omega)
      have e3 : k * (-fl.1) = -(k * fl.1) := by grind
      omega
    · left
      have e2 : 0 ≤ k * fl.1 := Int.mul_nonneg k0 s2
      omega
  · rw [r1, r2]
    rw [← hr]
    grind
theorem CI.done {z lo fl : Gauss} (hz : z ≠ (0, 0)) (h : CI z lo fl) (hf : fl.2 = 0) : (high z : Int) = lo.2 ∧ (wide z : Int) = fl.1.natAbs := by
  have g := h.g
  rw [hf, Int.gcd_zero_right] at g
  have h0 := h.h0
  have e1 : (high z : Int) = lo.2 := by omega
  have ar := h.ar
  rw [hf, Int.mul_zero, Int.zero_add, ← e1, ← area_nm] at ar
  refine ⟨e1, ?_⟩
  have hp := high_pos hz
  have e2 : high z * fl.1.natAbs = area z := by
    have : ((high z * fl.1.natAbs : Nat) : Int) = (area z : Int) := by rw [Int.natCast_mul]; exact ar
    exact Int.ofNat_inj.mp this
  show ((area z / high z : Nat) : Int) = _
  rw [← e2, Nat.mul_div_cancel_left _ hp]
theorem cr_inv {z : Gauss} (h1 : 1 ≤ z.1) (h2 : 0 ≤ z.2) : CI z (cr (z.1.toNat + 1) z (-z.2, z.1)).1 (cr (z.1.toNat + 1) z (-z.2, z.1)).2 ∧ (cr (z.1.toNat + 1) z (-z.2, z.1)).2.2 = 0 := by
  have gen : ∀ (k : Nat) (lo fl : Gauss), CI z lo fl → fl.2.toNat < k → CI z (cr k lo fl).1 (cr k lo fl).2 ∧ (cr k lo fl).2.2 = 0 := by
    intro k
    induction k with
    | zero => intro lo fl _ h; omega
    | succ k ih =>
      intro lo fl h hk
      unfold cr
      split
      · rename_i e; exact ⟨h, e⟩
      · rename_i e
        obtain ⟨a, b, c⟩ := h.step e
        exact ih _ _ a (by omega)
  exact gen _ _ _ (CI.start h1 h2) (by show z.1.toNat < _; omega)
theorem ne_of_pos {z : Gauss} (h1 : 1 ≤ z.1) : z ≠ (0, 0) := by
  rintro rfl
  exact absurd h1 (by decide)
theorem slant_spec {z : Gauss} (h1 : 1 ≤ z.1) (h2 : 0 ≤ z.2) : Dvd z (slant z, (high z : Int)) ∧ ((slant z).natAbs : Int) ≤ nm z := by
  obtain ⟨a, b⟩ := cr_inv h1 h2
  obtain ⟨c, d⟩ := a.done (ne_of_pos h1) b
  have := a.dl
  refine ⟨?_, a.el⟩
  rw [c]
  exact this
/-- a place's spot in the cell -/
def spot (z : Gauss) (x y : Int) : Gauss := ((x - y / (high z : Int) * slant z) % (wide z : Int), y % (high z : Int))
theorem spot_one {z : Gauss} (h1 : 1 ≤ z.1) (h2 : 0 ≤ z.2) (x y : Int) : One z (x, y) (spot z x y) := by
  have hz := ne_of_pos h1
  obtain ⟨s1, _⟩ := slant_spec h1 h2
  have w1 := on_wide hz ((x - y / (high z : Int) * slant z) / (wide z : Int))
  have e : less (x, y) (spot z x y) = plus (times (y / (high z : Int), 0) (slant z, (high z : Int))) ((x - y / (high z : Int) * slant z) / (wide z : Int) * (wide z : Int), 0) := by
    unfold spot less plus times
    simp only
    rw [Int.emod_def, Int.emod_def]
    ext <;> simp only <;> grind
  unfold Lat.One
  rw [e]
  exact dvd_plus (dvd_times _ s1) w1
/-- the number of a place's class -/
def num (z : Gauss) (x y : Int) : Int := (spot z x y).2 * (wide z : Int) + (spot z x y).1
theorem num_nat {z : Gauss} (h1 : 1 ≤ z.1) (h2 : 0 ≤ z.2) (x y : Int) : ∃ c : Nat, c < area z ∧ num z x y = c ∧ place z c = spot z x y := by
  have hz := ne_of_pos h1
  have wp := wide_pos hz
  have hp := high_pos hz
  have a1 := Int.emod_nonneg (x - y / (high z : Int) * slant z) (show (wide z : Int) ≠ 0 by omega)
  have a2 := Int.emod_lt_of_pos (x - y / (high z : Int) * slant z) (show (0 : Int) < wide z by omega)
  have b1 := Int.emod_nonneg y (show (high z : Int) ≠ 0 by omega)
  have b2 := Int.emod_lt_of_pos y (show (0 : Int) < high z by omega)
  obtain ⟨i, ei⟩ := Int.eq_ofNat_of_zero_le a1
  obtain ⟨j, ej⟩ := Int.eq_ofNat_of_zero_le b1
  have es : spot z x y = ((i : Int), (j : Int)) := by unfold spot; rw [ei, ej]
  rw [ei] at a2
  rw [ej] at b2
  have hi : i < wide z := by omega
  have hj : j < high z := by omega
  refine ⟨j * wide z + i, ?_, ?_, ?_⟩
  · rw [area_wh hz]
    have : (j + 1) * wide z ≤ high z * wide z := Nat.mul_le_mul_right _ hj
    rw [Nat.succ_mul] at this
    rw [Nat.mul_comm (wide z)]
    omega
  · unfold num
    rw [es]
    simp
  · rw [es]
    unfold place
    have m1 : (j * wide z + i) % wide z = i := by rw [Nat.add_comm, Nat.add_mul_mod_self_right, Nat.mod_eq_of_lt hi]
    have m2 : (j * wide z + i) / wide z = j := by
      rw [Nat.add_comm, Nat.add_mul_div_right _ _ wp, Nat.div_eq_of_lt hi, Nat.zero_add]
    rw [m1, m2]
theorem num_cls {z : Gauss} (h1 : 1 ≤ z.1) (h2 : 0 ≤ z.2) (x y : Int) : num z x y = (cls z (ne_of_pos h1) x y : Nat) ∧ place z (cls z (ne_of_pos h1) x y) = spot z x y := by
  obtain ⟨c, hc, e1, e2⟩ := num_nat h1 h2 x y
  have e3 : cls z (ne_of_pos h1) x y = c := cls_eq (ne_of_pos h1) hc (by rw [e2]; exact spot_one h1 h2 x y)
  rw [e3]
  exact ⟨e1, e2⟩
theorem spot_spot {z : Gauss} (h1 : 1 ≤ z.1) (h2 : 0 ≤ z.2) (x y : Int) : num z (spot z x y).1 (spot z x y).2 = num z x y := by
  obtain ⟨a, _⟩ := num_cls h1 h2 x y
  obtain ⟨b, _⟩ := num_cls h1 h2 (spot z x y).1 (spot z x y).2
  rw [a, b]
  have : cls z (ne_of_pos h1) (spot z x y).1 (spot z x y).2 = cls z (ne_of_pos h1) x y := (cls_same _).mpr (spot_one h1 h2 x y).symm
  rw [this]
theorem place_eq {z : Gauss} (c : Nat) : place z c = ((c : Int) % (wide z : Int), (c : Int) / (wide z : Int)) := by
  unfold place
  ext <;> simp
/-! meeting -/
def mp (a b u v : Gauss) : Option Gauss := if times (over (less v u) (gcd a b)) (gcd a b) = less v u then some (plus u (times a (times (fac a b) (over (less v u) (gcd a b))))) else none
where fac := Mx.fac
theorem mp_some {a b u v w : Gauss} (h : mp a b u v = some w) : One a w u ∧ One b w v := by
  unfold mp at h
  split at h
  · rename_i e
    have ew := Option.some.inj h
    obtain ⟨r, hr⟩ := Mx.fac_spec a b
    change plus u (times a (times (Mx.fac a b) (over (less v u) (gcd a b)))) = w at ew
    generalize Mx.fac a b = f at hr ew
    generalize over (less v u) (gcd a b) = s at e ew
    subst ew
    refine ⟨⟨times f s, ?_⟩, ⟨times (-r.1, -r.2) s, ?_⟩⟩
    · unfold less plus times
      ext <;> simp only <;> grind
    · rw [hr] at e
      have e1 := congrArg Prod.fst e
      have e2 := congrArg Prod.snd e
      unfold times plus less at e1 e2
      simp only at e1 e2
      unfold less plus times
      ext <;> simp only <;> grind
  · cases h
theorem mp_none {a b u v : Gauss} (hb : b ≠ (0, 0)) (h : mp a b u v = none) : ∀ x y, ¬ (One a (x, y) u ∧ One b (x, y) v) := by
  rintro x y ⟨h1, h2⟩
  unfold mp at h
  split at h
  · cases h
  · rename_i e
    have g1 := dvd_trans (gcd_left a b) h1
    have g2 := dvd_trans (gcd_right a b) h2
    have g3 := dvd_less g1 g2
    have e3 : less (less (x, y) u) (less (x, y) v) = less v u := by unfold less; ext <;> simp only <;> omega
    rw [e3] at g3
    obtain ⟨s, hs⟩ := g3
    refine e ?_
    rw [hs, over_times s (gcd_ne hb)]
theorem meet_spec (c d : Int) (ns : List Int) (hn : ∀ n ∈ ns, 0 ≤ n) (hc : 0 ≤ c) (hd : 0 ≤ d) : PyWqaeca.meet c d ns = match scrs ns with
    | [u, v] => if c < nm u ∧ d < nm v then (match Plate.meet u v c.toNat d.toNat with
      | some n => [(n : Int), 0, 2, ((n % wide (common u v) : Nat) : Int), ((n / wide (common u v) : Nat) : Int)]
      | none => [-4, 0, 0]) else [-1, 0, 0]
    | _ => [-1, 0, 0] := by
  have e : PyWqaeca.meet c d ns = BeatsNeutral.numbersOf (Beats.ofAll (BeatsNeutral.nats ns) (fun (l : List Gauss) => l.length == 2 && (decide (c.toNat < area (l.getD 0 (1, 0))) && decide (d.toNat < area (l.getD 1 (1, 0))))) fun l =>
    match Plate.meet (l.getD 0 (1, 0)) (l.getD 1 (1, 0)) c.toNat d.toNat with
    | some n => tells (n : Nat) [n % wide (Plate.common (l.getD 0 (1, 0)) (l.getD 1 (1, 0))), n / wide (Plate.common (l.getD 0 (1, 0)) (l.getD 1 (1, 0)))]
    | none => says (-4)) := rfl
  rw [e, ofAll_eq ns hn]
  have nope : ∀ l : List Gauss, l.length ≠ 2 → (l.length == 2) = false := fun l h => by simpa using h
  generalize scrs ns = l
  match l with
  | [] => rfl
  | [u] => rfl
  | [u, v] =>
    simp only [List.cons_ne_nil, if_false]
    show BeatsNeutral.numbersOf (if (([u, v] : List Gauss).length == 2 && (decide (c.toNat < area u) && decide (d.toNat < area v))) = true then (match Plate.meet u v c.toNat d.toNat with
      | some n => tells (n : Nat) [n % wide (Plate.common u v), n / wide (Plate.common u v)]
      | none => says (-4)) else says (-1)) = _
    have e1 := area_nm u
    have e2 := area_nm v
    have e3 : (([u, v] : List Gauss).length == 2 && (decide (c.toNat < area u) && decide (d.toNat < area v))) = true ↔ (c < nm u ∧ d < nm v) := by
      show (true && (decide (c.toNat < area u) && decide (d.toNat < area v))) = true ↔ _
      rw [Bool.true_and, Bool.and_eq_true, decide_eq_true_eq, decide_eq_true_eq]
      omega
    by_cases hq : c < nm u ∧ d < nm v
    · rw [if_pos (e3.mpr hq), if_pos hq]
      cases Plate.meet u v c.toNat d.toNat with
      | some n => rfl
      | none => rfl
    · rw [if_neg (fun z => hq (e3.mp z)), if_neg hq]
      rfl
  | u :: v :: w :: r =>
    simp only [List.cons_ne_nil, if_false]
    rw [if_neg]
    · rfl
    · rw [nope _ (by simp)]
      simp
theorem common_up {u v : Gauss} (hu : isScr u.1 u.2 = true) (hv : isScr v.1 v.2 = true) : 1 ≤ (common u v).1 ∧ 0 ≤ (common u v).2 ∧ nm (common u v) ≤ 4096 := by
  have zu := scr_ne hu
  have zv := scr_ne hv
  have h1 := over_ne (times_ne zu zv) (gcd_ne (u := u) zv) (dvd_times _ (gcd_right _ _))
  have h2 := up_upright h1
  rw [common_eq zv] at h2
  unfold up1 at h2
  rw [Bool.and_eq_true, decide_eq_true_eq, decide_eq_true_eq] at h2
  refine ⟨h2.1, h2.2, ?_⟩
  have a1 := nm_common_le zu zv
  have a2 : nm u ≤ 64 := scr_nm hu
  have a3 : nm v ≤ 64 := scr_nm hv
  have a4 := nm_nonneg u
  have a5 := nm_nonneg v
  have a6 : nm u * nm v ≤ 64 * 64 := Int.mul_le_mul a2 a3 a5 (by decide)
  exact Int.le_trans a1 a6
theorem cell_bd {z : Gauss} (hz : z ≠ (0, 0)) : 0 < (wide z : Int) ∧ (wide z : Int) ≤ nm z ∧ 0 < (high z : Int) ∧ (high z : Int) ≤ nm z := by
  have w := wide_pos hz
  have h := high_pos hz
  have e := area_wh hz
  have a := area_nm z
  have w2 : wide z ≤ area z := by rw [e]; exact Nat.le_mul_of_pos_right _ h
  have h2 : high z ≤ area z := by rw [e]; exact Nat.le_mul_of_pos_left _ w
  omega
end Cq

set_option Elab.async false
set_option linter.all false
set_option maxRecDepth 100000
set_option maxHeartbeats 2000000
/-! A LAMBDA AS A KEY: the function object is tracked by what is true of it; min(list, key=lambda ..) -/
namespace Dn
open PySem PySem.Spec PyProof.Rows L2
set_option autoImplicit false
/-- a lambda without captured names stands at q -/
structure LamAt (H : Hp) (q : Addr) (qual : Str) (pr : Arguments) (bd : Expr) (sc : Scope) : Prop where
  ex : ∃ (c' : Addr) (pm ctv : Value), H q = some (.ext fun h => h.get? q = some (PySem.W.kla_obj "<lambda>" qual pr bd sc [] pm c' ctv)) ∧ H c' = some (.ext fun h => h.CodeRec (.ref c') qual)
theorem LamAt.same {H H' : Hp} {q : Addr} {qual : Str} {pr : Arguments} {bd : Expr} {sc : Scope} (h : LamAt H q qual pr bd sc) (s : Same H H') : LamAt H' q qual pr bd sc := by
  obtain ⟨c', pm, ctv, h1, h2⟩ := h.ex
  exact ⟨c', pm, ctv, s _ _ h1, s _ _ h2⟩
section
variable {X : Cx} {pins : List (Addr × Obj)} {σ : St} {H : Hp} {s : Shared}
theorem lam_make {A : Around} {E : Value → Shared → Prop} {c P : Addr} {ps : Array Value} {pr : Arguments} {bd : Expr} {sc : Scope} {lp : Pos} {Q : Value → Shared → Prop} (I : Inv X pins σ H s) (hcode : X.env.code = .ref c) (hC : PySem.W.CodeHd X.base c P) (hB : X.base.BuiltinsAt X.mg P) (hP : H P = some (.tbl ps))
    (ht : TriplesOk ps.toList) (hnf : codeAmong lp ps.toList = none) (hcl : closureFor sc X.env = pure []) (hdef : defaultsOf pr X.env = ([], []))
    (h : ∀ (q : Addr) (H' : Hp) (s' : Shared), Inv X pins σ H' s' → LamAt H' q (X.env.qual ++ "<lambda>") pr bd sc → (∃ ps', H' P = some (.tbl ps')) → (∀ b o, b ≠ P → H b = some o → H' b = some o) → (∀ b, b ≠ P → H b = none → H' b = none ∨ ∀ o, s.heap.get? b ≠ some o) → Q (.ref q) s') :
    wpAny (model X.prog X.w) A (eval (.Lambda pr bd sc lp) X.env) Q E s := by
  have hPs : s.heap.get? P = some (PySem.W.tabObj ps) := I.hok P _ hP
  have hns := I.ok.mod.glob.keeps I.bk
  have hgP : mainGlobals ≠ P := fun z => by
    obtain ⟨o, es, ep, e, hd, _⟩ := hns
    rw [z, hPs] at e
    cases e
    cases hd
  have hB' : s.heap.BuiltinsAt X.mg P := by
    obtain ⟨bm, o, b1, b2, b3, b4, b5, b6⟩ := hB
    exact ⟨bm, o, b1, b2, b3, b4, I.bk _ _ b5, b6⟩
  refine PySem.W.kla_eval hdef (PySem.W.kla_makeFunction (mg := X.mg) hcl I.ok.glob hns hcode (hC.keeps I.bk) hPs ht hnf hgP hB' fun c' ctv h' tk hx hge hlt hrec htb => ?_)
  have nc : H c' = none := I.hok.fresh hge
  have ncP : c' ≠ P := fun z => by rw [z, hP] at nc; cases nc
  have neP : ∀ b, H b = none → b ≠ P := fun b n z => by rw [z, hP] at n; cases n
  have nec : ∀ b o, s.heap.get? b = some o → b ≠ c' := fun b o e => Nat.ne_of_lt (Nat.lt_of_lt_of_le (Heap.lt_size e) hge)
  generalize hmore : (#[rawInt lp.line, rawInt lp.col, Value.ref c'] : Array Value) = more at htb
  obtain ⟨H1, e1⟩ : ∃ H1 : Hp, H1 = upd (upd H P (.tbl (ps ++ more))) c' (.ext fun g => g.CodeRec (.ref c') (X.env.qual ++ "<lambda>")) := ⟨_, rfl⟩
  have h1c : H1 c' = some (.ext fun g => g.CodeRec (.ref c') (X.env.qual ++ "<lambda>")) := by rw [e1]; exact upd_same
  have h1P : H1 P = some (.tbl (ps ++ more)) := by rw [e1, upd_ne ncP.symm]; exact upd_same
  have h1o : ∀ b, b ≠ P → b ≠ c' → H1 b = H b := fun b p1 p2 => by rw [e1, upd_ne p2, upd_ne p1]
  have I1 : Inv X pins σ H1 { s with heap := h', toks := tk } := by
    refine I.un (h' := h') (t' := tk) ⟨fun b o e n _ _ => hx b o (neP b n) e, fun b o e n _ _ => ⟨o.slots, hx b o (neP b n) e⟩, fun b o e n _ => by rw [h1o b (neP b n) (nec b o e)]; exact n, fun b o e _ => ?_, fun b xs e => ?_, fun b o u e => ?_, fun b qs e => ?_⟩ fun b u e => ?_
    · by_cases z : b = P
      · exact ⟨_, z ▸ htb⟩
      · exact ⟨o, hx b o z e⟩
    · rw [h1o b (fun z => by rw [z, hP] at e; cases e) (fun z => by rw [z, nc] at e; cases e)]; exact e
    · rw [h1o b (fun z => by rw [z, hP] at e; cases e) (fun z => by rw [z, nc] at e; cases e)]; exact e
    · by_cases z : b = P
      · subst z
        rw [hP] at e
        cases e
        exact ⟨more, h1P⟩
      · rw [h1o b z (fun z => by rw [z, nc] at e; cases e)]
        exact ⟨#[], by rw [e]; simp⟩
    · by_cases z : b = c'
      · subst z
        rw [h1c] at e
        cases e
        obtain ⟨c2, o, vs, t, q1, q2, q3⟩ := hrec
        cases q1
        refine ⟨⟨_, o, vs, t, rfl, q2, q3⟩, ⟨o, q2⟩, fun g1 g2 p k => ?_⟩
        obtain ⟨c3, o3, vs3, t3, r1, r2, r3⟩ := p
        cases r1
        exact ⟨_, o3, vs3, t3, rfl, k _ r2, r3⟩
      · by_cases z2 : b = P
        · subst z2
          rw [h1P] at e
          cases e
          exact htb
        · rw [h1o b z2 z] at e
          refine (I.hok b u e).stay (fun d v hd q => hx d v ?_ q) (fun d q => ?_) fun d xs q => ?_
          · rcases hd with rfl | hd
            · exact z2
            · exact fun z => by rw [z, hP] at hd; cases hd
          · rw [h1o d (fun z => by rw [z, hP] at q; cases q) (fun z => by rw [z, nc] at q; cases q)]; exact q
          · rw [h1o d (fun z => by rw [z, hP] at q; cases q) (fun z => by rw [z, nc] at q; cases q)]; exact q
  have hself : (h'.push (PySem.W.kla_obj "<lambda>" (X.env.qual ++ "<lambda>") pr bd sc [] ((X.mg "__name__").getD .none) c' ctv)).get? h'.objs.size = some (PySem.W.kla_obj "<lambda>" (X.env.qual ++ "<lambda>") pr bd sc [] ((X.mg "__name__").getD .none) c' ctv) := Heap.get?_push_size _ rfl
  have I2 := I1.laid (a := h'.objs.size) (o := .ext fun g => g.get? h'.objs.size = some (PySem.W.kla_obj "<lambda>" (X.env.qual ++ "<lambda>") pr bd sc [] ((X.mg "__name__").getD .none) c' ctv)) (h' := h'.push (PySem.W.kla_obj "<lambda>" (X.env.qual ++ "<lambda>") pr bd sc [] ((X.mg "__name__").getD .none) c' ctv)) (t' := tk)
    (fun b u e => Heap.get?_push_of_some _ e) (Nat.le_refl _) ⟨hself, ⟨_, hself⟩, fun g1 g2 p k => k _ p⟩
  have nq : H1 h'.objs.size = none := I1.hok.fresh (Nat.le_refl _)
  have neq : ∀ b o, H1 b = some o → b ≠ h'.objs.size := fun b o e => ne_of_none e nq
  refine h _ _ _ I2 ⟨c', _, ctv, upd_same, by rw [upd_ne (neq _ _ h1c)]; exact h1c⟩ ⟨_, by rw [upd_ne (neq _ _ h1P)]; exact h1P⟩ (fun b o n e => ?_) fun b n e => ?_
  · have z : b ≠ c' := ne_of_none e nc
    have e2 : H1 b = some o := by rw [h1o b n z]; exact e
    rw [upd_ne (neq _ _ e2)]; exact e2
  · by_cases z : ∃ o, s.heap.get? b = some o
    · obtain ⟨o, eo⟩ := z
      left
      rw [upd_ne (fun z => ?_), h1o b n (nec b o eo)]
      · exact e
      · exact absurd (Heap.lt_size (hx b o n eo)) (by rw [z]; exact Nat.lt_irrefl _)
    · exact .inr fun o eo => z ⟨o, eo⟩
/-- a call of it -/
theorem lam_call {E : Value → Shared → Prop} {q : Addr} {qual y : Str} {pr : Arguments} {bd : Expr} {sc : Scope} {v : V} {u : Value} {Q : VK} (I : Inv X pins σ H s) (L : LamAt H q qual pr bd sc) (hr : Room 3 X.A) (S : FnScope [y] [y] sc)
    (hb : ∀ (pm cd ct w : Value), bindArgs (PySem.W.kla_fn "<lambda>" qual pr bd sc [] pm cd ct) ⟨[w], []⟩ = pure [(y, w)]) (rv : RelV v u)
    (hrun : ∀ (c' : Addr), PEa (cxOf CX0 X.prog X.w X.K X.mg X.base [y] qual sc q (.ref c') X.A.in1 X.stack s H (fun _ _ _ => False)).nox bd [some v] H Q) :
    wpAny (model X.prog X.w) X.A.in1 (call (.ref q) [u]) (EP X pins σ Q) E s := by
  obtain ⟨c', pm, ctv, hq, hc⟩ := L.ex
  have oq := (I.hok q _ hq).1
  have hrec := (I.hok c' _ hc).1
  have e0 := I.env0.in1
  have lim : s.heap.NoLimit := I.nolimit
  refine wpAny_call (codeAny_mono (R := fun r s' => match r with | .ok (.ret u') => CE X.stack X.prog X.w H s Q u' s' | _ => False) ?_ fun r s' hR => ?_)
  · refine PySem.W.kla_callFunE (body := bd) hr.in1.depth oq rfl S.co S.gen rfl hrec ?_
    rw [hb]
    have hkind : ∀ z ∈ [(y, u)], sc.names.lookup z.1 = some .local ∨ (sc.names.lookup z.1 = some .cell ∧ ((cellsFrom (s.heap.objs.size + 1) sc.names []).lookup z.1).isSome = true) := fun z hz => by
      have ez : z = (y, u) := by simpa using hz
      subst ez
      rcases S.par y (List.mem_cons_self ..) with k | k
      · exact .inl k
      · exact .inr ⟨k, PySem.W.cellsFrom_some _ _ _ (.inl k)⟩
    refine wpAny_pure (wpAny_newFunctionEnv_cells S.kind hkind fun env he s1 x => ?_)
    subst he
    refine ⟨lim.keeps x.toInCall.keep, PySem.W.kla_codeExpr ?_⟩
    have J0 : Inv (cxOf CX0 X.prog X.w X.K X.mg X.base [y] qual sc q (.ref c') X.A.in1 X.stack s H (fun _ _ _ => False)) [] (start [y] [v]) H s1 := inv_start S hr.in1.hd e0 rfl (.cons rv .nil) x
    refine wpAny_mono (hrun c' [] s1 (J0.wish _)) (fun u' s' hE => ?_) fun _ _ z => z.elim
    obtain ⟨v', H', J, rv', hq'⟩ := hE
    exact ⟨v', H', J.os, J.bare, J.base, J.hok, rv', hq'⟩
  · cases r with
    | error e => exact hR.elim
    | ok fl =>
      cases fl with
      | ret u' => exact I.after hR
      | next => exact hR.elim
      | brk => exact hR.elim
      | cont => exact hR.elim
end
end Dn

set_option Elab.async false
set_option linter.all false
set_option maxRecDepth 100000
set_option maxHeartbeats 4000000
namespace Dn
open PySem PySem.Spec PyProof.Rows L2
set_option autoImplicit false
/-- a record of one's own: it may turn -/
def Mine (X : Cx) (pins : List (Addr × Obj)) (b : Addr) : Prop := b ≠ X.env.locals ∧ b ∉ X.fs ∧ (b ∈ X.ex ∨ X.s_0.heap.objs.size ≤ b) ∧ (∀ x c, X.env.cells.lookup x = some c → c ≠ b) ∧ ∀ p ∈ X.pn ++ pins, p.1 ≠ b
section
variable {X : Cx} {pins : List (Addr × Obj)} {σ : St} {H : Hp} {s : Shared}
theorem mine_new (I : Inv X pins σ H s) {b : Addr} (hb : s.heap.objs.size ≤ b) : Mine X pins b := by
  have f := I.fpOk (b := b) hb (I.hok.fresh hb)
  exact ⟨f.2.1, f.2.2.1, f.2.2.2.1, f.2.2.2.2.1, f.2.2.2.2.2⟩
/-- pins on top -/
theorem repin (I : Inv X pins σ H s) {S I0 : Addr} {oS oI : Obj} (hS : s.heap.get? S = some oS) (hI : s.heap.get? I0 = some oI) (nS : H S = none) (nI : H I0 = none) (mS : Mine X pins S) (mI : Mine X pins I0) (cS : ∀ v, oS.data ≠ .cell v) (cI : ∀ v, oI.data ≠ .cell v) :
    Inv X ((S, oS) :: (I0, oI) :: pins) σ H s := by
  refine I.pins_of fun p hp => ?_
  rcases List.mem_cons.mp hp with rfl | hp
  · exact ⟨hS, nS, mS.1, mS.2.1, cS⟩
  · rcases List.mem_cons.mp hp with rfl | hp
    · exact ⟨hI, nI, mI.1, mI.2.1, cI⟩
    · exact I.pin p (List.mem_append_right _ hp)
theorem unpin {a b : Addr × Obj} (I : Inv X (a :: b :: pins) σ H s) : Inv X pins σ H s := I.pins_of fun p hp => I.pin p (List.mem_append_right _ (List.mem_cons_of_mem _ (List.mem_cons_of_mem _ hp)))
theorem turn1 {h' : Heap} {tk : Nat} {b : Addr} (I : Inv X pins σ H s) (k : ∀ d o, d ≠ b → s.heap.get? d = some o → h'.get? d = some o) (n : H b = none) (m : Mine X pins b) : Inv X pins σ H { s with heap := h', toks := tk } :=
  I.turned k n m.1 m.2.2.1 m.2.2.2.1 m.2.2.2.2
end
/-- the first of the least, so far -/
def Best (kf : Nat → Int) (n i : Nat) : Prop := ∀ j, j < n → kf i ≤ kf j ∧ (j < i → kf i < kf j)
theorem Best.keep {kf : Nat → Int} {n i : Nat} (h : Best kf n i) (q : ¬ kf n < kf i) (hi : i < n) : Best kf (n + 1) i := fun j hj => by
  by_cases e : j = n
  · subst e; exact ⟨by omega, fun z => by omega⟩
  · exact h j (by omega)
theorem Best.take {kf : Nat → Int} {n i : Nat} (h : Best kf n i) (q : kf n < kf i) : Best kf (n + 1) n := fun j hj => by
  by_cases e : j = n
  · subst e; exact ⟨Int.le_refl _, fun z => by omega⟩
  · have a := (h j (by omega)).1
    exact ⟨by omega, fun _ => by omega⟩
section
variable {X : Cx} {G H : Hp} {σ : St} {pins : List (Addr × Obj)} {l q : Addr} {vs : List V} {Rr : Result → Shared → Prop} {kf : Nat → Int}
/-- what the key's calls do -/
def KeyOk (X : Cx) (G H : Hp) (σ : St) (q : Addr) (vs : List V) (kf : Nat → Int) : Prop := ∀ (i : Nat) (v : V), vs[i]? = some v → ∀ (Gk Hk : Hp) (pn : List (Addr × Obj)) (s : Shared) (u : Value), Ext G H Gk Hk → Inv X pn σ Hk s → RelV v u →
  wpAny (model X.prog X.w) X.A.in1 (call (.ref q) [u]) (EP X pn σ fun v' H' => v' = .int (kf i) ∧ ∃ G', Ext Gk Hk G' H') (fun _ _ => False) s
theorem iter_ne {h : Heap} {l I0 : Addr} {k : Nat} {its : Array Value} (a : PlainL h l its) (b : h.IsListIter I0 l k) : l ≠ I0 := fun z => by
  obtain ⟨o, n, e1, c1, _⟩ := a
  obtain ⟨o2, e2, c2, _⟩ := b
  rw [z, e2] at e1
  cases e1
  rw [c1] at c2
  injection c2 with z2
  exact absurd z2 (by decide)
theorem min_turns (hA : X.A.handled = none) (hl : SqL X.K G l vs) (key : KeyOk X G H σ q vs kf)
    (hR : ∀ (i : Nat) (v : V) (u : Value) (Gk Hk : Hp) (s' : Shared), vs[i]? = some v → RelV v u → Best kf vs.length i → Ext G H Gk Hk → Inv X pins σ Hk s' → Rr (.ok (.ret u)) s') :
    ∀ (r j i : Nat) (Gk Hk : Hp) (s : Shared) (vb : V) (ub : Value) (tb : Tok) (c : Nat) (S I0 : Addr) (oI : Obj), vs.length - j = r → j ≤ vs.length → Ext G H Gk Hk → Inv X ((S, seqObj "list" #[ub, .int (kf i) tb] c) :: (I0, oI) :: pins) σ Hk s → S ≠ I0 → Mine X pins S → Mine X pins I0 →
      s.heap.IsListIter I0 l j → vs[i]? = some vb → RelV vb ub → i < j → Best kf j i → codeAny (model X.prog X.w) X.A (.builtin "min.loop" ⟨[.ref I0, .ref q, .ref S], []⟩) Rr s := by
  have nm : (toString "min" ++ toString ".loop" : String) = "min.loop" := by decide
  intro r
  induction r with
  | zero =>
    intro j i Gk Hk s vb ub tb c S I0 oI hr hj ek Iv hSI mS mI hit hvb rb hij hbest
    have pS := Iv.pin _ (List.mem_append_right _ (List.mem_cons_self ..))
    have pI := Iv.pin _ (List.mem_append_right _ (List.mem_cons_of_mem _ (List.mem_cons_self ..)))
    obtain ⟨its, rv, hpl, _⟩ := Iv.list ((ek.gg.trans ek.sub).seq hl)
    have hlen : its.toArray.size = vs.length := by rw [List.size_toArray, rv.length]
    have W := Walks.list (prog := X.prog) (w := X.w) (A := X.A.in1) hA I0 l (iter_ne hpl hit) its.toArray
    apply codeAny_builtin PySem.F.entry_min_loop
    rewrite [Around.under_plainId PySem.F.plain_min_loop]
    change wpAny _ X.A.in1 (seqItems? (Value.ref S) >>= _) _ _ s
    refine wpAny_bind (wpAny_seqItems pS.1 rfl ?_)
    change wpAny _ X.A.in1 (tryCatch (pyNext (Value.ref I0)) _ >>= _) _ _ s
    refine wpAny_bind (wpAny_tryCatch (W.done s _ _ ⟨by rw [hlen, show vs.length = j by omega]; exact hit, hpl.isList⟩ fun h' tk' hk' => ?_))
    have I1 := turn1 (h' := h') (tk := tk') (unpin Iv) (fun d o hd e => hk' d o (by simpa using hd) e) pI.2.1 mI
    have oS : h'.get? S = some (seqObj "list" #[ub, .int (kf i) tb] c) := hk' S _ (by simpa using hSI) pS.1
    have sb := Heap.SameBut.update h' S (Obj.mapSeq fun _ => (#[] : Array Value))
    change wpAny _ X.A.in1 (updateSeq S (fun _ => #[]) >>= _) _ _ _
    refine wpAny_bind (wpAny_updateSeq oS rfl (wpAny_bind (wpAny_letGo (wpAny_pure ?_))))
    exact hR i vb ub Gk Hk _ hvb rb (by rw [show vs.length = j by omega]; exact hbest) ek (turn1 (s := { s with heap := h', toks := tk' }) I1 (fun d o hd e => (sb.2 d hd).trans e) pS.2.1 mS)
  | succ r ih =>
    intro j i Gk Hk s vb ub tb c S I0 oI hr hj ek Iv hSI mS mI hit hvb rb hij hbest
    have hlt : j < vs.length := by omega
    have pS := Iv.pin _ (List.mem_append_right _ (List.mem_cons_self ..))
    have pI := Iv.pin _ (List.mem_append_right _ (List.mem_cons_of_mem _ (List.mem_cons_self ..)))
    obtain ⟨its, rv, hpl, _⟩ := Iv.list ((ek.gg.trans ek.sub).seq hl)
    have hlen : its.toArray.size = vs.length := by rw [List.size_toArray, rv.length]
    have W := Walks.list (prog := X.prog) (w := X.w) (A := X.A.in1) hA I0 l (iter_ne hpl hit) its.toArray
    apply codeAny_builtin PySem.F.entry_min_loop
    rewrite [Around.under_plainId PySem.F.plain_min_loop]
    change wpAny _ X.A.in1 (seqItems? (Value.ref S) >>= _) _ _ s
    refine wpAny_bind (wpAny_seqItems pS.1 rfl ?_)
    change wpAny _ X.A.in1 (tryCatch (pyNext (Value.ref I0)) _ >>= _) _ _ s
    refine wpAny_bind (wpAny_tryCatch (W.item j s _ _ (by rw [hlen]; exact hlt) ⟨hit, hpl.isList⟩ fun u h' tk' hP hst' hk' => ?_))
    obtain ⟨v, hv⟩ : ∃ v, vs[j]? = some v := ⟨vs[j], List.getElem?_eq_getElem hlt⟩
    obtain ⟨u2, hu2, ru⟩ := rv.get hv
    have eu : u2 = u := by
      have hP' : its[j]? = some u := by simpa using hP
      rw [hu2] at hP'
      exact Option.some.inj hP'
    subst eu
    obtain ⟨oI', hoI', hoc, hod⟩ := id hst'.1
    have I1 := turn1 (h' := h') (tk := tk') (unpin Iv) (fun d o hd e => hk' d o (by simpa using hd) e) pI.2.1 mI
    have oS : h'.get? S = some (seqObj "list" #[ub, .int (kf i) tb] c) := hk' S _ (by simpa using hSI) pS.1
    have cI : ∀ z, oI'.data ≠ .cell z := fun z hz => by rw [hod] at hz; cases hz
    have I2 := repin (s := { s with heap := h', toks := tk' }) I1 oS hoI' pS.2.1 pI.2.1 mS mI (fun z hz => by cases hz) cI
    change wpAny _ X.A.in1 (tryCatch (holding [u2] (call (Value.ref q) [u2])) _ >>= _) _ _ _
    refine wpAny_bind (wpAny_tryCatch (wpAny_holding (wpAny_mono (key j v hv Gk Hk _ _ u2 ek I2 ru) (fun x s2 he => ?_) fun _ _ hF => hF.elim)))
    obtain ⟨v', H2, I3, rk, ev, G2, e2⟩ := he
    subst ev
    obtain ⟨t2, rfl⟩ := relV_int rk
    have pS2 := I3.pin _ (List.mem_append_right _ (List.mem_cons_self ..))
    have pI2 := I3.pin _ (List.mem_append_right _ (List.mem_cons_of_mem _ (List.mem_cons_self ..)))
    have hit2 : s2.heap.IsListIter I0 l (j + 1) := ⟨oI', pI2.1, hoc, hod⟩
    change wpAny _ X.A.in1 (tryCatch (holding [u2, Value.int (kf j) t2] (richCompare .Lt (Value.int (kf j) t2) (Value.int (kf i) tb) >>= _)) _ >>= _) _ _ s2
    refine wpAny_bind (wpAny_tryCatch (wpAny_holding (wpAny_bind (CmpOf.ints_lt (prog := X.prog) (w := X.w) (A := X.A.in1) (P := fun i v => ∃ t, v = .int (kf i) t) kf (fun i v h => h) j i _ _ _ _ _ ⟨t2, rfl⟩ ⟨tb, rfl⟩ ?_))))
    refine wpAny_bind (wpAny_holding (wpAny_truthy_bool (wpAny_bind (wpAny_letGo (wpAny_pure ?_)))))
    by_cases hb' : kf j < kf i
    · have sb := Heap.SameBut.update s2.heap S (Obj.mapSeq fun _ => #[u2, Value.int (kf j) t2])
      obtain ⟨c2, hc2⟩ : ∃ c2, (s2.heap.update S (Obj.mapSeq fun _ => #[u2, Value.int (kf j) t2])).get? S = some (seqObj "list" #[u2, Value.int (kf j) t2] c2) := ⟨_, get?_update_seq pS2.1 fun _ => #[u2, Value.int (kf j) t2]⟩
      simp only [hb', decide_true, if_true]
      refine wpAny_bind (wpAny_updateSeq pS2.1 rfl (wpAny_bind (wpAny_letGo ?_)))
      rewrite [nm]
      have I4 := turn1 (h' := s2.heap.update S (Obj.mapSeq fun _ => #[u2, Value.int (kf j) t2])) (tk := s2.toks) (unpin I3) (fun d o hd e => (sb.2 d hd).trans e) pS2.2.1 mS
      have oI2 : (s2.heap.update S (Obj.mapSeq fun _ => #[u2, Value.int (kf j) t2])).get? I0 = some oI' := (sb.2 I0 hSI.symm).trans pI2.1
      refine wpAny_pure ⟨plainId_quiet PySem.F.plain_min_loop _, ih (j + 1) j G2 H2 _ v u2 t2 c2 S I0 oI' (by omega) hlt (ek.trans e2) (repin I4 hc2 oI2 pS2.2.1 pI2.2.1 mS mI (fun z hz => by cases hz) cI) hSI mS mI ⟨oI', oI2, hoc, hod⟩ hv ru (Nat.lt_succ_self _) (hbest.take hb')⟩
    · simp only [hb', decide_false, Bool.false_eq_true, if_false]
      refine wpAny_bind (wpAny_letGo ?_)
      rewrite [nm]
      exact wpAny_pure ⟨plainId_quiet PySem.F.plain_min_loop _, ih (j + 1) i G2 H2 s2 vb ub tb c S I0 oI' (by omega) hlt (ek.trans e2) I3 hSI mS mI hit2 hvb rb (by omega) (hbest.keep hb' hij)⟩
/-- min(list, key=f) -/
theorem min_key {E : Value → Shared → Prop} {s : Shared} {Q : Value → Shared → Prop} (hA : X.A.handled = none) (hl : SqL X.K G l vs) (sm : Same G H) (key : KeyOk X G H σ q vs kf) (I : Inv X pins σ H s) (hne : 0 < vs.length)
    (hQ : ∀ (i : Nat) (v : V) (u : Value) (Gk Hk : Hp) (s' : Shared), vs[i]? = some v → RelV v u → Best kf vs.length i → Ext G H Gk Hk → Inv X pins σ Hk s' → Q u s') :
    wpAny (model X.prog X.w) X.A (call (.builtin "min") [.ref l] [(Str.ofString "key", .ref q)]) Q E s := by
  have nm : (toString "min" ++ toString ".loop" : String) = "min.loop" := by decide
  obtain ⟨its, rv, hpl, _⟩ := I.list (sm.seq hl)
  refine kmk_tree PySem.F.kind_min PySem.F.plain_min PySem.F.entry_min (kmk_min_key _ _) ?_
  change wpAny _ X.A.in1 (Builtin.Builtins.bindParams "min" ["key", "default"] 0 ⟨[], [(Str.ofString "key", Value.ref q)]⟩ >>= _) _ _ s
  have hbp : Builtin.Builtins.bindParams "min" ["key", "default"] 0 ⟨[], [(Str.ofString "key", Value.ref q)]⟩ = pure [some (.ref q), none] := rfl
  refine wpAny_bind (wpAny_of_eq hbp (wpAny_bind (wpAny_pure (wpAny_bind (wpAny_pyIter_list hpl.isList (wpAny_bind (wpAny_newList ?_ (Nat.zero_le _))))))))
  rewrite [nm]
  have sz1 : (s.heap.push { cls := .type "list_iterator", data := .fields #[.ref l, .int 0 0] }).objs.size = s.heap.objs.size + 1 := size_push' ..
  have I1 := I.kept (h' := (s.heap.push { cls := .type "list_iterator", data := .fields #[.ref l, .int 0 0] }).push (seqObj "list" #[] 0)) (t' := s.toks) fun b o e => Heap.get?_push_of_some _ (Heap.get?_push_of_some _ e)
  have mI : Mine X pins s.heap.objs.size := mine_new I (Nat.le_refl _)
  have mS : Mine X pins (s.heap.push { cls := .type "list_iterator", data := .fields #[.ref l, .int 0 0] }).objs.size := mine_new I (by rw [sz1]; exact Nat.le_succ _)
  have nI : H s.heap.objs.size = none := I.hok.fresh (Nat.le_refl _)
  have nS : H (s.heap.push { cls := .type "list_iterator", data := .fields #[.ref l, .int 0 0] }).objs.size = none := I.hok.fresh (by rw [sz1]; exact Nat.le_succ _)
  have hSI : (s.heap.push { cls := .type "list_iterator", data := .fields #[.ref l, .int 0 0] }).objs.size ≠ s.heap.objs.size := by rw [sz1]; exact Nat.succ_ne_self _
  have gI : ((s.heap.push { cls := .type "list_iterator", data := .fields #[.ref l, .int 0 0] }).push (seqObj "list" #[] 0)).get? s.heap.objs.size = some { cls := .type "list_iterator", data := .fields #[.ref l, .int 0 0] } := Heap.get?_push_of_some _ (Heap.get?_push_size _ rfl)
  have gS : ((s.heap.push { cls := .type "list_iterator", data := .fields #[.ref l, .int 0 0] }).push (seqObj "list" #[] 0)).get? (s.heap.push { cls := .type "list_iterator", data := .fields #[.ref l, .int 0 0] }).objs.size = some (seqObj "list" #[] 0) := Heap.get?_push_size _ rfl
  generalize (s.heap.push { cls := .type "list_iterator", data := .fields #[.ref l, .int 0 0] }).objs.size = S at mS nS hSI gS
  generalize ((s.heap.push { cls := .type "list_iterator", data := .fields #[.ref l, .int 0 0] }).push (seqObj "list" #[] 0)) = hp1 at I1 gI gS
  generalize s.heap.objs.size = I0 at mI nI hSI gI
  refine wpAny_pure ⟨plainId_quiet PySem.F.plain_min_loop _, ?_⟩
  obtain ⟨its1, rv1, hpl1, _⟩ := I1.list (sm.seq hl)
  have hlen : its1.toArray.size = vs.length := by rw [List.size_toArray, rv1.length]
  have hit : hp1.IsListIter I0 l 0 := ⟨_, gI, rfl, rfl⟩
  have W := Walks.list (prog := X.prog) (w := X.w) (A := X.A.in1) hA I0 l (iter_ne hpl1 hit) its1.toArray
  apply codeAny_builtin PySem.F.entry_min_loop
  rewrite [Around.under_plainId PySem.F.plain_min_loop]
  change wpAny _ X.A.in1 (seqItems? (Value.ref S) >>= _) _ _ _
  refine wpAny_bind (wpAny_seqItems gS rfl ?_)
  change wpAny _ X.A.in1 (tryCatch (pyNext (Value.ref I0)) _ >>= _) _ _ _
  refine wpAny_bind (wpAny_tryCatch (W.item 0 _ _ _ (by rw [hlen]; exact hne) ⟨hit, hpl1.isList⟩ fun u h' tk' hP hst' hk' => ?_))
  obtain ⟨v, hv⟩ : ∃ v, vs[0]? = some v := ⟨vs[0], List.getElem?_eq_getElem hne⟩
  obtain ⟨u2, hu2, ru⟩ := rv1.get hv
  have eu : u2 = u := by
    have hP' : its1[0]? = some u := by simpa using hP
    rw [hu2] at hP'
    exact Option.some.inj hP'
  subst eu
  obtain ⟨oI', hoI', hoc, hod⟩ := id hst'.1
  have I2 := turn1 (h' := h') (tk := tk') I1 (fun d o hd e => hk' d o (by simpa using hd) e) nI mI
  have oS : h'.get? S = some (seqObj "list" #[] 0) := hk' S _ (by simpa using hSI) gS
  have cI : ∀ z, oI'.data ≠ .cell z := fun z hz => by rw [hod] at hz; cases hz
  have I3 := repin I2 oS hoI' nS nI mS mI (fun z hz => by cases hz) cI
  change wpAny _ X.A.in1 (tryCatch (holding [u2] (call (Value.ref q) [u2])) _ >>= _) _ _ _
  refine wpAny_bind (wpAny_tryCatch (wpAny_holding (wpAny_mono (key 0 v hv G H _ _ u2 (.refl sm) I3 ru) (fun x s2 he => ?_) fun _ _ hF => hF.elim)))
  obtain ⟨v', H2, I4, rk, ev, G2, e2⟩ := he
  subst ev
  obtain ⟨t2, rfl⟩ := relV_int rk
  have pS2 := I4.pin _ (List.mem_append_right _ (List.mem_cons_self ..))
  have pI2 := I4.pin _ (List.mem_append_right _ (List.mem_cons_of_mem _ (List.mem_cons_self ..)))
  have sb := Heap.SameBut.update s2.heap S (Obj.mapSeq fun _ => #[u2, Value.int (kf 0) t2])
  obtain ⟨c2, hc2⟩ : ∃ c2, (s2.heap.update S (Obj.mapSeq fun _ => #[u2, Value.int (kf 0) t2])).get? S = some (seqObj "list" #[u2, Value.int (kf 0) t2] c2) := ⟨_, get?_update_seq pS2.1 fun _ => #[u2, Value.int (kf 0) t2]⟩
  change wpAny _ X.A.in1 (updateSeq S (fun _ => #[u2, Value.int (kf 0) t2]) >>= _) _ _ s2
  refine wpAny_bind (wpAny_updateSeq pS2.1 rfl ?_)
  rewrite [nm]
  have I5 := turn1 (h' := s2.heap.update S (Obj.mapSeq fun _ => #[u2, Value.int (kf 0) t2])) (tk := s2.toks) (unpin I4) (fun d o hd e => (sb.2 d hd).trans e) pS2.2.1 mS
  have oI2 : (s2.heap.update S (Obj.mapSeq fun _ => #[u2, Value.int (kf 0) t2])).get? I0 = some oI' := (sb.2 I0 hSI.symm).trans pI2.1
  exact wpAny_pure ⟨plainId_quiet PySem.F.plain_min_loop _, min_turns hA hl key hQ _ 1 0 G2 H2 _ v u2 t2 c2 S I0 oI' rfl hne e2 (repin I5 hc2 oI2 pS2.2.1 pI2.2.1 mS mI (fun z hz => by cases hz) cI) hSI mS mI ⟨oI', oI2, hoc, hod⟩ hv ru (Nat.lt_succ_self _) fun j hj => by
    have e : j = 0 := by omega
    subst e
    exact ⟨Int.le_refl _, fun z => absurd z (Nat.lt_irrefl _)⟩⟩
end
end Dn

set_option Elab.async false
set_option linter.all false
set_option maxRecDepth 100000
set_option maxHeartbeats 4000000
namespace Dn
open PySem PySem.Spec PyProof.Rows L2
set_option autoImplicit false
theorem set_no {S : List Slot} {j i : Nat} {s : Slot} (h : (S.set j .no)[i]? = some s) (hs : s ≠ .no) : i ≠ j ∧ S[i]? = some s := by
  by_cases e : j = i
  · subst e
    by_cases hl : j < S.length
    · rw [List.getElem?_set_self hl] at h
      exact absurd (Option.some.inj h).symm hs
    · rw [List.getElem?_eq_none (by rw [List.length_set]; omega)] at h
      cases h
  · rw [List.getElem?_set_ne e] at h
    exact ⟨fun z => e z.symm, h⟩
/-- the table has grown, and is told no more -/
theorem EnvOk.retab {K : PySem.W.Frag} {G H H' : Hp} {σ : St} {S : List Slot} {j : Nat} {P : Addr} {ps : Array Value} (h : EnvOk K G H σ S) (hP : H P = some (.tbl ps)) (hk : ∀ b o, b ≠ P → H b = some o → H' b = some o) (hun : ∀ i x qs, i ≠ j → S[i]? ≠ some (.tb x qs)) : EnvOk K G H' σ (S.set j .no) := by
  refine ⟨by rw [List.length_set]; exact h.len, fun i t ht => ?_, fun i k as bs q hik h1 h2 h3 h4 => ?_, fun i k p q dx dy c c' fs gs h1 h2 => ?_⟩
  · by_cases hn : t = .no
    · subst hn
      have hi : i < σ.length := by
        have := (List.getElem?_eq_some_iff.mp ht).1
        rw [List.length_set] at this
        rw [h.len]; exact this
      exact ⟨σ[i], List.getElem?_eq_getElem hi, trivial⟩
    · obtain ⟨e, hs⟩ := set_no ht hn
      obtain ⟨o, a1, a2⟩ := h.ok i t hs
      refine ⟨o, a1, ?_⟩
      cases t with
      | no => trivial
      | val d => exact a2
      | ml xs =>
        obtain ⟨p, vs, b1, b2, b3, b4⟩ := a2
        exact ⟨p, vs, b1, b2, hk p _ (fun z => by rw [z, hP] at b3; cases b3) b3, b4⟩
      | mo p dx c ds =>
        obtain ⟨C, fs, b1, b2, b3, b4, b5, b6⟩ := a2
        exact ⟨C, fs, b1, b2, b3, hk p _ (fun z => by rw [z, hP] at b4; cases b4) b4, hk dx _ (fun z => by rw [z, hP] at b5; cases b5) b5, b6⟩
      | tb x qs => exact absurd hs (hun i x qs e)
  · exact h.ne i k as bs q hik (set_no h1 (by intro z; cases z)).2 (set_no h2 (by intro z; cases z)).2 h3 h4
  · exact h.one i k p q dx dy c c' fs gs (set_no h1 (by intro z; cases z)).2 (set_no h2 (by intro z; cases z)).2
theorem Own.no {K : PySem.W.Frag} {H0 : Hp} {σ : St} {S : List Slot} {j : Nat} (h : Own K H0 σ S) : Own K H0 σ (S.set j .no) :=
  ⟨fun i xs p h1 h2 => h.ml i xs p (set_no h1 (by intro z; cases z)).2 h2, fun i p dx c fs h1 => h.mo i p dx c fs (set_no h1 (by intro z; cases z)).2, fun i x ps c P h1 h2 => h.tb i x ps c P (set_no h1 (by intro z; cases z)).2 h2⟩
theorem Best.uniq {kf : Nat → Int} {n i j : Nat} (a : Best kf n i) (b : Best kf n j) (hi : i < n) (hj : j < n) : i = j := by
  have a1 := a j hj
  have b1 := b i hi
  rcases Nat.lt_trichotomy i j with z | z | z
  · have := b1.2 z; omega
  · exact z
  · have := a1.2 z; omega
section
variable {T : Tx} {S : List Slot} {A : AE} {pos : Pos}
theorem ws_minKey {x y lv : Str} {k : Kd} {px pm py kp lp cp : Pos} {pr : Arguments} {bd : Expr} {sc : Scope} {xs : List PyData} {kf : Nat → Int} {i0 jt : Nat} {d0 : PyData} {dn : Str} {S' : List Slot} {TL : Tx} (hg : In ("min" : Str) T.gl) (hy : At T.N T.kd S y (.val (.list xs))) (htab : T.tab = some dn) (hjt : S[jt]? = some (.tb dn #[])) (hun : ∀ i z ps, i ≠ jt → S[i]? ≠ some (.tb z ps))
    (hi0 : xs[i0]? = some d0) (hbest : Best kf xs.length i0) (hkey : ∀ i d, xs[i]? = some d → Ev TL [.val d] bd (.int (kf i))) (hN : TL.N = [lv]) (hL : TL.sc = sc) (hTL : TL.ok) (hfn : ∀ z n R, (z, n, R) ∈ TL.fns → (z, n, R) ∈ T.lfn)
    (he1 : TL.con = []) (he2 : TL.obs = []) (he3 : TL.mks = []) (he4 : TL.mts = []) (he5 : TL.tab = none) (he6 : TL.lfn = []) (hsc : FnScope [lv] [lv] sc) (hx : SetAt T.N T.kd (S.set jt .no) x k (.val d0) S') (ha : A.nx S')
    (hbind : ∀ (ql : Str) (pm cd ct w : Value), bindArgs (PySem.W.kla_fn "<lambda>" ql pr bd sc [] pm cd ct) ⟨[w], []⟩ = pure [(lv, w)] := by intros; rfl) (hcl : ∀ env : Env, closureFor sc env = pure [] := by intro _; rfl) (hdef : ∀ env : Env, defaultsOf pr env = ([], []) := by intro _; rfl)
    (hk : Sto T k := by first | exact .inl rfl | exact .inr ⟨rfl, rfl⟩) (hs : ∀ env : Env, swapsWith (.Call (.Name "min" pm) [.Name y py] [⟨some "key", .Lambda pr bd sc lp, kp⟩] cp) (some (.Name x px)) pos.line env = pure false := by intro _; rfl) :
    Ws T (.Assign [.Name x px] (.Call (.Name "min" pm) [.Name y py] [⟨some "key", .Lambda pr bd sc lp, kp⟩] cp) pos) A S := by
  intro X m Gb G0 H0 σ H ⟨G, hb, e0, en, ow⟩
  obtain ⟨i, h1, h2, h3⟩ := hx.ix
  subst h3
  obtain ⟨l1, l2⟩ := m.sto h1 h2 hk
  obtain ⟨c, P, t1, t2, t3, t4, t5, t6, t7⟩ := (m.tbr dn htab).ex
  obtain ⟨g1, g2, g3⟩ := m.gl hg.mem
  refine PSa.of (ps_set (i := i) (by rw [m.N]; exact m.nd) (by rw [m.N]; exact h1) l1 (pea X _) (hs _) l2) ?_
  intro pins s I
  refine wpAny_Call_Name_kw (ld_blt I g1 (m.blt _ (by decide +kernel)) boot_min ?_ g3 g2)
  have hA := eva_cons (T := T) (S := S) (e := .Name y py) (ev_name hy) eva_nil
  refine callWith_kw ?_
  refine thn (hA.run X m G H σ (fun vs H1 => ∃ G1, Ext G H G1 H1 ∧ DqAll X.K G1 vs [.list xs]) e0.sub en (fun vs G1 H1 e1 r1 => ⟨G1, e1, r1⟩) cp pins s I) fun us s1 hap => ?_
  obtain ⟨vs1, H1, I1, r1, G1, e1, d1⟩ := hap
  obtain ⟨v1, rfl, d2⟩ := dpAll1 d1
  cases d2 with
  | lst hl hd =>
    rename_i l vl
    rw [Vals.ref1 r1]
    obtain ⟨_, _, c2, P2, t8, gP, hP⟩ := en.ok jt _ hjt
    rw [t1] at t8
    cases t8
    have hP1 : H1 P = some (.tbl #[]) := e1.hh _ _ hP
    have gP1 : G1 P = none := e1.away P _ hP gP
    have h0P : H0 P = none := ow.tb jt dn #[] c P hjt t1
    change wpAny _ _ (evalAll [(do let v ← eval (.Lambda pr bd sc lp) X.env; standAt cp; pure v)]) _ _ s1
    refine wpAny_evalAll_cons (wpAny_bind (lam_make I1 t2 t3 t4 hP1 trivial rfl (hcl _) (hdef _) fun q H2 s2 I2 L hp2 hk2 _ => wpAny_bind (wpAny_standAt (wpAny_pure (wpAny_evalAll_nil ?_)))))
    change wpAny _ _ (call (.builtin "min") [Value.ref l] [(Str.ofString "key", Value.ref q)]) _ _ s2
    have sm2 : Same G1 H2 := fun b o e => hk2 b o (fun z => by rw [z, gP1] at e; cases e) (e1.sub b o e)
    have hlen := dpAll_len hd
    have hi0l : i0 < xs.length := (List.getElem?_eq_some_iff.mp hi0).1
    have key : KeyOk X G1 H2 σ q vl kf := by
      intro n v hv Gk Hk pn s3 u ek Ik ru
      have hn : n < xs.length := by rw [← hlen]; exact (List.getElem?_eq_some_iff.mp hv).1
      obtain ⟨v', hv', dv⟩ := dpAll_get hd (List.getElem?_eq_getElem hn)
      have ev : v' = v := by rw [hv] at hv'; exact (Option.some.inj hv').symm
      subst ev
      refine lam_call (y := lv) Ik (L.same ek.hh) (t5.mono (by decide)) hsc (hbind _) ru fun c' => ?_
      generalize hX' : (cxOf CX0 X.prog X.w X.K X.mg X.base [lv] (X.env.qual ++ "<lambda>") sc q (.ref c') X.A.in1 X.stack s3 Hk (fun _ _ _ => False)).nox = X'
      have eK : X'.K = X.K := by subst hX'; rfl
      have mt : Mt X' TL := by
        subst hX'
        have r1 : Room 1 (X.A.in1.deeper (envOfC (X.env.qual ++ "<lambda>") sc s3.heap.objs.size q (.ref c'))) := ((t5.mono (by decide : 3 ≤ 4)).in1).deeper _
        refine ⟨hN.symm, by rw [hN]; exact hsc.nd, hL.symm, hTL, rfl, r1.units, PassesOwn.never, fun _ _ => rfl, fun z n R hz => ?_, m.blt, fun z d hz => (by rw [he1] at hz; cases hz), fun z d hz => (by rw [he2] at hz; cases hz), fun z n R hz => (by rw [he3] at hz; cases hz), fun a z n R hz => (by rw [he4] at hz; cases hz), fun z hz => (by rw [he5] at hz; cases hz), fun z n R hz => (by rw [he6] at hz; cases hz)⟩
        obtain ⟨f', fd', ps', a1, a2, a3, a4⟩ := (m.lfr z n R (hfn z n R hz)).ex
        exact ⟨f', fd', ps', 1, a1, r1, a2, a3, a4⟩
      refine hkey n _ (List.getElem?_eq_getElem hn) X' mt Gk Hk [some v'] _ ek.sub ?_ fun v2 G' H' e r => ?_
      · refine ⟨rfl, fun a t hat => ?_, fun a b as bs p hab z1 => ?_, fun a b p p' dx dy c1 c2 fs gs z1 => ?_⟩
        · cases a with
          | zero =>
            have := Option.some.inj hat
            subst this
            exact ⟨_, rfl, v', rfl, by rw [eK]; exact dp_mono ek.gg _ _ dv⟩
          | succ a => cases hat
        · cases a with
          | zero => cases z1
          | succ a => cases z1
        · cases a with
          | zero => cases z1
          | succ a => cases z1
      · cases r
        exact ⟨rfl, G', e⟩
    refine min_key (I.ok.hd m.calm) hl sm2 key I2 (by omega) fun n v u Gk Hk s' hv ru hbn ek I' => ?_
    have hn : n < vl.length := (List.getElem?_eq_some_iff.mp hv).1
    have en0 : n = i0 := by
      rw [hlen] at hbn hn
      exact hbn.uniq hbest hn hi0l
    subst en0
    obtain ⟨v', hv', dv⟩ := dpAll_get hd hi0
    have ev : v' = v := by rw [hv] at hv'; exact (Option.some.inj hv').symm
    subst ev
    have x1 := e0.trans e1
    have x2 : Ext G0 H0 G1 H2 := ⟨x1.gg, fun b o hbo => hk2 b o (ne_of_none hbo h0P) (x1.hh b o hbo), sm2, x1.away⟩
    refine ⟨v', Hk, I', ru, _, ha, Gk, (hb.trans e1.gg).trans ek.gg, x2.trans ek, ?_, ow.no.val (by rw [List.length_set]; exact en.len)⟩
    exact (((en.ext e1).retab hP1 hk2 hun).ext ek).setVal (dp_mono ek.gg _ _ dv)
end
end Dn

set_option Elab.async false
set_option linter.all false
set_option maxRecDepth 100000
set_option maxHeartbeats 4000000
/-! A DEF THAT MAKES A LAMBDA, and the row of such a def: its code's table is tracked -/
namespace Dn
open PySem PySem.Spec PyProof.Rows L2
set_option autoImplicit false
def spOfT (K : PySem.W.Frag) (dn : Str) (n : Nat) (R : Gr) : Sp := fun vs H Q _ => ∃ (G : Hp) (ds : List PyData) (r : PyData) (H1 : Hp) (c P : Addr), PySem.W.tabIn K dn = some (c, P) ∧ H = upd H1 P (.tbl #[]) ∧ H1 P = none ∧ Same G H1 ∧ DqAll K G vs ds ∧ ds.length = n ∧ R ds r ∧ ∀ v G' H', Ext G H1 G' H' → Dq K G' v r → Q v H'
theorem set_tb {S : List Slot} {j i : Nat} {s : Slot} {x : Str} {ps : Array Value} (h : (S.set j (.tb x ps))[i]? = some s) (hs : s ≠ .tb x ps) : S[i]? = some s := by
  by_cases e : j = i
  · subst e
    by_cases hl : j < S.length
    · rw [List.getElem?_set_self hl] at h
      exact absurd (Option.some.inj h).symm hs
    · rw [List.getElem?_eq_none (by rw [List.length_set]; omega)] at h
      cases h
  · rw [List.getElem?_set_ne e] at h
    exact h
theorem EnvOk.putTb {K : PySem.W.Frag} {G H : Hp} {σ : St} {S : List Slot} {j : Nat} {dn : Str} {ps : Array Value} {c P : Addr} (h : EnvOk K G H σ S) (t : PySem.W.tabIn K dn = some (c, P)) (g : G P = none) (hp : H P = some (.tbl ps)) : EnvOk K G H σ (S.set j (.tb dn ps)) := by
  refine ⟨by rw [List.length_set]; exact h.len, fun i s hi => ?_, fun i k as bs q hik h1 h2 h3 h4 => ?_, fun i k p q dx dy c1 c2 fs gs h1 h2 => ?_⟩
  · by_cases e : s = .tb dn ps
    · subst e
      have hl : i < σ.length := by
        have := (List.getElem?_eq_some_iff.mp hi).1
        rw [List.length_set] at this
        rw [h.len]; exact this
      exact ⟨σ[i], List.getElem?_eq_getElem hl, c, P, t, g, hp⟩
    · exact h.ok i s (set_tb hi e)
  · exact h.ne i k as bs q hik (set_tb h1 (by intro z; cases z)) (set_tb h2 (by intro z; cases z)) h3 h4
  · exact h.one i k p q dx dy c1 c2 fs gs (set_tb h1 (by intro z; cases z)) (set_tb h2 (by intro z; cases z))
section
variable {P : Program} {w : World} {K : PySem.W.Frag} {mg : Str → Option Value} {base : Heap} {T : Tx} {st : Stmt}
theorem fn_okT {x qual dn : Str} {f c Pt : Addr} {oc kV doc pm ct : Value} {od an : Option Addr} {osl : Array (Option Value)} {ps : List Str} {k jt : Nat} {R : Gr} (lk : K.lookup f = some ⟨oc, od, .func (PySem.W.fnOf x qual (defArgs st) (defBody st) (defScope st) .none kV doc pm an (.ref c) ct), osl⟩) (hcd : PySem.W.codeIn K (.ref c) qual = true)
    (ht : PySem.W.tabIn K dn = some (c, Pt)) (hC : PySem.W.CodeHd base c Pt) (hB : base.BuiltinsAt mg Pt) (hk4 : 4 ≤ k) (hsc : T.sc = defScope st) (hbo : T.body = true) (hS : FnScope T.N ps (defScope st)) (hT : T.ok)
    (hfn : ∀ x n R, (x, n, R) ∈ T.fns → Cal0 P w K mg base k x n R) (hbl : ∀ x, x ∈ bl → mg x = none) (hco : ∀ x d, (x, d) ∈ T.con → ∃ u v, mg x = some u ∧ RelV v u ∧ ∀ G : Hp, Dq K G v d)
    (hob : ∀ c fl, (c, fl) ∈ T.obs → Obr K c fl) (hmk : ∀ x n R, (x, n, R) ∈ T.mks → Mk0 P w K mg base k x n R) (hmt : ∀ c m n R, (c, m, n, R) ∈ T.mts → Mt0 P w K mg base k c m n R) (hlf : ∀ x n R, (x, n, R) ∈ T.lfn → Cal0 P w K mg base 1 x n R) (htb : T.tab = some dn)
    (hbody : ∀ ds r, ds.length = ps.length → R ds r → Wp T (defBody st) { nx := fun _ => r = .none, rt := fun d => d = r } ((startS T.N.length ds).set jt (.tb dn #[]))) :
    FnOk P w K mg base CX0 (k + 1) f (PySem.W.fnOf x qual (defArgs st) (defBody st) (defScope st) .none kV doc pm an (.ref c) ct) ps (spOfT K dn ps.length R) := by
  refine fn_of (N := T.N) lk hcd hS (fun vs H Q E h => ?_) fun A outer s H vs Q E hr h => ?_
  · obtain ⟨G, ds, r, H1, c1, P1, _, _, _, _, h1, h2, _⟩ := h
    rw [dpAll_len h1, h2]
  · obtain ⟨G, ds, r, H1, c1, P1, t1, rfl, nP, sm, hd, hl, hR, q⟩ := h
    rw [ht] at t1
    cases t1
    refine ⟨_, (pssa _ _).nox, ?_⟩
    generalize hX : (cxOf CX0 P w K mg base T.N qual (defScope st) f (.ref c) A outer s (upd H1 Pt (.tbl #[])) E).nox = X
    have m : Mt X T := by
      subst hX
      refine ⟨rfl, hS.nd, hsc.symm, hT, rfl, hr.units, PassesOwn.never, fun _ _ => rfl, fun x n R hx => ?_, hbl, hco, hob, fun x n R hx => ?_, fun c x n R hx => ?_, fun z hz => ?_, fun x n R hx => ?_⟩
      · obtain ⟨f', fd', ps', a1, a2, a3, a4⟩ := (hfn x n R hx).ex
        exact ⟨f', fd', ps', k, a1, hr, a2, a3, a4⟩
      · obtain ⟨C', f', fd', ps', i', a0, a1, a2, a3, a4, a5⟩ := (hmk x n R hx).ex
        exact ⟨C', f', fd', ps', i', a1, hr.mono a0, a2, a3, a4, a5⟩
      · obtain ⟨C', f', fd', ps', a1, a2, a3, a4, a5⟩ := (hmt c x n R hx).ex
        exact ⟨C', f', fd', ps', k, a1, hr, a2, a3, a4, a5⟩
      · rw [htb] at hz
        cases hz
        exact ⟨c, Pt, ht, rfl, hC, hB, hr.mono hk4, rfl, rfl⟩
      · obtain ⟨f', fd', ps', a1, a2, a3, a4⟩ := (hlf x n R hx).ex
        exact ⟨f', fd', ps', a1, a2, a3, a4⟩
    have eK : X.K = K := by subst hX; rfl
    have gP : G Pt = none := sm.free nP
    have hH : (upd H1 Pt (.tbl #[])) Pt = some (.tbl #[]) := upd_same
    have s1 : Same H1 (upd H1 Pt (.tbl #[])) := same_upd nP
    generalize upd H1 Pt (.tbl #[]) = H at hH s1
    obtain ⟨en, ow⟩ := start_ok (K := X.K) (G := G) (H := H) (N := T.N) (by rw [eK]; exact hd)
    have ow1 := ow H1
    have en2 : EnvOk X.K G H (L2.start T.N vs) ((startS T.N.length ds).set jt (.tb dn #[])) := en.putTb (by rw [eK]; exact ht) gP hH
    have ow2 : Own X.K H1 (L2.start T.N vs) ((startS T.N.length ds).set jt (.tb dn #[])) := by
      refine ⟨fun i xs p h1 h2 => ow1.ml i xs p (set_tb h1 (by intro z; cases z)) h2, fun i p dx c fs h1 => ow1.mo i p dx c fs (set_tb h1 (by intro z; cases z)), fun i z qs c' P' h1 h2 => ?_⟩
      by_cases e : Slot.tb z qs = .tb dn #[]
      · cases e
        rw [eK, ht] at h2
        cases h2
        exact nP
      · exact ow1.tb i z qs c' P' (set_tb h1 e) h2
    have z := hbody ds r hl hR X m G G H1 (L2.start T.N vs) H ⟨G, fun _ _ h => h, ⟨fun _ _ h => h, s1, sm.trans s1, fun _ _ _ h => h⟩, en2, ow2⟩
    refine z.le ⟨fun σ' H' ⟨S', h1, G', _, h3, _⟩ => ?_, fun v H' ⟨G', d, h1, h2, h3⟩ => ?_, fun _ _ ⟨_, h1, _⟩ => h1.elim, fun _ _ ⟨_, h1, _⟩ => h1.elim⟩
    · have h1 : r = .none := h1
      subst h1
      exact q _ G' H' h3 .non
    · have h1 : d = r := h1
      subst h1
      rw [eK] at h3
      exact q v G' H' h2 h3
end
/-! ### the call -/
open PySem.W (WData WellAll ReadsW OpenSpec Codec)
theorem spec_callT {P : Program} {w : World} {K : PySem.W.Frag} {mg mb : Str → Option Value} {CX : CXT} {k : Nat} {fa c Pt : Addr} {fd : FuncData} {ps : List Str} {sp : Sp} {s₁ : Shared} {vals : List Value} {ds : List WData} {R : PySem.W.WRecords} {cl : Str → Option Addr} {d0 : WData}
    (KX : K.In s₁.heap) (hns : s₁.heap.Ns mainGlobals mg) (hb : s₁.heap.Ns builtinsNs mb) (hbb : ∀ x : Str, x ≠ "__name__" → mb x = bootBuiltins x) (hlim : s₁.heap.NoLimit) (hg : s₁.gens = #[])
    (hC : PySem.W.CodeHd s₁.heap c Pt) (hPt : s₁.heap.get? Pt = some (PySem.W.tabObj #[])) (KP : K.lookup Pt = none) (hBt : s₁.heap.BuiltinsAt mg Pt)
    (hwl : WellAll w.params s₁.heap vals ds) (hpl : plWs ds = true) (hwt : ∀ d ∈ ds, d.weight ≤ 1048576) (hr : Room k callerA)
    (F : ∀ base : Heap, K.In base → base.Ns mainGlobals mg → PySem.W.CodeHd base c Pt → base.BuiltinsAt mg Pt → FnOk P w K mg base CX k fa fd ps sp) (hbind : ∀ (s : Shared) (us : List Value), us.length = ps.length → BindsTo s fd ⟨us, []⟩ (ps.zip us)) (hlen : ds.length = ps.length)
    (hsp : ∀ (H : Hp) (xs : List V), OnlyF H → H Pt = none → DwAll K H xs ds → sp xs (upd H Pt (.tbl #[])) (fun v H' => Dw K H' v d0) fun _ _ _ => False)
    (hCX : ∀ H e s', CX [] H s₁ (fun _ _ _ => False) e s' → False) :
    codeAny (model P w) callerA (.call (.ref fa) ⟨vals, []⟩) (fun r s' => ∃ u as, r = .ok (.ret u) ∧ ReadsW R cl s'.heap u d0 as ∧ OldK s₁.heap s'.heap ∧ s'.os = s₁.os ∧ AllBare s'.gens) s₁ := by
  obtain ⟨A, ho, ar⟩ := area_all ds vals hwl hpl hwt
  have hO : OnlyF (argH K s₁.heap A) := argH_only ar
  have hok : HOk P w (argH K s₁.heap A) s₁.heap := argH_ok ar
  have hS := dw_all KX ar ds vals hwl hpl ho
  have hV := vals_toV ho
  have hK : ∀ b u, argH K s₁.heap A b = some u → K.lookup b = none := fun b u q => (argH_is ar q).1
  have noS : ∀ {b : Addr} {o : Obj}, s₁.heap.get? b = some o → (∀ vs n, o.data ≠ .seq vs n) → argH K s₁.heap A b = none := fun {b o} e d => by
    cases q : argH K s₁.heap A b with
    | none => rfl
    | some u =>
      obtain ⟨_, vs, _, _, ⟨e2, _⟩ | ⟨e2, _⟩⟩ := argH_is ar q
      · rw [e2] at e
        cases e
        exact absurd rfl (d _ _)
      · rw [e2] at e
        cases e
        exact absurd rfl (d _ _)
  generalize argH K s₁.heap A = H0 at hO hok hS hK noS
  have nP : H0 Pt = none := noS hPt fun vs n z => by cases z
  have hsp0 := hsp H0 _ hO nP hS
  have hP' : (upd H0 Pt (.tbl #[])) Pt = some (.tbl #[]) := upd_same
  have hne : ∀ b, b ≠ Pt → (upd H0 Pt (.tbl #[])) b = H0 b := fun b z => upd_ne z
  generalize upd H0 Pt (.tbl #[]) = H at hsp0 hP' hne
  have hokH : HOk P w H s₁.heap := fun b u e => by
    by_cases z : b = Pt
    · subst z
      rw [hP'] at e
      cases e
      exact hPt
    · rw [hne b z] at e
      exact (hok b u e).stay (fun _ _ _ q => q) (fun d q => by rw [hne d (ne_of_none q nP)]; exact q) fun d xs q => by rw [hne d (ne_of_none q nP)]; exact q
  have none_of : ∀ {b : Addr} {o : Obj}, s₁.heap.get? b = some o → (∀ vs n, o.data ≠ .seq vs n) → b ≠ Pt → H b = none := fun e d z => by rw [hne _ z]; exact noS e d
  have base_of : ∀ {b : Addr} {o : Obj}, s₁.heap.get? b = some o → H b = none → (hidT s₁.heap H).get? b = some o := fun e n => hidT_get e n
  have nsK : ∀ {b : Addr} {m : Str → Option Value}, s₁.heap.Ns b m → (hidT s₁.heap H).Ns b m := fun {b m} ⟨o, es, ep, e, d, r⟩ =>
    ⟨o, es, ep, base_of e (none_of e (fun vs n z => by rw [d] at z; cases z) fun z => by rw [z, hPt] at e; cases e; cases d), d, r⟩
  have nK : ∀ b o, K.lookup b = some o → H b = none := fun b o e => by
    have z : b ≠ Pt := fun z => by rw [z, KP] at e; cases e
    rw [hne b z]
    cases q : H0 b with
    | none => rfl
    | some u =>
      rw [hK b u q] at e
      cases e
  have hKb : K.In (hidT s₁.heap H) := fun b o e => base_of (KX b o e) (nK b o e)
  have hM : Mod K mg (hidT s₁.heap H) := ⟨hKb, nsK hns, ⟨mb, nsK hb, hbb⟩, let ⟨mc, h1, h2⟩ := hlim; ⟨mc, nsK h1, h2⟩⟩
  have hCb : PySem.W.CodeHd (hidT s₁.heap H) c Pt := by
    obtain ⟨o, vs, file, tf, flags, tg, inF, text, tt, e1, r1, r2, r3, r4, r5, r6, r7, r8, hne2⟩ := hC
    exact ⟨o, vs, file, tf, flags, tg, inF, text, tt, base_of e1 (none_of e1 (fun vs n z => by rw [r2] at z; cases z) hne2), r1, r2, r3, r4, r5, r6, r7, r8, hne2⟩
  have hBb : (hidT s₁.heap H).BuiltinsAt mg Pt := by
    obtain ⟨bm, o, b1, b2, b3, b4, b5, b6, b7, b8⟩ := hBt
    exact ⟨bm, o, b1, b2, b3, b4, base_of b5 (none_of b5 (fun vs n z => by rw [b8] at z; cases z) b4), b6, b7, b8⟩
  have e0 : Env0 P w K mg (hidT s₁.heap H) callerA [] s₁ H := ⟨rfl, hM, fun b o e => of_hidT e, Nat.le_of_eq (hidT_size _ _), trivial, fun b hb => absurd (show b ∈ ([] : List Addr) from hb) (by simp), hokH, .of_eq hg⟩
  have hl : vals.length = ps.length := by rw [wellAll_len hwl]; exact hlen
  refine codeAny_mono ((F _ hKb (nsK hns) hCb hBb).run callerA [] s₁ H ⟨vals, []⟩ vals (vals.map toV) _ _ hr e0 (hbind s₁ vals hl) hV hsp0) fun r s' x => ?_
  cases r with
  | error e => exact (hCX H e s' x).elim
  | ok fl =>
    cases fl with
    | next => exact False.elim x
    | brk => exact False.elim x
    | cont => exact False.elim x
    | ret u =>
      obtain ⟨v, H', os, bare, un, hok', r', q⟩ := x
      have kept : ∀ b o, b ≠ Pt → s₁.heap.get? b = some o → s'.heap.get? b = some o := fun b o zb e => by
        cases q2 : H b with
        | none => exact un.keep b o e q2 (by intro z; exact absurd (show b ∈ ([] : List Addr) from z) (by simp)) (by simp)
        | some u2 =>
          rw [hne b zb] at q2
          rcases hO b with z | ⟨ob, u3, z⟩
          · rw [q2] at z
            cases z
          · have z1 : H b = some (.frz ob u3) := by rw [hne b zb]; exact z
            have z2 := un.frzs b ob _ z1
            obtain ⟨e1, _⟩ := hokH b _ z1
            obtain ⟨e2, _⟩ := hok' b _ z2
            rw [e] at e1
            cases e1
            exact e2
      obtain ⟨more, hmore⟩ := un.tbls Pt #[] hP'
      have tab' : s'.heap.get? Pt = some (PySem.W.tabObj (#[] ++ more)) := hok' Pt _ hmore
      have KX' : K.In s'.heap := fun b o e => kept b o (fun z => by rw [z, KP] at e; cases e) (KX b o e)
      obtain ⟨as, hrd⟩ := Dw.reads (R := R) (cl := cl) hok' KX' d0 v u q r'
      refine ⟨u, as, rfl, hrd, ⟨fun b o e => ?_, fun b o e => ?_⟩, os, bare⟩
      · by_cases z : b = Pt
        · subst z
          rw [hPt] at e
          cases e
          exact .inr (.inl ⟨(hC.tab hPt).isCodeTable, rfl, #[], more, rfl, tab'⟩)
        · exact .inl (kept b o z e)
      · by_cases z : b = Pt
        · subst z
          exact ⟨_, tab'⟩
        · exact ⟨o, kept b o z e⟩
theorem walk_specT {r : OpenSpec} {k : Nat} {q : Program} {loose : List Str} {XP : (Str → Option Value) → Heap → Prop} {YP : World → Heap → Prop} {d : DefRec} {K : Params → PySem.W.Frag} {CX : CXT} {ps : List Str} {sp : PySem.W.Frag → Sp}
    (hwell : r.wellSaid = true) (hdf : d.params.defaults = []) (hlen : r.args.length = ps.length) (hr : Room k callerA)
    (hY : ∀ (w : World) (h : Heap), YP w h → (K w.params).In h) (hrec : (recsOf q).find? (fun e => e.name == d.name) = some d)
    (F : ∀ (w : World) (mg : Str → Option Value) (fa : Addr) (h : Heap), YP w h → (K w.params).In h → h.Ns mainGlobals mg → mg d.name = some (.ref fa) →
      ∃ (fd : FuncData) (c Pt : Addr), (K w.params).lookup Pt = none ∧ PySem.W.tabIn (K w.params) d.name = some (c, Pt) ∧ (∀ (s : Shared) (us : List Value), us.length = ps.length → BindsTo s fd ⟨us, []⟩ (ps.zip us)) ∧
        ∀ base : Heap, (K w.params).In base → base.Ns mainGlobals mg → PySem.W.CodeHd base c Pt → base.BuiltinsAt mg Pt → FnOk r.prog w (K w.params) mg base CX k fa fd ps (sp (K w.params)))
    (hsp : ∀ (K : PySem.W.Frag) (H : Hp) (xs : List V) (a : Codec.denoteAll r.args) (c Pt : Addr), PySem.W.tabIn K d.name = some (c, Pt) → OnlyF H → H Pt = none → Codec.withinAll r.args a = true → Codec.app r.args r.asked a = true → DwAll K H xs (Codec.encAll r.args a) →
      sp K xs (upd H Pt (.tbl #[])) (fun v H' => Dw K H' v (r.ret.enc (Codec.app r.args r.f a))) fun _ _ _ => False)
    (hCX : ∀ (H : Hp) (s : Shared) (e : Value) (s' : Shared), CX [] H s (fun _ _ _ => False) e s' → False) :
    PySem.W.WalkOS q loose XP YP r d [] (fun f vs => PySem.call f vs) := by
  intro w s_0 s₁ mg mb G Y fa o pm cd doc dV kV ho hd hcd hD hmg hg args vals as hpre hlay hrd hwl hlo
  obtain ⟨a, e1, e2⟩ := PySem.W.os_pre_some hpre
  obtain ⟨e3, hwi⟩ := Codec.encAll_of_decAll r.args args a e1
  subst e3
  have KX := hY w _ Y
  obtain ⟨fd, c, Pt, hnt, hti, hb, hF⟩ := F w mg fa _ Y KX G.T.g hmg
  obtain ⟨hC, hPt⟩ := PySem.W.tab_of G.T KX hrec hti
  have hBt : s₁.heap.BuiltinsAt mg Pt := by
    obtain ⟨bm, ob, b1, b2, b3, b4, b5, b6⟩ := G.T.bmain
    refine ⟨bm, ob, b1, b2, fun z => ?_, fun z => ?_, b3, b4, b5, b6⟩
    · obtain ⟨o2, es, ep, e, hd2, _⟩ := G.T.g
      rw [z, e] at b3
      cases b3
      rw [hd2] at b6
      cases b6
    · rw [z, hPt] at b3
      cases b3
      cases b4
  refine PySem.W.enter_call (codeAny_mono (spec_callT (R := []) (cl := classAt s_0.heap) (d0 := r.ret.enc (Codec.app r.args r.f a)) KX G.T.g G.T.b G.T.builtins G.T.nolimit hg hC hPt hnt hBt hwl (pl_encAll _ _) (layable_weight hlay) hr hF hb (by rw [encAll_len]; exact hlen)
    (fun H xs hO hn hS => hsp (K w.params) H xs a c Pt hti hO hn hwi e2 hS) fun H e s' => hCX H s₁ e s') fun r' s' hq => ?_)
  obtain ⟨u, as', rfl, h1, h2, h3, h4⟩ := hq
  exact ⟨.inl ⟨u, _, as', rfl, fun _ => rfl, h1, (OpenSpec.post_iff hwell hwi _ _).mpr rfl, fun z => Bool.noConfusion (show false = true from z)⟩, h2, h3, h4⟩
end Dn

/-! the slowest beat: the first of the least; there is one; its fraction in least terms -/
namespace Sl
open Plate GM CS Bt
/-- the first of the least, by place -/
theorem least_at {α : Type} (f : α → Nat) : ∀ (n : Nat) (l : List α), l.length = n → 0 < n → ∃ (i : Nat) (r : α), l[i]? = some r ∧ leastBy f l = some r ∧ ∀ (j : Nat) (r' : α), l[j]? = some r' → f r ≤ f r' ∧ (j < i → f r < f r') := by
  intro n
  induction n with
  | zero => intro l _ h; omega
  | succ n ih =>
    intro l hl _
    obtain ⟨x, l', rfl⟩ : ∃ x l', l = l' ++ [x] := by
      have hne : l ≠ [] := by intro z; rw [z] at hl; simp at hl
      exact ⟨l.getLast hne, l.dropLast, (List.dropLast_concat_getLast hne).symm⟩
    have hl' : l'.length = n := by simpa using hl
    rw [leastBy_snoc]
    rcases Nat.eq_zero_or_pos n with hz | hp
    · have e : l' = [] := List.length_eq_zero_iff.mp (by omega)
      subst e
      refine ⟨0, x, rfl, rfl, fun j r' hj => ?_⟩
      cases j with
      | zero =>
        have := Option.some.inj hj
        subst this
        exact ⟨Nat.le_refl _, fun z => by omega⟩
      | succ j => cases hj
    · obtain ⟨i, r, h1, h2, h3⟩ := ih l' hl' hp
      have hi : i < l'.length := (List.getElem?_eq_some_iff.mp h1).1
      rw [h2]
      by_cases q : f x < f r
      · refine ⟨n, x, ?_, ?_, fun j r' hj => ?_⟩
        · rw [List.getElem?_append_right (by omega), hl', Nat.sub_self]; rfl
        · show (if f x < f r then some x else some r) = _
          rw [if_pos q]
        · by_cases e : j < l'.length
          · rw [List.getElem?_append_left e] at hj
            have := (h3 j r' hj).1
            exact ⟨by omega, fun _ => by omega⟩
          · have hjl := (List.getElem?_eq_some_iff.mp hj).1
            rw [List.length_append] at hjl
            have ej : j = n := by simp at hjl; omega
            subst ej
            rw [List.getElem?_append_right (by omega), hl', Nat.sub_self] at hj
            have := Option.some.inj hj
            subst this
            exact ⟨Nat.le_refl _, fun z => by omega⟩
      · refine ⟨i, r, by rw [List.getElem?_append_left hi]; exact h1, ?_, fun j r' hj => ?_⟩
        · show (if f x < f r then some x else some r) = _
          rw [if_neg q]
        · by_cases e : j < l'.length
          · rw [List.getElem?_append_left e] at hj
            exact h3 j r' hj
          · have hjl := (List.getElem?_eq_some_iff.mp hj).1
            rw [List.length_append] at hjl
            have ej : j = n := by simp at hjl; omega
            subst ej
            rw [List.getElem?_append_right (by omega), hl', Nat.sub_self] at hj
            have := Option.some.inj hj
            subst this
            exact ⟨by omega, fun z => by omega⟩
/-! there is one that isn't 0 -/
theorem rows_all (h : Nat) : ∀ (r : List Gauss), (∀ g ∈ r, g ∈ harmonics h) → r ∈ rowsBy h r.length
  | [], _ => by simp [rowsBy]
  | g :: r, hg => by
    show g :: r ∈ (harmonics h).flatMap fun g => (rowsBy h r.length).map fun q => g :: q
    rw [List.mem_flatMap]
    exact ⟨g, hg g (List.mem_cons_self ..), List.mem_map.mpr ⟨r, rows_all h r fun k hk => hg k (List.mem_cons_of_mem _ hk), rfl⟩⟩
theorem foldl_lin (W : Nat) : ∀ (l : List (Gauss × Gauss)) (s : Gauss), l.foldl (stepB W) s = (s.1 + (l.foldl (stepB W) (0, 0)).1, s.2 + (l.foldl (stepB W) (0, 0)).2)
  | [], s => by simp
  | x :: l, s => by
    rw [List.foldl_cons, List.foldl_cons, foldl_lin W l (stepB W s x), foldl_lin W l (stepB W (0, 0) x)]
    unfold stepB
    ext <;> simp only <;> omega
theorem moving_some {l : List Gauss} {h : Nat} (hl : l ≠ []) (hok : ∀ u ∈ l, isScr u.1 u.2 = true) (h1 : 1 ≤ h) (h2 : h ≤ 8) : ∃ r ∈ rowsBy h l.length, beat l r ≠ (0, 0) := by
  obtain ⟨u, t, rfl⟩ : ∃ u t, l = u :: t := by
    cases l with
    | nil => exact absurd rfl hl
    | cons u t => exact ⟨u, t, rfl⟩
  obtain ⟨hm, hp⟩ := harm_pos h1 h2
  have hu := hok u (List.mem_cons_self ..)
  have ht := whole_le (l := t) fun v hv => hok v (List.mem_cons_of_mem _ hv)
  have au := area_pos (scr_ne hu)
  have e : whole (u :: t) = area u * whole t := by unfold whole; rw [List.map_cons, List.prod_cons]
  have ek : whole (u :: t) / area u = whole t := by rw [e, Nat.mul_div_cancel_left _ au]
  have key : ∀ g : Gauss, beat (u :: t) (g :: List.replicate t.length (1, 0)) = (((times u g).1 * (whole t : Nat)) + ((t.zip (List.replicate t.length (1, 0))).foldl (stepB (whole (u :: t))) (0, 0)).1, ((times u g).2 * (whole t : Nat)) + ((t.zip (List.replicate t.length (1, 0))).foldl (stepB (whole (u :: t))) (0, 0)).2) := fun g => by
    rw [beat_pb]
    unfold pb
    rw [List.zip_cons_cons, List.foldl_cons, foldl_lin]
    unfold stepB
    simp only
    rw [ek]
    ext <;> simp only <;> omega
  have mem : ∀ g : Gauss, g ∈ harmonics h → (g :: List.replicate t.length (1, 0)) ∈ rowsBy h (u :: t).length := fun g hg => by
    have := rows_all h (g :: List.replicate t.length (1, 0)) fun k hk => by
      rcases List.mem_cons.mp hk with rfl | hk
      · exact hg
      · rw [(List.mem_replicate.mp hk).2]; exact hp
    rw [List.length_cons, List.length_replicate] at this
    exact this
  by_cases z : beat (u :: t) ((1, 0) :: List.replicate t.length (1, 0)) = (0, 0)
  · refine ⟨_, mem (-1, 0) hm, fun z2 => ?_⟩
    rw [key] at z z2
    have a1 := congrArg Prod.fst z
    have a2 := congrArg Prod.fst z2
    simp only at a1 a2
    have e1 : (times u (1, 0)).1 = u.1 := by unfold times; simp
    have e2 : (times u (-1, 0)).1 = -u.1 := by unfold times; simp
    rw [e1] at a1
    rw [e2] at a2
    have e3 : -u.1 * ((whole t : Nat) : Int) = -(u.1 * ((whole t : Nat) : Int)) := by grind
    have u1 : 1 ≤ u.1 := by
      unfold isScr at hu
      simp only [Bool.and_eq_true, decide_eq_true_eq] at hu
      exact hu.1.1
    have e4 : 0 < u.1 * ((whole t : Nat) : Int) := Int.mul_pos (by omega) (by omega)
    omega
  · exact ⟨_, mem (1, 0) hp, z⟩
/-! sizes -/
theorem wave_bd {W : Nat} {u g : Gauss} (hu : isScr u.1 u.2 = true) (hg : (-2 ≤ g.1 ∧ g.1 ≤ 2) ∧ -2 ≤ g.2 ∧ g.2 ≤ 2) (hW : W ≤ 262144) : (-8388608 ≤ (wave W u g).1 ∧ (wave W u g).1 ≤ 8388608) ∧ (-8388608 ≤ (wave W u g).2 ∧ (wave W u g).2 ≤ 8388608) := by
  rw [wave_eq]
  have hk : W / area u ≤ 262144 := Nat.le_trans (Nat.div_le_self _ _) hW
  generalize W / area u = k at hk
  unfold isScr at hu
  simp only [Bool.and_eq_true, decide_eq_true_eq] at hu
  obtain ⟨⟨a1, a2⟩, ⟨b1, b2⟩, _⟩ := hu
  have m2 : ∀ x y : Int, 0 ≤ x → x ≤ 8 → -2 ≤ y → y ≤ 2 → -16 ≤ x * y ∧ x * y ≤ 16 := fun x y x0 x8 y1 y2 => by
    have e1 : 0 ≤ x * (y + 2) := Int.mul_nonneg x0 (by omega)
    have e2 : 0 ≤ x * (2 - y) := Int.mul_nonneg x0 (by omega)
    have f1 : x * (y + 2) = x * y + 2 * x := by grind
    have f2 : x * (2 - y) = 2 * x - x * y := by grind
    omega
  have p1 := m2 u.1 g.1 (by omega) a2 hg.1.1 hg.1.2
  have p2 := m2 u.2 g.2 b1 b2 hg.2.1 hg.2.2
  have p3 := m2 u.1 g.2 (by omega) a2 hg.2.1 hg.2.2
  have p4 := m2 u.2 g.1 b1 b2 hg.1.1 hg.1.2
  have mk : ∀ x : Int, -32 ≤ x → x ≤ 32 → -8388608 ≤ x * (k : Int) ∧ x * (k : Int) ≤ 8388608 := fun x x1 x2 => by
    have e1 : 0 ≤ (x + 32) * (k : Int) := Int.mul_nonneg (by omega) (by omega)
    have e2 : 0 ≤ (32 - x) * (k : Int) := Int.mul_nonneg (by omega) (by omega)
    have f1 : (x + 32) * (k : Int) = x * (k : Int) + 32 * (k : Int) := by grind
    have f2 : (32 - x) * (k : Int) = 32 * (k : Int) - x * (k : Int) := by grind
    omega
  exact ⟨mk (u.1 * g.1 - u.2 * g.2) (by omega) (by omega), mk (u.1 * g.2 + u.2 * g.1) (by omega) (by omega)⟩
theorem fold_bd {W : Nat} (hW : W ≤ 262144) : ∀ (l : List (Gauss × Gauss)) (s : Gauss) (B : Int), (∀ x ∈ l, isScr x.1.1 x.1.2 = true ∧ ((-2 ≤ x.2.1 ∧ x.2.1 ≤ 2) ∧ -2 ≤ x.2.2 ∧ x.2.2 ≤ 2)) → (-B ≤ s.1 ∧ s.1 ≤ B) → (-B ≤ s.2 ∧ s.2 ≤ B) →
    (-(B + 8388608 * l.length) ≤ (l.foldl (stepB W) s).1 ∧ (l.foldl (stepB W) s).1 ≤ B + 8388608 * l.length) ∧ (-(B + 8388608 * l.length) ≤ (l.foldl (stepB W) s).2 ∧ (l.foldl (stepB W) s).2 ≤ B + 8388608 * l.length)
  | [], s, B, _, h1, h2 => by simp; omega
  | x :: l, s, B, hx, h1, h2 => by
    obtain ⟨k1, k2⟩ := hx x (List.mem_cons_self ..)
    have w := wave_bd (W := W) k1 k2 hW
    have e : stepB W s x = (s.1 + (wave W x.1 x.2).1, s.2 + (wave W x.1 x.2).2) := stepB_wave W s x.1 x.2
    have ih := fold_bd hW l (stepB W s x) (B + 8388608) (fun y hy => hx y (List.mem_cons_of_mem _ hy)) (by rw [e]; simp only; omega) (by rw [e]; simp only; omega)
    rw [List.foldl_cons, List.length_cons]
    push_cast at *
    omega
theorem beat_bd {l r : List Gauss} {h : Nat} (hok : ∀ u ∈ l, isScr u.1 u.2 = true) (hl : l.length ≤ 3) (hr : ∀ g ∈ r, g ∈ harmonics h) (hW : whole l ≤ 262144) : (-25165824 ≤ (beat l r).1 ∧ (beat l r).1 ≤ 25165824) ∧ (-25165824 ≤ (beat l r).2 ∧ (beat l r).2 ≤ 25165824) := by
  have := fold_bd hW (l.zip r) (0, 0) 0 (fun x hx => ⟨hok _ (List.of_mem_zip hx).1, harm_bd (hr _ (List.of_mem_zip hx).2)⟩) ⟨by decide, by decide⟩ ⟨by decide, by decide⟩
  have hz : (l.zip r).length ≤ 3 := by rw [List.length_zip]; omega
  rw [beat_pb]
  unfold pb
  omega
/-! least terms -/
theorem gcd_real : ∀ (k : Nat) (m n : Int), n.natAbs < k → ∃ e : Int, gcd (m, 0) (n, 0) = (e, 0) ∧ e.natAbs = Int.gcd m n
  | 0, _, _, h => by omega
  | k + 1, m, n, h => by
    by_cases hn : n = 0
    · subst hn
      exact ⟨m, gcd_zero _, by rw [Int.gcd_zero_right]⟩
    · have hv : ((n, 0) : Gauss) ≠ (0, 0) := fun z => hn (congrArg Prod.fst z)
      rw [gcd_step hv]
      have hp := area_pos hv
      have o2 : (over (m, 0) (n, 0)).2 = 0 := by
        show nearest ((m : Int) * -0 + 0 * n) (area (n, 0)) = 0
        unfold nearest
        have : (2 * ((m : Int) * -0 + 0 * n) + (area (n, 0) : Nat)) / (2 * (area (n, 0) : Nat)) = ((area (n, 0) : Nat) : Int) / (2 * (area (n, 0) : Nat)) := by simp
        rw [this]
        exact Int.ediv_eq_zero_of_lt (by omega) (by omega)
      have er : rest (m, 0) (n, 0) = (m - (over (m, 0) (n, 0)).1 * n, 0) := by
        unfold rest
        generalize hq : over (m, 0) (n, 0) = q at o2
        unfold less times
        rw [o2]
        ext <;> simp
      have hlt := rest_lt (u := (m, 0)) hv
      rw [er] at hlt ⊢
      generalize (over (m, 0) (n, 0)).1 = q at hlt
      have hab : (m - q * n).natAbs < n.natAbs := by
        unfold area at hlt
        simp only [Int.mul_zero, Int.add_zero, Int.natAbs_mul] at hlt
        exact Nat.lt_of_not_le fun z => absurd (Nat.mul_le_mul z z) (by omega)
      obtain ⟨e, h1, h2⟩ := gcd_real k n (m - q * n) (by omega)
      refine ⟨e, h1, ?_⟩
      rw [h2, Int.gcd_sub_mul_right_right, Int.gcd_comm]
theorem joint_real {m n : Nat} (hm : 0 < m) : joint ((m : Int), 0) ((n : Int), 0) = (((Nat.gcd m n : Nat) : Int), 0) := by
  obtain ⟨e, h1, h2⟩ := gcd_real _ (m : Int) (n : Int) (Nat.lt_succ_self _)
  rw [joint_gcd, h1]
  have hg : Int.gcd (m : Int) (n : Int) = Nat.gcd m n := rfl
  rw [hg] at h2
  have hp : 0 < Nat.gcd m n := Nat.gcd_pos_of_pos_left _ hm
  rw [upright_turns]
  unfold up1 turn
  simp only
  rcases Int.lt_or_le 0 e with q | q
  · rw [if_pos (by simp; omega)]
    ext
    · simp only; omega
    · rfl
  · rw [if_neg (by simp; omega), if_neg (by simp), if_pos (by simp; omega)]
    ext
    · simp only; omega
    · simp
theorem slowest_spec (h : Int) (ns : List Int) (hn : ∀ n ∈ ns, 0 ≤ n) : PyWqaeca.slowest h ns = if scrs ns = [] ∨ Beats.order h.toNat = false then [-1, 0, 0] else
    match Plate.slowest (scrs ns) h.toNat with
    | some r => 1 :: 0 :: (((([((terms (scrs ns) r).1 : Int), ((terms (scrs ns) r).2 : Int)] : List Int) ++ Beats.flat r).length : Nat) : Int) :: ([((terms (scrs ns) r).1 : Int), ((terms (scrs ns) r).2 : Int)] ++ Beats.flat r)
    | none => [-4, 0, 0] := by
  have e : PyWqaeca.slowest h ns = BeatsNeutral.numbersOf (Beats.ofAll (BeatsNeutral.nats ns) (fun _ => Beats.order h.toNat) fun l => match Plate.slowest l h.toNat with
    | some r => ⟨1, [], Plate.ints [(terms l r).1, (terms l r).2] ++ Beats.flat r⟩
    | none => says (-4)) := rfl
  rw [e, ofAll_eq ns hn]
  cases ho : Beats.order h.toNat with
  | false =>
    by_cases hs : scrs ns = []
    · simp [hs]; rfl
    · simp [hs]; rfl
  | true =>
    by_cases hs : scrs ns = []
    · simp [hs]; rfl
    · simp only [hs, false_or, Bool.true_eq_false, if_false, if_true]
      cases Plate.slowest (scrs ns) h.toNat with
      | some r => rfl
      | none => rfl
theorem moving_filter (l : List Gauss) (h : Nat) : ((rowsBy h l.length).filter fun (r : List Gauss) => square l r != 0) = (rowsBy h l.length).filter fun r => !decide (beat l r = (0, 0)) := by
  refine List.filter_congr fun r _ => ?_
  rw [Bool.eq_iff_iff, bne_iff_ne, Bool.not_eq_true', decide_eq_false_iff_not]
  exact not_congr (area_zero_iff (beat l r))
end Sl

set_option Elab.async false
set_option linter.all false
set_option maxRecDepth 100000
set_option maxHeartbeats 4000000

local macro_rules | `(tactic| wtm_at "d_at") => `(tactic| first | with_reducible exact Dn.At.hereL | with_reducible exact Dn.At.hereC | with_reducible exact Dn.At.hereF | ((with_reducible refine' Dn.At.there ?k1); (case k1 => wtm_at "d_at")) | fail "d_at")
local macro_rules | `(tactic| wtm_at "d_set") => `(tactic| first | with_reducible exact Dn.SetAt.here | ((with_reducible refine' Dn.SetAt.there ?k1); (case k1 => wtm_at "d_set")) | fail "d_set")
local macro_rules | `(tactic| wtm_at "d_in") => `(tactic| first | with_reducible exact Dn.In.here | ((with_reducible refine' Dn.In.there ?k1); (case k1 => wtm_at "d_in")) | fail "d_in")
local macro_rules | `(tactic| wtm_at "d_side") => `(tactic| first | assumption | omega | decide | (exact Or.inr ⟨by omega, by omega⟩) | (exact Or.inl ⟨by omega, by omega⟩) | (exact Or.inl ⟨by decide, by decide⟩) | (exact Or.inl ⟨by assumption, by assumption⟩) | (exact Or.inr ⟨by assumption, by assumption⟩) | (exact ⟨by omega, by omega⟩) | (exact Nat.le_of_ble_eq_true rfl) | fail "d_side")
local macro_rules | `(tactic| wtm_at "d_star") => `(tactic| first | (intro _ _; rfl) | fail "d_star")
local macro_rules | `(tactic| wtm_at "d_star1") => `(tactic| first | (intro _; rfl) | fail "d_star1")
local macro_rules | `(tactic| wtm_at "d_fld") => `(tactic| first | with_reducible exact Dn.Fld.here | ((with_reducible refine' Dn.Fld.there ?k1 ?k2); (case k1 => decide); (case k2 => wtm_at "d_fld")) | fail "d_fld")
local macro_rules | `(tactic| wtm_at "d_nof") => `(tactic| first | with_reducible exact Dn.NoF.nil | ((with_reducible refine' Dn.NoF.cons ?k1 ?k2); (case k1 => decide); (case k2 => wtm_at "d_nof")) | fail "d_nof")
local macro_rules | `(tactic| wtm_at "d_bin") => `(tactic| first | with_reducible exact Dn.BinG.op (Dn.BinOk.add _ _) | with_reducible exact Dn.BinG.op (Dn.BinOk.sub _ _) | ((with_reducible refine' Dn.BinG.op (Dn.BinOk.mul _ _ ?k1)); (case k1 => wtm_at "d_side")) | ((with_reducible refine' Dn.BinG.op (Dn.BinOk.fdiv _ _ ?k1)); (case k1 => wtm_at "d_side")) | ((with_reducible refine' Dn.BinG.op (Dn.BinOk.mod _ _ ?k1)); (case k1 => wtm_at "d_side")) | ((with_reducible refine' Dn.BinG.cat ?k1); (case k1 => wtm_at "d_side")) | fail "d_bin")
local macro_rules | `(tactic| wtm_at "d_cmp") => `(tactic| first | with_reducible exact Dn.CmpOk.lt _ _ | with_reducible exact Dn.CmpOk.le _ _ | with_reducible exact Dn.CmpOk.gt _ _ | with_reducible exact Dn.CmpOk.ge _ _ | exact Dn.CmpOk.eq _ _ rfl rfl | exact Dn.CmpOk.ne _ _ rfl rfl | fail "d_cmp")
local macro_rules | `(tactic| wtm_at "d_eva") => `(tactic| first | with_reducible exact Dn.eva_nil | ((with_reducible refine' Dn.eva_cons ?k1 ?k2 ?k3); (case k1 => wtm_at "d_ev"); (case k2 => wtm_at "d_eva"); (case k3 => wtm_at "d_star")) | fail "d_eva")
local macro_rules | `(tactic| wtm_at "d_ix") => `(tactic| first | ((with_reducible refine' Dn.IxOk.tup ?k1); (case k1 => rfl)) | ((with_reducible refine' Dn.IxOk.lst ?k1); (case k1 => rfl)) | fail "d_ix")
local macro_rules | `(tactic| wtm_at "d_len") => `(tactic| first | with_reducible exact Dn.LenOk.lst _ | with_reducible exact Dn.LenOk.tup _ | fail "d_len")
local macro_rules | `(tactic| wtm_at "d_few") => `(tactic| first | decide | (exact Nat.le_of_ble_eq_true rfl) | fail "d_few")
local macro_rules | `(tactic| wtm_at "d_call") => `(tactic| first | (constructor <;> wtm_at "d_side") | fail "d_call")
local macro_rules | `(tactic| wtm_at "d_sc") => `(tactic| (intro hsc; (try simp only [Bool.and_eq_true, Bool.or_eq_false_iff, decide_eq_true_eq, decide_eq_false_iff_not] at hsc); first | wtm_at "d_ev" | wtm_at "d_evw" | fail "d_sc"))
local macro_rules | `(tactic| wtm_at "d_ev") => `(tactic| first
  | with_reducible exact Dn.ev_int
  | with_reducible exact Dn.ev_bool
  | ((with_reducible refine' Dn.ev_name ?k1); (case k1 => wtm_at "d_at"))
  | ((with_reducible refine' Dn.ev_con ?k1 ?k2); (case k1 => wtm_at "d_in"); (case k2 => wtm_at "d_in"))
  | ((with_reducible refine' Dn.ev_ixM ?k1 ?k2 ?k3 ?k4); (case k1 => wtm_at "d_at"); (case k2 => wtm_at "d_ev"); (case k3 => rfl); (case k4 => wtm_at "d_star"))
  | ((with_reducible refine' Dn.ev_ix ?k1 ?k2 ?k3 ?k4); (case k1 => wtm_at "d_ev"); (case k2 => wtm_at "d_ev"); (case k3 => wtm_at "d_ix"); (case k4 => wtm_at "d_star"))
  | ((with_reducible refine' Dn.ev_neg ?k1); (case k1 => wtm_at "d_ev"))
  | ((with_reducible refine' Dn.ev_not ?k1); (case k1 => wtm_at "d_ev"))
  | ((with_reducible refine' Dn.ev_binG ?k1 ?k2 ?k3); (case k1 => wtm_at "d_ev"); (case k2 => wtm_at "d_ev"); (case k3 => wtm_at "d_bin"))
  | ((with_reducible refine' Dn.ev_tup ?k1 ?k2); (case k1 => wtm_at "d_eva"); (case k2 => wtm_at "d_few"))
  | ((with_reducible refine' Dn.ev_list ?k1 ?k2); (case k1 => wtm_at "d_eva"); (case k2 => wtm_at "d_few"))
  | ((with_reducible refine' Dn.ev_cmp ?k1 ?k2 ?k3); (case k1 => wtm_at "d_ev"); (case k2 => wtm_at "d_ev"); (case k3 => wtm_at "d_cmp"))
  | ((with_reducible refine' Dn.ev_chain ?k1 ?k2 ?k3 ?k4 ?k5 ?k6); (case k1 => wtm_at "d_ev"); (case k2 => wtm_at "d_ev"); (case k3 => wtm_at "d_ev"); (case k4 => wtm_at "d_cmp"); (case k5 => wtm_at "d_cmp"); (case k6 => with_unfolding_all rfl))
  | ((with_reducible refine' Dn.ev_one ?k1); (case k1 => wtm_at "d_ev"))
  | ((with_reducible refine' Dn.ev_and ?k1 ?k2); (case k1 => wtm_at "d_ev"); (case k2 => wtm_at "d_sc"))
  | ((with_reducible refine' Dn.ev_or ?k1 ?k2); (case k1 => wtm_at "d_ev"); (case k2 => wtm_at "d_sc"))
  | ((with_reducible refine' Dn.ev_call ?k1 ?k2 ?k3 ?k4 ?k5 ?k6); (case k1 => wtm_at "d_in"); (case k2 => wtm_at "d_in"); (case k3 => wtm_at "d_eva"); (case k4 => rfl); (case k5 => wtm_at "d_call"); (case k6 => wtm_at "d_star"))
  | ((with_reducible refine' Dn.ev_attr ?k1 ?k2 ?k3 ?k4 ?k5); (case k1 => wtm_at "d_ev"); (case k2 => wtm_at "d_in"); (case k3 => wtm_at "d_in"); (case k4 => wtm_at "d_fld"); (case k5 => wtm_at "d_star1"))
  | ((with_reducible refine' Dn.ev_meth ?k1 ?k2 ?k3 ?k4 ?k5 ?k6 ?k7 ?k8); (case k1 => wtm_at "d_ev"); (case k2 => wtm_at "d_in"); (case k3 => wtm_at "d_nof"); (case k4 => wtm_at "d_eva"); (case k5 => rfl); (case k6 => wtm_at "d_call"); (case k7 => wtm_at "d_star"); (case k8 => wtm_at "d_star1"))
  | ((with_reducible refine' Dn.ev_make ?k1 ?k2 ?k3 ?k4 ?k5 ?k6); (case k1 => wtm_at "d_in"); (case k2 => wtm_at "d_in"); (case k3 => wtm_at "d_eva"); (case k4 => rfl); (case k5 => wtm_at "d_call"); (case k6 => wtm_at "d_star"))
  | ((with_reducible refine' Dn.ev_len ?k1 ?k2 ?k3 ?k4); (case k1 => wtm_at "d_in"); (case k2 => wtm_at "d_ev"); (case k3 => wtm_at "d_len"); (case k4 => wtm_at "d_star"))
  | ((with_reducible refine' Dn.ev_abs ?k1 ?k2 ?k3); (case k1 => wtm_at "d_in"); (case k2 => wtm_at "d_ev"); (case k3 => wtm_at "d_star"))
  | ((with_reducible refine' Dn.ev_min2 ?k1 ?k2 ?k3 ?k4 ?k5); (case k1 => wtm_at "d_in"); (case k2 => wtm_at "d_ev"); (case k3 => wtm_at "d_ev"); (case k4 => wtm_at "d_star"); (case k5 => wtm_at "d_star"))
  | ((with_reducible refine' Dn.ev_max2 ?k1 ?k2 ?k3 ?k4 ?k5); (case k1 => wtm_at "d_in"); (case k2 => wtm_at "d_ev"); (case k3 => wtm_at "d_ev"); (case k4 => wtm_at "d_star"); (case k5 => wtm_at "d_star"))
  | ((with_reducible refine' Dn.ev_ifI ?k1 ?k2 ?k3); (case k1 => wtm_at "d_evt"); (case k2 => wtm_at "d_sc"); (case k3 => wtm_at "d_sc"))
  | fail "d_ev")
local macro_rules | `(tactic| wtm_at "d_evt") => `(tactic| first
  | ((with_reducible refine' Dn.evt_cmp ?k1 ?k2 ?k3); (case k1 => wtm_at "d_ev"); (case k2 => wtm_at "d_ev"); (case k3 => wtm_at "d_cmp"))
  | ((with_reducible refine' Dn.evt_chain ?k1 ?k2 ?k3 ?k4 ?k5 ?k6); (case k1 => wtm_at "d_ev"); (case k2 => wtm_at "d_ev"); (case k3 => wtm_at "d_ev"); (case k4 => wtm_at "d_cmp"); (case k5 => wtm_at "d_cmp"); (case k6 => with_unfolding_all rfl))
  | ((with_reducible refine' Dn.evt_not ?k1); (case k1 => wtm_at "d_evt"))
  | ((with_reducible refine' Dn.EvW.t ?k1); (case k1 => wtm_at "d_evw"))
  | ((with_reducible refine' Dn.evt_val ?k1 ?k2); (case k1 => wtm_at "d_ev"); (case k2 => wtm_at "d_star"))
  | fail "d_evt")
local macro_rules | `(tactic| wtm_at "d_evw") => `(tactic| first
  | ((with_reducible refine' Dn.evw_and1 ?k1); (case k1 => wtm_at "d_evt"))
  | ((with_reducible refine' Dn.evw_or1 ?k1); (case k1 => wtm_at "d_evt"))
  | ((with_reducible refine' Dn.evw_and ?k1 ?k2); (case k1 => wtm_at "d_evt"); (case k2 => wtm_at "d_sc"))
  | ((with_reducible refine' Dn.evw_or ?k1 ?k2); (case k1 => wtm_at "d_evt"); (case k2 => wtm_at "d_sc"))
  | fail "d_evw")

namespace Cm
open PySem PySem.Spec PyProof.Rows L2 Dn Plate
def top (i : Nat) : Stmt := PySem.Challenge.pw_screenbeats_s05_slowest.main.body.getD i (.Pass ⟨0, 0, 0, 0⟩)
abbrev sAnswer : Stmt := top 1
abbrev sRefusal : Stmt := top 2
abbrev sIsScreen : Stmt := top 3
abbrev sScreensOf : Stmt := top 4
abbrev sArea : Stmt := top 5
abbrev sPlus : Stmt := top 6
abbrev sMinus : Stmt := top 7
abbrev sTimes : Stmt := top 8
abbrev sNearest : Stmt := top 9
abbrev sQuotient : Stmt := top 10
abbrev sDivisorAndFactor : Stmt := top 11
abbrev sGreatestDivisor : Stmt := top 12
abbrev sUpright : Stmt := top 13
abbrev sJointOf : Stmt := top 14
abbrev sHarmonics : Stmt := top 15
abbrev sProductOfAreas : Stmt := top 16
abbrev sWavesOf : Stmt := top 17
abbrev sBeatsOf : Stmt := top 18
abbrev sLeastTerms : Stmt := top 19
abbrev sIsOrder : Stmt := top 20
abbrev sSlowest : Stmt := top 21
abbrev Bd (a : Int) : Prop := -1152921504606846976 < a ∧ a < 1152921504606846976
abbrev pg (u : Gauss) : PyData := .tuple [.int u.1, .int u.2]
section
variable {P : Program} {w : World} {K : PySem.W.Frag} {mg : Str → Option Value} {base : Heap} {f : Addr} {fd : FuncData}
inductive RAnswer : Gr
  | mk (n : Int) (xs : List PyData) : xs.length ≤ 1000 → RAnswer [.int n, .list xs] (.list ([.int n, .int 0, .int xs.length] ++ xs))
abbrev tAnswer : Tx := ⟨["number", "told"], [.loc, .loc], ["len"], defScope sAnswer, [], true, [], [], [], [], none, []⟩
theorem ok_Answer (F : Fun K "answer" "answer" sAnswer f fd) (hbl : ∀ x, x ∈ bl → mg x = none) :
    FnOk P w K mg base CX0 1 f fd ["number", "told"] (spOf K 2 RAnswer) := by
  refine fn_ok (T := tAnswer) F rfl rfl ⟨rfl, rfl, rfl, by decide +kernel, rfl, by decide +kernel, by decide +kernel⟩ (by decide +kernel) (fun _ _ _ h => nomatch h) hbl (fun _ _ h => nomatch h) (fun _ _ h => nomatch h) (fun _ _ _ h => nomatch h) (fun _ _ _ _ h => nomatch h) fun ds r hl h => ?_
  cases h with
  | mk n xs hx =>
    show Wp tAnswer _ _ [.val (.int n), .val (.list xs)]
    refine wp_cons (ws_ret (d := .list ([.int n, .int 0, .int xs.length] ++ xs)) ?_ rfl)
    have h1 : ([PyData.int n, .int 0, .int xs.length]).length + xs.length ≤ sizeLine := Nat.le_trans (Nat.add_le_add_left hx 3) (by decide)
    wtm_at "d_ev"
inductive RRefusal : Gr
  | mk (n : Int) : RRefusal [.int n] (.list [.int n, .int 0, .int 0])
abbrev tRefusal : Tx := ⟨["number"], [.loc], ["answer"], defScope sRefusal, [("answer", 2, RAnswer)], true, [], [], [], [], none, []⟩
theorem ok_Refusal (F : Fun K "refusal" "refusal" sRefusal f fd) (hbl : ∀ x, x ∈ bl → mg x = none) (c_answer : Cal0 P w K mg base 1 "answer" 2 RAnswer) :
    FnOk P w K mg base CX0 2 f fd ["number"] (spOf K 1 RRefusal) := by
  refine fn_ok (T := tRefusal) F rfl rfl ⟨rfl, rfl, rfl, by decide +kernel, rfl, by decide +kernel, by decide +kernel⟩ (by decide +kernel) (fun _ _ _ h => ?_) hbl (fun _ _ h => nomatch h) (fun _ _ h => nomatch h) (fun _ _ _ h => nomatch h) (fun _ _ _ _ h => nomatch h) fun ds r hl h => ?_
  · simp only [List.mem_cons, Prod.mk.injEq, List.not_mem_nil, or_false] at h
    rcases h with ⟨rfl, rfl, rfl⟩
    · exact c_answer
  cases h with
  | mk n =>
    show Wp tRefusal _ _ [.val (.int n)]
    refine wp_cons (ws_ret (by wtm_at "d_ev") ?_)
    rfl
inductive RIsScreen : Gr
  | mk (a b : Int) : RIsScreen [.int a, .int b] (.bool (CS.isScr a b))
abbrev tIsScreen : Tx := ⟨["a", "b"], [.loc, .loc], [], defScope sIsScreen, [], true, [], [], [], [], none, []⟩
theorem ok_IsScreen (F : Fun K "is_screen" "is_screen" sIsScreen f fd) (hbl : ∀ x, x ∈ bl → mg x = none) :
    FnOk P w K mg base CX0 1 f fd ["a", "b"] (spOf K 2 RIsScreen) := by
  refine fn_ok (T := tIsScreen) F rfl rfl ⟨rfl, rfl, rfl, by decide +kernel, rfl, by decide +kernel, by decide +kernel⟩ (by decide +kernel) (fun _ _ _ h => nomatch h) hbl (fun _ _ h => nomatch h) (fun _ _ h => nomatch h) (fun _ _ _ h => nomatch h) (fun _ _ _ _ h => nomatch h) fun ds r hl h => ?_
  cases h with
  | mk a b =>
    show Wp tIsScreen _ _ [.val (.int a), .val (.int b)]
    refine wp_cons (ws_ret (by wtm_at "d_ev") ?_)
    rfl
abbrev scrD (ns : List Int) : List PyData := (CS.scrs ns).map pg
inductive RScreensOf : Gr
  | mk (ns : List Int) : ns.length ≤ 64 → RScreensOf [.list (ns.map .int)] (.list (scrD ns))
abbrev tScreensOf : Tx := ⟨["z", "screens", "k", "screen"], [.cel, .loc, .hid, .hid], ["len", "range", "all"], defScope sScreensOf, [("is_screen", 2, RIsScreen)], true, [], [], [], [], none, []⟩
--   listcomp at row 11: own [("k", 2)] kd [.fre, .hid, .loc, .hid] gl []
--   listcomp at row 12: own [("screen", 3)] kd [.hid, .hid, .hid, .loc] gl ["is_screen"]
theorem ok_ScreensOf (F : Fun K "screens_of" "screens_of" sScreensOf f fd) (hbl : ∀ x, x ∈ bl → mg x = none) (c_is_screen : Cal0 P w K mg base 1 "is_screen" 2 RIsScreen) :
    FnOk P w K mg base CX0 2 f fd ["z"] (spOf K 1 RScreensOf) := by
  refine fn_ok (T := tScreensOf) F rfl rfl ⟨rfl, rfl, rfl, by decide +kernel, rfl, by decide +kernel, by decide +kernel⟩ (by decide +kernel) (fun _ _ _ h => ?_) hbl (fun _ _ h => nomatch h) (fun _ _ h => nomatch h) (fun _ _ _ h => nomatch h) (fun _ _ _ _ h => nomatch h) fun ds r hl h => ?_
  · simp only [List.mem_cons, Prod.mk.injEq, List.not_mem_nil, or_false] at h
    rcases h with ⟨rfl, rfl, rfl⟩
    · exact c_is_screen
  cases h with
  | mk ns hns =>
    show Wp tScreensOf _ _ [.val (.list (ns.map .int)), .no, .no, .no]
    refine wp_cons (ws_if (k := !PyData.eqv (.int ((ns.map PyData.int).length : Nat)) (.int 4) && !PyData.eqv (.int ((ns.map PyData.int).length : Nat)) (.int 6)) (by wtm_at "d_evt") (fun hk => ?_) (fun hk => ?_))
    · have e1 : PyData.eqv (.int ((ns.map PyData.int).length : Nat)) (.int 4) = (((ns.map PyData.int).length : Int) == 4) := rfl
      have e2 : PyData.eqv (.int ((ns.map PyData.int).length : Nat)) (.int 6) = (((ns.map PyData.int).length : Int) == 6) := rfl
      rw [e1, e2, List.length_map] at hk
      simp at hk
      have e3 : scrD ns = [] := by
        unfold scrD
        rw [CS.scrs_other (by omega) (by omega)]
        rfl
      rw [e3]
      refine wp_cons (ws_ret (d := .list []) (by wtm_at "d_ev") rfl)
    · have e1 : PyData.eqv (.int ((ns.map PyData.int).length : Nat)) (.int 4) = (((ns.map PyData.int).length : Int) == 4) := rfl
      have e2 : PyData.eqv (.int ((ns.map PyData.int).length : Nat)) (.int 6) = (((ns.map PyData.int).length : Int) == 6) := rfl
      rw [e1, e2, List.length_map] at hk
      simp at hk
      refine wp_nil ?_
      have h46 : ns.length = 4 ∨ ns.length = 6 := by omega
      rcases h46 with h4 | h6
      · obtain ⟨a, b, c, d, rfl⟩ : ∃ a b c d, ns = [a, b, c, d] := by
          match ns, h4 with
          | [a, b, c, d], _ => exact ⟨a, b, c, d, rfl⟩
        have ed : scrD [a, b, c, d] = if CS.isScr a b && CS.isScr c d then [pg (a, b), pg (c, d)] else [] := by
          show (if CS.isScr a b && CS.isScr c d then [((a, b) : Gauss), (c, d)] else []).map pg = _
          split <;> rfl
        rw [ed]
        show Wp tScreensOf _ _ [.val (.list [.int a, .int b, .int c, .int d]), .no, .no, .no]
        refine wp_cons (ws_setLc (xs := rangeD 0 2 2) (ys := [pg (a, b), pg (c, d)]) (i := 2) (kd := [.fre, .hid, .loc, .hid]) (gl := []) ?_ rfl rfl (by decide +kernel) (by decide +kernel) rfl ?_ (Nat.le_of_ble_eq_true rfl) (by wtm_at "d_set") ?_)
        · refine evi_range3 (i := 0) (j := 4) (k := 2) ?_ ?_ ?_ ?_ ⟨by decide, by decide, by decide, by decide⟩
          · wtm_at "d_in"
          · wtm_at "d_ev"
          · refine Ev.cast (by wtm_at "d_ev") ?_
            rfl
          · wtm_at "d_ev"
        · intro k d y h1 h2
          obtain ⟨h3, rfl⟩ := rangeD_get h1
          match k, h3, h2 with
          | 0, _, h2 =>
            have := Option.some.inj h2
            subst this
            show Ev _ [_, .no, .val (.int 0), .no] _ _
            wtm_at "d_ev"
          | 1, _, h2 =>
            have := Option.some.inj h2
            subst this
            show Ev _ [_, .no, .val (.int 2), .no] _ _
            wtm_at "d_ev"
        refine wp_cons (ws_if (k := !([CS.isScr a b, CS.isScr c d].all id)) ?_ (fun hk => ?_) (fun hk => ?_))
        · refine evt_not (evt_val (ev_all (by wtm_at "d_in") (xs := [.bool (CS.isScr a b), .bool (CS.isScr c d)]) ?_ rfl))
          refine ev_lc (xs := [pg (a, b), pg (c, d)]) (i := 3) (kd := [.hid, .hid, .hid, .loc]) (gl := ["is_screen"]) ?_ rfl rfl (by decide +kernel) (by decide +kernel) rfl ?_ (Nat.le_of_ble_eq_true rfl)
          · exact evi_list (by wtm_at "d_ev")
          · intro k d y h1 h2
            match k, h1, h2 with
            | 0, h1, h2 =>
              have := Option.some.inj h1
              have := Option.some.inj h2
              subst d y
              show Ev _ [_, _, .no, .val (.tuple [.int a, .int b])] _ _
              wtm_at "d_ev"
            | 1, h1, h2 =>
              have := Option.some.inj h1
              have := Option.some.inj h2
              subst d y
              show Ev _ [_, _, .no, .val (.tuple [.int c, .int d])] _ _
              wtm_at "d_ev"
        · have e : (CS.isScr a b && CS.isScr c d) = false := by
            cases h1 : CS.isScr a b <;> cases h2 : CS.isScr c d <;> simp_all
          rw [e]
          exact wp_cons (ws_ret (d := .list []) (by wtm_at "d_ev") rfl)
        · have e : (CS.isScr a b && CS.isScr c d) = true := by
            cases h1 : CS.isScr a b <;> cases h2 : CS.isScr c d <;> simp_all
          rw [e]
          exact wp_nil (wp_cons (ws_ret (d := .list [pg (a, b), pg (c, d)]) (by wtm_at "d_ev") rfl))
      · obtain ⟨a, b, c, d, p, q, rfl⟩ : ∃ a b c d p q, ns = [a, b, c, d, p, q] := by
          match ns, h6 with
          | [a, b, c, d, p, q], _ => exact ⟨a, b, c, d, p, q, rfl⟩
        have ed : scrD [a, b, c, d, p, q] = if CS.isScr a b && (CS.isScr c d && CS.isScr p q) then [pg (a, b), pg (c, d), pg (p, q)] else [] := by
          show (if CS.isScr a b && (CS.isScr c d && CS.isScr p q) then [((a, b) : Gauss), (c, d), (p, q)] else []).map pg = _
          split <;> rfl
        rw [ed]
        show Wp tScreensOf _ _ [.val (.list [.int a, .int b, .int c, .int d, .int p, .int q]), .no, .no, .no]
        refine wp_cons (ws_setLc (xs := rangeD 0 2 3) (ys := [pg (a, b), pg (c, d), pg (p, q)]) (i := 2) (kd := [.fre, .hid, .loc, .hid]) (gl := []) ?_ rfl rfl (by decide +kernel) (by decide +kernel) rfl ?_ (Nat.le_of_ble_eq_true rfl) (by wtm_at "d_set") ?_)
        · refine evi_range3 (i := 0) (j := 6) (k := 2) ?_ ?_ ?_ ?_ ⟨by decide, by decide, by decide, by decide⟩
          · wtm_at "d_in"
          · wtm_at "d_ev"
          · refine Ev.cast (by wtm_at "d_ev") ?_
            rfl
          · wtm_at "d_ev"
        · intro k d y h1 h2
          obtain ⟨h3, rfl⟩ := rangeD_get h1
          match k, h3, h2 with
          | 0, _, h2 =>
            have := Option.some.inj h2
            subst this
            show Ev _ [_, .no, .val (.int 0), .no] _ _
            wtm_at "d_ev"
          | 1, _, h2 =>
            have := Option.some.inj h2
            subst this
            show Ev _ [_, .no, .val (.int 2), .no] _ _
            wtm_at "d_ev"
          | 2, _, h2 =>
            have := Option.some.inj h2
            subst this
            show Ev _ [_, .no, .val (.int 4), .no] _ _
            wtm_at "d_ev"
        refine wp_cons (ws_if (k := !([CS.isScr a b, CS.isScr c d, CS.isScr p q].all id)) ?_ (fun hk => ?_) (fun hk => ?_))
        · refine evt_not (evt_val (ev_all (by wtm_at "d_in") (xs := [.bool (CS.isScr a b), .bool (CS.isScr c d), .bool (CS.isScr p q)]) ?_ rfl))
          refine ev_lc (xs := [pg (a, b), pg (c, d), pg (p, q)]) (i := 3) (kd := [.hid, .hid, .hid, .loc]) (gl := ["is_screen"]) ?_ rfl rfl (by decide +kernel) (by decide +kernel) rfl ?_ (Nat.le_of_ble_eq_true rfl)
          · exact evi_list (by wtm_at "d_ev")
          · intro k e y h1 h2
            match k, h1, h2 with
            | 0, h1, h2 =>
              have := Option.some.inj h1
              have := Option.some.inj h2
              subst e y
              show Ev _ [_, _, .no, .val (.tuple [.int a, .int b])] _ _
              wtm_at "d_ev"
            | 1, h1, h2 =>
              have := Option.some.inj h1
              have := Option.some.inj h2
              subst e y
              show Ev _ [_, _, .no, .val (.tuple [.int c, .int d])] _ _
              wtm_at "d_ev"
            | 2, h1, h2 =>
              have := Option.some.inj h1
              have := Option.some.inj h2
              subst e y
              show Ev _ [_, _, .no, .val (.tuple [.int p, .int q])] _ _
              wtm_at "d_ev"
        · have e : (CS.isScr a b && (CS.isScr c d && CS.isScr p q)) = false := by
            cases h1 : CS.isScr a b <;> cases h2 : CS.isScr c d <;> cases h3 : CS.isScr p q <;> simp_all
          rw [e]
          exact wp_cons (ws_ret (d := .list []) (by wtm_at "d_ev") rfl)
        · have e : (CS.isScr a b && (CS.isScr c d && CS.isScr p q)) = true := by
            cases h1 : CS.isScr a b <;> cases h2 : CS.isScr c d <;> cases h3 : CS.isScr p q <;> simp_all
          rw [e]
          exact wp_nil (wp_cons (ws_ret (d := .list [pg (a, b), pg (c, d), pg (p, q)]) (by wtm_at "d_ev") rfl))
inductive RArea : Gr
  | mk (a b : Int) : Bd a → Bd b → RArea [.tuple [.int a, .int b]] (.int (a * a + b * b))
abbrev tArea : Tx := ⟨["u"], [.loc], [], defScope sArea, [], true, [], [], [], [], none, []⟩
theorem ok_Area (F : Fun K "area" "area" sArea f fd) (hbl : ∀ x, x ∈ bl → mg x = none) :
    FnOk P w K mg base CX0 1 f fd ["u"] (spOf K 1 RArea) := by
  refine fn_ok (T := tArea) F rfl rfl ⟨rfl, rfl, rfl, by decide +kernel, rfl, by decide +kernel, by decide +kernel⟩ (by decide +kernel) (fun _ _ _ h => nomatch h) hbl (fun _ _ h => nomatch h) (fun _ _ h => nomatch h) (fun _ _ _ h => nomatch h) (fun _ _ _ _ h => nomatch h) fun ds r hl h => ?_
  cases h with
  | mk a b h1 h2 =>
    show Wp tArea _ _ [.val (.tuple [.int a, .int b])]
    refine wp_cons (ws_ret (by wtm_at "d_ev") ?_)
    rfl
inductive RPlus : Gr
  | mk (a b c d : Int) : RPlus [.tuple [.int a, .int b], .tuple [.int c, .int d]] (.tuple [.int (a + c), .int (b + d)])
abbrev tPlus : Tx := ⟨["u", "v"], [.loc, .loc], [], defScope sPlus, [], true, [], [], [], [], none, []⟩
theorem ok_Plus (F : Fun K "plus" "plus" sPlus f fd) (hbl : ∀ x, x ∈ bl → mg x = none) :
    FnOk P w K mg base CX0 1 f fd ["u", "v"] (spOf K 2 RPlus) := by
  refine fn_ok (T := tPlus) F rfl rfl ⟨rfl, rfl, rfl, by decide +kernel, rfl, by decide +kernel, by decide +kernel⟩ (by decide +kernel) (fun _ _ _ h => nomatch h) hbl (fun _ _ h => nomatch h) (fun _ _ h => nomatch h) (fun _ _ _ h => nomatch h) (fun _ _ _ _ h => nomatch h) fun ds r hl h => ?_
  cases h with
  | mk a b c d =>
    show Wp tPlus _ _ [.val (.tuple [.int a, .int b]), .val (.tuple [.int c, .int d])]
    refine wp_cons (ws_ret (by wtm_at "d_ev") ?_)
    rfl
inductive RMinus : Gr
  | mk (a b c d : Int) : RMinus [.tuple [.int a, .int b], .tuple [.int c, .int d]] (.tuple [.int (a - c), .int (b - d)])
abbrev tMinus : Tx := ⟨["u", "v"], [.loc, .loc], [], defScope sMinus, [], true, [], [], [], [], none, []⟩
theorem ok_Minus (F : Fun K "minus" "minus" sMinus f fd) (hbl : ∀ x, x ∈ bl → mg x = none) :
    FnOk P w K mg base CX0 1 f fd ["u", "v"] (spOf K 2 RMinus) := by
  refine fn_ok (T := tMinus) F rfl rfl ⟨rfl, rfl, rfl, by decide +kernel, rfl, by decide +kernel, by decide +kernel⟩ (by decide +kernel) (fun _ _ _ h => nomatch h) hbl (fun _ _ h => nomatch h) (fun _ _ h => nomatch h) (fun _ _ _ h => nomatch h) (fun _ _ _ _ h => nomatch h) fun ds r hl h => ?_
  cases h with
  | mk a b c d =>
    show Wp tMinus _ _ [.val (.tuple [.int a, .int b]), .val (.tuple [.int c, .int d])]
    refine wp_cons (ws_ret (by wtm_at "d_ev") ?_)
    rfl
inductive RTimes : Gr
  | mk (a b c d : Int) : (Bd c ∧ Bd d) ∨ (Bd a ∧ Bd b) → RTimes [.tuple [.int a, .int b], .tuple [.int c, .int d]] (.tuple [.int (a * c - b * d), .int (a * d + b * c)])
abbrev tTimes : Tx := ⟨["u", "v"], [.loc, .loc], [], defScope sTimes, [], true, [], [], [], [], none, []⟩
theorem ok_Times (F : Fun K "times" "times" sTimes f fd) (hbl : ∀ x, x ∈ bl → mg x = none) :
    FnOk P w K mg base CX0 1 f fd ["u", "v"] (spOf K 2 RTimes) := by
  refine fn_ok (T := tTimes) F rfl rfl ⟨rfl, rfl, rfl, by decide +kernel, rfl, by decide +kernel, by decide +kernel⟩ (by decide +kernel) (fun _ _ _ h => nomatch h) hbl (fun _ _ h => nomatch h) (fun _ _ h => nomatch h) (fun _ _ _ h => nomatch h) (fun _ _ _ _ h => nomatch h) fun ds r hl h => ?_
  cases h with
  | mk a b c d h1 =>
    show Wp tTimes _ _ [.val (.tuple [.int a, .int b]), .val (.tuple [.int c, .int d])]
    rcases h1 with ⟨h1, h2⟩ | ⟨h1, h2⟩
    · refine wp_cons (ws_ret (by wtm_at "d_ev") ?_)
      rfl
    · refine wp_cons (ws_ret (by wtm_at "d_ev") ?_)
      rfl
inductive RNearest : Gr
  | mk (x n : Int) : 0 < n → 2 * n < 1606938044258990275541962092341162602522202993782792835301376 → RNearest [.int x, .int n] (.int ((2 * x + n) / (2 * n)))
abbrev tNearest : Tx := ⟨["x", "n"], [.loc, .loc], [], defScope sNearest, [], true, [], [], [], [], none, []⟩
theorem ok_Nearest (F : Fun K "nearest" "nearest" sNearest f fd) (hbl : ∀ x, x ∈ bl → mg x = none) :
    FnOk P w K mg base CX0 1 f fd ["x", "n"] (spOf K 2 RNearest) := by
  refine fn_ok (T := tNearest) F rfl rfl ⟨rfl, rfl, rfl, by decide +kernel, rfl, by decide +kernel, by decide +kernel⟩ (by decide +kernel) (fun _ _ _ h => nomatch h) hbl (fun _ _ h => nomatch h) (fun _ _ h => nomatch h) (fun _ _ _ h => nomatch h) (fun _ _ _ _ h => nomatch h) fun ds r hl h => ?_
  cases h with
  | mk x n h1 h2 =>
    show Wp tNearest _ _ [.val (.int x), .val (.int n)]
    refine wp_cons (ws_ret (by wtm_at "d_ev") ?_)
    rfl
inductive RQuotient : Gr
  | mk (a b c d : Int) : 0 < c * c + d * d → c * c + d * d < 332306998946228968225951765070086144 → RQuotient [.tuple [.int a, .int b], .tuple [.int c, .int d]] (pg (over (a, b) (c, d)))
theorem over_eq (a b c d : Int) : pg (over (a, b) (c, d)) = .tuple [.int ((2 * (a * c - b * -d) + (c * c + d * d)) / (2 * (c * c + d * d))), .int ((2 * (a * -d + b * c) + (c * c + d * d)) / (2 * (c * c + d * d)))] := by
  have h : (area (c, d) : Int) = c * c + d * d := GM.area_nm (c, d)
  unfold pg over nearest times back
  simp only [h]
abbrev tQuotient : Tx := ⟨["u", "v", "n", "turned"], [.loc, .loc, .loc, .loc], ["area", "times", "nearest"], defScope sQuotient, [("area", 1, RArea), ("times", 2, RTimes), ("nearest", 2, RNearest)], true, [], [], [], [], none, []⟩
theorem ok_Quotient (F : Fun K "quotient" "quotient" sQuotient f fd) (hbl : ∀ x, x ∈ bl → mg x = none) (c_area : Cal0 P w K mg base 1 "area" 1 RArea) (c_times : Cal0 P w K mg base 1 "times" 2 RTimes) (c_nearest : Cal0 P w K mg base 1 "nearest" 2 RNearest) :
    FnOk P w K mg base CX0 2 f fd ["u", "v"] (spOf K 2 RQuotient) := by
  refine fn_ok (T := tQuotient) F rfl rfl ⟨rfl, rfl, rfl, by decide +kernel, rfl, by decide +kernel, by decide +kernel⟩ (by decide +kernel) (fun _ _ _ h => ?_) hbl (fun _ _ h => nomatch h) (fun _ _ h => nomatch h) (fun _ _ _ h => nomatch h) (fun _ _ _ _ h => nomatch h) fun ds r hl h => ?_
  · simp only [List.mem_cons, Prod.mk.injEq, List.not_mem_nil, or_false] at h
    rcases h with ⟨rfl, rfl, rfl⟩ | ⟨rfl, rfl, rfl⟩ | ⟨rfl, rfl, rfl⟩
    · exact c_area
    · exact c_times
    · exact c_nearest
  cases h with
  | mk a b c d h1 h2 =>
    have hb := Mx.bd59 h2
    rw [over_eq]
    show Wp tQuotient _ _ [.val (.tuple [.int a, .int b]), .val (.tuple [.int c, .int d]), .no, .no]
    have b1 : Bd c := ⟨by omega, by omega⟩
    have b2 : Bd d := ⟨by omega, by omega⟩
    have b3 : Bd (-d) := ⟨by omega, by omega⟩
    refine wp_cons (ws_set (d := .int (c * c + d * d)) ?_ (by wtm_at "d_set") ?_)
    · wtm_at "d_ev"
    refine wp_cons (ws_set (d := .tuple [.int (a * c - b * -d), .int (a * -d + b * c)]) ?_ (by wtm_at "d_set") ?_)
    · wtm_at "d_ev"
    generalize c * c + d * d = n at h1 h2
    generalize a * c - b * -d = p
    generalize a * -d + b * c = q
    have h3 : 2 * n < 1606938044258990275541962092341162602522202993782792835301376 := by omega
    refine wp_cons (ws_ret (by wtm_at "d_ev") ?_)
    rfl
inductive RDivisorAndFactor : Gr
  | mk (a b c d : Int) : a * a + b * b < 83076749736557242056487941267521536 → c * c + d * d < 83076749736557242056487941267521536 → RDivisorAndFactor [.tuple [.int a, .int b], .tuple [.int c, .int d]] (.tuple [pg (GM.gcd (a, b) (c, d)), pg (Mx.fac (a, b) (c, d))])
theorem ne_test (v : Gauss) : (!PyData.eqv (pg v) (.tuple [.int 0, .int 0])) = !decide (v = (0, 0)) := by
  obtain ⟨a, b⟩ := v
  have e : PyData.eqv (pg (a, b)) (.tuple [.int 0, .int 0]) = (a == 0 && (b == 0 && true)) := rfl
  rw [e]
  by_cases h1 : a = 0 <;> by_cases h2 : b = 0 <;> simp [h1, h2]
abbrev tDivisorAndFactor : Tx := ⟨["u", "v", "factor", "later", "whole", "rest", "rest_factor"], [.loc, .loc, .loc, .loc, .loc, .loc, .loc], ["quotient", "minus", "times"], defScope sDivisorAndFactor, [("quotient", 2, RQuotient), ("minus", 2, RMinus), ("times", 2, RTimes)], true, [], [], [], [], none, []⟩
theorem ok_DivisorAndFactor (F : Fun K "divisor_and_factor" "divisor_and_factor" sDivisorAndFactor f fd) (hbl : ∀ x, x ∈ bl → mg x = none) (c_quotient : Cal0 P w K mg base 2 "quotient" 2 RQuotient) (c_minus : Cal0 P w K mg base 2 "minus" 2 RMinus) (c_times : Cal0 P w K mg base 2 "times" 2 RTimes) :
    FnOk P w K mg base CX0 3 f fd ["u", "v"] (spOf K 2 RDivisorAndFactor) := by
  refine fn_ok (T := tDivisorAndFactor) F rfl rfl ⟨rfl, rfl, rfl, by decide +kernel, rfl, by decide +kernel, by decide +kernel⟩ (by decide +kernel) (fun _ _ _ h => ?_) hbl (fun _ _ h => nomatch h) (fun _ _ h => nomatch h) (fun _ _ _ h => nomatch h) (fun _ _ _ _ h => nomatch h) fun ds r hl h => ?_
  · simp only [List.mem_cons, Prod.mk.injEq, List.not_mem_nil, or_false] at h
    rcases h with ⟨rfl, rfl, rfl⟩ | ⟨rfl, rfl, rfl⟩ | ⟨rfl, rfl, rfl⟩
    · exact c_quotient
    · exact c_minus
    · exact c_times
  cases h with
  | mk a b c d h0 h1 =>
    show Wp tDivisorAndFactor _ _ [.val (pg (a, b)), .val (pg (c, d)), .no, .no, .no, .no, .no]
    refine wp_cons (ws_set (d := pg (1, 0)) (by wtm_at "d_ev") (by wtm_at "d_set") ?_)
    refine wp_cons (ws_set (d := pg (0, 0)) (by wtm_at "d_ev") (by wtm_at "d_set") ?_)
    refine wp_cons (ws_while (fun m S => ∃ (u v f l : Gauss) (s1 s2 s3 : Slot) (k : Nat), S = [.val (pg u), .val (pg v), .val (pg f), .val (pg l), s1, s2, s3] ∧ GM.nm u < 83076749736557242056487941267521536 ∧ GM.nm v < 83076749736557242056487941267521536 ∧ area v < k ∧ Mx.df k u v f l = (GM.gcd (a, b) (c, d), Mx.fac (a, b) (c, d)) ∧ m = area v) (area (c, d)) ⟨(a, b), (c, d), (1, 0), (0, 0), .no, .no, .no, area (c, d) + 1, rfl, h0, h1, Nat.lt_succ_self _, Mx.df_gcd _ _, rfl⟩ ?_)
    rintro m S ⟨u, v, f, l, s1, s2, s3, k, rfl, h2, h3, h4, h5, rfl⟩
    refine ⟨!decide (v = (0, 0)), ?_, fun hk => ?_, fun hk => ?_⟩
    · rw [← ne_test v]
      wtm_at "d_evt"
    · have hv : v ≠ (0, 0) := by simpa using hk
      have hp := GM.nm_pos hv
      have hb := Mx.bd59 (show v.1 * v.1 + v.2 * v.2 < 332306998946228968225951765070086144 from Int.lt_trans h3 (by decide))
      have b1 : Bd v.1 := ⟨by omega, by omega⟩
      have b2 : Bd v.2 := ⟨by omega, by omega⟩
      have hp' : 0 < v.1 * v.1 + v.2 * v.2 := hp
      have h2' : v.1 * v.1 + v.2 * v.2 < 332306998946228968225951765070086144 := Int.lt_trans h3 (by decide)
      have ho := Mx.nm_over_le (u := u) hv
      have hq := Mx.bd59 (show (over u v).1 * (over u v).1 + (over u v).2 * (over u v).2 < 332306998946228968225951765070086144 by show GM.nm _ < _; omega)
      have b3 : Bd (over u v).1 := ⟨by omega, by omega⟩
      have b4 : Bd (over u v).2 := ⟨by omega, by omega⟩
      refine wp_cons (ws_set (d := pg (over u v)) ?_ (by wtm_at "d_set") ?_)
      · show Ev _ _ _ (pg (over (u.1, u.2) (v.1, v.2)))
        wtm_at "d_ev"
      have er : pg (GM.rest u v) = .tuple [.int (u.1 - ((over u v).1 * v.1 - (over u v).2 * v.2)), .int (u.2 - ((over u v).1 * v.2 + (over u v).2 * v.1))] := rfl
      refine wp_cons (ws_set (d := pg (GM.rest u v)) ?_ (by wtm_at "d_set") ?_)
      · rw [er]
        wtm_at "d_ev"
      have ef : pg (less f (times (over u v) l)) = .tuple [.int (f.1 - ((over u v).1 * l.1 - (over u v).2 * l.2)), .int (f.2 - ((over u v).1 * l.2 + (over u v).2 * l.1))] := rfl
      refine wp_cons (ws_set (d := pg (less f (times (over u v) l))) ?_ (by wtm_at "d_set") ?_)
      · rw [ef]
        wtm_at "d_ev"
      refine wp_cons (ws_set (d := pg v) (by wtm_at "d_ev") (by wtm_at "d_set") ?_)
      refine wp_cons (ws_set (d := pg (GM.rest u v)) (by wtm_at "d_ev") (by wtm_at "d_set") ?_)
      refine wp_cons (ws_set (d := pg l) (by wtm_at "d_ev") (by wtm_at "d_set") ?_)
      refine wp_cons (ws_set (d := pg (less f (times (over u v) l))) (by wtm_at "d_ev") (by wtm_at "d_set") ?_)
      have hlt := GM.rest_lt (u := u) hv
      match k, h4, h5 with
      | k + 1, h4, h5 =>
        refine wp_nil ⟨area (GM.rest u v), hlt, v, GM.rest u v, l, less f (times (over u v) l), _, _, _, k, rfl, h3, ?_, by omega, ?_, rfl⟩
        · have := GM.rest_small (u := u) hv
          have := GM.nm_nonneg (GM.rest u v)
          omega
        · unfold Mx.df at h5
          rw [if_neg hv] at h5
          exact h5
    · have hv : v = (0, 0) := by simpa using hk
      subst hv
      match k, h4, h5 with
      | k + 1, h4, h5 =>
        unfold Mx.df at h5
        rw [if_pos rfl] at h5
        have e1 : u = GM.gcd (a, b) (c, d) := congrArg Prod.fst h5
        have e2 : f = Mx.fac (a, b) (c, d) := congrArg Prod.snd h5
        rw [← e1, ← e2]
        refine wp_cons (ws_ret (by wtm_at "d_ev") ?_)
        rfl
inductive RGreatestDivisor : Gr
  | mk (a b c d : Int) : a * a + b * b < 83076749736557242056487941267521536 → c * c + d * d < 83076749736557242056487941267521536 → RGreatestDivisor [.tuple [.int a, .int b], .tuple [.int c, .int d]] (pg (GM.gcd (a, b) (c, d)))
abbrev tGreatestDivisor : Tx := ⟨["u", "v"], [.loc, .loc], ["divisor_and_factor"], defScope sGreatestDivisor, [("divisor_and_factor", 2, RDivisorAndFactor)], true, [], [], [], [], none, []⟩
theorem ok_GreatestDivisor (F : Fun K "greatest_divisor" "greatest_divisor" sGreatestDivisor f fd) (hbl : ∀ x, x ∈ bl → mg x = none) (c_divisor_and_factor : Cal0 P w K mg base 3 "divisor_and_factor" 2 RDivisorAndFactor) :
    FnOk P w K mg base CX0 4 f fd ["u", "v"] (spOf K 2 RGreatestDivisor) := by
  refine fn_ok (T := tGreatestDivisor) F rfl rfl ⟨rfl, rfl, rfl, by decide +kernel, rfl, by decide +kernel, by decide +kernel⟩ (by decide +kernel) (fun _ _ _ h => ?_) hbl (fun _ _ h => nomatch h) (fun _ _ h => nomatch h) (fun _ _ _ h => nomatch h) (fun _ _ _ _ h => nomatch h) fun ds r hl h => ?_
  · simp only [List.mem_cons, Prod.mk.injEq, List.not_mem_nil, or_false] at h
    rcases h with ⟨rfl, rfl, rfl⟩
    · exact c_divisor_and_factor
  cases h with
  | mk a b c d h0 h1 =>
    show Wp tGreatestDivisor _ _ [.val (.tuple [.int a, .int b]), .val (.tuple [.int c, .int d])]
    refine wp_cons (ws_ret (by wtm_at "d_ev") ?_)
    rfl
inductive RUpright : Gr
  | mk (a b : Int) : (a, b) ≠ ((0, 0) : Gauss) → RUpright [.tuple [.int a, .int b]] (pg (upright (a, b)))
def turns (z : Gauss) : Nat := if GM.up1 z then 0 else if GM.up1 (GM.turn z) then 1 else if GM.up1 (GM.turn (GM.turn z)) then 2 else 3
abbrev tUpright : Tx := ⟨["u"], [.loc], [], defScope sUpright, [], true, [], [], [], [], none, []⟩
theorem ok_Upright (F : Fun K "upright" "upright" sUpright f fd) (hbl : ∀ x, x ∈ bl → mg x = none) :
    FnOk P w K mg base CX0 1 f fd ["u"] (spOf K 1 RUpright) := by
  refine fn_ok (T := tUpright) F rfl rfl ⟨rfl, rfl, rfl, by decide +kernel, rfl, by decide +kernel, by decide +kernel⟩ (by decide +kernel) (fun _ _ _ h => nomatch h) hbl (fun _ _ h => nomatch h) (fun _ _ h => nomatch h) (fun _ _ _ h => nomatch h) (fun _ _ _ _ h => nomatch h) fun ds r hl h => ?_
  cases h with
  | mk a b h1 =>
    show Wp tUpright _ _ [.val (pg (a, b))]
    refine wp_cons (ws_while (fun m S => ∃ (z : Gauss), S = [.val (pg z)] ∧ z ≠ (0, 0) ∧ upright z = upright (a, b) ∧ m = turns z) (turns (a, b)) ⟨(a, b), rfl, h1, rfl, rfl⟩ ?_)
    rintro m S ⟨z, rfl, h2, h3, rfl⟩
    refine ⟨decide (z.1 < 1) || decide (z.2 < 0), by wtm_at "d_evt", fun hk => ?_, fun hk => ?_⟩
    · refine wp_cons (ws_set (d := pg (GM.turn z)) ?_ (by wtm_at "d_set") ?_)
      · show Ev _ _ _ (.tuple [.int (-z.2), .int z.1])
        wtm_at "d_ev"
      refine wp_nil ⟨turns (GM.turn z), ?_, GM.turn z, rfl, GM.turn_ne h2, ?_, rfl⟩
      · have e : GM.up1 z = false := by
          simp only [Bool.or_eq_true, decide_eq_true_eq] at hk
          unfold GM.up1
          rw [Bool.and_eq_false_iff, decide_eq_false_iff_not, decide_eq_false_iff_not]
          omega
        rcases GM.up_some h2 with q | q | q | q
        · rw [e] at q; cases q
        · unfold turns; rw [e]; simp [q]
        · obtain ⟨x1, x2, x3⟩ := GM.up_one _ q
          rw [GM.turn4] at x2 x3
          unfold turns; rw [e]; simp [q, x3]
        · obtain ⟨x1, x2, x3⟩ := GM.up_one _ q
          rw [GM.turn4] at x1 x2 x3
          unfold turns; rw [e]; simp [q, x2, x3]
      · rw [← h3, GM.upright_turn]
    · have e : GM.up1 z = true := by
        simp only [Bool.or_eq_false_iff, decide_eq_false_iff_not] at hk
        unfold GM.up1
        rw [Bool.and_eq_true, decide_eq_true_eq, decide_eq_true_eq]
        omega
      refine wp_cons (ws_ret (d := pg z) (by wtm_at "d_ev") ?_)
      show pg z = pg (upright (a, b))
      rw [← h3, GM.upright_turns, if_pos e]
inductive RJointOf : Gr
  | mk (a b c d : Int) : (a, b) ≠ ((0, 0) : Gauss) → a * a + b * b < 83076749736557242056487941267521536 → c * c + d * d < 83076749736557242056487941267521536 → RJointOf [.tuple [.int a, .int b], .tuple [.int c, .int d]] (pg (joint (a, b) (c, d)))
abbrev tJointOf : Tx := ⟨["u", "v"], [.loc, .loc], ["upright", "greatest_divisor"], defScope sJointOf, [("upright", 1, RUpright), ("greatest_divisor", 2, RGreatestDivisor)], true, [], [], [], [], none, []⟩
theorem ok_JointOf (F : Fun K "joint_of" "joint_of" sJointOf f fd) (hbl : ∀ x, x ∈ bl → mg x = none) (c_upright : Cal0 P w K mg base 4 "upright" 1 RUpright) (c_greatest_divisor : Cal0 P w K mg base 4 "greatest_divisor" 2 RGreatestDivisor) :
    FnOk P w K mg base CX0 5 f fd ["u", "v"] (spOf K 2 RJointOf) := by
  refine fn_ok (T := tJointOf) F rfl rfl ⟨rfl, rfl, rfl, by decide +kernel, rfl, by decide +kernel, by decide +kernel⟩ (by decide +kernel) (fun _ _ _ h => ?_) hbl (fun _ _ h => nomatch h) (fun _ _ h => nomatch h) (fun _ _ _ h => nomatch h) (fun _ _ _ _ h => nomatch h) fun ds r hl h => ?_
  · simp only [List.mem_cons, Prod.mk.injEq, List.not_mem_nil, or_false] at h
    rcases h with ⟨rfl, rfl, rfl⟩ | ⟨rfl, rfl, rfl⟩
    · exact c_upright
    · exact c_greatest_divisor
  cases h with
  | mk a b c d h1 h2 h3 =>
    show Wp tJointOf _ _ [.val (.tuple [.int a, .int b]), .val (.tuple [.int c, .int d])]
    rw [GM.joint_gcd]
    have g1 : ((GM.gcd (a, b) (c, d)).1, (GM.gcd (a, b) (c, d)).2) ≠ ((0, 0) : Gauss) := GM.gcd_ne' h1
    refine wp_cons (ws_ret (by wtm_at "d_ev") ?_)
    rfl
inductive RHarmonics : Gr
  | mk (h : Nat) : 1 ≤ h → h ≤ 8 → RHarmonics [.int (h : Int)] (.list ((harmonics h).map pg))
theorem harm_sorted {h : Nat} (h1 : 1 ≤ h) (h2 : h ≤ 8) : ((harmonics h).map Bt.hrow).Pairwise (fun a b => lexI b a = false) :=
  Bt.h8 (P := fun h => ((harmonics h).map Bt.hrow).Pairwise (fun a b => lexI b a = false)) h1 h2 (by decide +kernel) (by decide +kernel) (by decide +kernel) (by decide +kernel) (by decide +kernel) (by decide +kernel) (by decide +kernel) (by decide +kernel)
abbrev tHarmonics : Tx := ⟨["h", "found", "i", "j", "row"], [.loc, .loc, .loc, .loc, .hid], ["range", "area", "sorted"], defScope sHarmonics, [("area", 1, RArea)], true, [], [], [], [], none, []⟩
--   listcomp at row 55: own [("row", 4)] kd [.hid, .hid, .hid, .hid, .loc] gl []
theorem ok_Harmonics (F : Fun K "harmonics" "harmonics" sHarmonics f fd) (hbl : ∀ x, x ∈ bl → mg x = none) (c_area : Cal0 P w K mg base 1 "area" 1 RArea) :
    FnOk P w K mg base CX0 2 f fd ["h"] (spOf K 1 RHarmonics) := by
  refine fn_ok (T := tHarmonics) F rfl rfl ⟨rfl, rfl, rfl, by decide +kernel, rfl, by decide +kernel, by decide +kernel⟩ (by decide +kernel) (fun _ _ _ h => ?_) hbl (fun _ _ h => nomatch h) (fun _ _ h => nomatch h) (fun _ _ _ h => nomatch h) (fun _ _ _ _ h => nomatch h) fun ds r hl h => ?_
  · simp only [List.mem_cons, Prod.mk.injEq, List.not_mem_nil, or_false] at h
    rcases h with ⟨rfl, rfl, rfl⟩
    · exact c_area
  cases h with
  | mk h h1 h2 =>
    show Wp tHarmonics _ _ [.val (.int (h : Int)), .no, .no, .no, .no]
    have hr : (((h : Int) + 1) - (-(h : Int))).toNat = 2 * h + 1 := by omega
    have hlim : -(2 ^ 62) ≤ -(h : Int) ∧ -(h : Int) < 2 ^ 62 ∧ -(2 ^ 62) ≤ (h : Int) + 1 ∧ (h : Int) + 1 < 2 ^ 62 := by omega
    refine wp_cons (ws_setM (xs := []) (evl_list eva_nil) (by wtm_at "d_set") ?_)
    refine wp_cons (ws_for (fun n S => ∃ s1 s2, S = [.val (.int (h : Int)), .ml ((Bt.fi h ((Bt.zspan h).take n)).map tupD), s1, s2, .no]) (xs := rangeD (-(h : Int)) 1 (2 * h + 1)) (k := .loc) ?_ ⟨_, _, rfl⟩ ?_ ?_ 2 rfl rfl)
    · rw [← hr]
      exact evi_range2 (by wtm_at "d_in") (by wtm_at "d_ev") (by wtm_at "d_ev") hlim
    · rintro n d S hd ⟨s1, s2, rfl⟩
      obtain ⟨hn, rfl⟩ := rangeD_get hd
      refine ⟨_, by wtm_at "d_set", ?_⟩
      have hi := Bt.zspan_take hn
      rw [Int.mul_one]
      have bi : -(h : Int) ≤ -(h : Int) + (n : Int) ∧ -(h : Int) + (n : Int) ≤ h := by omega
      generalize -(h : Int) + (n : Int) = i at hi bi
      have b1 : Bd i := ⟨by omega, by omega⟩
      refine wp_cons (ws_for (fun m S => ∃ s2, S = [.val (.int (h : Int)), .ml ((Bt.fi h ((Bt.zspan h).take n) ++ Bt.fj h i ((Bt.zspan h).take m)).map tupD), .val (.int i), s2, .no]) (xs := rangeD (-(h : Int)) 1 (2 * h + 1)) (k := .loc) ?_ ⟨s2, ?_⟩ ?_ ?_ 3 rfl rfl)
      · rw [← hr]
        exact evi_range2 (by wtm_at "d_in") (by wtm_at "d_ev") (by wtm_at "d_ev") hlim
      · rw [List.take_zero]
        have e : Bt.fj h i [] = [] := rfl
        rw [e, List.append_nil]
      · rintro m d S hd ⟨s2, rfl⟩
        obtain ⟨hm, rfl⟩ := rangeD_get hd
        refine ⟨_, by wtm_at "d_set", ?_⟩
        have hj := Bt.zspan_take hm
        rw [Int.mul_one]
        have bj : -(h : Int) ≤ -(h : Int) + (m : Int) ∧ -(h : Int) + (m : Int) ≤ h := by omega
        generalize -(h : Int) + (m : Int) = j at hj bj
        have b2 : Bd j := ⟨by omega, by omega⟩
        have hlen : ((Bt.fi h ((Bt.zspan h).take n) ++ Bt.fj h i ((Bt.zspan h).take m)).map tupD).length < sizeLine := by
          have a1 := Bt.fi_len h ((Bt.zspan h).take n)
          have a2 := Bt.fj_len h i ((Bt.zspan h).take m)
          rw [List.length_take, Bt.zspan_len] at a1 a2
          have a3 : min n (2 * h + 1) * (2 * h + 1) ≤ 17 * 17 := Nat.mul_le_mul (by omega) (by omega)
          rw [List.length_map, List.length_append]
          exact Nat.lt_of_lt_of_le (m := 1000) (by omega) (by decide)
        generalize hA : Bt.fi h ((Bt.zspan h).take n) = A at hlen
        generalize hB : (Bt.zspan h).take m = B at hlen hj
        refine wp_cons (ws_if (k := Bt.fits h i j) ?_ (fun hk => ?_) (fun hk => ?_))
        · show EvT _ _ _ (decide (1 ≤ i * i + j * j) && decide (i * i + j * j ≤ (h : Int)))
          wtm_at "d_evt"
        · refine wp_cons (ws_append (xs := (A ++ Bt.fj h i B).map tupD) (d := tupD (Bt.frow i j)) (by wtm_at "d_at") ?_ (by wtm_at "d_set") (wp_nil (wp_nil ⟨.val (.int j), ?_⟩)) hlen)
          · refine Ev.cast (by wtm_at "d_ev") ?_
            rfl
          · rw [hj, Bt.fj_snoc, if_pos hk, ← List.append_assoc, List.map_append (l₁ := A ++ Bt.fj h i B)]
            rfl
        · refine wp_nil (wp_nil ⟨.val (.int j), ?_⟩)
          rw [hj, Bt.fj_snoc, if_neg (by rw [hk]; decide), List.append_nil]
      · rintro S ⟨s2, rfl⟩
        refine wp_nil ⟨.val (.int i), s2, ?_⟩
        rw [hi, Bt.fi_snoc, rangeD_len, ← Bt.zspan_len h, List.take_length]
    · rintro S ⟨s1, s2, rfl⟩
      rw [rangeD_len, ← Bt.zspan_len h, List.take_length]
      refine wp_freeze (x := "found") (k := .loc) (xs := (Bt.fi h (Bt.zspan h)).map tupD) (by wtm_at "d_at") (by wtm_at "d_set") ?_
      refine wp_cons (ws_ret (d := .list ((harmonics h).map pg)) ?_ rfl)
      have hl24 := Bt.harm_len h1 h2
      refine ev_lc (xs := ((harmonics h).map Bt.hrow).map tupD) (i := 4) (kd := [.hid, .hid, .hid, .hid, .loc]) (gl := []) ?_ rfl rfl (by decide +kernel) (by decide +kernel) ?_ ?_ ?_
      · exact evi_list (ev_sortedT (by wtm_at "d_in") (by wtm_at "d_ev") rfl (Bt.fj_ne h _) (Bt.found_perm h1 h2) (harm_sorted h1 h2))
      · rw [List.length_map, List.length_map, List.length_map]
      · intro k d y e1 e2
        rw [List.getElem?_map, List.getElem?_map] at e1
        rw [List.getElem?_map] at e2
        cases hg : (harmonics h)[k]? with
        | none => rw [hg] at e2; cases e2
        | some g =>
          rw [hg] at e1 e2
          have := Option.some.inj e1
          have := Option.some.inj e2
          subst d y
          show Ev _ [_, _, _, _, .val (.tuple [.int (g.1 * g.1 + g.2 * g.2), .int g.1, .int g.2])] _ _
          wtm_at "d_ev"
      · rw [List.length_map]
        exact Nat.le_trans hl24 (by decide)
inductive RProductOfAreas : Gr
  | mk (l : List Gauss) : (∀ u ∈ l, CS.isScr u.1 u.2 = true) → RProductOfAreas [.list (l.map pg)] (.int (whole l : Nat))
abbrev tProductOfAreas : Tx := ⟨["screens", "product", "screen"], [.loc, .loc, .loc], ["area"], defScope sProductOfAreas, [("area", 1, RArea)], true, [], [], [], [], none, []⟩
theorem ok_ProductOfAreas (F : Fun K "product_of_areas" "product_of_areas" sProductOfAreas f fd) (hbl : ∀ x, x ∈ bl → mg x = none) (c_area : Cal0 P w K mg base 1 "area" 1 RArea) :
    FnOk P w K mg base CX0 2 f fd ["screens"] (spOf K 1 RProductOfAreas) := by
  refine fn_ok (T := tProductOfAreas) F rfl rfl ⟨rfl, rfl, rfl, by decide +kernel, rfl, by decide +kernel, by decide +kernel⟩ (by decide +kernel) (fun _ _ _ h => ?_) hbl (fun _ _ h => nomatch h) (fun _ _ h => nomatch h) (fun _ _ _ h => nomatch h) (fun _ _ _ _ h => nomatch h) fun ds r hl h => ?_
  · simp only [List.mem_cons, Prod.mk.injEq, List.not_mem_nil, or_false] at h
    rcases h with ⟨rfl, rfl, rfl⟩
    · exact c_area
  cases h with
  | mk l hok =>
    show Wp tProductOfAreas _ _ [.val (.list (l.map pg)), .no, .no]
    refine wp_cons (ws_set (d := .int 1) (by wtm_at "d_ev") (by wtm_at "d_set") ?_)
    refine wp_cons (ws_for (fun n S => ∃ s, S = [.val (.list (l.map pg)), .val (.int (whole (l.take n) : Nat)), s]) (xs := l.map pg) (k := .loc) (evi_list (by wtm_at "d_ev")) ⟨_, rfl⟩ ?_ ?_ 2 rfl rfl)
    · rintro n d S h1 ⟨s, rfl⟩
      have hnl : n < l.length := by
        have := (List.getElem?_eq_some_iff.mp h1).1
        rw [List.length_map] at this
        exact this
      have ed : d = pg (l[n]'hnl) := by
        rw [List.getElem?_map, List.getElem?_eq_getElem hnl] at h1
        exact (Option.some.inj h1).symm
      subst ed
      have hs := hok (l[n]'hnl) (List.getElem_mem _)
      refine ⟨_, by wtm_at "d_set", ?_⟩
      rw [Bt.whole_take l n hnl]
      have q3 : GM.nm (l[n]'hnl) ≤ 64 := CS.scr_nm hs
      generalize l[n]'hnl = u at q3
      have q0 := GM.nm_nonneg u
      have q5 : u.1 * u.1 + u.2 * u.2 ≤ 64 := q3
      have q6 : 0 ≤ u.1 * u.1 + u.2 * u.2 := q0
      have hb := Mx.bd59 (show u.1 * u.1 + u.2 * u.2 < 332306998946228968225951765070086144 by omega)
      have b1 : Bd u.1 := ⟨by omega, by omega⟩
      have b2 : Bd u.2 := ⟨by omega, by omega⟩
      generalize whole (l.take n) = t
      refine wp_cons (ws_set (d := .int ((t * area u : Nat) : Int)) ?_ (by wtm_at "d_set") (wp_nil ⟨_, rfl⟩))
      rw [Int.natCast_mul, GM.area_nm]
      show Ev _ _ _ (.int ((t : Int) * (u.1 * u.1 + u.2 * u.2)))
      wtm_at "d_ev"
    · rintro S ⟨s, rfl⟩
      rw [List.length_map, List.take_length]
      exact wp_cons (ws_ret (by wtm_at "d_ev") rfl)
inductive RWavesOf : Gr
  | mk (u : Gauss) (h W : Nat) : CS.isScr u.1 u.2 = true → 1 ≤ h → h ≤ 8 → W ≤ 262144 → RWavesOf [pg u, .int (h : Int), .int (W : Int)] (.list ((harmonics h).map fun g => .tuple [pg g, pg (Bt.wave W u g)]))
abbrev tWavesOf : Tx := ⟨["screen", "h", "lower", "scale", "harmonic"], [.cel, .loc, .loc, .cel, .hid], ["area", "harmonics"], defScope sWavesOf, [("area", 1, RArea), ("harmonics", 1, RHarmonics), ("times", 2, RTimes)], true, [], [], [], [], none, []⟩
--   listcomp at row 63: own [("harmonic", 4)] kd [.fre, .hid, .hid, .fre, .loc] gl ["times"]
theorem ok_WavesOf (F : Fun K "waves_of" "waves_of" sWavesOf f fd) (hbl : ∀ x, x ∈ bl → mg x = none) (c_area : Cal0 P w K mg base 2 "area" 1 RArea) (c_harmonics : Cal0 P w K mg base 2 "harmonics" 1 RHarmonics) (c_times : Cal0 P w K mg base 2 "times" 2 RTimes) :
    FnOk P w K mg base CX0 3 f fd ["screen", "h", "lower"] (spOf K 3 RWavesOf) := by
  refine fn_ok (T := tWavesOf) F rfl rfl ⟨rfl, rfl, rfl, by decide +kernel, rfl, by decide +kernel, by decide +kernel⟩ (by decide +kernel) (fun _ _ _ h => ?_) hbl (fun _ _ h => nomatch h) (fun _ _ h => nomatch h) (fun _ _ _ h => nomatch h) (fun _ _ _ _ h => nomatch h) fun ds r hl h => ?_
  · simp only [List.mem_cons, Prod.mk.injEq, List.not_mem_nil, or_false] at h
    rcases h with ⟨rfl, rfl, rfl⟩ | ⟨rfl, rfl, rfl⟩ | ⟨rfl, rfl, rfl⟩
    · exact c_area
    · exact c_harmonics
    · exact c_times
  cases h with
  | mk u h W hs h1 h2 hW =>
    show Wp tWavesOf _ _ [.val (pg u), .val (.int (h : Int)), .val (.int (W : Int)), .no, .no]
    have q3 : GM.nm u ≤ 64 := CS.scr_nm hs
    have q4 := GM.nm_pos (CS.scr_ne hs)
    have q5 : u.1 * u.1 + u.2 * u.2 ≤ 64 := q3
    have q6 : 0 < u.1 * u.1 + u.2 * u.2 := q4
    have hb := Mx.bd59 (show u.1 * u.1 + u.2 * u.2 < 332306998946228968225951765070086144 by omega)
    have b1 : Bd u.1 := ⟨by omega, by omega⟩
    have b2 : Bd u.2 := ⟨by omega, by omega⟩
    have hd : CDivW (W : Int) (u.1 * u.1 + u.2 * u.2) := ⟨q6, by omega⟩
    refine wp_cons (ws_set (d := .tuple [.int ((W : Int) / (u.1 * u.1 + u.2 * u.2)), .int 0]) (by wtm_at "d_ev") (by wtm_at "d_set") ?_)
    have d1 : (W : Int) / (u.1 * u.1 + u.2 * u.2) ≤ W := Int.ediv_le_self _ (by omega)
    have d2 : 0 ≤ (W : Int) / (u.1 * u.1 + u.2 * u.2) := Int.ediv_nonneg (by omega) (by omega)
    have b3 : Bd ((W : Int) / (u.1 * u.1 + u.2 * u.2)) := ⟨by omega, by omega⟩
    have b4 : Bd (0 : Int) := ⟨by omega, by omega⟩
    have hl24 := Bt.harm_len h1 h2
    refine wp_cons (ws_ret (d := .list ((harmonics h).map fun g => .tuple [pg g, pg (Bt.wave W u g)])) ?_ rfl)
    refine ev_lc (xs := (harmonics h).map pg) (i := 4) (kd := [.fre, .hid, .hid, .fre, .loc]) (gl := ["times"]) ?_ rfl rfl (by decide +kernel) (by decide +kernel) ?_ ?_ ?_
    · exact evi_list (by wtm_at "d_ev")
    · rw [List.length_map, List.length_map]
    · intro k d y e1 e2
      rw [List.getElem?_map] at e1 e2
      cases hg : (harmonics h)[k]? with
      | none => rw [hg] at e2; cases e2
      | some g =>
        rw [hg] at e1 e2
        have := Option.some.inj e1
        have := Option.some.inj e2
        subst d y
        have hgb := Bt.harm_bd (List.mem_of_getElem? hg)
        have b5 : Bd g.1 := ⟨by omega, by omega⟩
        have b6 : Bd g.2 := ⟨by omega, by omega⟩
        generalize hk : (W : Int) / (u.1 * u.1 + u.2 * u.2) = kk at b3
        have ew : Bt.wave W u g = times (times u g) (kk, 0) := by rw [← hk]; rfl
        show Ev _ _ _ (.tuple [pg g, pg (Bt.wave W u g)])
        rw [ew]
        show Ev _ [.val (.tuple [.int u.1, .int u.2]), _, _, .val (.tuple [.int kk, .int 0]), .val (pg g)] _ _
        refine Ev.cast (by wtm_at "d_ev") ?_
        rfl
    · rw [List.length_map]
      exact Nat.le_trans hl24 (by decide)
abbrev bdat (W : Nat) (l : List Gauss) (n : Nat) (r : List Gauss) : PyData := .tuple [.list ((Beats.flat r).map .int), pg (Bt.pb W (l.take n) r)]
inductive RBeatsOf : Gr
  | mk (l : List Gauss) (h : Nat) : (∀ u ∈ l, CS.isScr u.1 u.2 = true) → l.length ≤ 3 → 1 ≤ h → h ≤ 8 → RBeatsOf [.list (l.map pg), .int (h : Int)] (.list ((rowsBy h l.length).map fun r => .tuple [.list ((Beats.flat r).map .int), pg (beat l r)]))
abbrev tBeatsOf : Tx := ⟨["screens", "h", "lower", "beats", "screen", "waves", "longer", "beat", "wave"], [.loc, .loc, .loc, .loc, .loc, .loc, .loc, .loc, .loc], ["product_of_areas", "waves_of", "list", "plus"], defScope sBeatsOf, [("product_of_areas", 1, RProductOfAreas), ("waves_of", 3, RWavesOf), ("plus", 2, RPlus)], true, [], [], [], [], none, []⟩
theorem ok_BeatsOf (F : Fun K "beats_of" "beats_of" sBeatsOf f fd) (hbl : ∀ x, x ∈ bl → mg x = none) (c_product_of_areas : Cal0 P w K mg base 3 "product_of_areas" 1 RProductOfAreas) (c_waves_of : Cal0 P w K mg base 3 "waves_of" 3 RWavesOf) (c_plus : Cal0 P w K mg base 3 "plus" 2 RPlus) :
    FnOk P w K mg base CX0 4 f fd ["screens", "h"] (spOf K 2 RBeatsOf) := by
  refine fn_ok (T := tBeatsOf) F rfl rfl ⟨rfl, rfl, rfl, by decide +kernel, rfl, by decide +kernel, by decide +kernel⟩ (by decide +kernel) (fun _ _ _ h => ?_) hbl (fun _ _ h => nomatch h) (fun _ _ h => nomatch h) (fun _ _ _ h => nomatch h) (fun _ _ _ _ h => nomatch h) fun ds r hl h => ?_
  · simp only [List.mem_cons, Prod.mk.injEq, List.not_mem_nil, or_false] at h
    rcases h with ⟨rfl, rfl, rfl⟩ | ⟨rfl, rfl, rfl⟩ | ⟨rfl, rfl, rfl⟩
    · exact c_product_of_areas
    · exact c_waves_of
    · exact c_plus
  cases h with
  | mk l h hok hl3 h1 h2 =>
    show Wp tBeatsOf _ _ [.val (.list (l.map pg)), .val (.int (h : Int)), .no, .no, .no, .no, .no, .no, .no]
    refine wp_cons (ws_set (d := .int (whole l : Nat)) ?_ (by wtm_at "d_set") ?_)
    · refine ev_call (n := 1) (R := RProductOfAreas) (by wtm_at "d_in") (by wtm_at "d_in") (by wtm_at "d_eva") rfl (RProductOfAreas.mk l hok)
    have hW := (Bt.whole_le hok).2
    have hW : whole l ≤ 262144 := by
      have : l.length = 0 ∨ l.length = 1 ∨ l.length = 2 ∨ l.length = 3 := by omega
      rcases this with q | q | q | q <;> rw [q] at hW <;> omega
    have e0 : (rowsBy h l.length).map (fun r => PyData.tuple [.list ((Beats.flat r).map .int), pg (beat l r)]) = (rowsBy h l.length).map (bdat (whole l) l l.length) := by
      show _ = (rowsBy h l.length).map (fun r => PyData.tuple [.list ((Beats.flat r).map .int), pg (Bt.pb (whole l) (l.take l.length) r)])
      rw [List.take_length]
      rfl
    rw [e0]
    generalize whole l = W at hW
    have hl24 := Bt.harm_len h1 h2
    refine wp_cons (ws_set (d := .list ((rowsBy h 0).map (bdat W l 0))) ?_ (by wtm_at "d_set") ?_)
    · refine Ev.cast (by wtm_at "d_ev") ?_
      rfl
    refine wp_cons (ws_for (fun n S => ∃ s4 s5 s6 s7 s8, S = [.val (.list (l.map pg)), .val (.int (h : Int)), .val (.int (W : Nat)), .val (.list ((rowsBy h n).map (bdat W l n))), s4, s5, s6, s7, s8]) (xs := l.map pg) (k := .loc) (evi_list (by wtm_at "d_ev")) ⟨_, _, _, _, _, rfl⟩ ?_ ?_ 4 rfl rfl)
    · rintro n d S e1 ⟨s4, s5, s6, s7, s8, rfl⟩
      have hnl : n < l.length := by
        have := (List.getElem?_eq_some_iff.mp e1).1
        rw [List.length_map] at this
        exact this
      have ed : d = pg (l[n]'hnl) := by
        rw [List.getElem?_map, List.getElem?_eq_getElem hnl] at e1
        exact (Option.some.inj e1).symm
      subst ed
      have hs := hok (l[n]'hnl) (List.getElem_mem _)
      have ht : l.take (n + 1) = l.take n ++ [l[n]'hnl] := by rw [List.take_add_one, List.getElem?_eq_getElem hnl]; rfl
      refine ⟨_, by wtm_at "d_set", ?_⟩
      generalize hu : l[n]'hnl = u at hs ht
      refine wp_cons (ws_set (d := .list ((harmonics h).map fun g => .tuple [pg g, pg (Bt.wave W u g)])) ?_ (by wtm_at "d_set") ?_)
      · refine ev_call (n := 3) (R := RWavesOf) (by wtm_at "d_in") (by wtm_at "d_in") (by wtm_at "d_eva") rfl (RWavesOf.mk u h W hs h1 h2 hW)
      refine wp_cons (ws_setM (xs := []) (evl_list eva_nil) (by wtm_at "d_set") ?_)
      have hrn : (rowsBy h n).length ≤ 576 := by
        rw [Bt.rows_count]
        have a1 : (harmonics h).length ^ n ≤ 24 ^ n := Nat.pow_le_pow_left hl24 n
        have a2 : 24 ^ n ≤ 24 ^ 2 := Nat.pow_le_pow_right (by decide) (by omega)
        have a3 : 24 ^ 2 = 576 := by decide
        omega
      have hrl := Bt.rows_len h n
      have hsn := Bt.rows_snoc h n
      generalize hR : rowsBy h n = R at hrn hrl hsn
      let nxt : List Gauss → List PyData := fun r => (harmonics h).map fun g => bdat W l (n + 1) (r ++ [g])
      refine wp_cons (ws_for (fun m S => ∃ s7 s8, S = [.val (.list (l.map pg)), .val (.int (h : Int)), .val (.int (W : Nat)), .val (.list (R.map (bdat W l n))), .val (pg u), .val (.list ((harmonics h).map fun g => .tuple [pg g, pg (Bt.wave W u g)])), .ml ((R.take m).flatMap nxt), s7, s8]) (xs := R.map (bdat W l n)) (k := .loc) (evi_list (by wtm_at "d_ev")) ⟨_, _, rfl⟩ ?_ ?_ 7 rfl rfl)
      · rintro m d S e2 ⟨s7, s8, rfl⟩
        have hml : m < R.length := by
          have := (List.getElem?_eq_some_iff.mp e2).1
          rw [List.length_map] at this
          exact this
        have ed : d = bdat W l n (R[m]'hml) := by
          rw [List.getElem?_map, List.getElem?_eq_getElem hml] at e2
          exact (Option.some.inj e2).symm
        subst ed
        have htm : R.take (m + 1) = R.take m ++ [R[m]'hml] := by rw [List.take_add_one, List.getElem?_eq_getElem hml]; rfl
        have hrlen := hrl _ (List.getElem_mem hml)
        refine ⟨_, by wtm_at "d_set", ?_⟩
        generalize R[m]'hml = r at htm hrlen
        have hnx : ∀ q, (nxt q).length = (harmonics h).length := fun q => List.length_map ..
        have hfl := Bt.flat_len (R.take m) (harmonics h).length nxt (fun q _ => hnx q)
        have hfl2 : ((R.take m).flatMap nxt).length ≤ 13824 := by
          rw [hfl, List.length_take]
          have : min m R.length * (harmonics h).length ≤ 576 * 24 := Nat.mul_le_mul (by omega) hl24
          omega
        generalize hpre : (R.take m).flatMap nxt = pre at hfl2
        refine wp_cons (ws_for (fun k S => ∃ s8, S = [.val (.list (l.map pg)), .val (.int (h : Int)), .val (.int (W : Nat)), .val (.list (R.map (bdat W l n))), .val (pg u), .val (.list ((harmonics h).map fun g => .tuple [pg g, pg (Bt.wave W u g)])), .ml (pre ++ ((harmonics h).take k).map fun g => bdat W l (n + 1) (r ++ [g])), .val (bdat W l n r), s8]) (xs := (harmonics h).map fun g => .tuple [pg g, pg (Bt.wave W u g)]) (k := .loc) (evi_list (by wtm_at "d_ev")) ⟨s8, ?_⟩ ?_ ?_ 8 rfl rfl)
        · rw [List.take_zero, List.map_nil, List.append_nil]
        · rintro k d S e3 ⟨s8, rfl⟩
          have hkl : k < (harmonics h).length := by
            have := (List.getElem?_eq_some_iff.mp e3).1
            rw [List.length_map] at this
            exact this
          have ed : d = .tuple [pg ((harmonics h)[k]'hkl), pg (Bt.wave W u ((harmonics h)[k]'hkl))] := by
            rw [List.getElem?_map, List.getElem?_eq_getElem hkl] at e3
            exact (Option.some.inj e3).symm
          subst ed
          have htk : (harmonics h).take (k + 1) = (harmonics h).take k ++ [(harmonics h)[k]'hkl] := by rw [List.take_add_one, List.getElem?_eq_getElem hkl]; rfl
          refine ⟨_, by wtm_at "d_set", ?_⟩
          generalize (harmonics h)[k]'hkl = g at htk
          have hlen : (pre ++ ((harmonics h).take k).map fun g => bdat W l (n + 1) (r ++ [g])).length < sizeLine := by
            rw [List.length_append, List.length_map, List.length_take]
            exact Nat.lt_of_lt_of_le (m := 20000) (by omega) (by decide)
          refine wp_cons (ws_append (xs := pre ++ ((harmonics h).take k).map fun g => bdat W l (n + 1) (r ++ [g])) (d := bdat W l (n + 1) (r ++ [g])) (by wtm_at "d_at") ?_ (by wtm_at "d_set") (wp_nil ⟨.val (.tuple [pg g, pg (Bt.wave W u g)]), ?_⟩) hlen)
          · have ep : Bt.pb W (l.take (n + 1)) (r ++ [g]) = ((Bt.pb W (l.take n) r).1 + (Bt.wave W u g).1, (Bt.pb W (l.take n) r).2 + (Bt.wave W u g).2) := by
              rw [ht, Bt.pb_snoc W _ _ _ _ (by rw [List.length_take, hrlen]; omega), Bt.stepB_wave]
            have ef : (Beats.flat (r ++ [g])).map PyData.int = (Beats.flat r).map PyData.int ++ [.int g.1, .int g.2] := by
              rw [Bt.flat_snoc, List.map_append]; rfl
            show Ev _ _ _ (.tuple [.list ((Beats.flat (r ++ [g])).map .int), pg (Bt.pb W (l.take (n + 1)) (r ++ [g]))])
            rw [ep, ef]
            have hz : ((Beats.flat r).map PyData.int).length + ([PyData.int g.1, .int g.2] : List PyData).length ≤ sizeLine := by
              rw [List.length_map, Bt.flat_length, hrlen]
              exact Nat.le_trans (m := 100) (by show 2 * n + 2 ≤ 100; omega) (by decide)
            refine ev_tup (eva_cons ?_ (eva_cons ?_ eva_nil))
            · refine ev_cat ?_ (evl_listOf (d1 := pg g) (by wtm_at "d_in") (by wtm_at "d_ev") (.inr rfl)).ev hz
              wtm_at "d_ev"
            · wtm_at "d_ev"
          · rw [htk, List.map_append, ← List.append_assoc]
            rfl
        · rintro S ⟨s8, rfl⟩
          refine wp_nil ⟨.val (bdat W l n r), s8, ?_⟩
          rw [List.length_map, List.take_length, htm, List.flatMap_append, hpre, List.flatMap_cons, List.flatMap_nil, List.append_nil]
      · rintro S ⟨s7, s8, rfl⟩
        rw [List.length_map, List.take_length]
        refine wp_freeze (x := "longer") (k := .loc) (xs := R.flatMap nxt) (by wtm_at "d_at") (by wtm_at "d_set") ?_
        have en : R.flatMap nxt = (rowsBy h (n + 1)).map (bdat W l (n + 1)) := by
          rw [hsn, List.map_flatMap]
          congr 1
          funext q
          rw [List.map_map]
          rfl
        rw [en]
        refine wp_cons (ws_set (d := .list ((rowsBy h (n + 1)).map (bdat W l (n + 1)))) (by wtm_at "d_ev") (by wtm_at "d_set") (wp_nil ⟨_, _, _, _, _, rfl⟩))
    · rintro S ⟨s4, s5, s6, s7, s8, rfl⟩
      rw [List.length_map]
      exact wp_cons (ws_ret (by wtm_at "d_ev") rfl)
inductive RLeastTerms : Gr
  | mk (m n : Nat) : 0 < m → 0 < n → (m : Int) < 288230376151711744 → (n : Int) < 288230376151711744 → RLeastTerms [.int (m : Int), .int (n : Int)] (.list [.int ((m / Nat.gcd m n : Nat) : Int), .int ((n / Nat.gcd m n : Nat) : Int)])
abbrev tLeastTerms : Tx := ⟨["upper", "lower", "divisor"], [.loc, .loc, .loc], ["joint_of"], defScope sLeastTerms, [("joint_of", 2, RJointOf)], true, [], [], [], [], none, []⟩
theorem ok_LeastTerms (F : Fun K "least_terms" "least_terms" sLeastTerms f fd) (hbl : ∀ x, x ∈ bl → mg x = none) (c_joint_of : Cal0 P w K mg base 5 "joint_of" 2 RJointOf) :
    FnOk P w K mg base CX0 6 f fd ["upper", "lower"] (spOf K 2 RLeastTerms) := by
  refine fn_ok (T := tLeastTerms) F rfl rfl ⟨rfl, rfl, rfl, by decide +kernel, rfl, by decide +kernel, by decide +kernel⟩ (by decide +kernel) (fun _ _ _ h => ?_) hbl (fun _ _ h => nomatch h) (fun _ _ h => nomatch h) (fun _ _ _ h => nomatch h) (fun _ _ _ _ h => nomatch h) fun ds r hl h => ?_
  · simp only [List.mem_cons, Prod.mk.injEq, List.not_mem_nil, or_false] at h
    rcases h with ⟨rfl, rfl, rfl⟩
    · exact c_joint_of
  cases h with
  | mk m n hm hn h1 h2 =>
    show Wp tLeastTerms _ _ [.val (.int (m : Int)), .val (.int (n : Int)), .no]
    have sq : ∀ x : Int, 0 ≤ x → x < 288230376151711744 → x * x < 83076749736557242056487941267521536 := fun x a b => by
      have := Int.mul_le_mul (a := x) (b := x) (c := 288230376151711744) (d := 288230376151711744) (by omega) (by omega) a (by omega)
      have e : (288230376151711744 : Int) * 288230376151711744 = 83076749736557242056487941267521536 := by decide
      rcases Int.lt_or_le (x * x) (288230376151711744 * 288230376151711744) with q | q
      · omega
      · exfalso
        have p : 0 < (288230376151711744 - x) * (288230376151711744 + x) := Int.mul_pos (by omega) (by omega)
        have e2 : (288230376151711744 - x) * (288230376151711744 + x) = 288230376151711744 * 288230376151711744 - x * x := by grind
        omega
    have q1 : (m : Int) * (m : Int) + 0 * 0 < 83076749736557242056487941267521536 := by have := sq m (by omega) h1; omega
    have q2 : (n : Int) * (n : Int) + 0 * 0 < 83076749736557242056487941267521536 := by have := sq n (by omega) h2; omega
    have q0 : ((m : Int), (0 : Int)) ≠ ((0, 0) : Gauss) := fun z => by
      have := congrArg Prod.fst z
      simp only at this
      omega
    have hj := Sl.joint_real (m := m) (n := n) hm
    have gp : 0 < Nat.gcd m n := Nat.gcd_pos_of_pos_left _ hm
    have gl : Nat.gcd m n ≤ m := Nat.gcd_le_left _ hm
    refine wp_cons (ws_set (d := .int ((Nat.gcd m n : Nat) : Int)) ?_ (by wtm_at "d_set") ?_)
    · refine ev_ixT (xs := [.int ((joint ((m : Int), 0) ((n : Int), 0)).1), .int ((joint ((m : Int), 0) ((n : Int), 0)).2)]) (k := 0) ?_ (by wtm_at "d_ev") (by rw [hj]; rfl)
      exact ev_call (n := 2) (R := RJointOf) (by wtm_at "d_in") (by wtm_at "d_in") (by wtm_at "d_eva") rfl (RJointOf.mk (m : Int) 0 (n : Int) 0 q0 q1 q2)
    have e1 : ((m / Nat.gcd m n : Nat) : Int) = (m : Int) / ((Nat.gcd m n : Nat) : Int) := Int.natCast_ediv ..
    have e2 : ((n / Nat.gcd m n : Nat) : Int) = (n : Int) / ((Nat.gcd m n : Nat) : Int) := Int.natCast_ediv ..
    rw [e1, e2]
    have d1 : CDivW (m : Int) ((Nat.gcd m n : Nat) : Int) := ⟨by omega, by omega⟩
    have d2 : CDivW (n : Int) ((Nat.gcd m n : Nat) : Int) := ⟨by omega, by omega⟩
    generalize ((Nat.gcd m n : Nat) : Int) = g at d1 d2
    refine wp_cons (ws_ret (by wtm_at "d_ev") ?_)
    rfl
inductive RIsOrder : Gr
  | mk (h : Int) : RIsOrder [.int h] (.bool (decide (1 ≤ h) && decide (h ≤ 8)))
abbrev tIsOrder : Tx := ⟨["h"], [.loc], [], defScope sIsOrder, [], true, [], [], [], [], none, []⟩
theorem ok_IsOrder (F : Fun K "is_order" "is_order" sIsOrder f fd) (hbl : ∀ x, x ∈ bl → mg x = none) :
    FnOk P w K mg base CX0 1 f fd ["h"] (spOf K 1 RIsOrder) := by
  refine fn_ok (T := tIsOrder) F rfl rfl ⟨rfl, rfl, rfl, by decide +kernel, rfl, by decide +kernel, by decide +kernel⟩ (by decide +kernel) (fun _ _ _ h => nomatch h) hbl (fun _ _ h => nomatch h) (fun _ _ h => nomatch h) (fun _ _ _ h => nomatch h) (fun _ _ _ _ h => nomatch h) fun ds r hl h => ?_
  cases h with
  | mk h =>
    show Wp tIsOrder _ _ [.val (.int h)]
    refine wp_cons (ws_ret (by wtm_at "d_ev") ?_)
    rfl
-- the slot that keeps the table:
-- jt 5
inductive RSlowest : Gr
  | mk (h : Int) (ns : List Int) : ns.length ≤ 64 → (∀ n ∈ ns, 0 ≤ n) → 0 ≤ h → RSlowest [.int h, .list (ns.map .int)] (.list ((PyWqaeca.slowest h ns).map .int))
theorem filt_mapS {α : Type} (l : List α) (p : α → Bool) (f : α → PyData) : (l.map fun x => if p x then some (f x) else none).filterMap id = (l.filter p).map f := by
  induction l with
  | nil => rfl
  | cons x l ih =>
    rw [List.map_cons, List.filterMap_cons, List.filter_cons]
    cases p x <;> simp [ih]
abbrev tSlowest : Tx := ⟨["h", "z", "screens", "moving", "beat", "lower"], [.loc, .loc, .loc, .loc, .loc, .loc], ["screens_of", "len", "is_order", "refusal", "beats_of", "min", "product_of_areas", "answer", "least_terms", "area"], defScope sSlowest, [("screens_of", 1, RScreensOf), ("is_order", 1, RIsOrder), ("refusal", 1, RRefusal), ("beats_of", 2, RBeatsOf), ("product_of_areas", 1, RProductOfAreas), ("answer", 2, RAnswer), ("least_terms", 2, RLeastTerms), ("area", 1, RArea)], true, [], [], [], [], some "slowest", [("area", 1, RArea)]⟩
--   listcomp at row 84: own [("beat", 4)] kd [.hid, .hid, .hid, .hid, .loc, .hid] gl []
--   lambda at row 85: own [] kd [.hid, .hid, .hid, .hid, .hid, .hid] gl ["area"]
theorem ok_Slowest {oc kV doc pm ct : Value} {od an : Option Addr} {osl : Array (Option Value)} {cc Pt : Addr} (lk : K.lookup f = some ⟨oc, od, .func (PySem.W.fnOf "slowest" "slowest" (defArgs sSlowest) (defBody sSlowest) (defScope sSlowest) .none kV doc pm an (.ref cc) ct), osl⟩) (hcd : PySem.W.codeIn K (.ref cc) "slowest" = true) (ht : PySem.W.tabIn K "slowest" = some (cc, Pt)) (hC : PySem.W.CodeHd base cc Pt) (hB : base.BuiltinsAt mg Pt) (hbl : ∀ x, x ∈ bl → mg x = none) (c_screens_of : Cal0 P w K mg base 6 "screens_of" 1 RScreensOf) (c_is_order : Cal0 P w K mg base 6 "is_order" 1 RIsOrder) (c_refusal : Cal0 P w K mg base 6 "refusal" 1 RRefusal) (c_beats_of : Cal0 P w K mg base 6 "beats_of" 2 RBeatsOf) (c_product_of_areas : Cal0 P w K mg base 6 "product_of_areas" 1 RProductOfAreas) (c_answer : Cal0 P w K mg base 6 "answer" 2 RAnswer) (c_least_terms : Cal0 P w K mg base 6 "least_terms" 2 RLeastTerms) (c_area : Cal0 P w K mg base 6 "area" 1 RArea) (l_area : Cal0 P w K mg base 1 "area" 1 RArea) :
    FnOk P w K mg base CX0 7 f (PySem.W.fnOf "slowest" "slowest" (defArgs sSlowest) (defBody sSlowest) (defScope sSlowest) .none kV doc pm an (.ref cc) ct) ["h", "z"] (spOfT K "slowest" 2 RSlowest) := by
  refine fn_okT (T := tSlowest) (jt := 5) lk hcd ht hC hB (by decide) rfl rfl ⟨rfl, rfl, rfl, by decide +kernel, rfl, by decide +kernel, by decide +kernel⟩ (by decide +kernel) (fun _ _ _ h => ?_) hbl (fun _ _ h => nomatch h) (fun _ _ h => nomatch h) (fun _ _ _ h => nomatch h) (fun _ _ _ _ h => nomatch h) (fun _ _ _ h => ?_) rfl fun ds r hl h => ?_
  · simp only [List.mem_cons, Prod.mk.injEq, List.not_mem_nil, or_false] at h
    rcases h with ⟨rfl, rfl, rfl⟩ | ⟨rfl, rfl, rfl⟩ | ⟨rfl, rfl, rfl⟩ | ⟨rfl, rfl, rfl⟩ | ⟨rfl, rfl, rfl⟩ | ⟨rfl, rfl, rfl⟩ | ⟨rfl, rfl, rfl⟩ | ⟨rfl, rfl, rfl⟩
    · exact c_screens_of
    · exact c_is_order
    · exact c_refusal
    · exact c_beats_of
    · exact c_product_of_areas
    · exact c_answer
    · exact c_least_terms
    · exact c_area
  · simp only [List.mem_cons, Prod.mk.injEq, List.not_mem_nil, or_false] at h
    rcases h with ⟨rfl, rfl, rfl⟩
    · exact l_area
  cases h with
  | mk h ns hns hn hh =>
    show Wp tSlowest _ _ [.val (.int h), .val (.list (ns.map .int)), .no, .no, .no, .tb "slowest" #[]]
    refine wp_cons (ws_set (d := .list (scrD ns)) ?_ (by wtm_at "d_set") ?_)
    · wtm_at "d_ev"
    rw [Sl.slowest_spec h ns hn, Bt.order_eq hh]
    have hok := CS.scrs_ok ns
    have hln := CS.scrs_len ns
    show Wp tSlowest _ _ [_, _, .val (.list ((CS.scrs ns).map pg)), .no, .no, .tb "slowest" #[]]
    generalize CS.scrs ns = l at hok hln
    refine wp_cons (ws_if (k := PyData.eqv (.int ((l.map pg).length : Nat)) (.int 0) || !(decide (1 ≤ h) && decide (h ≤ 8))) (by wtm_at "d_evt") (fun hk => ?_) (fun hk => ?_))
    · have e1 : PyData.eqv (.int ((l.map pg).length : Nat)) (.int 0) = (((l.map pg).length : Int) == 0) := rfl
      rw [e1, List.length_map] at hk
      have e2 : l = [] ∨ (decide (1 ≤ h) && decide (h ≤ 8)) = false := by
        rw [Bool.or_eq_true] at hk
        rcases hk with q | q
        · simp at q
          exact .inl q
        · exact .inr (by rw [Bool.not_eq_true'] at q; exact q)
      rw [if_pos e2]
      refine wp_cons (ws_ret (by wtm_at "d_ev") ?_)
      rfl
    · have e1 : PyData.eqv (.int ((l.map pg).length : Nat)) (.int 0) = (((l.map pg).length : Int) == 0) := rfl
      rw [e1, List.length_map] at hk
      rw [Bool.or_eq_false_iff] at hk
      have e2 : ¬ (l = [] ∨ (decide (1 ≤ h) && decide (h ≤ 8)) = false) := by
        rintro (rfl | q)
        · simp at hk
        · rw [q] at hk; simp at hk
      rw [if_neg e2]
      have hl0 : l ≠ [] := fun z => e2 (.inl z)
      have e3 : 1 ≤ h ∧ h ≤ 8 := by
        have := hk.2
        simpa using this
      refine wp_nil ?_
      obtain ⟨k, rfl⟩ := Int.eq_ofNat_of_zero_le hh
      rw [Int.toNat_natCast]
      have hl24 := Bt.harm_len (h := k) (by omega) (by omega)
      have hrl := Bt.rows_len k l.length
      have hrm := Bt.rows_mem k l.length
      have hW0 := Bt.whole_le hok
      have hW : whole l ≤ 262144 := by
        have hW := hW0.2
        have : l.length = 0 ∨ l.length = 1 ∨ l.length = 2 ∨ l.length = 3 := by omega
        rcases this with q | q | q | q <;> rw [q] at hW <;> omega
      have hrn : (rowsBy k l.length).length ≤ 13824 := by
        rw [Bt.rows_count]
        have a1 : (harmonics k).length ^ l.length ≤ 24 ^ l.length := Nat.pow_le_pow_left hl24 _
        have a2 : 24 ^ l.length ≤ 24 ^ 3 := Nat.pow_le_pow_right (by decide) (by omega)
        have a3 : 24 ^ 3 = 13824 := by decide
        omega
      refine wp_cons (ws_setLcG (xs := (rowsBy k l.length).map fun r => .tuple [.list ((Beats.flat r).map .int), pg (beat l r)]) (ys := (rowsBy k l.length).map fun r => if !decide (beat l r = (0, 0)) then some (.tuple [.list ((Beats.flat r).map .int), pg (beat l r)]) else none) (own := [("beat", 4)]) (kd := [.hid, .hid, .hid, .hid, .loc, .hid]) (gl := []) ?_ (by decide +kernel) (by decide +kernel) (by decide) ?_ ?_ ?_ (by wtm_at "d_set") ?_)
      · exact evi_list (ev_call (n := 2) (R := RBeatsOf) (by wtm_at "d_in") (by wtm_at "d_in") (by wtm_at "d_eva") rfl (RBeatsOf.mk l k hok hln (by omega) (by omega)))
      · rw [List.length_map, List.length_map]
      · intro i d y q1 q2
        rw [List.getElem?_map] at q1 q2
        cases hg : (rowsBy k l.length)[i]? with
        | none => rw [hg] at q2; cases q2
        | some r =>
          rw [hg] at q1 q2
          have := Option.some.inj q1
          have := Option.some.inj q2
          subst d y
          show Item _ _ _ _ _ _ (.tuple [.list ((Beats.flat r).map .int), pg (beat l r)]) (if !decide (beat l r = (0, 0)) then some (.tuple [.list ((Beats.flat r).map .int), pg (beat l r)]) else none)
          generalize beat l r = bt
          refine ⟨[4], [.val (.int (k : Int)), .val (.list (ns.map .int)), .val (.list (l.map pg)), .no, .val (.tuple [.list ((Beats.flat r).map .int), pg bt]), .tb "slowest" #[]], !decide (bt = (0, 0)), by decide, tgt_name (k := .loc) (show SetAt _ _ [.val (.int (k : Int)), .val (.list (ns.map .int)), .val (.list (l.map pg)), .no, .no, .tb "slowest" #[]] _ _ _ _ from by wtm_at "d_set") rfl (.inl rfl), ?_, fun hk => ⟨_, if_pos hk, by wtm_at "d_ev"⟩, fun hk => if_neg (by rw [hk]; decide)⟩
          show EvT _ _ _ _
          rw [← ne_test bt]
          wtm_at "d_evt"
      · rw [List.length_map]
        exact Nat.le_trans hrn (by decide)
      rw [filt_mapS]
      have hmov := Sl.moving_some (h := k) hl0 hok (by omega) (by omega)
      have hslow : Plate.slowest l k = leastBy (square l) ((rowsBy k l.length).filter fun r => !decide (beat l r = (0, 0))) := by
        unfold Plate.slowest
        rw [Sl.moving_filter]
      have hFm : ∀ r ∈ (rowsBy k l.length).filter (fun r => !decide (beat l r = (0, 0))), r.length = l.length ∧ (∀ g ∈ r, g ∈ harmonics k) ∧ beat l r ≠ (0, 0) := fun r hr => by
        obtain ⟨m1, m2⟩ := List.mem_filter.mp hr
        exact ⟨hrl r m1, hrm r m1, by simpa using m2⟩
      have hpos : 0 < ((rowsBy k l.length).filter fun r => !decide (beat l r = (0, 0))).length := by
        obtain ⟨r, m1, m2⟩ := hmov
        exact List.length_pos_of_mem (List.mem_filter.mpr ⟨m1, by simpa using m2⟩)
      obtain ⟨i0, r, hi0, hle, hbest⟩ := Sl.least_at (square l) _ _ rfl hpos
      rw [hslow, hle]
      generalize (rowsBy k l.length).filter (fun r => !decide (beat l r = (0, 0))) = F at hFm hpos hi0 hbest
      have hr := hFm r (List.mem_of_getElem? hi0)
      have kfv : ∀ j r', F[j]? = some r' → F.getD j [] = r' := fun j r' q => by rw [List.getD_eq_getElem?_getD, q]; rfl
      show Wp tSlowest _ _ [.val (.int (k : Int)), .val (.list (ns.map .int)), .val (.list (l.map pg)), .val (.list (F.map fun r => .tuple [.list ((Beats.flat r).map .int), pg (beat l r)])), .no, .tb "slowest" #[]]
      refine wp_cons (ws_minKey (lv := "row") (jt := 5) (i0 := i0) (k := .loc) (d0 := .tuple [.list ((Beats.flat r).map .int), pg (beat l r)]) (kf := fun i => ((square l (F.getD i []) : Nat) : Int)) (TL := ⟨["row"], [.loc], ["area"], _, [("area", 1, RArea)], true, [], [], [], [], none, []⟩) (by wtm_at "d_in") (by wtm_at "d_at") rfl rfl ?_ ?_ ?_ ?_ rfl rfl (by decide +kernel) (fun z n R q => q) rfl rfl rfl rfl rfl rfl ⟨rfl, rfl, rfl, by decide +kernel, rfl, by decide +kernel, by decide +kernel⟩ (show SetAt _ _ [.val (.int (k : Int)), .val (.list (ns.map .int)), .val (.list (l.map pg)), .val (.list (F.map fun r => .tuple [.list ((Beats.flat r).map .int), pg (beat l r)])), .no, .no] _ _ _ _ from by wtm_at "d_set") ?_)
      · intro i z ps hi q
        match i, hi, q with
        | 0, _, q => cases q
        | 1, _, q => cases q
        | 2, _, q => cases q
        | 3, _, q => cases q
        | 4, _, q => cases q
        | 5, hi, _ => exact hi rfl
        | i + 6, _, q => cases q
      · rw [List.getElem?_map, hi0]
        rfl
      · intro j hj
        rw [List.length_map] at hj
        have hjr : F[j]? = some (F[j]'hj) := List.getElem?_eq_getElem hj
        have b := hbest j _ hjr
        show ((square l (F.getD i0 []) : Nat) : Int) ≤ ((square l (F.getD j []) : Nat) : Int) ∧ (j < i0 → ((square l (F.getD i0 []) : Nat) : Int) < ((square l (F.getD j []) : Nat) : Int))
        rw [kfv i0 r hi0, kfv j _ hjr]
        exact ⟨by omega, fun z => by have := b.2 z; omega⟩
      · intro i d q
        rw [List.getElem?_map] at q
        cases hg : F[i]? with
        | none => rw [hg] at q; cases q
        | some r' =>
          rw [hg] at q
          have := Option.some.inj q
          subst d
          show Ev _ [.val (.tuple [.list ((Beats.flat r').map .int), pg (beat l r')])] _ (.int ((square l (F.getD i []) : Nat) : Int))
          rw [kfv i r' hg]
          have es : ((square l r' : Nat) : Int) = (beat l r').1 * (beat l r').1 + (beat l r').2 * (beat l r').2 := GM.area_nm (beat l r')
          rw [es]
          have hb := Sl.beat_bd hok hln (hFm r' (List.mem_of_getElem? hg)).2.1 hW
          generalize beat l r' = bt at hb
          have b1 : Bd bt.1 := ⟨by omega, by omega⟩
          have b2 : Bd bt.2 := ⟨by omega, by omega⟩
          wtm_at "d_ev"
      refine wp_cons (ws_set (d := .int ((whole l : Nat) : Int)) ?_ (by wtm_at "d_set") ?_)
      · exact ev_call (n := 1) (R := RProductOfAreas) (by wtm_at "d_in") (by wtm_at "d_in") (by wtm_at "d_eva") rfl (RProductOfAreas.mk l hok)
      have hb := Sl.beat_bd hok hln hr.2.1 hW
      have es : ((square l r : Nat) : Int) = (beat l r).1 * (beat l r).1 + (beat l r).2 * (beat l r).2 := GM.area_nm (beat l r)
      have sp : 0 < square l r := by
        rcases Nat.eq_zero_or_pos (square l r) with z | z
        · exact absurd ((Bt.area_zero_iff _).mp z) hr.2.2
        · exact z
      have sb : ((square l r : Nat) : Int) < 288230376151711744 := by
        rw [es]
        have sq : ∀ x : Int, -25165824 ≤ x → x ≤ 25165824 → x * x ≤ 25165824 * 25165824 := fun x a b => by
          have p : 0 ≤ (25165824 - x) * (25165824 + x) := Int.mul_nonneg (by omega) (by omega)
          have e : (25165824 - x) * (25165824 + x) = 25165824 * 25165824 - x * x := by grind
          omega
        have s1 := sq _ hb.1.1 hb.1.2
        have s2 := sq _ hb.2.1 hb.2.2
        omega
      have wp : 0 < whole l * whole l := Nat.mul_pos hW0.1 hW0.1
      have wb : ((whole l * whole l : Nat) : Int) < 288230376151711744 := by
        have : whole l * whole l ≤ 262144 * 262144 := Nat.mul_le_mul hW hW
        omega
      have et : terms l r = (square l r / Nat.gcd (square l r) (whole l * whole l), whole l * whole l / Nat.gcd (square l r) (whole l * whole l)) := rfl
      have ha : ([PyData.int ((square l r / Nat.gcd (square l r) (whole l * whole l) : Nat) : Int), .int ((whole l * whole l / Nat.gcd (square l r) (whole l * whole l) : Nat) : Int)] ++ (Beats.flat r).map PyData.int).length ≤ 1000 := by
        rw [List.length_append, List.length_map, Bt.flat_length, hr.1]
        show 2 + 2 * l.length ≤ 1000
        omega
      refine wp_cons (ws_ret (d := .list ([.int 1, .int 0, .int (([PyData.int ((square l r / Nat.gcd (square l r) (whole l * whole l) : Nat) : Int), .int ((whole l * whole l / Nat.gcd (square l r) (whole l * whole l) : Nat) : Int)] ++ (Beats.flat r).map PyData.int).length : Nat)] ++ ([.int ((square l r / Nat.gcd (square l r) (whole l * whole l) : Nat) : Int), .int ((whole l * whole l / Nat.gcd (square l r) (whole l * whole l) : Nat) : Int)] ++ (Beats.flat r).map .int))) ?_ ?_)
      · refine ev_call (n := 2) (R := RAnswer) (by wtm_at "d_in") (by wtm_at "d_in") (eva_cons (by wtm_at "d_ev") (eva_cons ?_ eva_nil)) rfl (RAnswer.mk 1 _ ha)
        refine ev_cat ?_ (by wtm_at "d_ev") ?_
        · refine ev_call (n := 2) (R := RLeastTerms) (by wtm_at "d_in") (by wtm_at "d_in") (eva_cons (d := .int ((square l r : Nat) : Int)) ?_ (eva_cons (d := .int ((whole l * whole l : Nat) : Int)) ?_ eva_nil)) rfl (RLeastTerms.mk (square l r) (whole l * whole l) sp wp sb wb)
          · rw [es]
            generalize beat l r = bt at hb
            have b1 : Bd bt.1 := ⟨by omega, by omega⟩
            have b2 : Bd bt.2 := ⟨by omega, by omega⟩
            wtm_at "d_ev"
          · rw [Int.natCast_mul]
            have hm : CMul (whole l : Nat) (whole l : Nat) := .inl ⟨by omega, by omega⟩
            wtm_at "d_ev"
        · rw [List.length_map, Bt.flat_length, hr.1]
          exact Nat.le_trans (m := 100) (by show 2 + 2 * l.length ≤ 100; omega) (by decide)
      · show _ = PyData.list (List.map PyData.int (1 :: 0 :: (((([((terms l r).1 : Int), ((terms l r).2 : Int)] : List Int) ++ Beats.flat r).length : Nat) : Int) :: ([((terms l r).1 : Int), ((terms l r).2 : Int)] ++ Beats.flat r)))
        rw [et, List.map_cons, List.map_cons, List.map_cons, List.map_append, List.length_append, List.length_append, List.length_map]
        rfl
end
end Cm

namespace Cm
open PySem PySem.Spec PyProof.Rows L2 Dn Plate
open PySem.W (Codec)
theorem all_mk {P : Program} {w : World} {K : PySem.W.Frag} {h : Heap} {mg : Str → Option Value} {fa f0 f1 f2 f3 f4 f5 f6 f7 f8 f9 f10 f11 f12 f13 f14 f15 f16 f17 f18 f19 f20 : Addr} (X : K.In h) (G : h.Ns mainGlobals mg) (hfa : mg "slowest" = some (.ref fa))
    {od0 an0 od1 an1 od2 an2 od3 an3 od4 an4 od5 an5 od6 an6 od7 an7 od8 an8 od9 an9 od10 an10 od11 an11 od12 an12 od13 an13 od14 an14 od15 an15 od16 an16 od17 an17 od18 an18 od19 an19 od20 an20 : Option Addr} {sl0 sl1 sl2 sl3 sl4 sl5 sl6 sl7 sl8 sl9 sl10 sl11 sl12 sl13 sl14 sl15 sl16 sl17 sl18 sl19 sl20 : Array (Option Value)} {oc0 kV0 dc0 pm0 cd0 ct0 oc1 kV1 dc1 pm1 cd1 ct1 oc2 kV2 dc2 pm2 cd2 ct2 oc3 kV3 dc3 pm3 cd3 ct3 oc4 kV4 dc4 pm4 cd4 ct4 oc5 kV5 dc5 pm5 cd5 ct5 oc6 kV6 dc6 pm6 cd6 ct6 oc7 kV7 dc7 pm7 cd7 ct7 oc8 kV8 dc8 pm8 cd8 ct8 oc9 kV9 dc9 pm9 cd9 ct9 oc10 kV10 dc10 pm10 cd10 ct10 oc11 kV11 dc11 pm11 cd11 ct11 oc12 kV12 dc12 pm12 cd12 ct12 oc13 kV13 dc13 pm13 cd13 ct13 oc14 kV14 dc14 pm14 cd14 ct14 oc15 kV15 dc15 pm15 cd15 ct15 oc16 kV16 dc16 pm16 cd16 ct16 oc17 kV17 dc17 pm17 cd17 ct17 oc18 kV18 dc18 pm18 cd18 ct18 oc19 kV19 dc19 pm19 cd19 ct19 oc20 kV20 dc20 pm20 ct20 : Value}
    (a0 : PySem.W.nsIn K mainGlobals "answer" = some (some (.ref f0))) (l0 : K.lookup f0 = some ⟨oc0, od0, .func (PySem.W.fnOf "answer" "answer" (defArgs sAnswer) (defBody sAnswer) (defScope sAnswer) .none kV0 dc0 pm0 an0 cd0 ct0), sl0⟩) (c0 : PySem.W.codeIn K cd0 "answer" = true) (k0 : PySem.W.keepIn K (.ref f0) = true)
    (a1 : PySem.W.nsIn K mainGlobals "refusal" = some (some (.ref f1))) (l1 : K.lookup f1 = some ⟨oc1, od1, .func (PySem.W.fnOf "refusal" "refusal" (defArgs sRefusal) (defBody sRefusal) (defScope sRefusal) .none kV1 dc1 pm1 an1 cd1 ct1), sl1⟩) (c1 : PySem.W.codeIn K cd1 "refusal" = true) (k1 : PySem.W.keepIn K (.ref f1) = true)
    (a2 : PySem.W.nsIn K mainGlobals "is_screen" = some (some (.ref f2))) (l2 : K.lookup f2 = some ⟨oc2, od2, .func (PySem.W.fnOf "is_screen" "is_screen" (defArgs sIsScreen) (defBody sIsScreen) (defScope sIsScreen) .none kV2 dc2 pm2 an2 cd2 ct2), sl2⟩) (c2 : PySem.W.codeIn K cd2 "is_screen" = true) (k2 : PySem.W.keepIn K (.ref f2) = true)
    (a3 : PySem.W.nsIn K mainGlobals "screens_of" = some (some (.ref f3))) (l3 : K.lookup f3 = some ⟨oc3, od3, .func (PySem.W.fnOf "screens_of" "screens_of" (defArgs sScreensOf) (defBody sScreensOf) (defScope sScreensOf) .none kV3 dc3 pm3 an3 cd3 ct3), sl3⟩) (c3 : PySem.W.codeIn K cd3 "screens_of" = true) (k3 : PySem.W.keepIn K (.ref f3) = true)
    (a4 : PySem.W.nsIn K mainGlobals "area" = some (some (.ref f4))) (l4 : K.lookup f4 = some ⟨oc4, od4, .func (PySem.W.fnOf "area" "area" (defArgs sArea) (defBody sArea) (defScope sArea) .none kV4 dc4 pm4 an4 cd4 ct4), sl4⟩) (c4 : PySem.W.codeIn K cd4 "area" = true) (k4 : PySem.W.keepIn K (.ref f4) = true)
    (a5 : PySem.W.nsIn K mainGlobals "plus" = some (some (.ref f5))) (l5 : K.lookup f5 = some ⟨oc5, od5, .func (PySem.W.fnOf "plus" "plus" (defArgs sPlus) (defBody sPlus) (defScope sPlus) .none kV5 dc5 pm5 an5 cd5 ct5), sl5⟩) (c5 : PySem.W.codeIn K cd5 "plus" = true) (k5 : PySem.W.keepIn K (.ref f5) = true)
    (a6 : PySem.W.nsIn K mainGlobals "minus" = some (some (.ref f6))) (l6 : K.lookup f6 = some ⟨oc6, od6, .func (PySem.W.fnOf "minus" "minus" (defArgs sMinus) (defBody sMinus) (defScope sMinus) .none kV6 dc6 pm6 an6 cd6 ct6), sl6⟩) (c6 : PySem.W.codeIn K cd6 "minus" = true) (k6 : PySem.W.keepIn K (.ref f6) = true)
    (a7 : PySem.W.nsIn K mainGlobals "times" = some (some (.ref f7))) (l7 : K.lookup f7 = some ⟨oc7, od7, .func (PySem.W.fnOf "times" "times" (defArgs sTimes) (defBody sTimes) (defScope sTimes) .none kV7 dc7 pm7 an7 cd7 ct7), sl7⟩) (c7 : PySem.W.codeIn K cd7 "times" = true) (k7 : PySem.W.keepIn K (.ref f7) = true)
    (a8 : PySem.W.nsIn K mainGlobals "nearest" = some (some (.ref f8))) (l8 : K.lookup f8 = some ⟨oc8, od8, .func (PySem.W.fnOf "nearest" "nearest" (defArgs sNearest) (defBody sNearest) (defScope sNearest) .none kV8 dc8 pm8 an8 cd8 ct8), sl8⟩) (c8 : PySem.W.codeIn K cd8 "nearest" = true) (k8 : PySem.W.keepIn K (.ref f8) = true)
    (a9 : PySem.W.nsIn K mainGlobals "quotient" = some (some (.ref f9))) (l9 : K.lookup f9 = some ⟨oc9, od9, .func (PySem.W.fnOf "quotient" "quotient" (defArgs sQuotient) (defBody sQuotient) (defScope sQuotient) .none kV9 dc9 pm9 an9 cd9 ct9), sl9⟩) (c9 : PySem.W.codeIn K cd9 "quotient" = true) (k9 : PySem.W.keepIn K (.ref f9) = true)
    (a10 : PySem.W.nsIn K mainGlobals "divisor_and_factor" = some (some (.ref f10))) (l10 : K.lookup f10 = some ⟨oc10, od10, .func (PySem.W.fnOf "divisor_and_factor" "divisor_and_factor" (defArgs sDivisorAndFactor) (defBody sDivisorAndFactor) (defScope sDivisorAndFactor) .none kV10 dc10 pm10 an10 cd10 ct10), sl10⟩) (c10 : PySem.W.codeIn K cd10 "divisor_and_factor" = true) (k10 : PySem.W.keepIn K (.ref f10) = true)
    (a11 : PySem.W.nsIn K mainGlobals "greatest_divisor" = some (some (.ref f11))) (l11 : K.lookup f11 = some ⟨oc11, od11, .func (PySem.W.fnOf "greatest_divisor" "greatest_divisor" (defArgs sGreatestDivisor) (defBody sGreatestDivisor) (defScope sGreatestDivisor) .none kV11 dc11 pm11 an11 cd11 ct11), sl11⟩) (c11 : PySem.W.codeIn K cd11 "greatest_divisor" = true) (k11 : PySem.W.keepIn K (.ref f11) = true)
    (a12 : PySem.W.nsIn K mainGlobals "upright" = some (some (.ref f12))) (l12 : K.lookup f12 = some ⟨oc12, od12, .func (PySem.W.fnOf "upright" "upright" (defArgs sUpright) (defBody sUpright) (defScope sUpright) .none kV12 dc12 pm12 an12 cd12 ct12), sl12⟩) (c12 : PySem.W.codeIn K cd12 "upright" = true) (k12 : PySem.W.keepIn K (.ref f12) = true)
    (a13 : PySem.W.nsIn K mainGlobals "joint_of" = some (some (.ref f13))) (l13 : K.lookup f13 = some ⟨oc13, od13, .func (PySem.W.fnOf "joint_of" "joint_of" (defArgs sJointOf) (defBody sJointOf) (defScope sJointOf) .none kV13 dc13 pm13 an13 cd13 ct13), sl13⟩) (c13 : PySem.W.codeIn K cd13 "joint_of" = true) (k13 : PySem.W.keepIn K (.ref f13) = true)
    (a14 : PySem.W.nsIn K mainGlobals "harmonics" = some (some (.ref f14))) (l14 : K.lookup f14 = some ⟨oc14, od14, .func (PySem.W.fnOf "harmonics" "harmonics" (defArgs sHarmonics) (defBody sHarmonics) (defScope sHarmonics) .none kV14 dc14 pm14 an14 cd14 ct14), sl14⟩) (c14 : PySem.W.codeIn K cd14 "harmonics" = true) (k14 : PySem.W.keepIn K (.ref f14) = true)
    (a15 : PySem.W.nsIn K mainGlobals "product_of_areas" = some (some (.ref f15))) (l15 : K.lookup f15 = some ⟨oc15, od15, .func (PySem.W.fnOf "product_of_areas" "product_of_areas" (defArgs sProductOfAreas) (defBody sProductOfAreas) (defScope sProductOfAreas) .none kV15 dc15 pm15 an15 cd15 ct15), sl15⟩) (c15 : PySem.W.codeIn K cd15 "product_of_areas" = true) (k15 : PySem.W.keepIn K (.ref f15) = true)
    (a16 : PySem.W.nsIn K mainGlobals "waves_of" = some (some (.ref f16))) (l16 : K.lookup f16 = some ⟨oc16, od16, .func (PySem.W.fnOf "waves_of" "waves_of" (defArgs sWavesOf) (defBody sWavesOf) (defScope sWavesOf) .none kV16 dc16 pm16 an16 cd16 ct16), sl16⟩) (c16 : PySem.W.codeIn K cd16 "waves_of" = true) (k16 : PySem.W.keepIn K (.ref f16) = true)
    (a17 : PySem.W.nsIn K mainGlobals "beats_of" = some (some (.ref f17))) (l17 : K.lookup f17 = some ⟨oc17, od17, .func (PySem.W.fnOf "beats_of" "beats_of" (defArgs sBeatsOf) (defBody sBeatsOf) (defScope sBeatsOf) .none kV17 dc17 pm17 an17 cd17 ct17), sl17⟩) (c17 : PySem.W.codeIn K cd17 "beats_of" = true) (k17 : PySem.W.keepIn K (.ref f17) = true)
    (a18 : PySem.W.nsIn K mainGlobals "least_terms" = some (some (.ref f18))) (l18 : K.lookup f18 = some ⟨oc18, od18, .func (PySem.W.fnOf "least_terms" "least_terms" (defArgs sLeastTerms) (defBody sLeastTerms) (defScope sLeastTerms) .none kV18 dc18 pm18 an18 cd18 ct18), sl18⟩) (c18 : PySem.W.codeIn K cd18 "least_terms" = true) (k18 : PySem.W.keepIn K (.ref f18) = true)
    (a19 : PySem.W.nsIn K mainGlobals "is_order" = some (some (.ref f19))) (l19 : K.lookup f19 = some ⟨oc19, od19, .func (PySem.W.fnOf "is_order" "is_order" (defArgs sIsOrder) (defBody sIsOrder) (defScope sIsOrder) .none kV19 dc19 pm19 an19 cd19 ct19), sl19⟩) (c19 : PySem.W.codeIn K cd19 "is_order" = true) (k19 : PySem.W.keepIn K (.ref f19) = true)
    {cc Pt : Addr} {occ : Value} {odc : Option Addr} {slc : Array (Option Value)} {vsc : Array Value} (a20 : PySem.W.nsIn K mainGlobals "slowest" = some (some (.ref f20))) (l20 : K.lookup f20 = some ⟨oc20, od20, .func (PySem.W.fnOf "slowest" "slowest" (defArgs sSlowest) (defBody sSlowest) (defScope sSlowest) .none kV20 dc20 pm20 an20 (.ref cc) ct20), sl20⟩) (c20 : PySem.W.codeIn K (.ref cc) "slowest" = true) (k20 : PySem.W.keepIn K (.ref f20) = true)
    (n0 : PySem.W.nsIn K mainGlobals "len" = some none)
    (n1 : PySem.W.nsIn K mainGlobals "range" = some none)
    (n2 : PySem.W.nsIn K mainGlobals "abs" = some none)
    (n3 : PySem.W.nsIn K mainGlobals "min" = some none)
    (n4 : PySem.W.nsIn K mainGlobals "max" = some none)
    (n5 : PySem.W.nsIn K mainGlobals "sum" = some none)
    (n6 : PySem.W.nsIn K mainGlobals "all" = some none)
    (n7 : PySem.W.nsIn K mainGlobals "any" = some none)
    (n8 : PySem.W.nsIn K mainGlobals "sorted" = some none)
    (n9 : PySem.W.nsIn K mainGlobals "divmod" = some none)
    (n10 : PySem.W.nsIn K mainGlobals "list" = some none)
    (n11 : PySem.W.nsIn K mainGlobals "tuple" = some none)
    (n12 : PySem.W.nsIn K mainGlobals "zip" = some none)
    (n13 : PySem.W.nsIn K mainGlobals "enumerate" = some none)
    (n14 : PySem.W.nsIn K mainGlobals "reversed" = some none)
    (n15 : PySem.W.nsIn K mainGlobals "int" = some none)
    (n16 : PySem.W.nsIn K mainGlobals "bool" = some none)
    (lcc : K.lookup cc = some ⟨occ, odc, .fields vsc, slc⟩) (v11 : vsc[11]? = some (.ref Pt)) (noT : K.lookup Pt = none)
    : ∃ (fd : FuncData) (c Pt : Addr), K.lookup Pt = none ∧ PySem.W.tabIn K "slowest" = some (c, Pt) ∧ (∀ (s : Shared) (us : List Value), us.length = (["h", "z"] : List Str).length → BindsTo s fd ⟨us, []⟩ ((["h", "z"] : List Str).zip us)) ∧ ∀ base : Heap, K.In base → base.Ns mainGlobals mg → PySem.W.CodeHd base c Pt → base.BuiltinsAt mg Pt → FnOk P w K mg base CX0 7 fa fd ["h", "z"] (spOfT K "slowest" 2 RSlowest) := by
  have e := hfa.symm.trans (PySem.W.mg_of X G a20)
  cases e
  have tbI : PySem.W.tabIn K "slowest" = some (cc, Pt) := by
    unfold PySem.W.tabIn
    simp only [a20, l20, lcc, v11]
  have hbl : ∀ x, x ∈ bl → mg x = none := fun x hx => by
    simp only [bl, List.mem_cons, List.not_mem_nil, or_false] at hx
    rcases hx with rfl | rfl | rfl | rfl | rfl | rfl | rfl | rfl | rfl | rfl | rfl | rfl | rfl | rfl | rfl | rfl | rfl
    · exact PySem.W.mg_none_of X G n0
    · exact PySem.W.mg_none_of X G n1
    · exact PySem.W.mg_none_of X G n2
    · exact PySem.W.mg_none_of X G n3
    · exact PySem.W.mg_none_of X G n4
    · exact PySem.W.mg_none_of X G n5
    · exact PySem.W.mg_none_of X G n6
    · exact PySem.W.mg_none_of X G n7
    · exact PySem.W.mg_none_of X G n8
    · exact PySem.W.mg_none_of X G n9
    · exact PySem.W.mg_none_of X G n10
    · exact PySem.W.mg_none_of X G n11
    · exact PySem.W.mg_none_of X G n12
    · exact PySem.W.mg_none_of X G n13
    · exact PySem.W.mg_none_of X G n14
    · exact PySem.W.mg_none_of X G n15
    · exact PySem.W.mg_none_of X G n16
  have F0 := fun_mk (st := sAnswer) l0 c0 k0
  have b0 := F0.binds (ps := ["number", "told"]) fun _ _ _ _ _ _ us hl => match us, hl with | [_, _], _ => rfl
  have F1 := fun_mk (st := sRefusal) l1 c1 k1
  have b1 := F1.binds (ps := ["number"]) fun _ _ _ _ _ _ us hl => match us, hl with | [_], _ => rfl
  have F2 := fun_mk (st := sIsScreen) l2 c2 k2
  have b2 := F2.binds (ps := ["a", "b"]) fun _ _ _ _ _ _ us hl => match us, hl with | [_, _], _ => rfl
  have F3 := fun_mk (st := sScreensOf) l3 c3 k3
  have b3 := F3.binds (ps := ["z"]) fun _ _ _ _ _ _ us hl => match us, hl with | [_], _ => rfl
  have F4 := fun_mk (st := sArea) l4 c4 k4
  have b4 := F4.binds (ps := ["u"]) fun _ _ _ _ _ _ us hl => match us, hl with | [_], _ => rfl
  have F5 := fun_mk (st := sPlus) l5 c5 k5
  have b5 := F5.binds (ps := ["u", "v"]) fun _ _ _ _ _ _ us hl => match us, hl with | [_, _], _ => rfl
  have F6 := fun_mk (st := sMinus) l6 c6 k6
  have b6 := F6.binds (ps := ["u", "v"]) fun _ _ _ _ _ _ us hl => match us, hl with | [_, _], _ => rfl
  have F7 := fun_mk (st := sTimes) l7 c7 k7
  have b7 := F7.binds (ps := ["u", "v"]) fun _ _ _ _ _ _ us hl => match us, hl with | [_, _], _ => rfl
  have F8 := fun_mk (st := sNearest) l8 c8 k8
  have b8 := F8.binds (ps := ["x", "n"]) fun _ _ _ _ _ _ us hl => match us, hl with | [_, _], _ => rfl
  have F9 := fun_mk (st := sQuotient) l9 c9 k9
  have b9 := F9.binds (ps := ["u", "v"]) fun _ _ _ _ _ _ us hl => match us, hl with | [_, _], _ => rfl
  have F10 := fun_mk (st := sDivisorAndFactor) l10 c10 k10
  have b10 := F10.binds (ps := ["u", "v"]) fun _ _ _ _ _ _ us hl => match us, hl with | [_, _], _ => rfl
  have F11 := fun_mk (st := sGreatestDivisor) l11 c11 k11
  have b11 := F11.binds (ps := ["u", "v"]) fun _ _ _ _ _ _ us hl => match us, hl with | [_, _], _ => rfl
  have F12 := fun_mk (st := sUpright) l12 c12 k12
  have b12 := F12.binds (ps := ["u"]) fun _ _ _ _ _ _ us hl => match us, hl with | [_], _ => rfl
  have F13 := fun_mk (st := sJointOf) l13 c13 k13
  have b13 := F13.binds (ps := ["u", "v"]) fun _ _ _ _ _ _ us hl => match us, hl with | [_, _], _ => rfl
  have F14 := fun_mk (st := sHarmonics) l14 c14 k14
  have b14 := F14.binds (ps := ["h"]) fun _ _ _ _ _ _ us hl => match us, hl with | [_], _ => rfl
  have F15 := fun_mk (st := sProductOfAreas) l15 c15 k15
  have b15 := F15.binds (ps := ["screens"]) fun _ _ _ _ _ _ us hl => match us, hl with | [_], _ => rfl
  have F16 := fun_mk (st := sWavesOf) l16 c16 k16
  have b16 := F16.binds (ps := ["screen", "h", "lower"]) fun _ _ _ _ _ _ us hl => match us, hl with | [_, _, _], _ => rfl
  have F17 := fun_mk (st := sBeatsOf) l17 c17 k17
  have b17 := F17.binds (ps := ["screens", "h"]) fun _ _ _ _ _ _ us hl => match us, hl with | [_, _], _ => rfl
  have F18 := fun_mk (st := sLeastTerms) l18 c18 k18
  have b18 := F18.binds (ps := ["upper", "lower"]) fun _ _ _ _ _ _ us hl => match us, hl with | [_, _], _ => rfl
  have F19 := fun_mk (st := sIsOrder) l19 c19 k19
  have b19 := F19.binds (ps := ["h"]) fun _ _ _ _ _ _ us hl => match us, hl with | [_], _ => rfl
  have F20 := fun_mk (st := sSlowest) l20 c20 k20
  have b20 := F20.binds (ps := ["h", "z"]) fun _ _ _ _ _ _ us hl => match us, hl with | [_, _], _ => rfl
  refine ⟨PySem.W.fnOf "slowest" "slowest" (defArgs sSlowest) (defBody sSlowest) (defScope sSlowest) .none kV20 dc20 pm20 an20 (.ref cc) ct20, cc, Pt, noT, tbI, fun s us hu => match us, hu with | [_, _], _ => .of_eq rfl, fun base kb nb hCb hBb => ?_⟩
  have g_answer : Cal0 P w K mg base 1 "answer" 2 RAnswer := ⟨f0, _, _, ok_Answer F0 hbl, PySem.W.mg_of X G a0, k0, b0⟩
  have g_refusal : Cal0 P w K mg base 2 "refusal" 1 RRefusal := ⟨f1, _, _, ok_Refusal F1 hbl (g_answer.mono (by decide)), PySem.W.mg_of X G a1, k1, b1⟩
  have g_is_screen : Cal0 P w K mg base 1 "is_screen" 2 RIsScreen := ⟨f2, _, _, ok_IsScreen F2 hbl, PySem.W.mg_of X G a2, k2, b2⟩
  have g_screens_of : Cal0 P w K mg base 2 "screens_of" 1 RScreensOf := ⟨f3, _, _, ok_ScreensOf F3 hbl (g_is_screen.mono (by decide)), PySem.W.mg_of X G a3, k3, b3⟩
  have g_area : Cal0 P w K mg base 1 "area" 1 RArea := ⟨f4, _, _, ok_Area F4 hbl, PySem.W.mg_of X G a4, k4, b4⟩
  have g_plus : Cal0 P w K mg base 1 "plus" 2 RPlus := ⟨f5, _, _, ok_Plus F5 hbl, PySem.W.mg_of X G a5, k5, b5⟩
  have g_minus : Cal0 P w K mg base 1 "minus" 2 RMinus := ⟨f6, _, _, ok_Minus F6 hbl, PySem.W.mg_of X G a6, k6, b6⟩
  have g_times : Cal0 P w K mg base 1 "times" 2 RTimes := ⟨f7, _, _, ok_Times F7 hbl, PySem.W.mg_of X G a7, k7, b7⟩
  have g_nearest : Cal0 P w K mg base 1 "nearest" 2 RNearest := ⟨f8, _, _, ok_Nearest F8 hbl, PySem.W.mg_of X G a8, k8, b8⟩
  have g_quotient : Cal0 P w K mg base 2 "quotient" 2 RQuotient := ⟨f9, _, _, ok_Quotient F9 hbl (g_area.mono (by decide)) (g_times.mono (by decide)) (g_nearest.mono (by decide)), PySem.W.mg_of X G a9, k9, b9⟩
  have g_divisor_and_factor : Cal0 P w K mg base 3 "divisor_and_factor" 2 RDivisorAndFactor := ⟨f10, _, _, ok_DivisorAndFactor F10 hbl (g_quotient.mono (by decide)) (g_minus.mono (by decide)) (g_times.mono (by decide)), PySem.W.mg_of X G a10, k10, b10⟩
  have g_greatest_divisor : Cal0 P w K mg base 4 "greatest_divisor" 2 RGreatestDivisor := ⟨f11, _, _, ok_GreatestDivisor F11 hbl (g_divisor_and_factor.mono (by decide)), PySem.W.mg_of X G a11, k11, b11⟩
  have g_upright : Cal0 P w K mg base 1 "upright" 1 RUpright := ⟨f12, _, _, ok_Upright F12 hbl, PySem.W.mg_of X G a12, k12, b12⟩
  have g_joint_of : Cal0 P w K mg base 5 "joint_of" 2 RJointOf := ⟨f13, _, _, ok_JointOf F13 hbl (g_upright.mono (by decide)) (g_greatest_divisor.mono (by decide)), PySem.W.mg_of X G a13, k13, b13⟩
  have g_harmonics : Cal0 P w K mg base 2 "harmonics" 1 RHarmonics := ⟨f14, _, _, ok_Harmonics F14 hbl (g_area.mono (by decide)), PySem.W.mg_of X G a14, k14, b14⟩
  have g_product_of_areas : Cal0 P w K mg base 2 "product_of_areas" 1 RProductOfAreas := ⟨f15, _, _, ok_ProductOfAreas F15 hbl (g_area.mono (by decide)), PySem.W.mg_of X G a15, k15, b15⟩
  have g_waves_of : Cal0 P w K mg base 3 "waves_of" 3 RWavesOf := ⟨f16, _, _, ok_WavesOf F16 hbl (g_area.mono (by decide)) (g_harmonics.mono (by decide)) (g_times.mono (by decide)), PySem.W.mg_of X G a16, k16, b16⟩
  have g_beats_of : Cal0 P w K mg base 4 "beats_of" 2 RBeatsOf := ⟨f17, _, _, ok_BeatsOf F17 hbl (g_product_of_areas.mono (by decide)) (g_waves_of.mono (by decide)) (g_plus.mono (by decide)), PySem.W.mg_of X G a17, k17, b17⟩
  have g_least_terms : Cal0 P w K mg base 6 "least_terms" 2 RLeastTerms := ⟨f18, _, _, ok_LeastTerms F18 hbl (g_joint_of.mono (by decide)), PySem.W.mg_of X G a18, k18, b18⟩
  have g_is_order : Cal0 P w K mg base 1 "is_order" 1 RIsOrder := ⟨f19, _, _, ok_IsOrder F19 hbl, PySem.W.mg_of X G a19, k19, b19⟩
  exact ok_Slowest l20 c20 tbI hCb hBb hbl (g_screens_of.mono (by decide)) (g_is_order.mono (by decide)) (g_refusal.mono (by decide)) (g_beats_of.mono (by decide)) (g_product_of_areas.mono (by decide)) (g_answer.mono (by decide)) (g_least_terms.mono (by decide)) (g_area.mono (by decide)) g_area
end Cm
open PySem PySem.W PyProof.Rows
set_option maxRecDepth 100000 in
set_option maxHeartbeats 0 in
theorem PySem.Challenge.cw_screenbeats_s05_slowest_holds : PySem.Challenge.rw_screenbeats_s05_slowest.Holds := by
  w_on; k_headS; (case hw => exact ⟨[.int 0, .list []], by decide +kernel, by decide +kernel⟩)
  k_fillS
  refine Dn.walk_specT (r := PySem.Challenge.rw_screenbeats_s05_slowest) (k := 7) (CX := L2.CX0) (ps := ["h", "z"]) (sp := fun K => Dn.spOfT K "slowest" 2 Cm.RSlowest) (by decide +kernel) rfl rfl ⟨rfl, by decide, by decide⟩ (fun w h Y => PySem.W.kIn_of Y) ?rec ?F ?S (fun _ _ _ _ z => z)
  case rec => rfl
  case F =>
    intro w mg fa h Y KX G hmg
    refine' Cm.all_mk KX G hmg ?a0 ?l0 ?c0 ?k0 ?a1 ?l1 ?c1 ?k1 ?a2 ?l2 ?c2 ?k2 ?a3 ?l3 ?c3 ?k3 ?a4 ?l4 ?c4 ?k4 ?a5 ?l5 ?c5 ?k5 ?a6 ?l6 ?c6 ?k6 ?a7 ?l7 ?c7 ?k7 ?a8 ?l8 ?c8 ?k8 ?a9 ?l9 ?c9 ?k9 ?a10 ?l10 ?c10 ?k10 ?a11 ?l11 ?c11 ?k11 ?a12 ?l12 ?c12 ?k12 ?a13 ?l13 ?c13 ?k13 ?a14 ?l14 ?c14 ?k14 ?a15 ?l15 ?c15 ?k15 ?a16 ?l16 ?c16 ?k16 ?a17 ?l17 ?c17 ?k17 ?a18 ?l18 ?c18 ?k18 ?a19 ?l19 ?c19 ?k19 ?a20 ?l20 ?c20 ?k20 ?n0 ?n1 ?n2 ?n3 ?n4 ?n5 ?n6 ?n7 ?n8 ?n9 ?n10 ?n11 ?n12 ?n13 ?n14 ?n15 ?n16 ?lcc ?v11 ?noT
    (case a0 => k_is)
    (case l0 => k_is)
    (case c0 => k_is)
    (case k0 => k_is)
    (case a1 => k_is)
    (case l1 => k_is)
    (case c1 => k_is)
    (case k1 => k_is)
    (case a2 => k_is)
    (case l2 => k_is)
    (case c2 => k_is)
    (case k2 => k_is)
    (case a3 => k_is)
    (case l3 => k_is)
    (case c3 => k_is)
    (case k3 => k_is)
    (case a4 => k_is)
    (case l4 => k_is)
    (case c4 => k_is)
    (case k4 => k_is)
    (case a5 => k_is)
    (case l5 => k_is)
    (case c5 => k_is)
    (case k5 => k_is)
    (case a6 => k_is)
    (case l6 => k_is)
    (case c6 => k_is)
    (case k6 => k_is)
    (case a7 => k_is)
    (case l7 => k_is)
    (case c7 => k_is)
    (case k7 => k_is)
    (case a8 => k_is)
    (case l8 => k_is)
    (case c8 => k_is)
    (case k8 => k_is)
    (case a9 => k_is)
    (case l9 => k_is)
    (case c9 => k_is)
    (case k9 => k_is)
    (case a10 => k_is)
    (case l10 => k_is)
    (case c10 => k_is)
    (case k10 => k_is)
    (case a11 => k_is)
    (case l11 => k_is)
    (case c11 => k_is)
    (case k11 => k_is)
    (case a12 => k_is)
    (case l12 => k_is)
    (case c12 => k_is)
    (case k12 => k_is)
    (case a13 => k_is)
    (case l13 => k_is)
    (case c13 => k_is)
    (case k13 => k_is)
    (case a14 => k_is)
    (case l14 => k_is)
    (case c14 => k_is)
    (case k14 => k_is)
    (case a15 => k_is)
    (case l15 => k_is)
    (case c15 => k_is)
    (case k15 => k_is)
    (case a16 => k_is)
    (case l16 => k_is)
    (case c16 => k_is)
    (case k16 => k_is)
    (case a17 => k_is)
    (case l17 => k_is)
    (case c17 => k_is)
    (case k17 => k_is)
    (case a18 => k_is)
    (case l18 => k_is)
    (case c18 => k_is)
    (case k18 => k_is)
    (case a19 => k_is)
    (case l19 => k_is)
    (case c19 => k_is)
    (case k19 => k_is)
    (case a20 => k_is)
    (case l20 => k_is)
    (case c20 => k_is)
    (case k20 => k_is)
    (case n0 => k_is)
    (case n1 => k_is)
    (case n2 => k_is)
    (case n3 => k_is)
    (case n4 => k_is)
    (case n5 => k_is)
    (case n6 => k_is)
    (case n7 => k_is)
    (case n8 => k_is)
    (case n9 => k_is)
    (case n10 => k_is)
    (case n11 => k_is)
    (case n12 => k_is)
    (case n13 => k_is)
    (case n14 => k_is)
    (case n15 => k_is)
    (case n16 => k_is)
    (case lcc => k_is)
    (case v11 => rfl)
    (case noT => first | k_is | rfl)
  case S =>
    intro K H xs a cc Pt hti hO hnP hwi hask hx
    cases hx with
    | cons h0 hr =>
      cases hr with
      | cons h1 h2 =>
        cases h2
        cases h0
        cases h1 with
        | lst hs ha =>
          have e := L2.ints_dw a.2.1 _ ha
          subst e
          have q : (Codec.inInt 0 18446744073709551615 a.1 && ((Codec.inLen 0 64 a.2.1 && a.2.1.all (Codec.inInt 0 18446744073709551615)) && true)) = true := hwi
          rw [Bool.and_eq_true, Bool.and_eq_true, Bool.and_eq_true] at q
          have hn : ∀ n ∈ a.2.1, 0 ≤ n := fun n hn => (Codec.inInt_iff.mp (List.all_eq_true.mp q.2.1.2 n hn)).1
          refine ⟨H, [.int a.1, .list (a.2.1.map PySem.PyData.int)], _, H, cc, Pt, hti, rfl, hnP, fun _ _ h => h, .cons (.int _) (.cons (.lst hs (Dn.dpAll_ints _)) .nil), rfl, Cm.RSlowest.mk a.1 a.2.1 (Codec.inNat_iff.mp q.2.1.1).2 hn (Codec.inInt_iff.mp q.1).1, fun v G' H' e1 r1 => ?_⟩
          cases r1 with
          | lst hs' ha' =>
            rw [Dn.ints_of _ ha'] at hs'
            exact .lst (e1.sub.seq hs') (L2.dw_ints _)
#print axioms PySem.Challenge.cw_screenbeats_s05_slowest_holds


